import PyProof.Rows.All
import Wide.All
import OpenK.AllK
import Wide.FinOn
import Lean
import PyProof.EqAt
import PyProof.EqKinds
import PyProof.TupleCall
import PyProof.ExcAttrAll.ValueError
import PySem.Challenge.RW_beststretch_k08_refused
set_option Elab.async false
set_option linter.all false
set_option maxRecDepth 100000
namespace L2
open PySem PySem.Spec PyProof.Rows

noncomputable abbrev Key := Sum Int Str
noncomputable def keyIs : Key → Value → Bool
  | .inl k, v => Value.isInt k v
  | .inr x, v => Value.isStrOf x v
noncomputable def keyH (w : World) : Key → Int
  | .inl k => hashInt k
  | .inr x => hashStr w x
theorem keyIs_shape : ∀ {k : Key} {v : Value}, keyIs k v = true → (∃ i t, k = Sum.inl i ∧ v = Value.int i t) ∨ (∃ x t, k = Sum.inr x ∧ v = Value.str x t)
  | .inl i, v, h => by
    obtain ⟨t, e⟩ := Value.isInt_shape (k := i) (v := v) h
    exact .inl ⟨i, t, rfl, e⟩
  | .inr x, v, h => by
    obtain ⟨t, e⟩ := Value.isStrOf_shape (x := x) (v := v) h
    exact .inr ⟨x, t, rfl, e⟩
theorem keyIs_int (i : Int) (t : Tok) : keyIs (.inl i) (.int i t) = true := by simp [keyIs, Value.isInt]
theorem keyIs_str (x : Str) (t : Tok) : keyIs (.inr x) (.str x t) = true := by simp [keyIs, Value.isStrOf]
theorem key_ll (a b : Int) : decide ((Sum.inl a : Key) = Sum.inl b) = (a == b) := by
  by_cases e : a = b
  · subst e; simp
  · have h : ¬ (Sum.inl a : Key) = Sum.inl b := fun q => e (Sum.inl.inj q)
    rw [decide_eq_false h]
    exact (beq_eq_false_iff_ne.mpr e).symm
theorem key_rr (a b : Str) : decide ((Sum.inr a : Key) = Sum.inr b) = decide (a = b) := by
  by_cases e : a = b
  · subst e; simp
  · have h : ¬ (Sum.inr a : Key) = Sum.inr b := fun q => e (Sum.inr.inj q)
    rw [decide_eq_false h, decide_eq_false e]
theorem key_lr (a : Int) (b : Str) : decide ((Sum.inl a : Key) = Sum.inr b) = false := decide_eq_false (fun q => nomatch q)
theorem key_rl (a : Str) (b : Int) : decide ((Sum.inr a : Key) = Sum.inl b) = false := decide_eq_false (fun q => nomatch q)

noncomputable def mixKind (prog : Program) (w : World) : PySem.KeyKind prog w Key where
  is := keyIs
  hash := keyH w
  inj := fun v a b ha hb => by
    rcases keyIs_shape ha with ⟨i, t, rfl, rfl⟩ | ⟨x, t, rfl, rfl⟩
    · rcases keyIs_shape hb with ⟨j, u, rfl, e⟩ | ⟨y, u, rfl, e⟩
      · injection e with e1 _; rw [e1]
      · exact nomatch e
    · rcases keyIs_shape hb with ⟨j, u, rfl, e⟩ | ⟨y, u, rfl, e⟩
      · exact nomatch e
      · injection e with e1 _; rw [e1]
  byValue := fun k v h => by
    rcases keyIs_shape h with ⟨i, t, rfl, rfl⟩ | ⟨x, t, rfl, rfl⟩ <;> rfl
  pyHash := fun hv h => by
    rcases keyIs_shape hv with ⟨i, t, rfl, rfl⟩ | ⟨x, t, rfl, rfl⟩
    · exact wpAny_pyHash_int h
    · exact wpAny_pyHash_str h
  eqBool := fun hu hv h => by
    rcases keyIs_shape hu with ⟨i, t, rfl, rfl⟩ | ⟨x, t, rfl, rfl⟩
    · rcases keyIs_shape hv with ⟨j, u, rfl, rfl⟩ | ⟨y, u, rfl, rfl⟩
      · rw [key_ll] at h; exact wpAny_eqBool_int h
      · rw [key_lr] at h; exact SeqAt.EqAt.int_str i t y u _ _ _ _ h
    · rcases keyIs_shape hv with ⟨j, u, rfl, rfl⟩ | ⟨y, u, rfl, rfl⟩
      · rw [key_rl] at h; exact SeqAt.EqAt.str_int x t j u _ _ _ _ h
      · rw [key_rr] at h; exact wpAny_eqBool_str h
  «strs» := fun k x t v h => by
    rcases keyIs_shape h with ⟨i, u, rfl, e⟩ | ⟨y, u, rfl, e⟩
    · exact nomatch e
    · injection e with e1 _
      subst e1
      cases v <;> rfl

theorem mixKind_int (prog : Program) (w : World) (i : Int) (t : Tok) : (mixKind prog w).is (.inl i) (.int i t) = true := keyIs_int i t
theorem mixKind_str (prog : Program) (w : World) (x : Str) (t : Tok) : (mixKind prog w).is (.inr x) (.str x t) = true := keyIs_str x t
end L2

namespace L2
open PySem PySem.Spec PyProof.Rows

inductive V where
  | non | bl (b : Bool) | int (i : Int) | str (x : Str) | byt (b : Array UInt8) | flt (b : UInt64) | ref (a : Addr) | ty (n : String)
  deriving DecidableEq

noncomputable def RelV : V → Value → Prop
  | .non, u => u = Value.none
  | .bl b, u => u = Value.bool b
  | .int i, u => ∃ t, u = Value.int i t
  | .str x, u => ∃ t, u = Value.str x t
  | .byt b, u => ∃ t, u = Value.bytes b t
  | .flt b, u => ∃ t, u = Value.float b t
  | .ref a, u => u = Value.ref a
  | .ty n, u => u = Value.type n

noncomputable abbrev Vals : List V → List Value → Prop := Paired RelV
theorem Vals.length {xs : List V} {us : List Value} (r : Vals xs us) : xs.length = us.length := Paired.length r
theorem Vals.get : ∀ {xs : List V} {us : List Value} {i : Nat} {x : V}, Vals xs us → xs[i]? = some x → ∃ u, us[i]? = some u ∧ RelV x u
  | _, _, _, _, .nil, e => by simp at e
  | _, _, 0, _, .cons r _, e => by simp at e; subst e; exact ⟨_, rfl, r⟩
  | _, _, i + 1, x, .cons _ t, e => by
    obtain ⟨u, h1, h2⟩ := Vals.get (i := i) (x := x) t (by simpa using e)
    exact ⟨u, by simpa using h1, h2⟩
theorem Vals.append : ∀ {xs ys : List V} {us ws : List Value}, Vals xs us → Vals ys ws → Vals (xs ++ ys) (us ++ ws)
  | _, _, _, _, .nil, s => s
  | _, _, _, _, .cons r t, s => .cons r (Vals.append t s)
theorem Vals.take : ∀ {xs : List V} {us : List Value} (n : Nat), Vals xs us → Vals (xs.take n) (us.take n)
  | _, _, 0, _ => .nil
  | _, _, _ + 1, .nil => .nil
  | _, _, n + 1, .cons r t => .cons r (Vals.take n t)
theorem Vals.drop : ∀ {xs : List V} {us : List Value} (n : Nat), Vals xs us → Vals (xs.drop n) (us.drop n)
  | _, _, 0, r => r
  | _, _, _ + 1, .nil => .nil
  | _, _, n + 1, .cons _ t => Vals.drop n t
noncomputable def RelO : Option V → Option Value → Prop
  | some v, some u => RelV v u
  | none, none => True
  | _, _ => False
noncomputable def KV {κ : Type} : List (κ × V) → List (κ × Value) → Prop := Paired fun (p : κ × V) (q : κ × Value) => p.1 = q.1 ∧ RelV p.2 q.2

noncomputable def kV : Key → V
  | .inl i => .int i
  | .inr x => .str x

inductive HO where
  | lst (xs : List V)
  | tup (xs : List V)
  | dK (kvs : List (Key × V)) | dT (kvs : List (List Key × V))
  | set (S : Int → Bool) (n : Nat)
  | ins (C dx : Addr) (fs : List (Str × V))
  | own (x : Addr)
  | xd (fs : List (Str × V))
  | met (f x : Addr)
  | rng (lo hi : Int)
  | frz (o : Obj) (u : HO)
  | tbl (ps : Array Value)
  | ext (φ : Heap → Prop)

noncomputable abbrev Hp := Addr → Option HO
noncomputable def upd (H : Hp) (a : Addr) (o : HO) : Hp := fun b => if b = a then some o else H b
theorem upd_same {H : Hp} {a : Addr} {o : HO} : upd H a o a = some o := by unfold upd; rw [if_pos rfl]
theorem upd_ne {H : Hp} {a b : Addr} {o : HO} (h : b ≠ a) : upd H a o b = H b := by unfold upd; rw [if_neg h]
theorem ne_of {H : Hp} {a b : Addr} {o u : HO} (h : H a = some o) (h' : H b = some u) (d : o ≠ u) : a ≠ b := by
  intro e; subst e; rw [h] at h'; exact d (Option.some.inj h')
theorem ne_of_none {H : Hp} {a b : Addr} {o : HO} (h : H a = some o) (h' : H b = none) : a ≠ b := by
  intro e; subst e; rw [h] at h'; cases h'

section
variable (P : Program) (w : World)
noncomputable def ObjOk (H : Hp) (h : Heap) (a : Addr) : HO → Prop
  | .lst xs => xs.length ≤ sizeLine ∧ ∃ (its : List Value) (n : Nat), Vals xs its ∧ h.get? a = some { cls := .type "list", data := .seq its.toArray n }
  | .tup xs => xs.length ≤ sizeLine ∧ ∃ its : List Value, Vals xs its ∧ IsTup h a its.toArray
  | .dK kvs => kvs.length ≤ sizeLine ∧ (a == sysModules) = false ∧ ∃ vs, KV kvs vs ∧ h.DictOf (mixKind P w) a vs
  | .dT kvs => kvs.length ≤ sizeLine ∧ (a == sysModules) = false ∧ ∃ xs : List (List Key × Addr × Value),
      Paired (fun (p : List Key × V) (q : List Key × Addr × Value) => p.1 = q.1 ∧ H q.2.1 = some (.tup (p.1.map kV)) ∧ RelV p.2 q.2.2) kvs xs ∧
      ∃ o es ep, h.get? a = some o ∧ o.ExactDict ∧ o.data = .dict es ep ∧ es.toList = xs.map (entryOfKey (tupleKind (mixKind P w))) ∧ (xs.map (·.1)).Nodup
  | .set S n => h.SetOf (intKind P w) a S n
  | .ins C dx fs => H dx = some (.own a) ∧ fs.length ≤ 1000 ∧ dx ≠ a ∧ h.get? a = some (PySem.W.instObj C dx) ∧
      ∃ mA, h.Ns1 dx mA ∧ (∀ f, RelO (fs.lookup f) (mA f)) ∧ PySem.Within mA (fs.map (·.1))
  | .own _ => ∃ o, h.get? a = some o
  | .xd fs => ∃ mA, h.Ns1 a mA ∧ ∀ f, RelO (fs.lookup f) (mA f)
  | .rng lo hi => ∃ t u v, h.get? a = some { cls := .type "range", data := .fields #[.int lo t, .int hi u, .int 1 v] }
  | .frz o u => h.get? a = some o ∧ ObjOk H h a u
  | .tbl ps => h.get? a = some { cls := .none, data := .fields ps }
  | .met f x => h.get? a = some (PySem.W.methodObj (.ref f) (.ref x))
  | .ext φ => φ h ∧ (∃ o, h.get? a = some o) ∧ ∀ h1 h2 : Heap, φ h1 → (∀ o, h1.get? a = some o → h2.get? a = some o) → φ h2
noncomputable def HOk (H : Hp) (h : Heap) : Prop := ∀ a o, H a = some o → ObjOk P w H h a o
end

section
variable {P : Program} {w : World} {H H' : Hp} {h h' : Heap} {a : Addr} {o : HO}
theorem ObjOk.lt (x : ObjOk P w H h a o) : a < h.objs.size := by
  cases o with
  | lst xs => obtain ⟨_, _, _, _, e⟩ := x; exact Heap.lt_size e
  | tup xs => obtain ⟨_, _, _, p⟩ := x; exact p.lt
  | dK kvs => obtain ⟨_, _, _, _, o, _, _, e, _⟩ := x; exact Heap.lt_size e
  | dT kvs => obtain ⟨_, _, _, _, o, _, _, e, _⟩ := x; exact Heap.lt_size e
  | set S n => obtain ⟨o, _, _, _, e, _⟩ := x; exact Heap.lt_size e
  | ins C dx fs => obtain ⟨_, _, _, e, _⟩ := x; exact Heap.lt_size e
  | own y => obtain ⟨_, e⟩ := x; exact Heap.lt_size e
  | xd fs => obtain ⟨_, ⟨_, _, _, e, _⟩, _⟩ := x; exact Heap.lt_size e
  | rng lo hi => obtain ⟨_, _, _, e⟩ := x; exact Heap.lt_size e
  | frz ob u => obtain ⟨e, _⟩ := x; exact Heap.lt_size e
  | tbl ps => exact Heap.lt_size (show h.get? a = some _ from x)
  | met f y => exact Heap.lt_size (show h.get? a = some _ from x)
  | ext φ => obtain ⟨_, ⟨_, e⟩, _⟩ := x; exact Heap.lt_size e
theorem Paired.mapP {α β : Type} {F G : α → β → Prop} : ∀ {l₁ : List α} {l₂ : List β}, Paired F l₁ l₂ → (∀ a b, F a b → G a b) → Paired G l₁ l₂
  | _, _, .nil, _ => .nil
  | _, _, .cons r t, f => .cons (f _ _ r) (Paired.mapP t f)
theorem ObjOk.stay (x : ObjOk P w H h a o) (k : ∀ b u, (b = a ∨ H b = some (.own a)) → h.get? b = some u → h'.get? b = some u)
    (ho : ∀ b, H b = some (.own a) → H' b = some (.own a)) (ht : ∀ b xs, H b = some (.tup xs) → H' b = some (.tup xs)) : ObjOk P w H' h' a o := by
  induction o with
  | lst xs => obtain ⟨z, its, n, r, e⟩ := x; exact ⟨z, its, n, r, k _ _ (.inl rfl) e⟩
  | tup xs => obtain ⟨z, its, r, ob, e, c⟩ := x; exact ⟨z, its, r, ob, k _ _ (.inl rfl) e, c⟩
  | dK kvs => obtain ⟨z, y, vs, r, ob, es, ep, e, c⟩ := x; exact ⟨z, y, vs, r, ob, es, ep, k _ _ (.inl rfl) e, c⟩
  | dT kvs =>
    obtain ⟨z, y, xs, r, ob, es, ep, e, c⟩ := x
    exact ⟨z, y, xs, Paired.mapP r fun p q z => ⟨z.1, ht _ _ z.2.1, z.2.2⟩, ob, es, ep, k _ _ (.inl rfl) e, c⟩
  | set S n => obtain ⟨ob, es, ep, t, e, c⟩ := x; exact ⟨ob, es, ep, t, k _ _ (.inl rfl) e, c⟩
  | ins C dx fs =>
    obtain ⟨d, z, ne, e, mA, ⟨od, es, ep, e2, c⟩, r⟩ := x
    exact ⟨ho _ d, z, ne, k _ _ (.inl rfl) e, mA, ⟨od, es, ep, k _ _ (.inr d) e2, c⟩, r⟩
  | own y => obtain ⟨ob, e⟩ := x; exact ⟨ob, k _ _ (.inl rfl) e⟩
  | xd fs => obtain ⟨mA, ⟨od, es, ep, e, c⟩, r⟩ := x; exact ⟨mA, ⟨od, es, ep, k _ _ (.inl rfl) e, c⟩, r⟩
  | rng lo hi => obtain ⟨t, u, v, e⟩ := x; exact ⟨t, u, v, k _ _ (.inl rfl) e⟩
  | frz ob u ih => obtain ⟨e, q⟩ := x; exact ⟨k _ _ (.inl rfl) e, ih q⟩
  | tbl ps =>
    have e : h.get? a = some { cls := .none, data := .fields ps } := x
    show h'.get? a = some { cls := .none, data := .fields ps }
    exact k a _ (.inl rfl) e
  | met f y =>
    have e : h.get? a = some (PySem.W.methodObj (.ref f) (.ref y)) := x
    show h'.get? a = some (PySem.W.methodObj (.ref f) (.ref y))
    exact k a _ (.inl rfl) e
  | ext φ => obtain ⟨p, ⟨o, e⟩, st⟩ := x; exact ⟨st _ _ p fun o q => k _ _ (.inl rfl) q, ⟨o, k _ _ (.inl rfl) e⟩, st⟩
theorem HOk.lt (x : HOk P w H h) (e : H a = some o) : a < h.objs.size := (x a o e).lt
theorem HOk.fresh (x : HOk P w H h) (e : h.objs.size ≤ a) : H a = none := by
  cases q : H a with
  | none => rfl
  | some u => exact absurd (Nat.lt_of_lt_of_le (x.lt q) e) (Nat.lt_irrefl _)
theorem HOk.kept (x : HOk P w H h) (k : ∀ b u, h.get? b = some u → h'.get? b = some u) : HOk P w H h' := fun a o e =>
  (x a o e).stay (fun b u _ q => k b u q) (fun _ q => q) fun _ _ q => q
theorem HOk.laid (x : HOk P w H h) (k : ∀ b u, h.get? b = some u → h'.get? b = some u) (hp : h.objs.size ≤ a) (new : ObjOk P w (upd H a o) h' a o) : HOk P w (upd H a o) h' := fun b u e => by
  have hn := x.fresh hp
  by_cases hb : b = a
  · subst hb; rw [upd_same] at e; cases e; exact new
  · rw [upd_ne hb] at e
    exact (x b u e).stay (fun c v _ q => k c v q) (fun c q => by rw [upd_ne (ne_of_none q hn)]; exact q) fun c xs q => by rw [upd_ne (ne_of_none q hn)]; exact q
end

noncomputable def Rd (H : Hp) (a : Addr) (u : HO) : Prop := H a = some u ∨ ∃ o, H a = some (.frz o u)
theorem Rd.ok {P : Program} {w : World} {H : Hp} {h : Heap} {a : Addr} {u : HO} (r : Rd H a u) (x : HOk P w H h) : ObjOk P w H h a u := by
  rcases r with r | ⟨o, r⟩
  · exact x a u r
  · obtain ⟨_, q⟩ := x a _ r
    exact q
noncomputable def Mut : Option HO → Prop
  | some (.lst _) => True
  | some (.dK _) => True
  | some (.dT _) => True
  | some (.set _ _) => True
  | some (.ins _ _ _) => True
  | some (.ext _) => True
  | _ => False
section
variable {P : Program} {w : World} {H : Hp} {h h' : Heap} {x e : Addr} {o' : HO}
theorem HOk.write (ok : HOk P w H h) (mu : Mut (H x)) (he : e = x ∨ H e = some (.own x)) (k : ∀ b u, b ≠ e → h.get? b = some u → h'.get? b = some u) (heo : ∃ u, h'.get? e = some u)
    (new : ObjOk P w (upd H x o') h' x o') : HOk P w (upd H x o') h' := fun b u q => by
  have nown : ∀ c y, H c = some (.own y) → c ≠ x := fun c y r z => by subst z; rw [r] at mu; exact mu
  have ntup : ∀ c xs, H c = some (.tup xs) → c ≠ x := fun c xs r z => by subst z; rw [r] at mu; exact mu
  by_cases hb : b = x
  · subst hb; rw [upd_same] at q; cases q; exact new
  · rw [upd_ne hb] at q
    by_cases hbe : b = e
    · have q' : H b = some (.own x) := by
        rcases he with z | z
        · exact absurd (hbe.trans z) hb
        · rw [hbe]; exact z
      rw [q] at q'; cases q'
      obtain ⟨v, hv⟩ := heo
      exact ⟨v, by rw [hbe]; exact hv⟩
    · refine (ok b u q).stay (fun c v hc r => k c v ?_ r) (fun c r => by rw [upd_ne (nown c b r)]; exact r) fun c xs r => by rw [upd_ne (ntup c xs r)]; exact r
      rcases hc with rfl | hc
      · exact hbe
      · rintro rfl
        rcases he with z | z
        · exact nown c b hc z
        · rw [hc] at z; cases z; exact hb rfl
end

structure Un (fs ex : List Addr) (H H' : Hp) (h h' : Heap) : Prop where
  keep : ∀ b o, h.get? b = some o → H b = none → b ∉ fs → b ∉ ex → h'.get? b = some o
  slot : ∀ b o, h.get? b = some o → H b = none → b ∈ fs → b ∉ ex → ∃ sl, h'.get? b = some { o with slots := sl }
  free : ∀ b o, h.get? b = some o → H b = none → b ∉ ex → H' b = none
  there : ∀ b o, h.get? b = some o → b ∉ ex → ∃ o', h'.get? b = some o'
  tups : ∀ b xs, H b = some (.tup xs) → H' b = some (.tup xs)
  frzs : ∀ b o u, H b = some (.frz o u) → H' b = some (.frz o u)
  tbls : ∀ b ps, H b = some (.tbl ps) → ∃ more, H' b = some (.tbl (ps ++ more))
section
variable {fs fs' ex ex' : List Addr} {H H1 H2 : Hp} {h h1 h2 h' : Heap} {a x e : Addr} {o : HO}
theorem Un.any (u : Un fs ex H H1 h h1) {b : Addr} {ob : Obj} (q : h.get? b = some ob) (n : H b = none) (hx : b ∉ ex) : ∃ sl, h1.get? b = some { ob with slots := sl } := by
  by_cases hb : b ∈ fs
  · exact u.slot b ob q n hb hx
  · exact ⟨ob.slots, u.keep b ob q n hb hx⟩
theorem Un.kept (k : ∀ b u, h.get? b = some u → h'.get? b = some u) : Un fs ex H H h h' :=
  ⟨fun b ob q _ _ _ => k b ob q, fun b ob q _ _ _ => ⟨ob.slots, k b ob q⟩, fun _ _ _ n _ => n, fun b ob q _ => ⟨ob, k b ob q⟩, fun _ _ q => q, fun _ _ _ q => q, fun _ ps q => ⟨#[], by rw [q]; simp⟩⟩
theorem Un.refl : Un fs ex H H h h := Un.kept fun _ _ q => q
theorem Un.laid (k : ∀ b u, h.get? b = some u → h'.get? b = some u) (hp : h.objs.size ≤ a) (hn : H a = none) : Un fs ex H (upd H a o) h h' where
  keep := fun b u q _ _ _ => k b u q
  slot := fun b u q _ _ _ => ⟨u.slots, k b u q⟩
  free := fun b u q n _ => by rw [upd_ne (Nat.ne_of_lt (Nat.lt_of_lt_of_le (Heap.lt_size q) hp))]; exact n
  there := fun b u q _ => ⟨u, k b u q⟩
  tups := fun b xs q => by rw [upd_ne (ne_of_none q hn)]; exact q
  frzs := fun b u xs q => by rw [upd_ne (ne_of_none q hn)]; exact q
  tbls := fun b ps q => ⟨#[], by rw [upd_ne (ne_of_none q hn), q]; simp⟩
theorem Un.write (mu : Mut (H x)) (he : e = x ∨ H e = some (.own x)) (k : ∀ b u, b ≠ e → h.get? b = some u → h'.get? b = some u) (heo : ∃ u, h'.get? e = some u) : Un fs ex H (upd H x o) h h' := by
  have hx : ∀ b, H b = none → b ≠ x := fun b n z => by subst z; rw [n] at mu; exact mu
  have hb : ∀ b, H b = none → b ≠ e := fun b n z => by
    subst z
    rcases he with r | r
    · exact hx b n r
    · rw [n] at r; cases r
  have hm : ∀ b u, H b = some u → ¬ Mut (some u) → b ≠ x := fun b u q nm z => by subst z; rw [q] at mu; exact nm mu
  refine ⟨fun b u q n _ _ => k b u (hb b n) q, fun b u q n _ _ => ⟨u.slots, k b u (hb b n) q⟩, fun b u q n _ => by rw [upd_ne (hx b n)]; exact n, fun b u q _ => ?_,
    fun b xs q => by rw [upd_ne (hm b _ q fun z => z)]; exact q, fun b u xs q => by rw [upd_ne (hm b _ q fun z => z)]; exact q, fun b ps q => ⟨#[], by rw [upd_ne (hm b _ q fun z => z), q]; simp⟩⟩
  by_cases hbe : b = e
  · subst hbe; exact heo
  · exact ⟨u, k b u hbe q⟩
end

noncomputable def trk (h : Heap) (H : Hp) : List Addr := (List.range h.objs.size).filter fun a => (H a).isSome
noncomputable def hidT (h : Heap) (H : Hp) : Heap := PySem.W.hideAll h (trk h H)
theorem hidT_size (h : Heap) (H : Hp) : (hidT h H).objs.size = h.objs.size := PySem.W.hideAll_size _ _
theorem hidT_get {h : Heap} {H : Hp} {b : Addr} {o : Obj} (e : h.get? b = some o) (n : H b = none) : (hidT h H).get? b = some o :=
  PySem.W.hideAll_get _ e fun hm => by
    have q : (H b).isSome = true := (List.mem_filter.mp hm).2
    rw [n] at q; simp at q
theorem of_hidT {h : Heap} {H : Hp} {b : Addr} {o : Obj} (e : (hidT h H).get? b = some o) : h.get? b = some o ∧ H b = none := by
  have e' : h.get? b = some o := PySem.W.of_hideAll (trk h H) e
  refine ⟨e', ?_⟩
  cases q : H b with
  | none => rfl
  | some x =>
    have hm : b ∈ trk h H := List.mem_filter.mpr ⟨List.mem_range.mpr (Heap.lt_size e'), by simp [q]⟩
    have z : (hidT h H).get? b = none := PySem.W.hideAll_none (trk h H) hm
    rw [z] at e; cases e

end L2

namespace L2
open PySem PySem.Spec PyProof.Rows

structure Mod (K : PySem.W.Frag) (mg : Str → Option Value) (base : Heap) : Prop where
  kin : K.In base
  glob : base.Ns mainGlobals mg
  blt : ∃ mb, base.Ns builtinsNs mb ∧ ∀ x : Str, x ≠ "__name__" → mb x = bootBuiltins x
  nolimit : base.NoLimit

structure Cx where
  prog : Program
  w : World
  K : PySem.W.Frag
  mg : Str → Option Value
  base : Heap
  A : Around
  N : List Str
  s₀ : Shared
  H₀ : Hp
  env : Env
  outer : List Env
  stack : List Env
  ex : List Addr
  fn : Str → Bool
  calm : Bool
  pn : List (Addr × Obj)
  xe : Value → Shared → Prop
noncomputable def frs (l : List Env) : List Addr := l.filterMap (·.frame)
noncomputable abbrev Cx.fs (X : Cx) : List Addr := frs X.outer

noncomputable def Vis (sc : Scope) (x : Str) : Prop := sc.names.lookup x = some .local ∨ sc.names.lookup x = some .cell ∨ sc.names.lookup x = some .free
noncomputable def Loc (sc : Scope) (x : Str) : Prop := sc.names.lookup x = some .local ∨ sc.names.lookup x = some .cell
noncomputable def Look (env : Env) (h : Heap) (m : Str → Option Value) (x : Str) (u : Value) : Prop :=
  (env.kindOf x = some .local ∧ m x = some u) ∨ ((env.kindOf x = some .cell ∨ env.kindOf x = some .free) ∧ ∃ c, env.cells.lookup x = some c ∧ h.IsCell c (some u))

structure Cx.Ok (X : Cx) : Prop where
  mod : Mod X.K X.mg X.base
  kind : X.env.scope.kind = .function
  glob : X.env.globals = mainGlobals
  blt : X.env.builtins = builtinsNs
  above : X.s₀.heap.objs.size ≤ X.env.locals
  inj : ∀ x y c, X.env.cells.lookup x = some c → X.env.cells.lookup y = some c → x = y
  has : ∀ x, (X.env.kindOf x = some .cell ∨ X.env.kindOf x = some .free) → ∃ c, X.env.cells.lookup x = some c
  cab : ∀ x c, X.fn x = true → X.env.cells.lookup x = some c → X.s₀.heap.objs.size ≤ c
  hd : X.calm = true → X.A.handled = none
  frames : X.A.frames = some X.stack
  stk : X.stack = X.outer ∨ (X.stack = X.env :: X.outer ∧ X.env.frame = some X.env.locals)
  exf : ∀ b ∈ X.ex, b ≠ X.env.locals ∧ ∀ x c, X.env.cells.lookup x = some c → c ≠ b
  bs : ∀ b o, X.base.get? b = some o → X.s₀.heap.get? b = some o ∧ X.H₀ b = none
  bsz : X.base.objs.size ≤ X.s₀.heap.objs.size
  noex : ∀ b o, X.base.get? b = some o → b ∉ X.ex
  exfs : ∀ b ∈ X.ex, b ∉ X.fs
  funs : X.s₀.heap.FunFrames X.base X.outer
  frf : ∀ b ∈ X.fs, X.H₀ b = none

structure Inv (X : Cx) (pins : List (Addr × Obj)) (σ : List (Option V)) (H : Hp) (s : Shared) : Prop where
  ok : X.Ok
  os : s.os = X.s₀.os
  bare : AllBare s.gens
  base : Un X.fs X.ex X.H₀ H X.s₀.heap s.heap
  loc : ∃ m, s.heap.Ns X.env.locals m ∧ ∀ (i : Nat) (x : Str) (v : V), X.N[i]? = some x → σ[i]? = some (some v) → Vis X.env.scope x → ∃ u, RelV v u ∧ Look X.env s.heap m x u
  cell : ∀ x c, X.env.cells.lookup x = some c → ∃ v, s.heap.IsCell c v
  free : H X.env.locals = none
  freeC : ∀ x c, X.env.cells.lookup x = some c → H c = none
  pin : ∀ p ∈ X.pn ++ pins, s.heap.get? p.1 = some p.2 ∧ H p.1 = none ∧ p.1 ≠ X.env.locals ∧ p.1 ∉ X.fs ∧ ∀ v, p.2.data ≠ .cell v
  hok : HOk X.prog X.w H s.heap
  len : σ.length = X.N.length

section
variable {X : Cx} {pins : List (Addr × Obj)} {σ : List (Option V)} {H H' : Hp} {s : Shared} {h' : Heap}

theorem Cx.Ok.nofr (ok : X.Ok) {b : Addr} {o : Obj} (e : X.base.get? b = some o) : b ∉ X.fs := fun hb => by
  have := (ok.funs.mem hb).1
  rw [e] at this; cases this
theorem Inv.bs (I : Inv X pins σ H s) : ∀ b o, X.base.get? b = some o → s.heap.get? b = some o ∧ H b = none := fun b o e =>
  ⟨I.base.keep b o (I.ok.bs b o e).1 (I.ok.bs b o e).2 (I.ok.nofr e) (I.ok.noex b o e), I.base.free b o (I.ok.bs b o e).1 (I.ok.bs b o e).2 (I.ok.noex b o e)⟩
theorem Inv.bk (I : Inv X pins σ H s) : ∀ b o, X.base.get? b = some o → s.heap.get? b = some o := fun b o e => (I.bs b o e).1
theorem Inv.mod (I : Inv X pins σ H s) : Mod X.K X.mg X.base := I.ok.mod
theorem Inv.kIn (I : Inv X pins σ H s) : X.K.In s.heap := I.ok.mod.kin.keeps I.bk
theorem Inv.lt (I : Inv X pins σ H s) : X.env.locals < s.heap.objs.size := let ⟨_, hn, _⟩ := I.loc; hn.lt
theorem Inv.sz (I : Inv X pins σ H s) : X.s₀.heap.objs.size ≤ s.heap.objs.size := Nat.le_trans I.ok.above (Nat.le_of_lt I.lt)
theorem Inv.nofs (I : Inv X pins σ H s) {a : Addr} (h : s.heap.objs.size ≤ a) : a ∉ X.fs := fun hb => by
  obtain ⟨_, o, ho, _⟩ := I.ok.funs.mem hb
  exact absurd (Nat.lt_of_lt_of_le (Heap.lt_size ho) (Nat.le_trans I.sz h)) (Nat.lt_irrefl _)
theorem Inv.cne (I : Inv X pins σ H s) : ∀ x c, X.env.cells.lookup x = some c → c ≠ X.env.locals := fun x c e z => by
  obtain ⟨v, o, ho, hd⟩ := I.cell x c e
  obtain ⟨m, ⟨o', es, ep, ho', hd', _⟩, _⟩ := I.loc
  rw [z, ho'] at ho; cases ho; rw [hd'] at hd; cases hd
theorem Inv.funs (I : Inv X pins σ H s) : s.heap.FunFrames X.base X.outer := by
  have all : ∀ (l : List Env), (∀ b ∈ frs l, b ∈ X.fs) → X.s₀.heap.FunFrames X.base l → s.heap.FunFrames X.base l := by
    intro l
    induction l with
    | nil => intro _ _; trivial
    | cons env r ih =>
      intro hs hl
      obtain ⟨hk, ⟨L, o, hf, hn, ho, hd⟩, hr⟩ := hl
      have hL : L ∈ X.fs := hs L (by unfold frs; rw [List.filterMap_cons, hf]; exact List.mem_cons_self)
      obtain ⟨sl, e⟩ := I.base.slot L o ho (I.ok.frf L hL) hL fun z => I.ok.exfs L z hL
      exact ⟨hk, ⟨L, _, hf, hn, e, hd⟩, ih (fun b hb => hs b (by unfold frs; rw [List.filterMap_cons, hf]; exact List.mem_cons_of_mem _ hb)) hr⟩
  exact all X.outer (fun _ hb => hb) I.ok.funs

theorem Inv.stack (I : Inv X pins σ H s) : s.heap.FunFrames X.base X.stack := by
  rcases I.ok.stk with e | ⟨e, hf⟩
  · rw [e]; exact I.funs
  · rw [e]
    obtain ⟨m, hn, _⟩ := I.loc
    refine .cons (by rw [I.ok.kind]; decide) hf hn ?_ I.funs
    exact Heap.get?_none_of_le (Nat.le_trans I.ok.bsz I.ok.above)
theorem Inv.stkSub (I : Inv X pins σ H s) : ∀ b ∈ frs X.stack, b ∈ X.env.locals :: X.fs := fun b hb => by
  rcases I.ok.stk with e | ⟨e, hf⟩
  · rw [e] at hb; exact List.mem_cons_of_mem _ hb
  · rw [e] at hb
    unfold frs at hb
    rw [List.filterMap_cons, hf] at hb
    exact hb
theorem Inv.stkFree (I : Inv X pins σ H s) : ∀ b ∈ frs X.stack, H b = none := fun b hb => by
  rcases List.mem_cons.mp (I.stkSub b hb) with e | hb
  · rw [e]; exact I.free
  · obtain ⟨_, o, ho, _⟩ := I.ok.funs.mem hb
    exact I.base.free b o ho (I.ok.frf b hb) fun z => I.ok.exfs b z hb

theorem Inv.step {g' : Array GenState} {t' : Nat} {d' : Drawn} {ch : List Addr} (I : Inv X pins σ H s)
    (hch : ∀ b ∈ ch, (b ∈ X.ex ∨ X.s₀.heap.objs.size ≤ b) ∧ b ≠ X.env.locals ∧ (∀ x c, X.env.cells.lookup x = some c → c ≠ b) ∧ ∀ p ∈ X.pn ++ pins, p.1 ≠ b)
    (keep : ∀ b o, b ≠ X.env.locals → b ∉ X.fs → b ∉ ch → s.heap.get? b = some o → H b = none → h'.get? b = some o)
    (slot : ∀ b o, b ≠ X.env.locals → b ∈ X.fs → b ∉ ch → s.heap.get? b = some o → H b = none → ∃ sl, h'.get? b = some { o with slots := sl }) (free : ∀ b o, b ∉ ch → s.heap.get? b = some o → H b = none → H' b = none)
    (there : ∀ b o, b ∉ ch → s.heap.get? b = some o → ∃ o', h'.get? b = some o')
    (tups : ∀ b xs, H b = some (.tup xs) → H' b = some (.tup xs)) (frzs : ∀ b o u, H b = some (.frz o u) → H' b = some (.frz o u)) (tbls : ∀ b ps, H b = some (.tbl ps) → ∃ more, H' b = some (.tbl (ps ++ more)))
    (ns : ∀ m, s.heap.Ns X.env.locals m → h'.Ns X.env.locals m) (hok : HOk X.prog X.w H' h') (hg : AllBare g') :
    Inv X pins σ H' { s with heap := h', gens := g', drawn := d', toks := t' } := by
  have neL : ∀ b o, X.s₀.heap.get? b = some o → b ≠ X.env.locals := fun b o e => Nat.ne_of_lt (Nat.lt_of_lt_of_le (Heap.lt_size e) I.ok.above)
  have neC : ∀ b o, X.s₀.heap.get? b = some o → b ∉ X.ex → b ∉ ch := fun b o e hx hb => by
    rcases (hch b hb).1 with z | z
    · exact hx z
    · exact absurd (Nat.lt_of_lt_of_le (Heap.lt_size e) z) (Nat.lt_irrefl _)
  have cellK : ∀ x c, X.env.cells.lookup x = some c → ∀ v, s.heap.IsCell c v → h'.IsCell c v := fun x c e v ⟨o, ho, hd⟩ => by
    have nch : c ∉ ch := fun z => (hch c z).2.2.1 x c e rfl
    by_cases hc : c ∈ X.fs
    · obtain ⟨sl, q⟩ := slot c o (I.cne x c e) hc nch ho (I.freeC x c e)
      exact ⟨_, q, hd⟩
    · exact ⟨o, keep c o (I.cne x c e) hc nch ho (I.freeC x c e), hd⟩
  refine ⟨I.ok, I.os, hg, ⟨fun b o e n hb hx => ?_, fun b o e n hb hx => ?_, fun b o e n hx => ?_, fun b o e hx => ?_, fun b xs e => tups b xs (I.base.tups b xs e), fun b o xs e => frzs b o xs (I.base.frzs b o xs e), fun b ps e => ?_⟩, ?_, fun x c e => ?_, ?_, fun x c e => ?_, fun p hp => ?_, hok, I.len⟩
  · exact keep b o (neL b o e) hb (neC b o e hx) (I.base.keep b o e n hb hx) (I.base.free b o e n hx)
  · obtain ⟨sl, e1⟩ := I.base.slot b o e n hb hx
    obtain ⟨sl', e2⟩ := slot b _ (neL b o e) hb (neC b o e hx) e1 (I.base.free b o e n hx)
    exact ⟨sl', e2⟩
  · obtain ⟨o', e1⟩ := I.base.there b o e hx
    exact free b o' (neC b o e hx) e1 (I.base.free b o e n hx)
  · obtain ⟨o', e1⟩ := I.base.there b o e hx
    exact there b o' (neC b o e hx) e1
  · obtain ⟨m1, e1⟩ := I.base.tbls b ps e
    obtain ⟨m2, e2⟩ := tbls b _ e1
    exact ⟨m1 ++ m2, by rw [e2, Array.append_assoc]⟩
  · obtain ⟨m, hn, hl⟩ := I.loc
    refine ⟨m, ns m hn, fun i x v e1 e2 e3 => ?_⟩
    obtain ⟨u, r, l⟩ := hl i x v e1 e2 e3
    refine ⟨u, r, ?_⟩
    rcases l with l | ⟨k, c, e, z⟩
    · exact .inl l
    · exact .inr ⟨k, c, e, cellK x c e _ z⟩
  · obtain ⟨v, z⟩ := I.cell x c e
    exact ⟨v, cellK x c e v z⟩
  · obtain ⟨m, ⟨o, _, _, ho, _⟩, _⟩ := I.loc
    exact free _ o (fun z => (hch _ z).2.1 rfl) ho I.free
  · obtain ⟨v, o, ho, hd⟩ := I.cell x c e
    exact free c o (fun z => (hch c z).2.2.1 x c e rfl) ho (I.freeC x c e)
  · obtain ⟨e, n, ne, nf, d⟩ := I.pin p hp
    have nch : p.1 ∉ ch := fun z => (hch p.1 z).2.2.2 p hp rfl
    exact ⟨keep p.1 p.2 ne nf nch e n, free p.1 p.2 nch e n, ne, nf, d⟩
theorem Inv.un {t' : Nat} (I : Inv X pins σ H s) (u : Un X.fs [] H H' s.heap h') (hok : HOk X.prog X.w H' h') : Inv X pins σ H' { s with heap := h', toks := t' } := by
  obtain ⟨m, ⟨o, es, ep, ho, r⟩, _⟩ := id I.loc
  obtain ⟨sl, hL⟩ := u.any ho I.free (by simp)
  exact I.step (g' := s.gens) (d' := s.drawn) (ch := []) (fun _ z => nomatch z) (fun b o _ hb _ e n => u.keep b o e n hb (by simp)) (fun b o _ hb _ e n => u.slot b o e n hb (by simp)) (fun b o _ e n => u.free b o e n (by simp)) (fun b o _ e => u.there b o e (by simp)) u.tups u.frzs u.tbls (fun m' hm => by
    obtain ⟨o', es', ep', ho', r'⟩ := hm
    rw [ho] at ho'; cases ho'
    exact ⟨_, es', ep', hL, r'⟩) hok I.bare
theorem Inv.call {g' : Array GenState} {t' : Nat} {d' : Drawn} {ch : List Addr} (I : Inv X pins σ H s) (u : Un (frs X.stack) ch H H' s.heap h') (hok : HOk X.prog X.w H' h') (hg : AllBare g')
    (hch : ∀ b ∈ ch, (b ∈ X.ex ∨ X.s₀.heap.objs.size ≤ b) ∧ b ≠ X.env.locals ∧ (∀ x c, X.env.cells.lookup x = some c → c ≠ b) ∧ ∀ p ∈ X.pn ++ pins, p.1 ≠ b) :
    Inv X pins σ H' { s with heap := h', gens := g', drawn := d', toks := t' } := by
  obtain ⟨m, ⟨o, es, ep, ho, r⟩, _⟩ := id I.loc
  obtain ⟨sl, hL⟩ := u.any ho I.free fun z => (hch _ z).2.1 rfl
  exact I.step (ch := ch) hch (fun b o hL hb hc e n => u.keep b o e n (fun z => (List.mem_cons.mp (I.stkSub b z)).elim hL hb) hc) (fun b o _ _ hc e n => u.any e n hc) (fun b o hc e n => u.free b o e n hc) (fun b o hc e => u.there b o e hc) u.tups u.frzs u.tbls (fun m' hm => by
    obtain ⟨o', es', ep', ho', r'⟩ := hm
    rw [ho] at ho'; cases ho'
    exact ⟨_, es', ep', hL, r'⟩) hok hg
theorem Inv.turned {t' : Nat} {it : Addr} (I : Inv X pins σ H s) (k : ∀ b o, b ≠ it → s.heap.get? b = some o → h'.get? b = some o) (hn : H it = none) (hL : it ≠ X.env.locals)
    (h1 : it ∈ X.ex ∨ X.s₀.heap.objs.size ≤ it) (h2 : ∀ x c, X.env.cells.lookup x = some c → c ≠ it) (h3 : ∀ p ∈ X.pn ++ pins, p.1 ≠ it) : Inv X pins σ H { s with heap := h', toks := t' } := by
  have nit : ∀ b u, H b = some u → b ≠ it := fun b u e z => by rw [z, hn] at e; cases e
  refine I.step (g' := s.gens) (d' := s.drawn) (ch := [it]) (fun b hb => ?_) (fun b o _ _ hc e _ => k b o (fun z => hc (by simp [z])) e) (fun b o _ _ hc e _ => ⟨o.slots, k b o (fun z => hc (by simp [z])) e⟩) (fun _ _ _ _ n => n)
    (fun b o hc e => ⟨o, k b o (fun z => hc (by simp [z])) e⟩) (fun _ _ e => e) (fun _ _ _ e => e) (fun b ps e => ⟨#[], by rw [e]; simp⟩) (fun m hm => ?_) (fun b u e => ?_) I.bare
  · have e : b = it := by simpa using hb
    subst e
    exact ⟨h1, hL, h2, h3⟩
  · obtain ⟨o, es, ep, ho, r⟩ := hm
    exact ⟨o, es, ep, k _ o (Ne.symm hL) ho, r⟩
  · refine (I.hok b u e).stay (fun c v hc q => k c v ?_ q) (fun _ q => q) fun _ _ q => q
    rcases hc with z | z
    · rw [z]; exact nit b u e
    · exact nit c _ z
theorem Inv.tok (I : Inv X pins σ H s) (t : Nat) : Inv X pins σ H { s with toks := t } := I.un (h' := s.heap) (t' := t) Un.refl I.hok
theorem Inv.kept {t' : Nat} (I : Inv X pins σ H s) (k : ∀ b u, s.heap.get? b = some u → h'.get? b = some u) : Inv X pins σ H { s with heap := h', toks := t' } := I.un (Un.kept k) (I.hok.kept k)
theorem Inv.laid {a : Addr} {o : HO} {t' : Nat} (I : Inv X pins σ H s) (k : ∀ b u, s.heap.get? b = some u → h'.get? b = some u) (hp : s.heap.objs.size ≤ a) (new : ObjOk X.prog X.w (upd H a o) h' a o) :
    Inv X pins σ (upd H a o) { s with heap := h', toks := t' } := I.un (Un.laid k hp (I.hok.fresh hp)) (I.hok.laid k hp new)
theorem Inv.write {x e : Addr} {o : HO} {t' : Nat} (I : Inv X pins σ H s) (mu : Mut (H x)) (he : e = x ∨ H e = some (.own x)) (k : ∀ b u, b ≠ e → s.heap.get? b = some u → h'.get? b = some u) (heo : ∃ u, h'.get? e = some u)
    (new : ObjOk X.prog X.w (upd H x o) h' x o) : Inv X pins σ (upd H x o) { s with heap := h', toks := t' } := I.un (Un.write mu he k heo) (I.hok.write mu he k heo new)
theorem Inv.pins_of {pins' : List (Addr × Obj)} (I : Inv X pins σ H s) (h : ∀ p ∈ pins', s.heap.get? p.1 = some p.2 ∧ H p.1 = none ∧ p.1 ≠ X.env.locals ∧ p.1 ∉ X.fs ∧ ∀ v, p.2.data ≠ .cell v) : Inv X pins' σ H s :=
  ⟨I.ok, I.os, I.bare, I.base, I.loc, I.cell, I.free, I.freeC, fun p hp => (List.mem_append.mp hp).elim (fun z => I.pin p (List.mem_append_left _ z)) (h p), I.hok, I.len⟩

theorem nodup_ix {N : List Str} (hN : N.Nodup) {i j : Nat} {x : Str} (a : N[i]? = some x) (b : N[j]? = some x) : i = j := by
  obtain ⟨h1, e1⟩ := List.getElem?_eq_some_iff.mp a
  obtain ⟨h2, e2⟩ := List.getElem?_eq_some_iff.mp b
  exact (List.getElem_inj hN).mp (e1.trans e2.symm)

theorem store_ok2 {M : Model} {A : Around} {E : Value → Shared → Prop} {i : Nat} {x : Str} {v : V} {u : Value} {Q : Unit → Shared → Prop} (I : Inv X pins σ H s) (hN : X.N.Nodup) (hi : X.N[i]? = some x) (hx : Loc X.env.scope x) (r : RelV v u)
    (h : ∀ s', Inv X pins (σ.set i (some v)) H s' → (∃ a, Heap.SameBut a s.heap s'.heap ∧ (a = X.env.locals ∨ X.env.cells.lookup x = some a)) → Q () s') (hf : X.fn x = true ∨ X.env.scope.names.lookup x = some .local := by first | exact .inl rfl | exact .inr rfl | assumption) : wpAny M A (storeName X.env x u) Q E s := by
  obtain ⟨m, hn, hl⟩ := id I.loc
  have hcls : (X.env.scope.kind == .class || (X.env.scope.kind == .module && X.env.locals != X.env.globals)) = false := by rw [I.ok.kind]; rfl
  have hiσ : i < σ.length := by rw [I.len]; exact (List.getElem?_eq_some_iff.mp hi).1
  have cne := I.cne
  have tracked : ∀ {a : Addr} {h' : Heap}, (∃ o, s.heap.get? a = some o ∧ H a = none) → Heap.SameBut a s.heap h' → HOk X.prog X.w H h' := fun {a h'} ha hs b ob e => by
    obtain ⟨_, _, hfree⟩ := ha
    refine (I.hok b ob e).stay (fun c w' hc q => (hs.2 c ?_).trans q) (fun _ q => q) fun _ _ q => q
    rintro rfl
    rcases hc with rfl | hc
    · rw [hfree] at e; cases e
    · rw [hfree] at hc; cases hc
  rcases hx with hk | hk
  · refine wpAny_storeName_local hk hn (fun h' hn' hs => ?_) hcls
    obtain ⟨oL, _, _, hoL, _⟩ := id hn
    refine h _ ⟨I.ok, I.os, I.bare, ⟨fun b o e n hb hx => ?_, fun b o e n hb hx => ?_, I.base.free, fun b o e hx => ?_, I.base.tups, I.base.frzs, I.base.tbls⟩, ⟨_, hn', fun j y v' e1 e2 e3 => ?_⟩, fun y c e => ?_, I.free, I.freeC, fun p hp => ?_, tracked ⟨oL, hoL, I.free⟩ hs, by simpa using I.len⟩ ⟨_, hs, .inl rfl⟩
    · exact (hs.2 b (Nat.ne_of_lt (Nat.lt_of_lt_of_le (Heap.lt_size e) I.ok.above))).trans (I.base.keep b o e n hb hx)
    · obtain ⟨sl, e1⟩ := I.base.slot b o e n hb hx
      exact ⟨sl, (hs.2 b (Nat.ne_of_lt (Nat.lt_of_lt_of_le (Heap.lt_size e) I.ok.above))).trans e1⟩
    · obtain ⟨o', e1⟩ := I.base.there b o e hx
      exact ⟨o', (hs.2 b (Nat.ne_of_lt (Nat.lt_of_lt_of_le (Heap.lt_size e) I.ok.above))).trans e1⟩
    · by_cases hj : j = i
      · subst hj
        rw [hi] at e1; cases e1
        rw [List.getElem?_set_self hiσ] at e2
        cases e2
        exact ⟨u, r, .inl ⟨hk, by simp⟩⟩
      · rw [List.getElem?_set_ne (Ne.symm hj)] at e2
        obtain ⟨u', r', q⟩ := hl j y v' e1 e2 e3
        refine ⟨u', r', ?_⟩
        rcases q with ⟨k, e⟩ | ⟨k, c, e, z⟩
        · refine .inl ⟨k, ?_⟩
          have : y ≠ x := fun e => hj (nodup_ix hN e1 (e ▸ hi))
          simp [this, e]
        · exact .inr ⟨k, c, e, z.sameBut hs (cne y c e)⟩
    · obtain ⟨w', z⟩ := I.cell y c e
      exact ⟨w', z.sameBut hs (cne y c e)⟩
    · obtain ⟨e, n, ne, nf, d⟩ := I.pin p hp
      exact ⟨(hs.2 p.1 ne).trans e, n, ne, nf, d⟩
  · have hfn : X.fn x = true := by
      rcases hf with z | z
      · exact z
      · rw [z] at hk; cases hk
    obtain ⟨c, hc⟩ := I.ok.has x (.inl hk)
    obtain ⟨w', z⟩ := I.cell x c hc
    refine wpAny_storeName_cell I.ok.kind hk hc z (fun h' hc' hs => ?_)
    obtain ⟨oc, hoc, hocd⟩ := id z
    refine h { s with heap := h' } ⟨I.ok, I.os, I.bare, ⟨fun b o e n hb hx => ?_, fun b o e n hb hx => ?_, I.base.free, fun b o e hx => ?_, I.base.tups, I.base.frzs, I.base.tbls⟩, ⟨m, hn.sameBut hs (Ne.symm (cne x c hc)), fun j y v' e1 e2 e3 => ?_⟩, fun y c' e => ?_, I.free, I.freeC, fun p hp => ?_, tracked ⟨oc, hoc, I.freeC x c hc⟩ hs, by simpa using I.len⟩ ⟨c, hs, .inr hc⟩
    · exact (hs.2 b (Nat.ne_of_lt (Nat.lt_of_lt_of_le (Heap.lt_size e) (I.ok.cab x c hfn hc)))).trans (I.base.keep b o e n hb hx)
    · obtain ⟨sl, e1⟩ := I.base.slot b o e n hb hx
      exact ⟨sl, (hs.2 b (Nat.ne_of_lt (Nat.lt_of_lt_of_le (Heap.lt_size e) (I.ok.cab x c hfn hc)))).trans e1⟩
    · obtain ⟨o', e1⟩ := I.base.there b o e hx
      exact ⟨o', (hs.2 b (Nat.ne_of_lt (Nat.lt_of_lt_of_le (Heap.lt_size e) (I.ok.cab x c hfn hc)))).trans e1⟩
    · by_cases hj : j = i
      · subst hj
        rw [hi] at e1; cases e1
        rw [List.getElem?_set_self hiσ] at e2
        cases e2
        exact ⟨u, r, .inr ⟨.inl hk, c, hc, hc'⟩⟩
      · rw [List.getElem?_set_ne (Ne.symm hj)] at e2
        obtain ⟨u', r', q⟩ := hl j y v' e1 e2 e3
        refine ⟨u', r', ?_⟩
        rcases q with q | ⟨k, c', e, z'⟩
        · exact .inl q
        · refine .inr ⟨k, c', e, z'.sameBut hs ?_⟩
          rintro rfl
          exact hj (nodup_ix hN e1 (I.ok.inj _ _ _ e hc ▸ hi))
    · by_cases hcc : c' = c
      · subst hcc; exact ⟨_, hc'⟩
      · obtain ⟨w2, z2⟩ := I.cell y c' e
        exact ⟨w2, z2.sameBut hs hcc⟩
    · obtain ⟨e, n, ne, nf, d⟩ := I.pin p hp
      refine ⟨(hs.2 p.1 ?_).trans e, n, ne, nf, d⟩
      intro q
      rw [q, hoc] at e
      have q' : oc = p.2 := Option.some.inj e
      exact d w' (by rw [← q']; exact hocd)
theorem store_ok {M : Model} {A : Around} {E : Value → Shared → Prop} {i : Nat} {x : Str} {v : V} {u : Value} {Q : Unit → Shared → Prop} (I : Inv X pins σ H s) (hN : X.N.Nodup) (hi : X.N[i]? = some x) (hx : Loc X.env.scope x) (r : RelV v u)
    (h : ∀ s', Inv X pins (σ.set i (some v)) H s' → Q () s') (hf : X.fn x = true ∨ X.env.scope.names.lookup x = some .local := by first | exact .inl rfl | exact .inr rfl | assumption) : wpAny M A (storeName X.env x u) Q E s :=
  store_ok2 I hN hi hx r (fun s' I' _ => h s' I') hf
theorem Inv.call' {s' : Shared} {ch : List Addr} (I : Inv X pins σ H s) (ho : s'.os = s.os) (u : Un (frs X.stack) ch H H' s.heap s'.heap) (hok : HOk X.prog X.w H' s'.heap) (hg : AllBare s'.gens)
    (hch : ∀ b ∈ ch, (b ∈ X.ex ∨ X.s₀.heap.objs.size ≤ b) ∧ b ≠ X.env.locals ∧ (∀ x c, X.env.cells.lookup x = some c → c ≠ b) ∧ ∀ p ∈ X.pn ++ pins, p.1 ≠ b) : Inv X pins σ H' s' := by
  obtain ⟨h', g', d', t', o'⟩ := s'
  have e : o' = s.os := ho
  subst e
  exact I.call (g' := g') (t' := t') (d' := d') u hok hg hch
end

noncomputable abbrev XK := Value → Option Addr → Hp → Prop
noncomputable abbrev St := List (Option V)
noncomputable abbrev VK := V → Hp → Prop
noncomputable abbrev TE := St → Hp → VK → Prop
noncomputable abbrev TT := St → Hp → (Bool → Hp → Prop) → Prop
noncomputable abbrev TA := St → Hp → (List V → Hp → Prop) → Prop
structure Ends where
  nx : St → Hp → Prop
  rt : VK
  bk : St → Hp → Prop := fun _ _ => False
  ct : St → Hp → Prop := fun _ _ => False
noncomputable abbrev TS := Ends → St → Hp → Prop

noncomputable def EP (X : Cx) (pins : List (Addr × Obj)) (σ : St) (Q : VK) (u : Value) (s' : Shared) : Prop := ∃ v H', Inv X pins σ H' s' ∧ RelV v u ∧ Q v H'
noncomputable def TP (X : Cx) (pins : List (Addr × Obj)) (σ : St) (Q : Bool → Hp → Prop) (b : Bool) (s' : Shared) : Prop := ∃ H', Inv X pins σ H' s' ∧ Q b H'
noncomputable def AP (X : Cx) (pins : List (Addr × Obj)) (σ : St) (Q : List V → Hp → Prop) (us : List Value) (s' : Shared) : Prop := ∃ vs H', Inv X pins σ H' s' ∧ Vals vs us ∧ Q vs H'
noncomputable def SP (X : Cx) (pins : List (Addr × Obj)) (D : Ends) (f : Flow) (s' : Shared) : Prop :=
  match f with
  | .next => ∃ σ' H', Inv X pins σ' H' s' ∧ D.nx σ' H'
  | .brk => ∃ σ' H', Inv X pins σ' H' s' ∧ D.bk σ' H'
  | .cont => ∃ σ' H', Inv X pins σ' H' s' ∧ D.ct σ' H'
  | .ret u => ∃ v σ' H', Inv X pins σ' H' s' ∧ RelV v u ∧ D.rt v H'

noncomputable def PE (X : Cx) (e : Expr) (t : TE) : Prop :=
  ∀ (pins : List (Addr × Obj)) (s : Shared) (σ : St) (H : Hp) (Q : VK), Inv X pins σ H s → t σ H Q → wpAny (model X.prog X.w) X.A (eval e X.env) (EP X pins σ Q) X.xe s
noncomputable def PT (X : Cx) (e : Expr) (t : TT) : Prop :=
  ∀ (pins : List (Addr × Obj)) (s : Shared) (σ : St) (H : Hp) (Q : Bool → Hp → Prop), Inv X pins σ H s → t σ H Q → wpAny (model X.prog X.w) X.A (isTrue e X.env (eval e X.env)) (TP X pins σ Q) X.xe s
noncomputable def PW (X : Cx) (e : Expr) (t : TT) : Prop :=
  ∀ (whole : Sem Value) (pins : List (Addr × Obj)) (s : Shared) (σ : St) (H : Hp) (Q : Bool → Hp → Prop), Inv X pins σ H s → t σ H Q → wpAny (model X.prog X.w) X.A (isTrue e X.env whole) (TP X pins σ Q) X.xe s
theorem PW.pt {X : Cx} {e : Expr} {t : TT} (h : PW X e t) : PT X e t := h _
noncomputable def PA (X : Cx) (es : List Expr) (t : TA) : Prop :=
  ∀ (pos : Pos) (pins : List (Addr × Obj)) (s : Shared) (σ : St) (H : Hp) (Q : List V → Hp → Prop), Inv X pins σ H s → t σ H Q → wpAny (model X.prog X.w) X.A (spliced (backTo pos (starEach es X.env))) (AP X pins σ Q) X.xe s
noncomputable def PS (X : Cx) (st : Stmt) (t : TS) : Prop :=
  ∀ (pins : List (Addr × Obj)) (s : Shared) (σ : St) (H : Hp) (D : Ends), Inv X pins σ H s → t D σ H → wpAny (model X.prog X.w) X.A (exec st X.env) (SP X pins D) X.xe s
noncomputable def PSs (X : Cx) (st : List Stmt) (t : TS) : Prop :=
  ∀ (pins : List (Addr × Obj)) (s : Shared) (σ : St) (H : Hp) (D : Ends), Inv X pins σ H s → t D σ H → wpAny (model X.prog X.w) X.A (execs st X.env) (SP X pins D) X.xe s
theorem thn {α : Type} {t : Sem α} {Q Q' : α → Shared → Prop} {M : Model} {A : Around} {E : Value → Shared → Prop} {s : Shared} (h : wpAny M A t Q E s) (hQ : ∀ a s, Q a s → Q' a s) : wpAny M A t Q' E s := wpAny_mono h hQ fun _ _ x => x
end L2

namespace L2
open PySem PySem.Spec PyProof.Rows
section
variable {X : Cx}

noncomputable def tVar (i : Nat) : TE := fun σ H Q => ∃ v, σ[i]? = some (some v) ∧ Q v H
noncomputable def tC (v : V) : TE := fun _ H Q => Q v H
theorem pe_var {i : Nat} {x : Str} {pos : Pos} (hN : X.N[i]? = some x) (hv : Vis X.env.scope x) (hd : (x == ("__debug__" : Str)) = false := by decide) (hcd : (x == ("__classdict__" : Str)) = false := by decide) : PE X (.Name x pos) (tVar i) := by
  intro pins s σ H Q I h
  obtain ⟨v, e, h⟩ := h
  obtain ⟨m, hn, hl⟩ := I.loc
  obtain ⟨u, r, l⟩ := hl i x v hN e hv
  have fin : EP X pins σ Q u s := ⟨v, H, I, r, h⟩
  rcases l with ⟨hk, hm⟩ | ⟨hk, c, hc, hcell⟩
  · exact wpAny_Name (wpAny_loadName_local I.ok.kind hk hn hm fin) hd
  · rcases hk with hk | hk
    · exact wpAny_Name (wpAny_loadName_cell I.ok.kind hk hc hcell fin) hd
    · exact wpAny_Name (wpAny_loadName_free I.ok.kind hk hc hcell fin hcd) hd
theorem pe_int {i j pos} : PE X (.Constant (.int i) j pos) (tC (.int i)) := fun _ _ _ H _ I h => wpAny_Constant_int ⟨.int i, H, I.tok _, ⟨_, rfl⟩, h⟩
theorem pe_bl {b j pos} : PE X (.Constant (.bool b) j pos) (tC (.bl b)) := fun _ _ _ H _ I h => Constant_bool ⟨.bl b, H, I, rfl, h⟩
theorem pe_non {j pos} : PE X (.Constant .none j pos) (tC .non) := fun _ _ _ H _ I h => Constant_none ⟨.non, H, I, rfl, h⟩
theorem pe_str {x j pos} : PE X (.Constant (.str x) j pos) (tC (.str x)) := fun _ _ _ H _ I h => Calls.Constant_str ⟨.str x, H, I.tok _, ⟨_, rfl⟩, h⟩

noncomputable def Gl (X : Cx) (x : Str) : Prop := X.env.kindOf x = some .globalImplicit
theorem ld_glob {E : Value → Shared → Prop} {pins : List (Addr × Obj)} {s : Shared} {σ : St} {H : Hp} {x : Str} {u : Value} {pos : Pos} {Q : Value → Shared → Prop} (I : Inv X pins σ H s) (hg : Gl X x) (hm : X.mg x = some u) (h : Q u s)
    (hd : (x == ("__debug__" : Str)) = false := by decide) : wpAny (model X.prog X.w) X.A (eval (.Name x pos) X.env) Q E s :=
  Calls.Name_function_global I.ok.kind hg (Calls.loadGlobal_global (by rw [I.ok.glob]; exact I.mod.glob.keeps I.bk) hm h) hd
theorem ld_blt {E : Value → Shared → Prop} {pins : List (Addr × Obj)} {s : Shared} {σ : St} {H : Hp} {x : Str} {u : Value} {pos : Pos} {Q : Value → Shared → Prop} (I : Inv X pins σ H s) (hg : Gl X x) (hm : X.mg x = none) (hv : bootBuiltins x = some u) (h : Q u s)
    (hn : x ≠ "__name__" := by decide) (hd : (x == ("__debug__" : Str)) = false := by decide) : wpAny (model X.prog X.w) X.A (eval (.Name x pos) X.env) Q E s := by
  obtain ⟨mb, h1, h2⟩ := I.mod.blt
  exact Calls.Name_function_global I.ok.kind hg (Calls.loadGlobal_builtin (by rw [I.ok.glob]; exact I.mod.glob.keeps I.bk) hm (by rw [I.ok.blt]; exact h1.keeps I.bk) ((h2 x hn).trans hv) h) hd
theorem pe_glob {x : Str} {v : V} {u : Value} {pos : Pos} (hg : Gl X x) (hm : X.mg x = some u) (r : RelV v u) (hd : (x == ("__debug__" : Str)) = false := by decide) : PE X (.Name x pos) (tC v) :=
  fun _ _ _ H _ I h => ld_glob I hg hm ⟨v, H, I, r, h⟩ hd
theorem pe_bltn {x : Str} {v : V} {u : Value} {pos : Pos} (hg : Gl X x) (hm : X.mg x = none) (hv : bootBuiltins x = some u) (r : RelV v u) (hn : x ≠ "__name__" := by decide) (hd : (x == ("__debug__" : Str)) = false := by decide) : PE X (.Name x pos) (tC v) :=
  fun _ _ _ H _ I h => ld_blt I hg hm hv ⟨v, H, I, r, h⟩ hn hd

variable {a b : Expr} {ta tb : TE} {pos : Pos}
noncomputable def PC (X : Cx) (op : CmpOp) (a b : Expr) (t : TE) : Prop :=
  ∀ (pins : List (Addr × Obj)) (s : Shared) (σ : St) (H : Hp) (Q : VK), Inv X pins σ H s → t σ H Q →
    wpAny (model X.prog X.w) X.A (eval a X.env) (fun v s₁ => wpAny (model X.prog X.w) X.A (eval b X.env) (fun u s₂ => wpAny (model X.prog X.w) X.A (compareOp op v u) (EP X pins σ Q) X.xe s₂) X.xe s₁) X.xe s
noncomputable def tB (t : TE) : TT := fun σ H Q => t σ H fun x H1 => ∃ c, x = .bl c ∧ Q c H1
theorem pt_cmp {op : CmpOp} {t : TE} (h : PC X op a b t) (h1 : behindInMarks op b = false := by first | exact nobehind _ (by decide) (by decide) | rfl) : PT X (.Compare a [op] [b] pos) (tB t) := by
  intro pins s σ H Q I hw
  refine wpAny_isTrue_Compare1 (thn (h pins s σ H _ I hw) fun v s1 h1 => thn h1 fun u s2 h2 => thn h2 fun c s3 ⟨x, H1, I1, r1, q1⟩ => ?_) h1
  obtain ⟨d, rfl, q⟩ := q1
  cases r1
  exact wpAny_truthy_bool ⟨H1, I1, q⟩
theorem pt_val {e : Expr} {t : TE} (h : PE X e t) (he : ∀ whole, isTrue e X.env whole = (do let v ← whole; standAt e.pos; holding [v] (truthy v)) := by intro _; rfl) : PT X e (tB t) := by
  intro pins s σ H Q I hw
  refine isTrue_plain (thn (h pins s σ H _ I hw) fun v s1 ⟨x, H1, I1, r1, q1⟩ => ?_) (he _)
  obtain ⟨d, rfl, q⟩ := q1
  cases r1
  exact wpAny_truthy_bool ⟨H1, I1, q⟩

variable {tA tB' : TT} {rest : List Expr}
noncomputable def tAnd (t u : TT) : TT := fun σ H Q => t σ H fun c H1 => if c = true then u σ H1 Q else Q false H1
noncomputable def tOr (t u : TT) : TT := fun σ H Q => t σ H fun c H1 => if c = true then Q true H1 else u σ H1 Q
noncomputable def tNot (t : TT) : TT := fun σ H Q => t σ H fun c H1 => Q (!c) H1
theorem pw_and1 (ha : PT X a tA) : PW X (.BoolOp .And [a] pos) tA := by
  intro wh pins s σ H Q I h
  refine isTrue_and (thn (ha pins s σ H Q I h) fun c s1 e => ?_)
  cases c with
  | true => exact isTrue_and_nil e
  | false => exact e
theorem pw_or1 (ha : PT X a tA) : PW X (.BoolOp .Or [a] pos) tA := by
  intro wh pins s σ H Q I h
  refine isTrue_or (thn (ha pins s σ H Q I h) fun c s1 e => ?_)
  cases c with
  | false => exact isTrue_or_nil e
  | true => exact e
theorem pw_and (ha : PT X a tA) (hb : PW X (.BoolOp .And (b :: rest) pos) tB') : PW X (.BoolOp .And (a :: b :: rest) pos) (tAnd tA tB') := by
  intro wh pins s σ H Q I h
  refine isTrue_and (thn (ha pins s σ H _ I h) fun c s1 ⟨H1, I1, q1⟩ => ?_)
  cases c with
  | true => exact hb wh pins s1 σ H1 Q I1 q1
  | false => exact ⟨H1, I1, q1⟩
theorem pw_or (ha : PT X a tA) (hb : PW X (.BoolOp .Or (b :: rest) pos) tB') : PW X (.BoolOp .Or (a :: b :: rest) pos) (tOr tA tB') := by
  intro wh pins s σ H Q I h
  refine isTrue_or (thn (ha pins s σ H _ I h) fun c s1 ⟨H1, I1, q1⟩ => ?_)
  cases c with
  | true => exact ⟨H1, I1, q1⟩
  | false => exact hb wh pins s1 σ H1 Q I1 q1
theorem pt_not (ha : PT X a tA) : PT X (.UnaryOp .Not a pos) (tNot tA) := by
  intro pins s σ H Q I h
  exact isTrue_not (ha pins s σ H (fun c H1 => Q (!c) H1) I h)
noncomputable def tAndV (ta tb : TE) : TE := fun σ H Q => ta σ H fun x H1 => ∃ c, x = .bl c ∧ if c = true then tb σ H1 Q else Q (.bl false) H1
noncomputable def tNotV (ta : TE) : TE := fun σ H Q => ta σ H fun x H1 => ∃ c, x = .bl c ∧ Q (.bl (!c)) H1
theorem pe_one {op} {t : TE} (h : PE X a t) : PE X (.BoolOp op [a] pos) t := fun pins s σ H Q I hw => BoolOp_one (h pins s σ H Q I hw)
theorem pe_and (ha : PE X a ta) (hb : PE X (.BoolOp .And (b :: rest) pos) tb) : PE X (.BoolOp .And (a :: b :: rest) pos) (tAndV ta tb) := by
  intro pins s σ H Q I h
  refine BoolOp_and (thn (ha pins s σ H _ I h) fun v s1 ⟨x, H1, I1, r1, q1⟩ => ?_)
  obtain ⟨c, rfl, q1⟩ := q1
  cases r1
  refine wpAny_truthy_bool ?_
  cases c with
  | true => exact hb pins s1 σ H1 Q I1 q1
  | false => exact ⟨.bl false, H1, I1, rfl, q1⟩
theorem pe_not (ha : PE X a ta) : PE X (.UnaryOp .Not a pos) (tNotV ta) := by
  intro pins s σ H Q I h
  refine UnaryOp_ (thn (ha pins s σ H _ I h) fun v s1 ⟨x, H1, I1, r1, q1⟩ => ?_)
  obtain ⟨c, rfl, q1⟩ := q1
  cases r1
  exact not_of (wpAny_truthy_bool ⟨.bl (!c), H1, I1, rfl, q1⟩)
end
end L2

namespace L2
open PySem PySem.Spec PyProof.Rows

noncomputable def SqL (K : PySem.W.Frag) (H : Hp) (a : Addr) (xs : List V) : Prop :=
  Rd H a (.lst xs) ∨
    ∃ (o : Obj) (its : Array Value) (n : Nat), K.lookup a = some o ∧ o.cls = .type "list" ∧ o.dict = none ∧ o.data = .seq its n ∧ its.size ≤ sizeLine ∧ Vals xs its.toList
noncomputable def SqT (K : PySem.W.Frag) (H : Hp) (a : Addr) (xs : List V) : Prop :=
  Rd H a (.tup xs) ∨
    ∃ (o : Obj) (its : Array Value) (n : Nat), K.lookup a = some o ∧ o.cls = .type "tuple" ∧ o.data = .seq its n ∧ its.size ≤ sizeLine ∧ Vals xs its.toList
noncomputable def absV : Value → Option V
  | .none => some .non
  | .bool b => some (.bl b)
  | .int i _ => some (.int i)
  | .str x _ => some (.str x)
  | .bytes b _ => some (.byt b)
  | .float b _ => some (.flt b)
  | .ref a => some (.ref a)
  | .type n => some (.ty n)
  | _ => none
theorem RelV.abs {x : V} {u : Value} (r : RelV x u) : absV u = some x := by
  cases x with
  | non => cases r; rfl
  | bl _ => cases r; rfl
  | int _ => obtain ⟨t, rfl⟩ := r; rfl
  | str _ => obtain ⟨t, rfl⟩ := r; rfl
  | byt _ => obtain ⟨t, rfl⟩ := r; rfl
  | flt _ => obtain ⟨t, rfl⟩ := r; rfl
  | ref _ => cases r; rfl
  | ty _ => cases r; rfl
theorem RelV.inj {x y : V} {u : Value} (r : RelV x u) (q : RelV y u) : x = y := Option.some.inj (r.abs.symm.trans q.abs)
theorem Vals.inj : ∀ {xs ys : List V} {us : List Value}, Vals xs us → Vals ys us → xs = ys
  | _, _, _, .nil, .nil => rfl
  | _, _, _, .cons r t, .cons r' t' => by rw [r.inj r', Vals.inj t t']
section
variable {X : Cx} {pins : List (Addr × Obj)} {σ : St} {H : Hp} {s : Shared} {a : Addr} {xs ys : List V}
theorem SqL.of {K : PySem.W.Frag} (h : H a = some (.lst xs)) : SqL K H a xs := .inl (.inl h)
theorem SqT.of {K : PySem.W.Frag} (h : H a = some (.tup xs)) : SqT K H a xs := .inl (.inl h)
theorem Inv.list (I : Inv X pins σ H s) (h : SqL X.K H a xs) : ∃ its : List Value, Vals xs its ∧ PlainL s.heap a its.toArray ∧ xs.length ≤ sizeLine := by
  rcases h with h | ⟨o, its, n, hk, hc, hd, hs, hz, r⟩
  · obtain ⟨z, its, n, r, e⟩ := h.ok I.hok
    exact ⟨its, r, ⟨_, n, e, rfl, rfl, rfl⟩, z⟩
  · refine ⟨its.toList, r, ⟨o, n, I.kIn a o hk, hc, hd, by simpa using hs⟩, ?_⟩
    have e := r.length
    simp only [Array.length_toList] at e
    omega
theorem Inv.tuple (I : Inv X pins σ H s) (h : SqT X.K H a xs) : ∃ its : List Value, Vals xs its ∧ IsTup s.heap a its.toArray ∧ xs.length ≤ sizeLine := by
  rcases h with h | ⟨o, its, n, hk, hc, hs, hz, r⟩
  · obtain ⟨z, its, r, p⟩ := h.ok I.hok
    exact ⟨its, r, p, z⟩
  · refine ⟨its.toList, r, ⟨o, I.kIn a o hk, hc, n, by simpa using hs⟩, ?_⟩
    have e := r.length
    simp only [Array.length_toList] at e
    omega
theorem Inv.list_inj (I : Inv X pins σ H s) (h : SqL X.K H a xs) (h' : SqL X.K H a ys) : xs = ys := by
  obtain ⟨its, r, ⟨o, n, e, _, _, d⟩, _⟩ := I.list h
  obtain ⟨its', r', ⟨o', n', e', _, _, d'⟩, _⟩ := I.list h'
  rw [e] at e'; cases e'
  rw [d] at d'
  injection d' with d1 _
  have : its = its' := by simpa using congrArg Array.toList d1
  subst this
  exact r.inj r'
end

noncomputable abbrev Cx.wish (X : Cx) (E : Value → Shared → Prop) : Cx := { X with xe := E }
noncomputable abbrev Cx.nox (X : Cx) : Cx := X.wish fun _ _ => False
theorem Cx.Ok.wish {X : Cx} (ok : X.Ok) (E : Value → Shared → Prop) : (X.wish E).Ok :=
  ⟨ok.mod, ok.kind, ok.glob, ok.blt, ok.above, ok.inj, ok.has, ok.cab, ok.hd, ok.frames, ok.stk, ok.exf, ok.bs, ok.bsz, ok.noex, ok.exfs, ok.funs, ok.frf⟩
theorem Cx.Ok.unwish {X : Cx} {E : Value → Shared → Prop} (ok : (X.wish E).Ok) : X.Ok :=
  ⟨ok.mod, ok.kind, ok.glob, ok.blt, ok.above, ok.inj, ok.has, ok.cab, ok.hd, ok.frames, ok.stk, ok.exf, ok.bs, ok.bsz, ok.noex, ok.exfs, ok.funs, ok.frf⟩
section
variable {X : Cx} {pins : List (Addr × Obj)} {σ : St} {H : Hp} {s : Shared} {E : Value → Shared → Prop}
theorem Inv.wish (I : Inv X pins σ H s) (E : Value → Shared → Prop) : Inv (X.wish E) pins σ H s := ⟨I.ok.wish E, I.os, I.bare, I.base, I.loc, I.cell, I.free, I.freeC, I.pin, I.hok, I.len⟩
theorem Inv.unwish (I : Inv (X.wish E) pins σ H s) : Inv X pins σ H s := ⟨I.ok.unwish, I.os, I.bare, I.base, I.loc, I.cell, I.free, I.freeC, I.pin, I.hok, I.len⟩
theorem SP.unwish {D : Ends} {f : Flow} {s' : Shared} (h : SP (X.wish E) pins D f s') : SP X pins D f s' := by
  cases f with
  | next => obtain ⟨σ', H', I, q⟩ := h; exact ⟨σ', H', I.unwish, q⟩
  | brk => obtain ⟨σ', H', I, q⟩ := h; exact ⟨σ', H', I.unwish, q⟩
  | cont => obtain ⟨σ', H', I, q⟩ := h; exact ⟨σ', H', I.unwish, q⟩
  | ret u => obtain ⟨v, σ', H', I, r, q⟩ := h; exact ⟨v, σ', H', I.unwish, r, q⟩
theorem PSs.nox {st : List Stmt} {t : TS} (h : PSs X.nox st t) : PSs X st t := fun pins s σ H D I hw =>
  wpAny_mono (h pins s σ H D (I.wish _) hw) (fun _ _ q => q.unwish) fun _ _ z => False.elim z
end

section
variable {X : Cx} {st : Stmt} {rest : List Stmt} {t u : TS} {e : Expr} {te : TE} {pos : Pos}
noncomputable def tNext : TS := fun D σ H => D.nx σ H
noncomputable def tSeq (t u : TS) : TS := fun D σ H => t { D with nx := u D } σ H
theorem pss_nil : PSs X [] tNext := fun _ _ σ H _ I h => wpAny_execs_nil ⟨σ, H, I, h⟩
theorem pss_cons (h1 : PS X st t) (h2 : PSs X rest u) : PSs X (st :: rest) (tSeq t u) := by
  intro pins s σ H D I h
  refine wpAny_execs_cons (thn (h1 pins s σ H { D with nx := u D } I h) fun f s1 q => ?_)
  cases f with
  | next =>
    obtain ⟨σ', H', I', q⟩ := q
    exact h2 pins s1 σ' H' D I' q
  | ret v => exact q
  | brk => exact q
  | cont => exact q
theorem pss_one (h1 : PS X st t) : PSs X [st] t := by
  intro pins s σ H D I h
  refine wpAny_execs_cons (thn (h1 pins s σ H D I h) fun f s1 q => ?_)
  cases f with
  | next => exact wpAny_execs_nil q
  | ret v => exact q
  | brk => exact q
  | cont => exact q
theorem Inv.quiet {pins : List (Addr × Obj)} {σ : St} {H : Hp} {s : Shared} (I : Inv X pins σ H s) : interactive X.env = false := by simp [interactive, I.ok.kind]
noncomputable def tDrop (te : TE) : TS := fun D σ H => te σ H fun _ H1 => D.nx σ H1
theorem ps_expr (he : PE X e te) (hs : swapsWith e none pos.line X.env = pure false := by rfl) : PS X (.Expr e pos) (tDrop te) := by
  intro pins s σ H D I h
  exact wpAny_Expr_any (thn (he pins s σ H _ I h) fun v s1 ⟨x, H1, I1, r1, q1⟩ => ⟨σ, H1, I1, q1⟩) I.quiet hs
noncomputable def tRet (te : TE) : TS := fun D σ H => te σ H D.rt
theorem ps_ret (he : PE X e te) : PS X (.Return (some e) pos) (tRet te) := by
  intro pins s σ H D I h
  exact wpAny_Return_some (thn (he pins s σ H _ I h) fun v s1 ⟨x, H1, I1, r1, q1⟩ => ⟨x, σ, H1, I1, r1, q1⟩)
noncomputable def tIfS (c : TT) (t u : TS) : TS := fun D σ H => c σ H fun b H1 => if b = true then t D σ H1 else u D σ H1
theorem ps_if {c : Expr} {a b : List Stmt} {tc : TT} (hc : PT X c tc) (ha : PSs X a t) (hb : PSs X b u) : PS X (.If c a b pos) (tIfS tc t u) := by
  intro pins s σ H D I h
  refine wpAny_If (thn (hc pins s σ H _ I h) fun d s1 ⟨H1, I1, q1⟩ => ?_)
  cases d with
  | true => exact ha pins s1 σ H1 D I1 q1
  | false => exact hb pins s1 σ H1 D I1 q1
noncomputable def tNever : TS := fun _ _ _ => False
theorem ps_never : PS X st tNever := fun _ _ _ _ _ _ h => h.elim
end

noncomputable abbrev TG := V → St → Hp → (St → Hp → Prop) → Prop
noncomputable abbrev TGs := List V → St → Hp → (St → Hp → Prop) → Prop
noncomputable def PG (X : Cx) (target : Expr) (t : TG) : Prop :=
  ∀ (pins : List (Addr × Obj)) (s : Shared) (σ : St) (H : Hp) (v : V) (u : Value) (Q : St → Hp → Prop), Inv X pins σ H s → RelV v u → t v σ H Q →
    wpAny (model X.prog X.w) X.A (assign target X.env u) (fun _ s' => ∃ σ' H', Inv X pins σ' H' s' ∧ Q σ' H') X.xe s
noncomputable def PGs (X : Cx) (ts : List Expr) (t : TGs) : Prop :=
  ∀ (pins : List (Addr × Obj)) (s : Shared) (σ : St) (H : Hp) (vs : List V) (us : List Value) (Q : St → Hp → Prop), Inv X pins σ H s → Vals vs us → t vs σ H Q →
    wpAny (model X.prog X.w) X.A (assignInOrder ((assignEach ts X.env).map (·.2)) us) (fun _ s' => ∃ σ' H', Inv X pins σ' H' s' ∧ Q σ' H') X.xe s
section
variable {X : Cx} {pos : Pos}
noncomputable def gName (i : Nat) : TG := fun v σ H Q => Q (σ.set i (some v)) H
theorem pg_name {i : Nat} {x : Str} (hN : X.N.Nodup) (hi : X.N[i]? = some x) (hx : Loc X.env.scope x) (hf : X.fn x = true ∨ X.env.scope.names.lookup x = some .local := by first | exact .inl rfl | exact .inr rfl | assumption) : PG X (.Name x pos) (gName i) := by
  intro pins s σ H v u Q I r h
  exact wpAny_assign_Name (store_ok I hN hi hx r (fun s' I' => ⟨_, H, I', h⟩) hf)
noncomputable def gNil : TGs := fun vs σ H Q => vs = [] ∧ Q σ H
noncomputable def gCons (t : TG) (u : TGs) : TGs := fun vs σ H Q => ∃ v r, vs = v :: r ∧ t v σ H fun σ' H' => u r σ' H' Q
theorem pgs_nil : PGs X [] gNil := by
  intro pins s σ H vs us Q I r h
  obtain ⟨e, h⟩ := h
  subst e
  cases r
  exact assignInOrder_nil ⟨σ, H, I, h⟩
theorem pgs_cons {e : Expr} {es : List Expr} {t : TG} {u : TGs} (h1 : PG X e t) (h2 : PGs X es u)
    (hs : (assignEach (e :: es) X.env).map (·.2) = assign e X.env :: (assignEach es X.env).map (·.2) := by rfl) : PGs X (e :: es) (gCons t u) := by
  intro pins s σ H vs us Q I r h
  obtain ⟨v, vr, e1, h⟩ := h
  subst e1
  cases r with
  | cons r rr =>
    rw [hs]
    refine assignInOrder_cons (thn (h1 pins s σ H _ _ _ I r h) fun _ s1 ⟨σ1, H1, I1, q1⟩ => ?_)
    exact h2 pins s1 σ1 H1 _ _ Q I1 rr q1
noncomputable def gTup (K : PySem.W.Frag) (n : Nat) (t : TGs) : TG := fun v σ H Q => ∃ a xs, v = .ref a ∧ SqT K H a xs ∧ xs.length = n ∧ t xs σ H Q
theorem pg_tup {es : List Expr} {k : Nat} {t : TGs} {n : Nat} (hc : X.calm = true) (h : PGs X es t)
    (hn : (assignEach es X.env).length = n := by rfl) (hst : (assignEach es X.env).findIdx? (·.1) = none := by rfl) : PG X (.Tuple es k pos) (gTup X.K n t) := by
  intro pins s σ H v u Q I r hw
  obtain ⟨a, xs, e1, hq, hl, hw⟩ := hw
  subst e1
  cases r
  obtain ⟨its, rv, ht, hz⟩ := I.tuple hq
  refine assign_Tuple_tuple (I.ok.hd hc) ht (by simp [hn, ← hl, rv.length]) hst fun h' hx => ?_
  have I1 : Inv X pins σ H { s with heap := h' } := I.kept (t' := s.toks) fun b o e => hx b o (Nat.ne_of_lt (Heap.lt_size e)) e
  exact h pins _ σ H xs _ Q I1 (by simpa using rv) hw
noncomputable def tAsg (te : TE) (g : TG) : TS := fun D σ H => te σ H fun x H1 => g x σ H1 D.nx
theorem ps_set {i : Nat} {x : Str} {e : Expr} {te : TE} {pos' : Pos} (hN : X.N.Nodup) (hi : X.N[i]? = some x) (hx : Loc X.env.scope x) (he : PE X e te) (hs : swapsWith e (some (.Name x pos')) pos.line X.env = pure false := by rfl) (hf : X.fn x = true ∨ X.env.scope.names.lookup x = some .local := by first | exact .inl rfl | exact .inr rfl | assumption) :
    PS X (.Assign [.Name x pos'] e pos) (tAsg te (gName i)) := by
  intro pins s σ H D I h
  refine wpAny_Assign_Name (thn (he pins s σ H _ I h) fun v s1 ⟨y, H1, I1, r1, q1⟩ => ?_) hs
  exact store_ok I1 hN hi hx r1 (fun s2 I2 => ⟨_, H1, I2, q1⟩) hf
end

section
variable {X : Cx} {pos : Pos}
end

structure It where
  go : Nat → Hp → Prop
  yld : Nat → Hp → V → Hp → Prop
  stop : Nat → Hp → Prop
noncomputable def FpOk (X : Cx) (pins : List (Addr × Obj)) (H : Hp) (b : Addr) : Prop :=
  H b = none ∧ b ≠ X.env.locals ∧ b ∉ X.fs ∧ (b ∈ X.ex ∨ X.s₀.heap.objs.size ≤ b) ∧ (∀ x c, X.env.cells.lookup x = some c → c ≠ b) ∧ ∀ p ∈ X.pn ++ pins, p.1 ≠ b
theorem Inv.fpOk {X : Cx} {pins : List (Addr × Obj)} {σ : St} {H H' : Hp} {s : Shared} {b : Addr} (I : Inv X pins σ H s) (hb : s.heap.objs.size ≤ b) (hn : H' b = none) : FpOk X pins H' b := by
  refine ⟨hn, Nat.ne_of_gt (Nat.lt_of_lt_of_le I.lt hb), I.nofs hb, .inr (Nat.le_trans I.sz hb), fun x c e z => ?_, fun p hp z => ?_⟩
  · obtain ⟨v, q⟩ := I.cell x c e
    exact absurd (Nat.lt_of_lt_of_le q.lt (by rw [z]; exact hb)) (Nat.lt_irrefl _)
  · exact absurd (Nat.lt_of_lt_of_le (Heap.lt_size (I.pin p hp).1) (by rw [z]; exact hb)) (Nat.lt_irrefl _)
structure Turn (P : Program) (w : World) (K : PySem.W.Frag) (tg : Expr) (J : It) (fp : List Addr) (it : Addr) (tn : Nat → Heap → Prop) : Prop where
  mem : it ∈ fp
  obj : ∀ i h, tn i h → ∀ b ∈ fp, ∃ o, h.get? b = some o ∧ ∀ v, o.data ≠ .cell v
  keep : ∀ i h h', tn i h → (∀ b ∈ fp, ∀ o, h.get? b = some o → h'.get? b = some o) → tn i h'
  item : ∀ (X : Cx), X.prog = P → X.w = w → X.K = K → X.calm = true → ∀ (i : Nat) (pins : List (Addr × Obj)) (s : Shared) (σ : St) (H : Hp) (E : Value → Shared → Prop), Inv X pins σ H s → (∀ b ∈ fp, FpOk X pins H b) → tn i s.heap → J.go i H →
    wpAny (model P w) X.A (pyNext (.ref it)) (fun r s1 => ∃ u, r = some u ∧
      wpAny (model P w) X.A (letOwnedTupleGo tg (.ref it) u) (fun _ s2 => ∃ x H', Inv X pins σ H' s2 ∧ RelV x u ∧ J.yld i H x H' ∧ tn (i + 1) s2.heap ∧ ∀ b ∈ fp, H' b = none) E s1) E s
  done : ∀ (X : Cx), X.prog = P → X.w = w → X.K = K → X.calm = true → ∀ (i : Nat) (pins : List (Addr × Obj)) (s : Shared) (σ : St) (H : Hp) (E : Value → Shared → Prop), Inv X pins σ H s → (∀ b ∈ fp, FpOk X pins H b) → tn i s.heap → J.stop i H →
    wpAny (model P w) X.A (pyNext (.ref it)) (fun r s1 => r = none ∧ Inv X pins σ H s1) E s
  self : ∀ (A : Around) (i : Nat) (s : Shared) (Q : Value → Shared → Prop) (E : Value → Shared → Prop), tn i s.heap → Q (.ref it) s → wpAny (model P w) A (pyIter (.ref it)) Q E s
noncomputable abbrev TI := St → Hp → (It → Hp → Prop) → Prop
noncomputable def PIE (X : Cx) (pins : List (Addr × Obj)) (σ : St) (tg : Expr) (R : It → Hp → Prop) (itv : Value) (s2 : Shared) : Prop :=
  ∃ (it : Addr) (fp : List Addr) (tn : Nat → Heap → Prop) (J : It) (H' : Hp), itv = .ref it ∧ Inv X pins σ H' s2 ∧ Turn X.prog X.w X.K tg J fp it tn ∧ tn 0 s2.heap ∧ (∀ b ∈ fp, FpOk X pins H' b) ∧ R J H'
noncomputable def PI (X : Cx) (tg iter : Expr) (wi : TI) : Prop :=
  ∀ (pins : List (Addr × Obj)) (s : Shared) (σ : St) (H : Hp) (R : It → Hp → Prop), Inv X pins σ H s → wi σ H R →
    wpAny (model X.prog X.w) X.A (eval iter X.env) (fun v s1 => wpAny (model X.prog X.w) X.A (pyIter v) (PIE X pins σ tg R) X.xe s1) X.xe s

theorem go_of {M : Model} {A : Around} {E : Value → Shared → Prop} {s : Shared} {tg : Expr} {it : Addr} {u : Value} {o : Obj} {n : String} {vs : Array Value} {Q : Unit → Shared → Prop} (ho : s.heap.get? it = some o) (hc : o.cls = .type n) (hd : o.data = .fields vs)
    (hn : ["enumerate", "zip", "dict_itemiterator", "dict_reverseitemiterator", "odict_iterator", "itertools.zip_longest", "itertools.pairwise"].contains n = false) (hQ : Q () s) : wpAny M A (letOwnedTupleGo tg (.ref it) u) Q E s := by
  unfold letOwnedTupleGo
  cases tg <;> first
    | exact wpAny_pure hQ
    | (cases u <;> first
        | exact wpAny_pure hQ
        | (refine wpAny_bind (wpAny_load ho ?_)
           rw [hc, hd]
           show wpAny M A (if (["enumerate", "zip", "dict_itemiterator", "dict_reverseitemiterator", "odict_iterator", "itertools.zip_longest", "itertools.pairwise"].contains n && vs[0]? == some (rawInt _)) = true then _ else _) Q E s
           rw [if_neg (by intro h; rw [hn, Bool.false_and] at h; cases h)]
           exact wpAny_pure hQ))

noncomputable def Itl (K : PySem.W.Frag) (a : Addr) : It :=
  ⟨fun i H => ∃ xs x, SqL K H a xs ∧ xs[i]? = some x, fun i H x H' => H' = H ∧ ∀ xs, SqL K H a xs → xs[i]? = some x, fun i H => ∃ xs, SqL K H a xs ∧ xs.length ≤ i⟩
noncomputable def Itr (lo : Int) (n : Nat) : It := ⟨fun i _ => i < n, fun i H x H' => H' = H ∧ x = .int (lo + i), fun i _ => n ≤ i⟩
theorem turn_list {P : Program} {w : World} {K : PySem.W.Frag} {tg : Expr} (a it : Addr) : Turn P w K tg (Itl K a) [it] it (fun i h => h.IsListIter it a i) where
  mem := by simp
  obj := fun i h st b hb => by
    have e : b = it := by simpa using hb
    subst e
    obtain ⟨o, e, c, d⟩ := st
    exact ⟨o, e, fun v z => by rw [d] at z; cases z⟩
  keep := fun i h h' st k => st.at fun o e => k it (by simp) o e
  item := by
    intro X hP hw hK hc i pins s σ H E I hf st hg
    subst hP hw hK
    obtain ⟨xs, x, hq, hx⟩ := hg
    obtain ⟨its, rv, p, hz⟩ := I.list hq
    obtain ⟨u, hu, ru⟩ := rv.get hx
    obtain ⟨f0, f1, f2, f3, f4, f5⟩ := hf it (by simp)
    refine wpAny_pyNext_list_item st p.isList (x := u) (by simpa using hu) fun h' st' sb => ?_
    have I1 : Inv X pins σ H { s with heap := h' } := I.turned (t' := s.toks) (fun b o hb e => (sb.2 b hb).trans e) f0 f1 f3 f4 f5
    obtain ⟨o, e, c, d⟩ := id st'
    exact ⟨u, rfl, go_of (s := { s with heap := h' }) e c d (by decide) ⟨x, H, I1, ru, ⟨rfl, fun ys hy => by rw [I.list_inj hy hq]; exact hx⟩, st', fun b hb => (hf b hb).1⟩⟩
  done := by
    intro X hP hw hK hc i pins s σ H E I hf st hg
    subst hP hw hK
    obtain ⟨xs, hq, hx⟩ := hg
    obtain ⟨its, rv, p, hz⟩ := I.list hq
    obtain ⟨f0, f1, f2, f3, f4, f5⟩ := hf it (by simp)
    have hl := rv.length
    exact wpAny_pyNext_list_end (I.ok.hd hc) st p.isList (by simp; omega) fun h' eb => ⟨rfl, I.turned (t' := s.toks) (fun b o hb e => eb b o hb e) f0 f1 f3 f4 f5⟩
  self := fun _ _ _ _ _ st h => wpAny_pyIter_listiter st h
theorem turn_range {P : Program} {w : World} {K : PySem.W.Frag} {tg : Expr} (it : Addr) (lo : Int) (n : Nat) : Turn P w K tg (Itr lo n) [it] it (fun i h => IsRangeIter h it (lo + (i : Nat) * 1) ((n : Int) - (i : Nat)) 1) where
  mem := by simp
  obj := fun i h st b hb => by
    have e : b = it := by simpa using hb
    subst e
    exact ⟨_, st, fun v z => by
      have z' : Data.fields _ = Data.cell v := z
      cases z'⟩
  keep := fun i h h' st k => k it (by simp) _ st
  item := by
    intro X hP hw hK hc i pins s σ H E I hf st hg
    subst hP hw hK
    obtain ⟨f0, f1, f2, f3, f4, f5⟩ := hf it (by simp)
    have W := Walks.range (prog := X.prog) (w := X.w) (I.ok.hd hc) it lo 1 n
    refine W.item i s _ _ hg st fun v h' tk hv st' kk => ?_
    obtain ⟨t, rfl⟩ := hv
    have I1 : Inv X pins σ H { s with heap := h', toks := tk } := I.turned (fun b o hb e => kk b o (by simpa using hb) e) f0 f1 f3 f4 f5
    refine ⟨_, rfl, go_of (s := { s with heap := h', toks := tk }) (n := "range_iterator") st' rfl rfl (by decide) ⟨.int (lo + i), H, I1, ⟨t, ?_⟩, ⟨rfl, rfl⟩, st', fun b hb => (hf b hb).1⟩⟩
    rw [Int.mul_one]
  done := by
    intro X hP hw hK hc i pins s σ H E I hf st hg
    subst hP hw hK
    obtain ⟨f0, f1, f2, f3, f4, f5⟩ := hf it (by simp)
    exact wpAny_pyNext_range_end (I.ok.hd hc) st (by have : n ≤ i := hg; omega) fun h' eb => ⟨rfl, I.turned (t' := s.toks) (fun b o hb e => eb b o hb e) f0 f1 f3 f4 f5⟩
  self := fun _ _ _ _ _ st h => wpAny_pyIter_rangeiter st h
end L2

namespace L2
open PySem PySem.Spec PyProof.Rows
section
variable {X : Cx} {tg : Expr}
noncomputable def iList (K : PySem.W.Frag) (tl : TE) : TI := fun σ H R => tl σ H fun x H1 => ∃ a, x = .ref a ∧ (∃ xs, SqL K H1 a xs) ∧ R (Itl K a) H1
theorem pi_list {l : Expr} {tl : TE} (hl : PE X l tl) : PI X tg l (iList X.K tl) := by
  intro pins s σ H R I h
  refine thn (hl pins s σ H _ I h) fun v s1 ⟨x, H1, I1, r1, q1⟩ => ?_
  obtain ⟨a, e, ⟨xs, hq⟩, q⟩ := q1
  subst e
  cases r1
  obtain ⟨its, rv, p, hz⟩ := I1.list hq
  refine wpAny_pyIter_list p.isList ?_
  refine ⟨s1.heap.objs.size, [s1.heap.objs.size], _, _, H1, rfl, I1.kept (t' := s1.toks) fun b o e => Heap.get?_push_of_some _ e, turn_list a _, ⟨_, Heap.get?_push_size _ rfl, rfl, rfl⟩, fun b hb => ?_, q⟩
  have e : b = s1.heap.objs.size := by simpa using hb
  subst e
  exact I1.fpOk (Nat.le_refl _) (I1.hok.fresh (Nat.le_refl _))
theorem range_it {pins : List (Addr × Obj)} {σ : St} {H : Hp} {s : Shared} {R : It → Hp → Prop} {E : Value → Shared → Prop} {lo hi : Int} {t u v : Tok} {tk : Nat} (I : Inv X pins σ H s) (h1 : -(2 ^ 62) ≤ lo) (h2 : lo < 2 ^ 62) (h3 : -(2 ^ 62) ≤ hi) (h4 : hi < 2 ^ 62)
    (q : R (Itr lo (hi - lo).toNat) H) : wpAny (model X.prog X.w) X.A (pyIter (.ref s.heap.objs.size)) (PIE X pins σ tg R) E { s with heap := s.heap.push { cls := .type "range", data := .fields #[.int lo t, .int hi u, .int 1 v] }, toks := tk } := by
  refine wpAny_pyIter_range (IsRange.new ..) (small_one h1 h2 h3 h4) ?_
  have I1 : Inv X pins σ H { s with heap := s.heap.push { cls := .type "range", data := .fields #[.int lo t, .int hi u, .int 1 v] }, toks := tk } := I.kept fun b o e => Heap.get?_push_of_some _ e
  refine ⟨(s.heap.push { cls := .type "range", data := .fields #[.int lo t, .int hi u, .int 1 v] }).objs.size, [(s.heap.push { cls := .type "range", data := .fields #[.int lo t, .int hi u, .int 1 v] }).objs.size], _, _, H, rfl,
    I1.kept (t' := tk) fun b o e => Heap.get?_push_of_some _ e, turn_range _ lo (hi - lo).toNat, ?_, fun b hb => ?_, q⟩
  · have e1 : lo + ((0 : Nat) : Int) * 1 = lo := by simp
    have e2 : (((hi - lo).toNat : Nat) : Int) - ((0 : Nat) : Int) = Builtin.Range.rangeSize lo hi 1 := by rw [rangeSize_one]; split <;> omega
    show IsRangeIter _ _ (lo + ((0 : Nat) : Int) * 1) ((((hi - lo).toNat : Nat) : Int) - ((0 : Nat) : Int)) 1
    rw [e1, e2]
    exact Heap.get?_push_size _ rfl
  · have e : b = (s.heap.push { cls := .type "range", data := .fields #[.int lo t, .int hi u, .int 1 v] }).objs.size := by simpa using hb
    subst e
    exact I1.fpOk (Nat.le_refl _) (I1.hok.fresh (Nat.le_refl _))
noncomputable def iRng1 (ta : TA) : TI := fun σ H R => ta σ H fun vs H1 => ∃ j : Int, vs = [.int j] ∧ -(2 ^ 62) ≤ j ∧ j < 2 ^ 62 ∧ R (Itr 0 j.toNat) H1
theorem pi_range1 {a : Expr} {ta : TA} {p pos : Pos} (hg : Gl X "range") (hm : X.mg "range" = none) (ha : PA X [a] ta) (hs : starEach [a] X.env = [(false, eval a X.env)] := by rfl) : PI X tg (.Call (.Name "range" p) [a] [] pos) (iRng1 ta) := by
  intro pins s σ H R I h
  refine Call_ (ld_blt I hg hm boot_range (PyProof.Rows.callWith_type1 (thn (ha pos pins s σ H _ I h) fun us s1 ⟨vs, H1, I1, r1, q1⟩ => ?_) hs rfl))
  obtain ⟨j, e, q1, q2, q⟩ := q1
  subst e
  cases r1 with
  | cons r rr =>
    cases rr
    obtain ⟨t, rfl⟩ := r
    exact call_range_1 (range_it I1 (by omega) (by omega) q1 q2 (by simpa using q))
noncomputable def tFor (wi : TI) (g : TG) (tb : TS) : TS := fun D σ H => wi σ H fun J H1 => ∃ W : Nat → Nat → St → Hp → Prop, (∃ m, W 0 m σ H1) ∧ ∀ i m σ H, W i m σ H →
  (J.stop i H ∧ D.nx σ H) ∨ (J.go i H ∧ ∃ N : St → Hp → Prop, (∀ σ' H', N σ' H' → ∃ m', m' < m ∧ W (i + 1) m' σ' H') ∧ ∀ x H', J.yld i H x H' → g x σ H' fun σ2 H2 => tb { D with nx := N, ct := N, bk := D.nx } σ2 H2)
noncomputable def pinsAt (fp : List Addr) (h : Heap) : List (Addr × Obj) := fp.filterMap fun b => (h.get? b).map fun o => (b, o)
theorem mem_pinsAt {fp : List Addr} {h : Heap} {b : Addr} {o : Obj} (hb : b ∈ fp) (e : h.get? b = some o) : (b, o) ∈ pinsAt fp h := List.mem_filterMap.mpr ⟨b, hb, by rw [e]; rfl⟩
theorem of_pinsAt {fp : List Addr} {h : Heap} {p : Addr × Obj} (hp : p ∈ pinsAt fp h) : p.1 ∈ fp ∧ h.get? p.1 = some p.2 := by
  obtain ⟨b, hb, e⟩ := List.mem_filterMap.mp hp
  cases q : h.get? b with
  | none => rw [q] at e; cases e
  | some o =>
    rw [q] at e
    have e' : (b, o) = p := Option.some.inj e
    subst e'
    exact ⟨hb, q⟩
theorem Inv.pinned {pins : List (Addr × Obj)} {σ : St} {H : Hp} {s : Shared} {fp : List Addr} (I : Inv X pins σ H s) (hf : ∀ b ∈ fp, FpOk X pins H b) (ho : ∀ b ∈ fp, ∃ o, s.heap.get? b = some o ∧ ∀ v, o.data ≠ .cell v) : Inv X (pins ++ pinsAt fp s.heap) σ H s :=
  I.pins_of fun p hp => (List.mem_append.mp hp).elim (fun z => I.pin p (List.mem_append_right _ z)) fun z => by
    obtain ⟨hb, e⟩ := of_pinsAt z
    obtain ⟨f0, f1, f2, _⟩ := hf p.1 hb
    obtain ⟨o, e', d⟩ := ho p.1 hb
    rw [e] at e'; cases e'
    exact ⟨e, f0, f1, f2, d⟩
theorem Inv.unpinned {pins pl : List (Addr × Obj)} {σ : St} {H : Hp} {s : Shared} (I : Inv X (pins ++ pl) σ H s) : Inv X pins σ H s := I.pins_of fun p hp => I.pin p (List.mem_append_right _ (List.mem_append_left _ hp))
theorem ps_for {iter : Expr} {body : List Stmt} {wi : TI} {g : TG} {tb : TS} {pos : Pos} (hp : PassesOwn (model X.prog X.w) X.A X.env X.xe) (hc : X.calm = true) (hi : PI X tg iter wi) (hg : PG X tg g) (hb : PSs X body tb)
    (hs : ∀ x, foldedSetIterable iter X.env x = pure x := by intro _; rfl) : PS X (.For tg iter body [] pos) (tFor wi g tb) := by
  intro pins s σ H D I h
  refine wpAny_For (thn (hi pins s σ H _ I h) fun v s1 h1 => thn h1 fun itv s2 h2 => ?_) hs
  obtain ⟨it, fp, tn, J, H2, e, I2, T, st2, f2, W, ⟨m0, w0⟩, turn⟩ := h2
  subst e
  -- what stays true of the iterator's objects through the loop
  have stat : ∀ {H' : Hp}, (∀ b ∈ fp, H' b = none) → ∀ b ∈ fp, FpOk X pins H' b := fun hn b hb => ⟨hn b hb, (f2 b hb).2⟩
  refine codeAny_forLoop_any (fun n s' => ∃ i σ' H', Inv X pins σ' H' s' ∧ tn i s'.heap ∧ (∀ b ∈ fp, H' b = none) ∧ W i n σ' H') ?_ m0 ⟨0, σ, H2, I2, st2, fun b hb => (f2 b hb).1, w0⟩
  rintro n s3 ⟨i, σ3, H3, I3, st3, fr3, w3⟩
  rcases turn i n σ3 H3 w3 with ⟨stop, qn⟩ | ⟨go, N, hN, step⟩
  · refine wpAny_passesOwn hp (thn (T.done X rfl rfl rfl hc i pins s3 σ3 H3 X.xe I3 (stat fr3) st3 stop) fun r s4 ⟨hr, I4⟩ => ?_)
    subst hr
    exact wpAny_execs_nil ⟨σ3, H3, I4, qn⟩
  · refine wpAny_passesOwn hp (thn (T.item X rfl rfl rfl hc i pins s3 σ3 H3 X.xe I3 (stat fr3) st3 go) fun r s4 ⟨u, hr, h4⟩ => ?_)
    subst hr
    refine wpAny_passesOwn hp (thn h4 fun _ s5 ⟨x, H5, I5, r5, y5, st5, fr5⟩ => ?_)
    have I5' := I5.pinned (stat fr5) (T.obj _ _ st5)
    refine wpAny_passesOwn hp (thn (hg _ s5 σ3 H5 x u _ I5' r5 (step x H5 y5)) fun _ s6 ⟨σ6, H6, I6, q6⟩ => ?_)
    refine wpAny_passesOwn hp (thn (hb _ s6 σ6 H6 _ I6 q6) fun f s7 q7 => ?_)
    have again : ∀ {σ7 : St} {H7 : Hp}, Inv X (pins ++ pinsAt fp s5.heap) σ7 H7 s7 → N σ7 H7 → ∃ m, m < n ∧ ∃ i σ' H', Inv X pins σ' H' s7 ∧ tn i s7.heap ∧ (∀ b ∈ fp, H' b = none) ∧ W i m σ' H' := fun {σ7 H7} I7 n7 => by
      obtain ⟨m', hm, w7⟩ := hN σ7 H7 n7
      refine ⟨m', hm, i + 1, σ7, H7, I7.unpinned, T.keep _ _ _ st5 fun b hb o e => (I7.pin (b, o) (List.mem_append_right _ (List.mem_append_right _ (mem_pinsAt hb e)))).1, fun b hb => ?_, w7⟩
      obtain ⟨o, e, d⟩ := T.obj _ _ st5 b hb
      exact (I7.pin (b, o) (List.mem_append_right _ (List.mem_append_right _ (mem_pinsAt hb e)))).2.1
    cases f with
    | next => obtain ⟨σ7, H7, I7, n7⟩ := q7; exact again I7 n7
    | cont => obtain ⟨σ7, H7, I7, n7⟩ := q7; exact again I7 n7
    | brk => obtain ⟨σ7, H7, I7, q7⟩ := q7; exact ⟨σ7, H7, I7.unpinned, q7⟩
    | ret v => obtain ⟨x7, σ7, H7, I7, r7, q7⟩ := q7; exact ⟨x7, σ7, H7, I7.unpinned, r7, q7⟩
end

theorem for_list {K : PySem.W.Frag} {a : Addr} {xs : List V} {g : TG} {tb : TS} {D : Ends} {σ : St} {H : Hp} (Pv : Nat → St → Hp → Prop) (h0 : Pv 0 σ H) (hl : ∀ i σ H, i ≤ xs.length → Pv i σ H → SqL K H a xs)
    (hs : ∀ i x σ H, xs[i]? = some x → Pv i σ H → g x σ H fun σ2 H2 => tb { D with nx := Pv (i + 1), ct := Pv (i + 1), bk := D.nx } σ2 H2) (hd : ∀ σ H, Pv xs.length σ H → D.nx σ H) :
    ∃ W : Nat → Nat → St → Hp → Prop, (∃ m, W 0 m σ H) ∧ ∀ i m σ H, W i m σ H →
      ((Itl K a).stop i H ∧ D.nx σ H) ∨ ((Itl K a).go i H ∧ ∃ N : St → Hp → Prop, (∀ σ' H', N σ' H' → ∃ m', m' < m ∧ W (i + 1) m' σ' H') ∧ ∀ x H', (Itl K a).yld i H x H' → g x σ H' fun σ2 H2 => tb { D with nx := N, ct := N, bk := D.nx } σ2 H2) := by
  refine ⟨fun i m σ H => m = xs.length - i ∧ i ≤ xs.length ∧ Pv i σ H, ⟨xs.length, by simp, Nat.zero_le _, h0⟩, ?_⟩
  rintro i m σ H ⟨rfl, hi, p⟩
  have q := hl i σ H hi p
  by_cases hlt : i < xs.length
  · refine .inr ⟨⟨xs, xs[i], q, by simp [hlt]⟩, Pv (i + 1), fun σ' H' p' => ⟨xs.length - (i + 1), by omega, rfl, hlt, p'⟩, fun x H' y => ?_⟩
    obtain ⟨e, y⟩ := y
    subst e
    exact hs i x σ _ (y xs q) p
  · have e : i = xs.length := by omega
    subst e
    exact .inl ⟨⟨xs, q, Nat.le_refl _⟩, hd σ H p⟩
theorem for_range {lo : Int} {n : Nat} {g : TG} {tb : TS} {D : Ends} {σ : St} {H : Hp} (Pv : Nat → St → Hp → Prop) (h0 : Pv 0 σ H)
    (hs : ∀ i σ H, i < n → Pv i σ H → g (.int (lo + i)) σ H fun σ2 H2 => tb { D with nx := Pv (i + 1), ct := Pv (i + 1), bk := D.nx } σ2 H2) (hd : ∀ σ H, Pv n σ H → D.nx σ H) :
    ∃ W : Nat → Nat → St → Hp → Prop, (∃ m, W 0 m σ H) ∧ ∀ i m σ H, W i m σ H →
      ((Itr lo n).stop i H ∧ D.nx σ H) ∨ ((Itr lo n).go i H ∧ ∃ N : St → Hp → Prop, (∀ σ' H', N σ' H' → ∃ m', m' < m ∧ W (i + 1) m' σ' H') ∧ ∀ x H', (Itr lo n).yld i H x H' → g x σ H' fun σ2 H2 => tb { D with nx := N, ct := N, bk := D.nx } σ2 H2) := by
  refine ⟨fun i m σ H => m = n - i ∧ i ≤ n ∧ Pv i σ H, ⟨n, by simp, Nat.zero_le _, h0⟩, ?_⟩
  rintro i m σ H ⟨rfl, hi, p⟩
  by_cases hlt : i < n
  · refine .inr ⟨hlt, Pv (i + 1), fun σ' H' p' => ⟨n - (i + 1), by omega, rfl, hlt, p'⟩, fun x H' y => ?_⟩
    obtain ⟨e, y⟩ := y
    subst e y
    exact hs i σ _ hlt p
  · have e : i = n := by omega
    subst e
    exact .inl ⟨Nat.le_refl _, hd σ H p⟩
end L2

namespace L2
open PySem PySem.Spec PyProof.Rows

noncomputable abbrev R2 := V → V → Hp → VK → Prop
noncomputable def OpR (X : Cx) (f : Value → Value → Sem Value) (r : R2) : Prop :=
  ∀ (pins : List (Addr × Obj)) (s : Shared) (σ : St) (H : Hp) (x y : V) (v u : Value) (Q : VK), Inv X pins σ H s → RelV x v → RelV y u → r x y H Q →
    wpAny (model X.prog X.w) X.A (f v u) (EP X pins σ Q) X.xe s
noncomputable def UnR (X : Cx) (f : Value → Sem Value) (r : V → Hp → VK → Prop) : Prop :=
  ∀ (pins : List (Addr × Obj)) (s : Shared) (σ : St) (H : Hp) (x : V) (v : Value) (Q : VK), Inv X pins σ H s → RelV x v → r x H Q →
    wpAny (model X.prog X.w) X.A (f v) (EP X pins σ Q) X.xe s
noncomputable def CallR (X : Cx) (f : Value) (r : List V → Hp → VK → Prop) : Prop :=
  ∀ (pins : List (Addr × Obj)) (s : Shared) (σ : St) (H : Hp) (xs : List V) (us : List Value) (Q : VK), Inv X pins σ H s → Vals xs us → r xs H Q →
    wpAny (model X.prog X.w) X.A (call f us) (EP X pins σ Q) X.xe s
noncomputable def tOp (r : R2) (ta tb : TE) : TE := fun σ H Q => ta σ H fun x H1 => tb σ H1 fun y H2 => r x y H2 Q
noncomputable def tUn (r : V → Hp → VK → Prop) (ta : TE) : TE := fun σ H Q => ta σ H fun x H1 => r x H1 Q
noncomputable def rI (C : Int → Int → Prop) (g : Int → Int → V) : R2 := fun x y H Q => ∃ i j, x = .int i ∧ y = .int j ∧ C i j ∧ Q (g i j) H
noncomputable def rI0 (g : Int → Int → V) : R2 := fun x y H Q => ∃ i j, x = .int i ∧ y = .int j ∧ Q (g i j) H
noncomputable def rU (g : Int → V) : V → Hp → VK → Prop := fun x H Q => ∃ i, x = .int i ∧ Q (g i) H

section
variable {X : Cx} {a b c : Expr} {ta tb tc : TE} {pos : Pos}

theorem binT (ha : PE X a ta) (hb : PE X b tb) {pins : List (Addr × Obj)} {s : Shared} {σ : St} {H : Hp} {R : V → V → Hp → Prop} (I : Inv X pins σ H s)
    (h : ta σ H fun x H1 => tb σ H1 fun y H2 => R x y H2) {Q : Value → Shared → Prop} {f : Value → Value → Sem Value}
    (hf : ∀ v u s2 x y H2, Inv X pins σ H2 s2 → RelV x v → RelV y u → R x y H2 → wpAny (model X.prog X.w) X.A (f v u) Q X.xe s2) :
    wpAny (model X.prog X.w) X.A (eval a X.env) (fun v s₁ => wpAny (model X.prog X.w) X.A (eval b X.env) (fun u s₂ => wpAny (model X.prog X.w) X.A (f v u) Q X.xe s₂) X.xe s₁) X.xe s := by
  refine thn (ha pins s σ H _ I h) fun v s1 ⟨x, H1, I1, r1, q1⟩ => ?_
  refine thn (hb pins s1 σ H1 _ I1 q1) fun u s2 ⟨y, H2, I2, r2, q2⟩ => ?_
  exact hf v u s2 x y H2 I2 r1 r2 q2

theorem pe_op {op : Operator} {r : R2} (ho : OpR X (binaryOp op) r) (ha : PE X a ta) (hb : PE X b tb) : PE X (.BinOp a op b pos) (tOp r ta tb) := by
  intro pins s σ H Q I h
  exact wpAny_BinOp (binT ha hb I h fun v u s2 x y H2 I2 rx ry q => ho pins s2 σ H2 x y v u Q I2 rx ry q)
theorem pe_un {op : UnaryOp} {r : V → Hp → VK → Prop} (ho : UnR X (unaryOp op) r) (ha : PE X a ta) : PE X (.UnaryOp op a pos) (tUn r ta) := by
  intro pins s σ H Q I h
  exact UnaryOp_ (thn (ha pins s σ H _ I h) fun v s1 ⟨x, H1, I1, r1, q1⟩ => ho pins s1 σ H1 x v Q I1 r1 q1)
theorem opI {f : Value → Value → Sem Value} {C : Int → Int → Prop} {g : Int → Int → Int}
    (rule : ∀ (i j : Int) (t u : Tok) (s : Shared) (Q : Value → Shared → Prop) (E : Value → Shared → Prop), C i j → Q (.int (g i j) s.toks) { s with toks := s.toks + 1 } → wpAny (model X.prog X.w) X.A (f (.int i t) (.int j u)) Q E s) :
    OpR X f (rI C fun i j => .int (g i j)) := by
  intro pins s σ H x y v u Q I rx ry h
  obtain ⟨i, j, rfl, rfl, hc, q⟩ := h
  obtain ⟨t, rfl⟩ := rx
  obtain ⟨t', rfl⟩ := ry
  exact rule i j t t' s _ _ hc ⟨.int (g i j), H, I.tok _, ⟨_, rfl⟩, q⟩
theorem opI0 {f : Value → Value → Sem Value} {g : Int → Int → Int}
    (rule : ∀ (i j : Int) (t u : Tok) (s : Shared) (Q : Value → Shared → Prop) (E : Value → Shared → Prop), Q (.int (g i j) s.toks) { s with toks := s.toks + 1 } → wpAny (model X.prog X.w) X.A (f (.int i t) (.int j u)) Q E s) :
    OpR X f (rI0 fun i j => .int (g i j)) := by
  intro pins s σ H x y v u Q I rx ry h
  obtain ⟨i, j, rfl, rfl, q⟩ := h
  obtain ⟨t, rfl⟩ := rx
  obtain ⟨t', rfl⟩ := ry
  exact rule i j t t' s _ _ ⟨.int (g i j), H, I.tok _, ⟨_, rfl⟩, q⟩
theorem opB0 {f : Value → Value → Sem Value} {g : Int → Int → Bool}
    (rule : ∀ (i j : Int) (t u : Tok) (s : Shared) (Q : Value → Shared → Prop) (E : Value → Shared → Prop), Q (.bool (g i j)) s → wpAny (model X.prog X.w) X.A (f (.int i t) (.int j u)) Q E s) :
    OpR X f (rI0 fun i j => .bl (g i j)) := by
  intro pins s σ H x y v u Q I rx ry h
  obtain ⟨i, j, rfl, rfl, q⟩ := h
  obtain ⟨t, rfl⟩ := rx
  obtain ⟨t', rfl⟩ := ry
  exact rule i j t t' s _ _ ⟨.bl (g i j), H, I, rfl, q⟩

noncomputable def CDiv (i j : Int) : Prop := 0 < j ∧ j < 1073741824
noncomputable def CPow (i j : Int) : Prop := 0 ≤ j ∧ j ≤ 1000000 ∧ i.natAbs < 2 ^ 64
theorem op_add : OpR X (binaryOp .Add) (rI0 fun i j => .int (i + j)) := opI0 fun _ _ _ _ _ _ _ q => add_int q
theorem op_sub : OpR X (binaryOp .Sub) (rI0 fun i j => .int (i - j)) := opI0 fun _ _ _ _ _ _ _ q => sub_int q
theorem op_fdiv : OpR X (binaryOp .FloorDiv) (rI CDiv fun i j => .int (i / j)) := opI fun i j _ _ _ _ _ hc q => by
  have h1 : (0 : Int) < j := hc.1
  have h2 : j < 1073741824 := hc.2
  exact floordiv_int (by omega) (by rw [Int.fdiv_eq_ediv_of_nonneg i (by omega)]; exact q) (.inl (PyProof.noPylong_small (by omega)))
theorem op_mod : OpR X (binaryOp .Mod) (rI (fun _ j => 0 < j) fun i j => .int (i % j)) := opI fun i j _ _ _ _ _ hc q => by
  have h1 : (0 : Int) < j := hc
  exact mod_int' (by omega) (by rw [Int.fmod_eq_emod_of_nonneg i (by omega)]; exact q)
theorem op_pow : OpR X (binaryOp .Pow) (rI CPow fun i j => .int (i ^ j.toNat)) := opI fun _ _ _ _ _ _ _ hc q => pow_int_small hc.1 hc.2.1 hc.2.2 q
theorem unI {f : Value → Sem Value} {g : Int → Int}
    (rule : ∀ (i : Int) (t : Tok) (s : Shared) (Q : Value → Shared → Prop) (E : Value → Shared → Prop), Q (.int (g i) s.toks) { s with toks := s.toks + 1 } → wpAny (model X.prog X.w) X.A (f (.int i t)) Q E s) :
    UnR X f (rU fun i => .int (g i)) := by
  intro pins s σ H x v Q I rx h
  obtain ⟨i, rfl, q⟩ := h
  obtain ⟨t, rfl⟩ := rx
  exact rule i t s _ _ ⟨.int (g i), H, I.tok _, ⟨_, rfl⟩, q⟩
theorem un_neg : UnR X (unaryOp .USub) (rU fun i => .int (-i)) := unI fun _ _ _ _ _ q => neg_int q
end

noncomputable def scal : V → V → Bool
  | .non, .non => true | .non, .int _ => true | .int _, .non => true | .non, .bl _ => true | .bl _, .non => true | .non, .str _ => true | .str _, .non => true
  | .int _, .int _ => true | .bl _, .bl _ => true | .str _, .str _ => true | .byt _, .byt _ => true
  | .int _, .str _ => true | .str _, .int _ => true | .bl _, .str _ => true | .str _, .bl _ => true
  | _, _ => false
noncomputable def rEq : R2 := fun x y H Q => scal x y = true ∧ Q (.bl (decide (x = y))) H
theorem dec_int {i j : Int} : decide (V.int i = V.int j) = (i == j) := by
  rw [Bool.eq_iff_iff]
  simp
theorem dec_bl {i j : Bool} : decide (V.bl i = V.bl j) = (i == j) := by
  rw [Bool.eq_iff_iff]
  simp
theorem dec_str {i j : Str} : decide (V.str i = V.str j) = (i == j) := by
  rw [Bool.eq_iff_iff]
  simp
theorem dec_byt {i j : Array UInt8} : decide (V.byt i = V.byt j) = (i.toList == j.toList) := by
  rw [Bool.eq_iff_iff]
  cases i
  cases j
  simp

section
variable {X : Cx} {a b c : Expr} {ta tb tc : TE} {pos : Pos}
theorem fin_bl {pins : List (Addr × Obj)} {σ : St} {H : Hp} {s : Shared} {Q : VK} {k k' : Bool} (I : Inv X pins σ H s) (q : Q (.bl k) H) (e : k = k') : EP X pins σ Q (.bool k') s := by
  subst e
  exact ⟨.bl k, H, I, rfl, q⟩
theorem op_eq : OpR X (compareOp .Eq) rEq := by
  intro pins s σ H x y v u Q I rx ry h
  obtain ⟨hs, q⟩ := h
  cases x with
  | non =>
    cases rx
    cases y with
    | non => cases ry; exact PySem.EqNone.eq_none_none (fin_bl I q (by simp))
    | bl j => cases ry; exact PySem.EqNone.eq_none_bool (fin_bl I q (by simp))
    | int j => obtain ⟨t', rfl⟩ := ry; exact PySem.EqNone.eq_none_int (fin_bl I q (by simp))
    | str j => obtain ⟨t', rfl⟩ := ry; exact PySem.EqNone.eq_none_str (fin_bl I q (by simp))
    | _ => exact absurd (show false = true from hs) Bool.false_ne_true
  | bl i =>
    cases rx
    cases y with
    | non => cases ry; exact PySem.EqNone.eq_bool_none (fin_bl I q (by simp))
    | bl j => cases ry; exact eq_bool (fin_bl I q dec_bl)
    | str j => obtain ⟨t', rfl⟩ := ry; exact PySem.EqMixed.eq_bool_str (fin_bl I q (by simp))
    | _ => exact absurd (show false = true from hs) Bool.false_ne_true
  | int i =>
    obtain ⟨t, rfl⟩ := rx
    cases y with
    | non => cases ry; exact PySem.EqNone.eq_int_none (fin_bl I q (by simp))
    | int j => obtain ⟨t', rfl⟩ := ry; exact eq_int (fin_bl I q dec_int)
    | str j => obtain ⟨t', rfl⟩ := ry; exact PySem.EqMixed.eq_int_str (fin_bl I q (by simp))
    | _ => exact absurd (show false = true from hs) Bool.false_ne_true
  | str i =>
    obtain ⟨t, rfl⟩ := rx
    cases y with
    | non => cases ry; exact PySem.EqNone.eq_str_none (fin_bl I q (by simp))
    | bl j => cases ry; exact PySem.EqMixed.eq_str_bool (fin_bl I q (by simp))
    | int j => obtain ⟨t', rfl⟩ := ry; exact PySem.EqMixed.eq_str_int (fin_bl I q (by simp))
    | str j => obtain ⟨t', rfl⟩ := ry; exact eq_str (fin_bl I q dec_str)
    | _ => exact absurd (show false = true from hs) Bool.false_ne_true
  | byt i =>
    obtain ⟨t, rfl⟩ := rx
    cases y with
    | byt j => obtain ⟨t', rfl⟩ := ry; exact PySem.W.eq_bytes (fin_bl I q dec_byt)
    | _ => exact absurd (show false = true from hs) Bool.false_ne_true
  | _ => cases y <;> exact absurd (show false = true from hs) Bool.false_ne_true
theorem op_lt : OpR X (compareOp .Lt) (rI0 fun i j => .bl (decide (i < j))) := opB0 fun _ _ _ _ _ _ _ q => lt_int q
theorem op_le : OpR X (compareOp .LtE) (rI0 fun i j => .bl (decide (i ≤ j))) := opB0 fun _ _ _ _ _ _ _ q => le_int q
theorem op_gt : OpR X (compareOp .Gt) (rI0 fun i j => .bl (decide (j < i))) := opB0 fun _ _ _ _ _ _ _ q => gt_int q
theorem nomark (b : Expr) {op : CmpOp} (h : op ≠ .In := by decide) (h2 : op ≠ .NotIn := by decide) : behindInMarks op b = false := by
  have e1 : (op == CmpOp.In) = false := by cases op <;> first | rfl | exact absurd rfl h
  have e2 : (op == CmpOp.NotIn) = false := by cases op <;> first | rfl | exact absurd rfl h2
  cases b <;> simp [behindInMarks, e1, e2]
theorem pe_cmpR {op : CmpOp} {r : R2} (ho : OpR X (compareOp op) r) (ha : PE X a ta) (hb : PE X b tb) (hm : behindInMarks op b = false) : PE X (.Compare a [op] [b] pos) (tOp r ta tb) := by
  intro pins s σ H Q I h
  exact wpAny_Compare1 (binT ha hb I h fun v u s2 x y H2 I2 rx ry q => ho pins s2 σ H2 x y v u Q I2 rx ry q) hm
noncomputable def tTest (t : TE) : TT := fun σ H Q => t σ H fun x H' => ∃ k, x = .bl k ∧ Q k H'
theorem pt_cmpR {op : CmpOp} {r : R2} (ho : OpR X (compareOp op) r) (ha : PE X a ta) (hb : PE X b tb) (hm : behindInMarks op b = false) : PT X (.Compare a [op] [b] pos) (tTest (tOp r ta tb)) := by
  intro pins s σ H Q I h
  refine wpAny_isTrue_Compare1 (thn (ha pins s σ H _ I h) fun v s1 ⟨x, H1, I1, r1, q1⟩ => thn (hb pins s1 σ H1 _ I1 q1) fun u s2 ⟨y, H2, I2, r2, q2⟩ =>
    thn (ho pins s2 σ H2 x y v u _ I2 r1 r2 q2) fun c s3 ⟨z, H3, I3, r3, k, e, q3⟩ => ?_) hm
  subst e
  cases r3
  exact wpAny_truthy_bool ⟨H3, I3, q3⟩
theorem line63 : (sizeLine : Nat) < 2 ^ 63 := by rw [sizeLine_eq]; decide
theorem vals1 {x : V} {us : List Value} (r : Vals [x] us) : ∃ u, us = [u] ∧ RelV x u := by
  cases r with
  | cons r1 r2 => cases r2; exact ⟨_, rfl, r1⟩
theorem vals2 {x y : V} {us : List Value} (r : Vals [x, y] us) : ∃ u w', us = [u, w'] ∧ RelV x u ∧ RelV y w' := by
  cases r with
  | cons r1 r2 =>
    cases r2 with
    | cons r3 r4 => cases r4; exact ⟨_, _, rfl, r1, r3⟩
theorem call_abs : CallR X (.builtin "abs") (fun xs H Q => ∃ i, xs = [.int i] ∧ Q (.int (if i < 0 then -i else i)) H) := by
  intro pins s σ H xs us Q I r h
  obtain ⟨i, rfl, q⟩ := h
  obtain ⟨u, rfl, t, rfl⟩ := vals1 r
  exact call_abs_int fun u tk => ⟨.int (if i < 0 then -i else i), H, I.tok _, ⟨_, rfl⟩, q⟩
end
end L2

namespace L2
open PySem PySem.Spec PyProof.Rows

structure ObjM (h : Heap) (x dx C : Addr) (mA : Str → Option Value) : Prop where
  obj : h.get? x = some (PySem.W.instObj C dx)
  ns : h.Ns1 dx mA
  ne : dx ≠ x

theorem lookIn_ns {h : Heap} {dx : Addr} {mA : Str → Option Value} (n : h.Ns1 dx mA) : ∃ od, h.get? dx = some od ∧ ∀ name, PySem.W.lookIn name od = some (mA name) := by
  obtain ⟨o, es, ep, ho, hd, hk, _, hm⟩ := n
  refine ⟨o, ho, fun name => ?_⟩
  have e := hm name
  unfold nsFind findBy at e
  rw [← Array.find?_toList] at e
  unfold PySem.W.lookIn
  rw [hd]
  dsimp only
  split
  · rename_i y q
    rw [q] at e
    exact congrArg some e
  · rename_i q
    rw [q] at e
    have a : es.toList.any (·.refKey) = false := by
      rw [List.any_eq_false]
      intro y hy
      obtain ⟨z, t, hkey⟩ := hk y (Array.mem_toList_iff.mp hy)
      simp [DictEntry.refKey, hkey]
    have a' : ¬ es.toList.any (·.refKey) = true := by rw [a]; exact Bool.false_ne_true
    rw [if_neg a']
    exact congrArg some e

theorem ObjM.look {h : Heap} {x dx C : Addr} {mA : Str → Option Value} (I : ObjM h x dx C mA) : ∃ od, PySem.W.InstAt h x (PySem.W.instObj C dx) C (some od) ∧ ∀ name, PySem.W.lookIn name od = some (mA name) :=
  let ⟨od, ho, hl⟩ := lookIn_ns I.ns
  ⟨od, ⟨I.obj, rfl, rfl, ho⟩, hl⟩

section
variable {prog : Program} {w : World} {A : Around} {E : Value → Shared → Prop} {s : Shared} {K : PySem.W.Frag} {x dx C f : Addr} {mA : Str → Option Value} {name : Str} {v : Value}

theorem get_map {expr : Bool} {Q : Value → Shared → Prop} (X : K.In s.heap) (I : ObjM s.heap x dx C mA) (hg : PySem.W.plainGet K C name = true) (hh : PySem.W.hasDictIn K C = true)
    (ha : PySem.W.findIn K (.ref C) name = some none) (hv : mA name = some v) (hv' : PySem.W.handedIn v = true) (h : Q v { s with toks := s.toks + 1 }) :
    wpAny (model prog w) A (getAttr (.ref x) name expr) Q E s := by
  obtain ⟨od, J, hl⟩ := I.look
  exact PySem.W.get_value X J (PySem.W.plainGet_of hg).1 (PySem.W.findObj_own hh ha rfl (by rw [hl, hv])) hv' h

theorem set_map {ns : List Str} {Q : Unit → Shared → Prop} (X : K.In s.heap) (I : ObjM s.heap x dx C mA)
    (hs : PySem.W.findIn K (.ref C) "__setattr__" = some (some (.builtin "object.__setattr__"))) (hp : PySem.W.plainOver K C = true) (ht : PySem.W.takerIn K C name = some none) (hh : PySem.W.hasDictIn K C = true)
    (hw : PySem.Within mA ns) (hsz : ns.length ≤ sizeLine)
    (h : ∀ h', ObjM h' x dx C (fun y => if y = name then some v else mA y) → Heap.SameBut dx s.heap h' → Q () { s with heap := h', toks := s.toks + 2 }) :
    wpAny (model prog w) A (setAttr (.ref x) name v) Q E s := by
  obtain ⟨od, J, hl⟩ := I.look
  refine PySem.W.set_plain X J hs (PySem.W.osa_open (s := { s with toks := s.toks + 1 }) (r := none) X J hp ht fun b => ?_)
  obtain ⟨cd, hc, hd'⟩ := PySem.W.any_some hh
  have hx : s.heap.get? x = some ⟨.ref C, some dx, .plain, #[]⟩ := I.obj
  refine wpAny_bind (wpAny_pure (wpAny_bind (wpAny_bind (wpAny_loadPart hx (wpAny_bind (PySem.W.Looks.here (s := { s with toks := s.toks + 1 }) (PySem.W.looks_clsIn X hc) ?_))))))
  rw [hd']
  refine wpAny_pure (a := some dx) (wpAny_bind (wpAny_pure (wpAny_bind ?_)))
  refine wpAny_nsSet1 (s := { s with toks := s.toks + 1 }) I.ns fun h' hn2 hs2 => ?_
  obtain ⟨oD, esD, epD, hoD, hdD, hcD⟩ := hn2.count (PySem.Within.cons name v hw)
  refine wpAny_bind (wpAny_lookBehind hoD (by rw [hdD]; exact pastItsLine_dict (Nat.le_trans hcD (by rw [List.length_cons]; omega))) ?_)
  exact wpAny_pure (h _ ⟨(hs2.2 _ (Ne.symm I.ne)).trans I.obj, hn2, I.ne⟩ hs2)

theorem make_map {R : Result → Shared → Prop} {vs : List Value} {kw : List (Str × Value)} (X : K.In s.heap) (hm : PySem.W.makesIn K C = true)
    (hi : PySem.W.findIn K (.ref C) "__init__" = some (some (.ref f))) (hf : PySem.W.typeIn K (.ref f) = some (.type "function"))
    (h : codeAny (model prog w) (A.under (.builtin "type.__call__" ⟨.ref C :: vs, kw⟩)) (.call (.ref f) ⟨.ref (s.heap.objs.size + 1) :: vs, kw⟩) (PySem.W.InitBack (s.heap.objs.size + 1) R)
      { s with heap := (s.heap.push PySem.W.emptyDict).push (PySem.W.instObj C s.heap.objs.size) }) :
    codeAny (model prog w) A (.call (.ref C) ⟨vs, kw⟩) R s := by
  obtain ⟨hh, g, d, t, os⟩ := s
  exact PySem.W.make_core (PySem.W.makes_of X hm) (PySem.W.looks_findIn X hi) (fun self => PySem.W.bind_fn X self hf) (.inl rfl) h
end

noncomputable def putF (f : Str) (v : V) : List (Str × V) → List (Str × V)
  | [] => [(f, v)]
  | (g, x) :: r => if g = f then (g, v) :: r else (g, x) :: putF f v r
theorem lookup_putF (f g : Str) (v : V) : ∀ fs : List (Str × V), (putF f v fs).lookup g = if g = f then some v else fs.lookup g
  | [] => by
    show List.lookup g [(f, v)] = _
    by_cases h : g = f
    · have hb : (g == f) = true := beq_iff_eq.mpr h
      simp only [List.lookup, hb, if_pos h]
    · have hb : (g == f) = false := beq_eq_false_iff_ne.mpr h
      simp only [List.lookup, hb, if_neg h]
  | (k, x) :: r => by
    have ih := lookup_putF f g v r
    rw [show putF f v ((k, x) :: r) = (if k = f then (k, v) :: r else (k, x) :: putF f v r) from rfl]
    by_cases hk : k = f
    · rw [if_pos hk]
      by_cases h : g = k
      · have hb : (g == k) = true := beq_iff_eq.mpr h
        simp only [List.lookup, hb, if_pos (h.trans hk)]
      · have hb : (g == k) = false := beq_eq_false_iff_ne.mpr h
        simp only [List.lookup, hb, if_neg (fun e : g = f => h (e.trans hk.symm))]
    · rw [if_neg hk]
      by_cases h : g = k
      · have hb : (g == k) = true := beq_iff_eq.mpr h
        simp only [List.lookup, hb, if_neg (fun e : g = f => hk (h.symm.trans e))]
      · have hb : (g == k) = false := beq_eq_false_iff_ne.mpr h
        simp only [List.lookup, hb]
        exact ih
theorem keys_putF (f : Str) (v : V) : ∀ fs : List (Str × V), f ∈ (putF f v fs).map (·.1) ∧ ∀ g, g ∈ fs.map (·.1) → g ∈ (putF f v fs).map (·.1)
  | [] => ⟨by simp [putF], fun g h => by simp at h⟩
  | (k, x) :: r => by
    obtain ⟨i1, i2⟩ := keys_putF f v r
    rw [show putF f v ((k, x) :: r) = (if k = f then (k, v) :: r else (k, x) :: putF f v r) from rfl]
    by_cases hk : k = f
    · rw [if_pos hk]
      subst hk
      exact ⟨by simp, fun g h => by simpa using h⟩
    · rw [if_neg hk]
      refine ⟨?_, fun g h => ?_⟩
      · rw [List.map_cons]
        exact List.mem_cons_of_mem _ i1
      · rw [List.map_cons] at h ⊢
        rcases List.mem_cons.mp h with e | e
        · exact List.mem_cons.mpr (.inl e)
        · exact List.mem_cons_of_mem _ (i2 g e)
theorem length_putF (f : Str) (v : V) : ∀ fs : List (Str × V), (putF f v fs).length ≤ fs.length + 1
  | [] => by simp [putF]
  | (k, x) :: r => by
    have ih := length_putF f v r
    rw [show putF f v ((k, x) :: r) = (if k = f then (k, v) :: r else (k, x) :: putF f v r) from rfl]
    by_cases hk : k = f
    · rw [if_pos hk, List.length_cons, List.length_cons]; omega
    · rw [if_neg hk, List.length_cons, List.length_cons]; omega

theorem RelO.some_of {v : V} {o : Option Value} (r : RelO (some v) o) : ∃ u, o = some u ∧ RelV v u := by
  cases o with
  | none => exact (show False from r).elim
  | some u => exact ⟨u, rfl, r⟩
theorem handed_of {v : V} {u : Value} (r : RelV v u) : PySem.W.handedIn u = true := by
  cases v with
  | non => cases (show u = Value.none from r); rfl
  | bl b => cases (show u = Value.bool b from r); rfl
  | int i => obtain ⟨t, e⟩ := (show ∃ t, u = Value.int i t from r); cases e; rfl
  | str x => obtain ⟨t, e⟩ := (show ∃ t, u = Value.str x t from r); cases e; rfl
  | byt b => obtain ⟨t, e⟩ := (show ∃ t, u = Value.bytes b t from r); cases e; rfl
  | flt b => obtain ⟨t, e⟩ := (show ∃ t, u = Value.float b t from r); cases e; rfl
  | ref a => cases (show u = Value.ref a from r); rfl
  | ty n => cases (show u = Value.type n from r); rfl

section
variable {P : Program} {w : World} {H H' : Hp} {h h' : Heap} {a C dx : Addr} {fs fs' : List (Str × V)}
theorem ins_get (hok : HOk P w H h) (e : H a = some (.ins C dx fs)) : ∃ mA, ObjM h a dx C mA ∧ (∀ f, RelO (fs.lookup f) (mA f)) ∧ PySem.Within mA (fs.map (·.1)) ∧ fs.length ≤ 1000 ∧ H dx = some (.own a) := by
  obtain ⟨d, z, ne, ob, mA, n, r, q⟩ := (show ObjOk P w H h a (.ins C dx fs) from hok a _ e)
  exact ⟨mA, ⟨ob, n, ne⟩, r, q, z, d⟩
end

structure Cls (K : PySem.W.Frag) (C : Addr) : Prop where
  pg : PySem.W.plainGet K C Str.empty = true
  hd : PySem.W.hasDictIn K C = true
  po : PySem.W.plainOver K C = true
  sa : PySem.W.findIn K (.ref C) "__setattr__" = some (some (.builtin "object.__setattr__"))
theorem Cls.get {K : PySem.W.Frag} {C : Addr} (c : Cls K C) (f : Str) : PySem.W.plainGet K C f = true := c.pg
noncomputable def NoAttr (K : PySem.W.Frag) (C : Addr) (f : Str) : Prop := PySem.W.findIn K (.ref C) f = some none
theorem NoAttr.taker {K : PySem.W.Frag} {C : Addr} {f : Str} (n : NoAttr K C f) : PySem.W.takerIn K C f = some none := by
  unfold PySem.W.takerIn
  rw [show PySem.W.findIn K (.ref C) f = some none from n]
  rfl
section
variable {X : Cx} {pins : List (Addr × Obj)} {σ : St} {H : Hp} {s : Shared} {a C dx : Addr} {fs : List (Str × V)} {f : Str} {v : V} {A : Around} {E : Value → Shared → Prop}

theorem getattr_ok {b : Bool} {Q : Value → Shared → Prop} (I : Inv X pins σ H s) (e : H a = some (.ins C dx fs)) (c : Cls X.K C) (n : NoAttr X.K C f) (l : fs.lookup f = some v)
    (h : ∀ u s', Inv X pins σ H s' → RelV v u → Q u s') : wpAny (model X.prog X.w) A (getAttr (.ref a) f b) Q E s := by
  obtain ⟨mA, O, r, _, _, _⟩ := ins_get I.hok e
  obtain ⟨u, hu, ru⟩ := RelO.some_of (v := v) (o := mA f) (by rw [← l]; exact r f)
  exact get_map I.kIn O (c.get f) c.hd n hu (handed_of ru) (h u _ (I.tok _) ru)

theorem setattr_ok {y : V} {u : Value} {Q : Unit → Shared → Prop} (I : Inv X pins σ H s) (e : H a = some (.ins C dx fs)) (c : Cls X.K C) (n : NoAttr X.K C f) (hl : fs.length < 1000) (ry : RelV y u)
    (h : ∀ s', Inv X pins σ (upd H a (.ins C dx (putF f y fs))) s' → Q () s') : wpAny (model X.prog X.w) A (setAttr (.ref a) f u) Q E s := by
  obtain ⟨mA, O, r, wi, _, ho⟩ := ins_get I.hok e
  have hz : (fs.map (·.1)).length ≤ sizeLine := by rw [List.length_map, sizeLine_eq]; omega
  refine set_map I.kIn O c.sa c.po n.taker c.hd wi hz fun h' O' sb => h _ ?_
  have hd : ∃ o, h'.get? dx = some o := let ⟨o, _, _, e', _⟩ := O'.ns; ⟨o, e'⟩
  refine I.write (x := a) (e := dx) (by rw [e]; exact True.intro) (.inr ho) (fun b q hb z => (sb.2 b hb).trans z) hd ?_
  refine ⟨by rw [upd_ne O.ne]; exact ho, ?_, O.ne, O'.obj, _, O'.ns, fun g => ?_, fun g hg => ?_⟩
  · have := length_putF f y fs; omega
  · show RelO ((putF f y fs).lookup g) (if g = f then some u else mA g)
    rw [lookup_putF]
    by_cases q : g = f
    · rw [if_pos q, if_pos q]; exact ry
    · rw [if_neg q, if_neg q]; exact r g
  · by_cases q : g = f
    · rw [q]; exact (keys_putF f y fs).1
    · refine (keys_putF f y fs).2 g (wi g fun z => hg ?_)
      show (if g = f then some u else mA g) = none
      rw [if_neg q]; exact z

theorem Inv.made (I : Inv X pins σ H s) : Inv X pins σ (upd (upd H s.heap.objs.size (.own (s.heap.objs.size + 1))) (s.heap.objs.size + 1) (.ins C s.heap.objs.size []))
    { s with heap := (s.heap.push PySem.W.emptyDict).push (PySem.W.instObj C s.heap.objs.size) } := by
  have e1 : (s.heap.push PySem.W.emptyDict).get? s.heap.objs.size = some PySem.W.emptyDict := Heap.get?_push_size s.heap rfl
  have e2 : ((s.heap.push PySem.W.emptyDict).push (PySem.W.instObj C s.heap.objs.size)).get? (s.heap.objs.size + 1) = some (PySem.W.instObj C s.heap.objs.size) := by
    have := Heap.get?_push_size (s.heap.push PySem.W.emptyDict) (o := PySem.W.instObj C s.heap.objs.size) rfl
    rwa [Heap.size_push] at this
  have e3 : (s.heap.push PySem.W.emptyDict).Ns s.heap.objs.size (fun _ => none) := ⟨PySem.W.emptyDict, #[], _, e1, rfl, (fun e he => absurd he (by simp)), fun _ => rfl⟩
  have I1 := I.laid (a := s.heap.objs.size) (o := .own (s.heap.objs.size + 1)) (h' := s.heap.push PySem.W.emptyDict) (t' := s.toks) (fun b u q => Heap.get?_push_of_some _ q) (Nat.le_refl _) ⟨_, e1⟩
  refine I1.laid (a := s.heap.objs.size + 1) (o := .ins C s.heap.objs.size []) (t' := s.toks) (fun b u q => Heap.get?_push_of_some _ q) (Nat.le_of_eq (Heap.size_push _ _)) ?_
  have ne : s.heap.objs.size ≠ s.heap.objs.size + 1 := Nat.ne_of_lt (Nat.lt_succ_self _)
  refine ⟨by rw [upd_ne ne, upd_same], Nat.zero_le _, ne, e2, fun _ => none, (Heap.Ns1.of_empty e3).at fun o q => Heap.get?_push_of_some _ q, fun _ => True.intro, fun y hy => absurd rfl hy⟩

theorem attr_of {prog : Program} {w : World} {env : Env} {e : Expr} {f : Str} {pos : Pos} {s : Shared} {Q : Value → Shared → Prop} (hb : attributeBase e f env (eval e env) = eval e env)
    (h : wpAny (model prog w) A (eval e env) (fun o s₁ => wpAny (model prog w) A (getAttr o f true) Q E s₁) E s) : wpAny (model prog w) A (eval (.Attribute e f pos) env) Q E s :=
  Attribute_any_ h (by rw [arm_eval_Attribute, hb])
end

noncomputable def tFld (K : PySem.W.Frag) (ta : TE) (f : Str) : TE := fun σ H Q => ta σ H fun x H1 => ∃ a C dx fs v, x = .ref a ∧ H1 a = some (.ins C dx fs) ∧ Cls K C ∧ NoAttr K C f ∧ fs.lookup f = some v ∧ Q v H1
noncomputable def sFld (K : PySem.W.Frag) (ta tv : TE) (f : Str) : TS := fun D σ H => tv σ H fun y H1 => ta σ H1 fun x H2 => ∃ a C dx fs, x = .ref a ∧ H2 a = some (.ins C dx fs) ∧ Cls K C ∧ NoAttr K C f ∧ fs.length < 1000 ∧
  D.nx σ (upd H2 a (.ins C dx (putF f y fs)))
section
variable {X : Cx} {o e value : Expr} {f : Str} {pos pos' tpos : Pos} {ta tv : TE}
theorem pe_fld (he : PE X e ta) (hb : attributeBase e f X.env (eval e X.env) = eval e X.env) : PE X (.Attribute e f pos) (tFld X.K ta f) := by
  intro pins s σ H Q I h
  refine attr_of hb (thn (he pins s σ H _ I h) fun u s1 ⟨x, H1, I1, rx, a, C, dx, fs, v, ex, ea, c, n, l, q⟩ => ?_)
  subst ex
  obtain rfl : u = Value.ref a := rx
  exact getattr_ok I1 ea c n l fun u' s2 I2 ru => ⟨v, H1, I2, ru, q⟩
theorem ps_fld (ha : PE X o ta) (hv : PE X value tv) (hs : swapsWith value (some (.Attribute o f pos')) pos.line X.env = pure false) : PS X (.Assign [.Attribute o f pos'] value pos) (sFld X.K ta tv f) := by
  intro pins s σ H D I h
  refine plainObj_wpAny_Assign_Attribute (thn (hv pins s σ H _ I h) fun u s1 ⟨y, H1, I1, ry, q⟩ => thn (ha pins s1 σ H1 _ I1 q) fun ov s2 ⟨x, H2, I2, rx, a, C, dx, fs, ex, ea, c, n, l, q2⟩ => ?_) hs
  subst ex
  obtain rfl : ov = Value.ref a := rx
  exact setattr_ok I2 ea c n l ry fun s3 I3 => ⟨σ, _, I3, q2⟩
end

section
variable {X : Cx} {pins : List (Addr × Obj)} {σ : St} {H : Hp} {s : Shared} {A : Around} {E : Value → Shared → Prop} {Q : Value → Shared → Prop} {c : Value} {b : Bool}
inductive TyOf (K : PySem.W.Frag) (H : Hp) : V → Value → Prop where
  | non : TyOf K H .non (.type "NoneType")
  | bl (x : Bool) : TyOf K H (.bl x) (.type "bool")
  | int (i : Int) : TyOf K H (.int i) (.type "int")
  | str (x : Str) : TyOf K H (.str x) (.type "str")
  | flt (x : UInt64) : TyOf K H (.flt x) (.type "float")
  | lst {a : Addr} {xs : List V} (e : H a = some (.lst xs)) : TyOf K H (.ref a) (.type "list")
  | frz {a : Addr} {o : Obj} {xs : List V} (e : H a = some (.frz o (.lst xs))) : TyOf K H (.ref a) (.type "list")
  | tup {a : Addr} {xs : List V} (e : H a = some (.tup xs)) : TyOf K H (.ref a) (.type "tuple")
  | dK {a : Addr} {kvs : List (Key × V)} (e : H a = some (.dK kvs)) : TyOf K H (.ref a) (.type "dict")
  | dT {a : Addr} {kvs : List (List Key × V)} (e : H a = some (.dT kvs)) : TyOf K H (.ref a) (.type "dict")
  | ins {a C dx : Addr} {fs : List (Str × V)} (e : H a = some (.ins C dx fs)) (cl : Cls K C) (ha : PySem.W.findIn K (.ref C) "__class__" = some (some (.builtin "object.__class__")))
      (hn : PySem.W.specialIn K (.builtin "object.__class__") "__get__" = some (some (.builtin "getset_descriptor.__get__"))) (htk : PySem.W.takesIn K (.builtin "object.__class__") = some true)
      (hm : PySem.W.mroIn K C (.type "object") = some true) : TyOf K H (.ref a) (.ref C)
theorem isinst_ok {x : V} {u t : Value} (I : Inv X pins σ H s) (rx : RelV x u) (ty : TyOf X.K H x t) (e : PySem.W.kitOne X.K t c = some b) (h : ∀ tk, Q (.bool b) { s with toks := tk }) :
    wpAny (model X.prog X.w) A (call (.builtin "isinstance") [u, c]) Q E s := by
  cases ty with
  | non => cases (show u = Value.none from rx); exact PySem.W.kia_one PySem.W.kitx_none I.kIn True.intro e (fun z => nomatch z) h
  | bl y => cases (show u = Value.bool y from rx); exact PySem.W.kia_one PySem.W.kitx_bool I.kIn True.intro e (fun z => nomatch z) h
  | int i => obtain ⟨t, q⟩ := (show ∃ t, u = Value.int i t from rx); cases q; exact PySem.W.kia_one PySem.W.kitx_int I.kIn True.intro e (fun z => nomatch z) h
  | str y => obtain ⟨t, q⟩ := (show ∃ t, u = Value.str y t from rx); cases q; exact PySem.W.kia_one PySem.W.kitx_str I.kIn True.intro e (fun z => nomatch z) h
  | flt y => obtain ⟨t, q⟩ := (show ∃ t, u = Value.float y t from rx); cases q; exact PySem.W.kia_one PySem.W.kitx_float I.kIn True.intro e (fun z => nomatch z) h
  | @lst a xs ea =>
    cases (show u = Value.ref a from rx)
    obtain ⟨_, _, n, _, h1⟩ := (show ObjOk X.prog X.w H s.heap a (.lst xs) from I.hok a _ ea)
    exact PySem.W.kia_one PySem.W.kitx_list I.kIn ⟨_, h1, rfl⟩ e (fun z => nomatch z) h
  | @frz a ob xs ea =>
    cases (show u = Value.ref a from rx)
    obtain ⟨_, _, _, n, _, h1⟩ := (show ObjOk X.prog X.w H s.heap a (.frz ob (.lst xs)) from I.hok a _ ea)
    exact PySem.W.kia_one PySem.W.kitx_list I.kIn ⟨_, h1, rfl⟩ e (fun z => nomatch z) h
  | @tup a xs ea =>
    cases (show u = Value.ref a from rx)
    obtain ⟨_, _, _, p⟩ := (show ObjOk X.prog X.w H s.heap a (.tup xs) from I.hok a _ ea)
    obtain ⟨o, h1, h2, _⟩ := p
    exact PySem.W.kia_one PySem.W.kitx_tuple I.kIn ⟨o, h1, h2⟩ e (fun z => nomatch z) h
  | @dK a kvs ea =>
    cases (show u = Value.ref a from rx)
    obtain ⟨_, _, vs, _, p⟩ := (show ObjOk X.prog X.w H s.heap a (.dK kvs) from I.hok a _ ea)
    obtain ⟨o, es, ep, h1, h2, _⟩ := p
    exact PySem.W.kia_one PySem.W.kitx_dict I.kIn ⟨o, h1, h2.1⟩ e (fun z => nomatch z) h
  | @dT a kvs ea =>
    cases (show u = Value.ref a from rx)
    obtain ⟨_, _, xs, _, o, es, ep, h1, h2, _⟩ := (show ObjOk X.prog X.w H s.heap a (.dT kvs) from I.hok a _ ea)
    exact PySem.W.kia_one PySem.W.kitx_dict I.kIn ⟨o, h1, h2.1⟩ e (fun z => nomatch z) h
  | @ins a C dx fs ea cl ha hn htk hm =>
    cases (show u = Value.ref a from rx)
    obtain ⟨mA, O, _⟩ := ins_get I.hok ea
    obtain ⟨od, J, _⟩ := O.look
    exact PySem.W.kia_one (PySem.W.kitx_own (cl.get _) cl.hd ha hn htk hm) I.kIn J e (fun z => nomatch z) h
end
end L2

namespace L2
open PySem PySem.Spec PyProof.Rows

structure Room (k : Nat) (A : Around) : Prop where
  hd : A.handled = none
  dp : A.depth + 3 * k + 5 < recursionLimit
  un : A.units + 16 * k + 200 < cLine
theorem Room.mono {j k : Nat} {A : Around} (r : Room k A) (h : j ≤ k) : Room j A := ⟨r.hd, by have := r.dp; omega, by have := r.un; omega⟩
theorem Room.deeper {k : Nat} {A : Around} (r : Room (k + 1) A) (env : Env) : Room k (A.deeper env) :=
  ⟨r.hd, by have := r.dp; show A.depth + 1 + 3 * k + 5 < _; omega, by have := r.un; show A.units + 3 + 16 * k + 200 < _; omega⟩
theorem make_depth {A : Around} {C : Addr} {us : List Value} {kw : List (Str × Value)} : (A.under (.builtin "type.__call__" ⟨.ref C :: us, kw⟩)).depth = A.depth + 1 := by
  first | rfl | simp [Around.under, Code.weight, Code.isCreation, Code.isGuard, Code.isCaller, Code.frames, Code.isFrame, guardIds]
theorem make_units {A : Around} {C : Addr} {us : List Value} {kw : List (Str × Value)} : (A.under (.builtin "type.__call__" ⟨.ref C :: us, kw⟩)).units = A.units + 1 := by
  first | rfl | simp [Around.under, Code.cUnits, Code.frames, Code.isFrame]
theorem Room.make {k : Nat} {A : Around} (r : Room (k + 1) A) (C : Addr) (us : List Value) (kw : List (Str × Value)) : Room k (A.under (.builtin "type.__call__" ⟨.ref C :: us, kw⟩)) :=
  ⟨r.hd, by have := r.dp; rw [make_depth]; omega, by have := r.un; rw [make_units]; omega⟩
theorem Room.depth {k : Nat} {A : Around} (r : Room k A) : A.depth < recursionLimit := by have := r.dp; omega
theorem Room.units {k : Nat} {A : Around} (r : Room k A) : A.units + 64 < cLine := by have := r.un; omega
noncomputable def tNil : TA := fun _ H Q => Q [] H
noncomputable def tCons (ta : TE) (tr : TA) : TA := fun σ H Q => ta σ H fun x H1 => tr σ H1 fun xs H2 => Q (x :: xs) H2
section
variable {X : Cx} {e : Expr} {es : List Expr} {te : TE} {t : TA} {pos : Pos}
theorem pa_nil : PA X [] tNil := fun _ _ _ _ H Q I h => Calls.spliced_nil ⟨[], H, I, .nil, h⟩
theorem pa_cons (ha : PE X e te) (hr : PA X es t) (hs : starEach (e :: es) X.env = (false, eval e X.env) :: starEach es X.env := by rfl) : PA X (e :: es) (tCons te t) := by
  intro pos pins s σ H Q I h
  rw [hs]
  show wpAny _ _ (spliced ((false, eval e X.env) :: backTo pos (starEach es X.env))) _ _ s
  refine Calls.spliced_cons (thn (ha pins s σ H _ I h) fun u s1 ⟨x, H1, I1, r1, q1⟩ => ?_)
  exact thn (hr pos pins s1 σ H1 _ I1 q1) fun us s2 ⟨xs, H2, I2, r2, q2⟩ => ⟨x :: xs, H2, I2, .cons r1 r2, q2⟩

noncomputable def tTup (t : TA) : TE := fun σ H Q => t σ H fun xs H1 => xs.length ≤ sizeLine ∧ ∀ p, H1 p = none → Q (.ref p) (upd H1 p (.tup xs))
noncomputable def tLst (t : TA) : TE := fun σ H Q => t σ H fun xs H1 => xs.length ≤ sizeLine ∧ ∀ p, H1 p = none → Q (.ref p) (upd H1 p (.lst xs))
theorem pe_tup {x1} (h : PA X es t) : PE X (.Tuple es x1 pos) (tTup t) := by
  intro pins s σ H Q I hq
  refine wpAny_Tuple_spliced (thn (h pos pins s σ H _ I hq) fun us s1 ⟨xs, H1, I1, r, z, q⟩ => ⟨by rw [← r.length]; exact z, ?_⟩)
  have hf : H1 s1.heap.objs.size = none := I1.hok.fresh (Nat.le_refl _)
  refine ⟨.ref s1.heap.objs.size, upd H1 s1.heap.objs.size (.tup xs), I1.laid (t' := s1.toks) (fun b u e => Heap.get?_push_of_some _ e) (Nat.le_refl _) ?_, rfl, q _ hf⟩
  exact ⟨z, us, r, ⟨_, Heap.get?_push_size _ rfl, rfl, _, rfl⟩⟩
theorem pe_lst (h : PA X es t) : PE X (.List es pos) (tLst t) := by
  intro pins s σ H Q I hq
  refine wpAny_List_spliced (thn (h pos pins s σ H _ I hq) fun us s1 ⟨xs, H1, I1, r, z, q⟩ => ⟨by rw [← r.length]; exact z, ?_⟩)
  have hf : H1 s1.heap.objs.size = none := I1.hok.fresh (Nat.le_refl _)
  refine ⟨.ref s1.heap.objs.size, upd H1 s1.heap.objs.size (.lst xs), I1.laid (t' := s1.toks) (fun b u e => Heap.get?_push_of_some _ e) (Nat.le_refl _) ?_, rfl, q _ hf⟩
  exact ⟨z, us, 0, r, Heap.get?_push_size _ rfl⟩
end

noncomputable abbrev Sp := List V → Hp → VK → XK → Prop
noncomputable abbrev CXT := List Env → Hp → Shared → XK → Value → Shared → Prop

structure Env0 (P : Program) (w : World) (K : PySem.W.Frag) (mg : Str → Option Value) (base : Heap) (A : Around) (outer : List Env) (s : Shared) (H : Hp) : Prop where
  frames : A.frames = some outer
  mod : Mod K mg base
  bs : ∀ b o, base.get? b = some o → s.heap.get? b = some o ∧ H b = none
  bsz : base.objs.size ≤ s.heap.objs.size
  funs : s.heap.FunFrames base outer
  frf : ∀ b ∈ frs outer, H b = none
  hok : HOk P w H s.heap
  bare : AllBare s.gens
noncomputable def CE (outer : List Env) (P : Program) (w : World) (H : Hp) (s : Shared) (Q : VK) (u : Value) (s' : Shared) : Prop :=
  ∃ v H', s'.os = s.os ∧ AllBare s'.gens ∧ Un (frs outer) [] H H' s.heap s'.heap ∧ HOk P w H' s'.heap ∧ RelV v u ∧ Q v H'
noncomputable def CR (CX : CXT) (outer : List Env) (P : Program) (w : World) (H : Hp) (s : Shared) (Q : VK) (E : XK) (r : Result) (s' : Shared) : Prop :=
  match r with
  | .ok (.ret u) => CE outer P w H s Q u s'
  | .ok _ => False
  | .error e => CX outer H s E e s'
structure FnOk (P : Program) (w : World) (K : PySem.W.Frag) (mg : Str → Option Value) (base : Heap) (CX : CXT) (k : Nat) (f : Addr) (fd : FuncData) (ps : List Str) (sp : Sp) : Prop where
  len : ∀ vs H Q E, sp vs H Q E → vs.length = ps.length
  run : ∀ (A : Around) (outer : List Env) (s : Shared) (H : Hp) (args : Args) (us : List Value) (vs : List V) (Q : VK) (E : XK), Room k A → Env0 P w K mg base A outer s H → BindsTo s fd args (ps.zip us) → Vals vs us → sp vs H Q E →
    codeAny (model P w) A (.call (.ref f) args) (CR CX outer P w H s Q E) s
theorem FnOk.mono {P : Program} {w : World} {K : PySem.W.Frag} {mg : Str → Option Value} {base : Heap} {CX : CXT} {j k : Nat} {f : Addr} {fd : FuncData} {ps : List Str} {sp : Sp} (F : FnOk P w K mg base CX j f fd ps sp) (h : j ≤ k) :
    FnOk P w K mg base CX k f fd ps sp := ⟨F.len, fun A outer s H args us vs Q E hr => F.run A outer s H args us vs Q E (hr.mono h)⟩
theorem Env0.make {P : Program} {w : World} {K : PySem.W.Frag} {mg : Str → Option Value} {base : Heap} {A : Around} {outer : List Env} {s : Shared} {H : Hp} (e : Env0 P w K mg base A outer s H) (C : Addr) (us : List Value) (kw : List (Str × Value)) :
    Env0 P w K mg base (A.under (.builtin "type.__call__" ⟨.ref C :: us, kw⟩)) outer s H := ⟨by first | exact e.frames | (simpa [Around.under, Code.envs, Code.isFrame, pushEnvs] using e.frames), e.mod, e.bs, e.bsz, e.funs, e.frf, e.hok, e.bare⟩
section
variable {X : Cx} {pins : List (Addr × Obj)} {σ : St} {H : Hp} {s s' : Shared}
theorem Inv.env0 (I : Inv X pins σ H s) : Env0 X.prog X.w X.K X.mg X.base X.A X.stack s H :=
  ⟨I.ok.frames, I.ok.mod, I.bs, Nat.le_trans I.ok.bsz I.sz, I.stack, I.stkFree, I.hok, I.bare⟩
theorem Inv.after {Q : VK} {u : Value} (I : Inv X pins σ H s) (h : CE X.stack X.prog X.w H s Q u s') : EP X pins σ Q u s' := by
  obtain ⟨v, H', os, bare, un, hok, r, q⟩ := h
  obtain ⟨hh, g, d, t, os'⟩ := s'
  obtain rfl : os' = s.os := os
  exact ⟨v, H', I.call (h' := hh) (g' := g) (d' := d) (t' := t) (ch := []) un hok bare (fun b z => absurd z (by simp)), r, q⟩
end

noncomputable def tCall (sp : Sp) (dvs : List V) (E : XK) (t : TA) : TE := fun σ H Q => t σ H fun vs H1 => sp (vs ++ dvs) H1 Q E
noncomputable def tMake (C : Addr) (sp : Sp) (dvs : List V) (E : XK) (t : TA) : TE := fun σ H Q => t σ H fun vs H1 => ∀ x dx, H1 x = none → H1 dx = none → dx ≠ x →
  sp (.ref x :: (vs ++ dvs)) (upd (upd H1 dx (.own x)) x (.ins C dx [])) (fun v H2 => v = .non ∧ Q (.ref x) H2) E

noncomputable def Binds (K : PySem.W.Frag) (fd : FuncData) (ps : List Str) (ds : List Value) : Prop :=
  ∀ (s : Shared) (us : List Value), K.In s.heap → (us ++ ds).length = ps.length → BindsTo s fd ⟨us, []⟩ (ps.zip (us ++ ds))
theorem Binds.all {K : PySem.W.Frag} {fd : FuncData} {ps : List Str} (h : ∀ us : List Value, us.length = ps.length → bindArgs fd ⟨us, []⟩ = pure (ps.zip us)) : Binds K fd ps [] := fun s us _ hl => by
  rw [List.append_nil] at hl ⊢
  exact .of_eq (h us hl)

noncomputable def Passes (CX : CXT) (X : Cx) (E : XK) : Prop := ∀ (pins : List (Addr × Obj)) (σ : St) (H : Hp) (s : Shared) (e : Value) (s' : Shared), Inv X pins σ H s → CX X.stack H s E e s' → X.xe e s'

section
variable {X : Cx} {CX : CXT} {k : Nat} {f C : Addr} {fd : FuncData} {ps : List Str} {sp : Sp} {dvs : List V} {ds : List Value} {E : XK} {x m : Str} {p pos apos : Pos} {e o : Expr} {es : List Expr} {ta : TE} {t : TA}

theorem run_fn {pins : List (Addr × Obj)} {σ : St} {H : Hp} {s : Shared} {Q : VK} {us : List Value} {vs : List V} (F : FnOk X.prog X.w X.K X.mg X.base CX k f fd ps sp) (hr : Room k X.A) (hb : Binds X.K fd ps ds) (hd : Vals dvs ds) (hx : Passes CX X E)
    (I : Inv X pins σ H s) (r : Vals vs us) (h : sp (vs ++ dvs) H Q E) : wpAny (model X.prog X.w) X.A (call (.ref f) us) (EP X pins σ Q) X.xe s := by
  have r2 : Vals (vs ++ dvs) (us ++ ds) := r.append hd
  have hl : (us ++ ds).length = ps.length := by rw [← r2.length]; exact F.len _ _ _ _ h
  refine wpAny_call (codeAny_mono (F.run X.A X.stack s H ⟨us, []⟩ (us ++ ds) (vs ++ dvs) Q E hr I.env0 (hb s us I.kIn hl) r2 h) fun r s' hq => ?_)
  cases r with
  | error e => exact hx pins σ H s e s' I hq
  | ok fl =>
    cases fl with
    | ret u => exact I.after hq
    | next => exact False.elim hq
    | brk => exact False.elim hq
    | cont => exact False.elim hq

theorem pe_call (F : FnOk X.prog X.w X.K X.mg X.base CX k f fd ps sp) (hr : Room k X.A) (hg : Gl X x) (hm : X.mg x = some (.ref f)) (hk : PySem.W.keepIn X.K (.ref f) = true) (hb : Binds X.K fd ps ds) (hd : Vals dvs ds) (hx : Passes CX X E)
    (ha : PA X (e :: es) t) (hdb : (x == ("__debug__" : Str)) = false := by decide) (he : starEach (e :: es) X.env = (false, eval e X.env) :: starEach es X.env := by rfl) (hpl : (backTo pos (starEach es X.env)).any (·.1) = false := by rfl) :
    PE X (.Call (.Name x p) (e :: es) [] pos) (tCall sp dvs E t) := by
  intro pins s σ H Q I h
  refine wpAny_Call_Name_kw (ld_glob I hg hm ?_ hdb)
  refine PySem.W.callWith_K (h₀ := X.base) I.ok.mod.kin hk (thn (ha pos pins s σ H _ I h) fun us s1 ⟨vs, H1, I1, r, q⟩ => ⟨I1.kIn, ?_⟩) he hpl
  exact run_fn F hr hb hd hx I1 r q
structure Mk (K : PySem.W.Frag) (C f : Addr) : Prop where
  makes : PySem.W.makesIn K C = true
  init : PySem.W.findIn K (.ref C) "__init__" = some (some (.ref f))
  fn : PySem.W.isFn K (.ref f) = true
  kp : PySem.W.keepIn K (.ref C) = true

theorem run_make {pins : List (Addr × Obj)} {σ : St} {H : Hp} {s : Shared} {Q : VK} {us : List Value} {vs : List V} (M : Mk X.K C f) (F : FnOk X.prog X.w X.K X.mg X.base CX k f fd ps sp) (hr : Room (k + 1) X.A) (hb : Binds X.K fd ps ds) (hd : Vals dvs ds)
    (hx : Passes CX X E) (I : Inv X pins σ H s) (r : Vals vs us)
    (h : ∀ x dx, H x = none → H dx = none → dx ≠ x → sp (.ref x :: (vs ++ dvs)) (upd (upd H dx (.own x)) x (.ins C dx [])) (fun v H2 => v = .non ∧ Q (.ref x) H2) E) :
    wpAny (model X.prog X.w) X.A (call (.ref C) us) (EP X pins σ Q) X.xe s := by
  have hq := h (s.heap.objs.size + 1) s.heap.objs.size (I.hok.fresh (Nat.le_succ _)) (I.hok.fresh (Nat.le_refl _)) (Nat.ne_of_lt (Nat.lt_succ_self _))
  have I2 := Inv.made (C := C) I
  have r2 : Vals (V.ref (s.heap.objs.size + 1) :: (vs ++ dvs)) (Value.ref (s.heap.objs.size + 1) :: (us ++ ds)) := .cons rfl (r.append hd)
  have hl : (Value.ref (s.heap.objs.size + 1) :: us ++ ds).length = ps.length := by
    have e := r2.length
    rw [F.len _ _ _ _ hq] at e
    exact e.symm
  refine wpAny_call (make_map (f := f) I.kIn M.makes M.init (beq_iff_eq.mp M.fn) (codeAny_mono (F.run _ X.stack _ _ ⟨Value.ref (s.heap.objs.size + 1) :: us, []⟩ (Value.ref (s.heap.objs.size + 1) :: (us ++ ds)) _ _ E (hr.make C us [])
    (I2.env0.make C us []) (hb _ (Value.ref (s.heap.objs.size + 1) :: us) I2.kIn hl) r2 hq) fun r s' hq' => ?_))
  cases r with
  | error e => exact hx pins σ _ _ e s' I2 hq'
  | ok fl =>
    cases fl with
    | ret u =>
      obtain ⟨v, H', I3, rv, ev, q3⟩ := I2.after hq'
      subst ev
      exact ⟨rv, ⟨V.ref (s.heap.objs.size + 1), H', I3, rfl, q3⟩⟩
    | next => exact False.elim hq'
    | brk => exact False.elim hq'
    | cont => exact False.elim hq'
theorem pe_make (M : Mk X.K C f) (F : FnOk X.prog X.w X.K X.mg X.base CX k f fd ps sp) (hr : Room (k + 1) X.A) (hg : Gl X x) (hm : X.mg x = some (.ref C)) (hb : Binds X.K fd ps ds) (hd : Vals dvs ds) (hx : Passes CX X E)
    (ha : PA X (e :: es) t) (hdb : (x == ("__debug__" : Str)) = false := by decide) (he : starEach (e :: es) X.env = (false, eval e X.env) :: starEach es X.env := by rfl) (hpl : (backTo pos (starEach es X.env)).any (·.1) = false := by rfl) :
    PE X (.Call (.Name x p) (e :: es) [] pos) (tMake C sp dvs E t) := by
  intro pins s σ H Q I h
  refine wpAny_Call_Name_kw (ld_glob I hg hm ?_ hdb)
  refine PySem.W.callWith_K (h₀ := X.base) I.ok.mod.kin M.kp (thn (ha pos pins s σ H _ I h) fun us s1 ⟨vs, H1, I1, r, q⟩ => ⟨I1.kIn, ?_⟩) he hpl
  exact run_make M F hr hb hd hx I1 r q
end

section
variable {X : Cx} {CX : CXT} {k : Nat} {f C : Addr} {fd : FuncData} {ps ks : List Str} {sp : Sp} {E : XK} {x m : Str} {p pos apos kpos : Pos} {e o : Expr} {es : List Expr} {kws : List Keyword} {te ta : TE} {t tk : TA} {nm : Option Str}
variable {g : List Value → List Value → List Value} {gV : List V → List V → List V}
end

structure FnScope (N P : List Str) (sc : Scope) : Prop where
  kind : sc.kind = .function
  co : sc.isCoroutine = false
  gen : sc.isGenerator = false
  nd : N.Nodup
  pre : N.take P.length = P
  par : ∀ x ∈ P, sc.names.lookup x = some .local ∨ sc.names.lookup x = some .cell
  nofree : ∀ y ∈ sc.names, y.2 ≠ .free

theorem bindL_out {kindOf : Str → Option NameKind} {x : Str} : ∀ {binds : List (Str × Value)} {m : Str → Option Value}, (∀ v, (x, v) ∉ binds) → bindL kindOf binds m x = m x
  | [], _, _ => rfl
  | (n, v) :: r, m, h => by
    unfold bindL
    rw [bindL_out fun w hw => h w (List.mem_cons_of_mem _ hw)]
    split
    · have : x ≠ n := by rintro rfl; exact h v List.mem_cons_self
      simp [this]
    · rfl
theorem bindC_out {kindOf : Str → Option NameKind} {x : Str} : ∀ {binds : List (Str × Value)} {m : Str → Option Value}, (∀ v, (x, v) ∉ binds) → bindC kindOf binds m x = m x
  | [], _, _ => rfl
  | (n, v) :: r, m, h => by
    unfold bindC
    rw [bindC_out fun w hw => h w (List.mem_cons_of_mem _ hw)]
    split
    · rfl
    · have : x ≠ n := by rintro rfl; exact h v List.mem_cons_self
      simp [this]
theorem bindL_get {kindOf : Str → Option NameKind} {x : Str} {v : Value} : ∀ {P : List Str} {vs : List Value} {i : Nat} {m : Str → Option Value}, P.Nodup → P[i]? = some x → vs[i]? = some v → kindOf x = some .local →
    bindL kindOf (P.zip vs) m x = some v
  | [], _, _, _, _, h, _, _ => by simp at h
  | _ :: _, [], _, _, _, _, h, _ => by simp at h
  | p :: P, w :: vs, 0, m, nd, h1, h2, hk => by
    simp at h1 h2; subst h1; subst h2
    show bindL kindOf ((p, w) :: P.zip vs) m p = _
    unfold bindL
    rw [bindL_out fun v hv => (List.nodup_cons.mp nd).1 (List.of_mem_zip hv).1, if_pos hk]
    simp
  | p :: P, w :: vs, i + 1, m, nd, h1, h2, hk => by
    show bindL kindOf ((p, w) :: P.zip vs) m x = _
    unfold bindL
    exact bindL_get (i := i) (List.nodup_cons.mp nd).2 (by simpa using h1) (by simpa using h2) hk
theorem bindC_get {kindOf : Str → Option NameKind} {x : Str} {v : Value} : ∀ {P : List Str} {vs : List Value} {i : Nat} {m : Str → Option Value}, P.Nodup → P[i]? = some x → vs[i]? = some v → kindOf x ≠ some .local →
    bindC kindOf (P.zip vs) m x = some v
  | [], _, _, _, _, h, _, _ => by simp at h
  | _ :: _, [], _, _, _, _, h, _ => by simp at h
  | p :: P, w :: vs, 0, m, nd, h1, h2, hk => by
    simp at h1 h2; subst h1; subst h2
    show bindC kindOf ((p, w) :: P.zip vs) m p = _
    unfold bindC
    rw [bindC_out fun v hv => (List.nodup_cons.mp nd).1 (List.of_mem_zip hv).1, if_neg hk]
    simp
  | p :: P, w :: vs, i + 1, m, nd, h1, h2, hk => by
    show bindC kindOf ((p, w) :: P.zip vs) m x = _
    unfold bindC
    exact bindC_get (i := i) (List.nodup_cons.mp nd).2 (by simpa using h1) (by simpa using h2) hk

noncomputable def start (N : List Str) (vs : List V) : St := vs.map some ++ List.replicate (N.length - vs.length) none

noncomputable def cxOf (CX : CXT) (P : Program) (w : World) (K : PySem.W.Frag) (mg : Str → Option Value) (base : Heap) (N : List Str) (qual : Str) (scope : Scope) (f : Addr) (cd : Value) (A : Around) (outer : List Env) (s : Shared) (H : Hp) (E : XK) : Cx where
  prog := P
  w := w
  K := K
  mg := mg
  base := base
  A := A.deeper (envOfC qual scope s.heap.objs.size f cd)
  N := N
  s₀ := s
  H₀ := H
  env := envOfC qual scope s.heap.objs.size f cd
  outer := outer
  stack := envOfC qual scope s.heap.objs.size f cd :: outer
  ex := []
  calm := true
  fn := fun _ => true
  pn := []
  xe := fun e s' => wpAny (model P w) (A.deeper (envOfC qual scope s.heap.objs.size f cd)) (leaving (envOfC qual scope s.heap.objs.size f cd) e) (fun _ s'' => CX outer H s E e s'') (fun e' s'' => CX outer H s E e' s'') s'

theorem cell_has {sc : Scope} {n : Nat} {x : Str} (h : sc.names.lookup x = some .cell) : ∃ c, (cellsFrom n sc.names []).lookup x = some c := by
  have q := PySem.W.cellsFrom_some sc.names n [] (.inl h)
  exact Option.isSome_iff_exists.mp q

theorem inv_start {CX : CXT} {P : Program} {w : World} {K : PySem.W.Frag} {mg : Str → Option Value} {base : Heap} {N ps : List Str} {qual : Str} {scope : Scope} {f : Addr} {cd : Value} {A : Around} {outer : List Env} {s s1 : Shared} {H : Hp} {E : XK} {us : List Value} {vs : List V}
    (S : FnScope N ps scope) (hd : A.handled = none) (e0 : Env0 P w K mg base A outer s H) (hl : vs.length = ps.length) (r : Vals vs us)
    (x : InCallC s s.heap.objs.size (bindL (envOfC qual scope s.heap.objs.size f cd).kindOf (ps.zip us) fun _ => none) (cellsFrom (s.heap.objs.size + 1) scope.names []) (bindC (envOfC qual scope s.heap.objs.size f cd).kindOf (ps.zip us) fun _ => none) s1) :
    Inv (cxOf CX P w K mg base N qual scope f cd A outer s H E) [] (start N vs) H s1 := by
  have hpl : ps.length ≤ N.length := by have := congrArg List.length S.pre; rw [List.length_take] at this; omega
  obtain ⟨h1, tk, rfl, hk⟩ := x.done
  have noA : ∀ b : Addr, b ∉ (cxOf CX P w K mg base N qual scope f cd A outer s H E).ex := fun b z => absurd (show b ∈ ([] : List Addr) from z) (by simp)
  refine ⟨⟨e0.mod, S.kind, rfl, rfl, Nat.le_refl _, fun y z c h1 h2 => ?_, fun y hy => ?_, fun y c _ h => ?_, fun _ => hd, Around.frames_deeper e0.frames, .inr ⟨rfl, rfl⟩, fun b z => absurd z (noA b), e0.bs, e0.bsz, fun b _ _ => noA b, fun b z => absurd z (noA b), e0.funs, e0.frf⟩,
    rfl, e0.bare, Un.kept hk, ⟨_, x.toInCall.ns, fun i y v h1 h2 h3 => ?_⟩, fun y c h => ⟨_, x.cell y c h⟩, e0.hok.fresh (Nat.le_refl _), fun y c h => ?_, fun p hp => absurd (show p ∈ ([] : List (Addr × Obj)) from hp) (by simp), e0.hok.kept hk, ?_⟩
  · exact name_of_addr x.apart (PySem.mem_of_lookup h1) (PySem.mem_of_lookup h2)
  · have hy : scope.names.lookup y = some .cell ∨ scope.names.lookup y = some .free := hy
    rcases hy with hy | hy
    · exact cell_has hy
    · exact absurd rfl (S.nofree _ (PySem.mem_of_lookup hy))
  · exact Nat.le_of_lt (x.above y c (PySem.mem_of_lookup h))
  · have hi : i < vs.length := by
      unfold start at h2
      by_cases hi : i < vs.length
      · exact hi
      · rw [List.getElem?_append_right (by simpa using hi)] at h2
        rw [List.getElem?_replicate] at h2
        split at h2 <;> cases h2
    have ha : vs[i]? = some v := by
      unfold start at h2
      rw [List.getElem?_append_left (by simpa using hi), List.getElem?_map] at h2
      cases e : vs[i]? with
      | none => rw [e] at h2; cases h2
      | some a => rw [e] at h2; cases h2; rfl
    obtain ⟨u, hu, rv⟩ := r.get ha
    have hp : ps[i]? = some y := by
      rw [← S.pre, List.getElem?_take_of_lt (by omega)]; exact h1
    have ndP : ps.Nodup := by rw [← S.pre]; exact S.nd.sublist (List.take_sublist _ _)
    refine ⟨u, rv, ?_⟩
    rcases S.par y (List.mem_of_getElem? hp) with k | k
    · exact .inl ⟨k, bindL_get ndP hp hu k⟩
    · obtain ⟨c, e⟩ := cell_has (n := s.heap.objs.size + 1) k
      refine .inr ⟨.inl k, c, e, ?_⟩
      have q := x.cell y c e
      rw [bindC_get ndP hp hu (by show scope.names.lookup y ≠ _; rw [k]; decide)] at q
      exact q
  · exact e0.hok.fresh (Nat.le_of_lt (x.above y c (PySem.mem_of_lookup h)))
  · unfold start
    show _ = N.length
    rw [List.length_append, List.length_map, List.length_replicate]
    omega

theorem fn_of {CX : CXT} {P : Program} {w : World} {K : PySem.W.Frag} {mg : Str → Option Value} {base : Heap} {k : Nat} {f : Addr} {name qual : Str} {params : Arguments} {body : List Stmt} {scope : Scope} {dV kV doc pm cdv ct oc : Value} {an od : Option Addr}
    {osl : Array (Option Value)} {N ps : List Str} {sp : Sp} (lk : K.lookup f = some ⟨oc, od, .func (PySem.W.fnOf name qual params body scope dV kV doc pm an cdv ct), osl⟩) (hcd : PySem.W.codeIn K cdv qual = true) (S : FnScope N ps scope)
    (len : ∀ vs H Q E, sp vs H Q E → vs.length = ps.length)
    (hbody : ∀ (A : Around) (outer : List Env) (s : Shared) (H : Hp) (vs : List V) (Q : VK) (E : XK), Room k (A.deeper (envOfC qual scope s.heap.objs.size f cdv)) → sp vs H Q E →
      ∃ t, PSs (cxOf CX P w K mg base N qual scope f cdv A outer s H E) body t ∧ t { nx := fun _ H' => Q .non H', rt := Q } (start N vs) H) :
    FnOk P w K mg base CX (k + 1) f (PySem.W.fnOf name qual params body scope dV kV doc pm an cdv ct) ps sp := by
  refine ⟨len, fun A outer s H args us vs Q E hr e0 hb r hsp => ?_⟩
  have hl := len _ _ _ _ hsp
  have KX : K.In s.heap := e0.mod.kin.keeps fun b o e => (e0.bs b o e).1
  have lim : s.heap.NoLimit := e0.mod.nolimit.keeps fun b o e => (e0.bs b o e).1
  have hkind : ∀ y ∈ ps.zip us, scope.names.lookup y.1 = some .local ∨ (scope.names.lookup y.1 = some .cell ∧ ((cellsFrom (s.heap.objs.size + 1) scope.names []).lookup y.1).isSome = true) := fun ⟨n, v⟩ hy => by
    rcases S.par n (List.of_mem_zip hy).1 with q | q
    · exact .inl q
    · exact .inr ⟨q, PySem.W.cellsFrom_some _ _ _ (.inl q)⟩
  refine codeAny_call_function hr.depth (KX _ _ lk) rfl S.co S.gen rfl (PySem.W.codeRec_of KX hcd) (hb _ _ _ _ ?_)
  refine wpAny_newFunctionEnv_cells S.kind hkind fun env he s1 x => ?_
  subst he
  refine ⟨lim.keeps x.toInCall.keep, codeAny_func ?_⟩
  obtain ⟨t, ht, hq⟩ := hbody A outer s H vs Q E (hr.deeper _) hsp
  have I : Inv (cxOf CX P w K mg base N qual scope f cdv A outer s H E) [] (start N vs) H s1 := inv_start S hr.hd e0 hl r x
  refine wpAny_mono (ht [] s1 (start N vs) H _ I hq) (fun fl s' hs => ?_) fun e s' hs => hs
  have fin : ∀ {σ' : St} {H' : Hp} {v : V} {u : Value}, Inv (cxOf CX P w K mg base N qual scope f cdv A outer s H E) [] σ' H' s' → RelV v u → Q v H' → CE outer P w H s Q u s' :=
    fun {σ' H' v u} J rv q => ⟨v, H', J.os, J.bare, J.base, J.hok, rv, q⟩
  cases fl with
  | ret u =>
    obtain ⟨v, σ', H', J, rv, q⟩ := hs
    exact fin J rv q
  | next =>
    obtain ⟨σ', H', J, q⟩ := hs
    exact fin (v := V.non) (u := Value.none) J rfl q
  | brk =>
    obtain ⟨_, _, _, q⟩ := hs
    exact False.elim q
  | cont =>
    obtain ⟨_, _, _, q⟩ := hs
    exact False.elim q
end L2

namespace L2
open PySem PySem.Spec PyProof.Rows
section
variable {X : Cx} {x : Str} {p pos : Pos} {e : Expr} {es : List Expr} {t : TA} {id T : String} {r : List V → Hp → VK → Prop}

noncomputable def tCB (r : List V → Hp → VK → Prop) (t : TA) : TE := fun σ H Q => t σ H fun vs H1 => r vs H1 Q
theorem pe_callB (hc : CallR X (.builtin id) r) (hg : Gl X x) (hm : X.mg x = none) (hv : bootBuiltins x = some (.builtin id)) (ha : PA X (e :: es) t) (hn : x ≠ "__name__" := by decide) (hdb : (x == ("__debug__" : Str)) = false := by decide)
    (he : starEach (e :: es) X.env = (false, eval e X.env) :: starEach es X.env := by rfl) (hpl : (backTo pos (starEach es X.env)).any (·.1) = false := by rfl) : PE X (.Call (.Name x p) (e :: es) [] pos) (tCB r t) := by
  intro pins s σ H Q I h
  refine wpAny_Call_Name_kw (ld_blt I hg hm hv ?_ hn hdb)
  exact PyProof.Rows.callWith_builtin1 (thn (ha pos pins s σ H _ I h) fun us s1 ⟨vs, H1, I1, r1, q1⟩ => hc pins s1 σ H1 vs us Q I1 r1 q1) he hpl
theorem pe_callTy (hc : CallR X (.type T) r) (hg : Gl X x) (hm : X.mg x = none) (hv : bootBuiltins x = some (.type T)) (ha : PA X (e :: es) t) (hn : x ≠ "__name__" := by decide) (hdb : (x == ("__debug__" : Str)) = false := by decide)
    (he : starEach (e :: es) X.env = (false, eval e X.env) :: starEach es X.env := by rfl) (hpl : (backTo pos (starEach es X.env)).any (·.1) = false := by rfl) : PE X (.Call (.Name x p) (e :: es) [] pos) (tCB r t) := by
  intro pins s σ H Q I h
  refine wpAny_Call_Name_kw (ld_blt I hg hm hv ?_ hn hdb)
  exact PyProof.Rows.callWith_type1 (thn (ha pos pins s σ H _ I h) fun us s1 ⟨vs, H1, I1, r1, q1⟩ => hc pins s1 σ H1 vs us Q I1 r1 q1) he hpl
end
end L2

namespace HT
open PySem PyProof.Rows

section
open PySem.SeqAt
open PySem.AutoSeq1 (wpAny_loadPart')
open PySem.MeetsSeq PySem.MeetsSeq2 PySem.MeetsSeq3

end

section
variable {prog : Program} {w : World} {A : Around} {E : Value → Shared → Prop} {s : Shared}

noncomputable def sIx (n d : Nat) : Option Int → Nat
  | none => d
  | some v => if v < 0 then (v + (n : Int)).toNat else min v.toNat n
theorem sIx_nat (n d k : Nat) : sIx n d (some (k : Int)) = min k n := by
  show (if (k : Int) < 0 then ((k : Int) + (n : Int)).toNat else min (k : Int).toNat n) = min k n
  rw [if_neg (by omega), Int.toNat_natCast]
end
end HT

namespace L2
open PySem PySem.Spec PyProof.Rows

noncomputable abbrev TO := St → Hp → (Option Int → Hp → Prop) → Prop
noncomputable def PO (X : Cx) (e : Option Expr) (t : TO) : Prop :=
  ∀ (pins : List (Addr × Obj)) (s : Shared) (σ : St) (H : Hp) (Q : Option Int → Hp → Prop), Inv X pins σ H s → t σ H Q →
    wpAny (model X.prog X.w) X.A (evalPart e X.env) (fun u s' => ∃ o H', Inv X pins σ H' s' ∧ IsPart u o ∧ Q o H') X.xe s
noncomputable def tPart (t : TE) : TO := fun σ H Q => t σ H fun x H1 => ∃ i, x = .int i ∧ Q (some i) H1

theorem intsAre_of {ns : List Int} : ∀ {us : List Value}, Vals (ns.map V.int) us → IntsAre us ns := by
  induction ns with
  | nil => intro us r; rw [List.map_nil] at r; cases r; exact .nil
  | cons n ns ih =>
    intro us r
    rw [List.map_cons] at r
    cases r with
    | cons r1 r2 =>
      obtain ⟨t, e⟩ := r1
      subst e
      exact .cons n t (ih r2)

section
variable {X : Cx} {e : Expr} {te : TE} {lo hi : Option Expr} {tl th : TO} {pos p2 : Pos}

theorem po_some (h : PE X e te) : PO X (some e) (tPart te) := by
  intro pins s σ H Q I hw
  rw [evalPart_some]
  refine thn (h pins s σ H _ I hw) fun u s1 ⟨x, H1, I1, r1, q1⟩ => ?_
  obtain ⟨i, rfl, q⟩ := q1
  obtain ⟨t, rfl⟩ := r1
  exact ⟨some i, H1, I1, .int i t, q⟩

noncomputable def SlR (X : Cx) (r : V → Option Int → Option Int → Hp → VK → Prop) : Prop :=
  ∀ (pins : List (Addr × Obj)) (s : Shared) (σ : St) (H : Hp) (x : V) (v vl vu : Value) (lo hi : Option Int) (sl : Addr) (Q : VK), Inv X pins σ H s → RelV x v → s.heap.IsSliceOf sl vl vu .none → IsPart vl lo → IsPart vu hi → r x lo hi H Q →
    ∃ T id, typeLookup (.type T) "__getitem__" = pure (some (.builtin id)) ∧ s.TypeIs v T ∧ wpAny (model X.prog X.w) X.A (getItem v (.ref sl)) (EP X pins σ Q) X.xe s
noncomputable def tSl (r : V → Option Int → Option Int → Hp → VK → Prop) (te : TE) (tl th : TO) : TE := fun σ H Q => te σ H fun x H1 => tl σ H1 fun l H2 => th σ H2 fun u H3 => r x l u H3 Q
theorem pe_slice {r : V → Option Int → Option Int → Hp → VK → Prop} (hr : SlR X r) (he : PE X e te) (hl : PO X lo tl) (hu : PO X hi th) : PE X (.Subscript e (.Slice lo hi none p2) pos) (tSl r te tl th) := by
  intro pins s σ H Q I h
  refine Subscript_ (thn (he pins s σ H _ I h) fun v s1 ⟨x, H1, I1, r1, q1⟩ => ?_)
  refine wpAny_Slice (thn (hl pins s1 σ H1 _ I1 q1) fun vl s2 ⟨l, H2, I2, pl, q2⟩ => thn (hu pins s2 σ H2 _ I2 q2) fun vu s3 ⟨u, H3, I3, pu, q3⟩ => ?_)
  rw [evalPart_none]
  refine wpAny_pure ?_
  have I4 : Inv X pins σ H3 { s3 with heap := s3.heap.push { cls := .type "slice", data := .fields #[vl, vu, .none] } } := I3.kept (t' := s3.toks) fun b ob q => Heap.get?_push_of_some _ q
  obtain ⟨T, id, hT, ht, hg⟩ := hr pins { s3 with heap := s3.heap.push { cls := .type "slice", data := .fields #[vl, vu, .none] } } σ H3 x v vl vu l u s3.heap.objs.size Q I4 r1 (Heap.IsSliceOf.new ..) pl pu q3
  show wpAny (model X.prog X.w) X.A (subscriptTail e (.Slice lo hi none p2) v (.ref s3.heap.objs.size)) (EP X pins σ Q) X.xe { s3 with heap := s3.heap.push { cls := .type "slice", data := .fields #[vl, vu, .none] } }
  exact tail_any (ops := [.ref s3.heap.objs.size, v]) ht hT hg (by with_unfolding_all rfl)

noncomputable def cutV (xs : List V) (lo hi : Option Int) : List V := (xs.drop (HT.sIx xs.length 0 lo)).take (HT.sIx xs.length xs.length hi - HT.sIx xs.length 0 lo)
theorem cutV_length (xs : List V) (lo hi : Option Int) : (cutV xs lo hi).length ≤ xs.length := by
  unfold cutV
  rw [List.length_take, List.length_drop]
  omega
end
end L2

namespace L2
open PySem PySem.Spec PyProof.Rows

noncomputable def ixN (n : Nat) (i : Int) : Option Nat := if 0 ≤ i then (if i < n then some i.toNat else none) else if -(n : Int) ≤ i then some (i + n).toNat else none
noncomputable def atI {α : Type} (xs : List α) (i : Int) : Option α := (ixN xs.length i).bind fun j => xs[j]?
theorem ixN_seq {n : Nat} {i : Int} {j : Nat} (h : ixN n i = some j) : seqIndex? i n = some j ∧ j < n ∧ -(n : Int) ≤ i ∧ i < n := by
  unfold ixN at h
  by_cases h0 : 0 ≤ i
  · rw [if_pos h0] at h
    by_cases h1 : i < n
    · rw [if_pos h1] at h
      have e : i.toNat = j := Option.some.inj h
      exact ⟨by rw [seqIndex_of h0 h1, e], by omega, by omega, h1⟩
    · rw [if_neg h1] at h; cases h
  · rw [if_neg h0] at h
    by_cases h1 : -(n : Int) ≤ i
    · rw [if_pos h1] at h
      have e : (i + n).toNat = j := Option.some.inj h
      exact ⟨by rw [seqIndex_neg (by omega) h1, e], by omega, h1, by omega⟩
    · rw [if_neg h1] at h; cases h
theorem atI_get {α : Type} {xs : List α} {i : Int} {v : α} (h : atI xs i = some v) : ∃ j, seqIndex? i xs.length = some j ∧ xs[j]? = some v ∧ j < xs.length ∧ -(xs.length : Int) ≤ i ∧ i < xs.length := by
  unfold atI at h
  cases e : ixN xs.length i with
  | none => rw [e] at h; cases h
  | some j =>
    rw [e] at h
    obtain ⟨h1, h2, h3, h4⟩ := ixN_seq e
    exact ⟨j, h1, h, h2, h3, h4⟩
theorem atI_nat {α : Type} {xs : List α} {j : Nat} {v : α} (h : xs[j]? = some v) : atI xs (j : Int) = some v := by
  have hj : j < xs.length := (List.getElem?_eq_some_iff.mp h).1
  have e : ixN xs.length (j : Int) = some j := by
    unfold ixN
    rw [if_pos (by omega), if_pos (by omega)]; simp
  unfold atI; rw [e]; exact h
theorem atI_last {α : Type} (xs : List α) (v : α) : atI (xs ++ [v]) (-1) = some v := by
  have hl : (xs ++ [v]).length = xs.length + 1 := by simp
  have e : ixN (xs ++ [v]).length (-1) = some xs.length := by
    unfold ixN
    rw [hl, if_neg (by decide), if_pos (by omega)]
    congr 1
    omega
  unfold atI
  rw [e]
  show (xs ++ [v])[xs.length]? = some v
  simp

noncomputable def PlainIx (b : Expr) : Prop := ∀ o i, subscripted b false o i = operate [o, i] (getItem o i)
noncomputable def IxR (X : Cx) (r : R2) : Prop :=
  ∀ (value slice : Expr) (pins : List (Addr × Obj)) (s : Shared) (σ : St) (H : Hp) (x y : V) (v u : Value) (Q : VK), Inv X pins σ H s → RelV x v → RelV y u → r x y H Q →
    subscripted slice false v u = operate [v, u] (getItem v u) → wpAny (model X.prog X.w) X.A (subscriptTail value slice v u) (EP X pins σ Q) X.xe s
noncomputable def MtR (X : Cx) (id : String) (r : V → List V → Hp → VK → Prop) : Prop :=
  ∀ (pins : List (Addr × Obj)) (s : Shared) (σ : St) (H : Hp) (x : V) (xs : List V) (v : Value) (us : List Value) (Q : VK), Inv X pins σ H s → RelV x v → Vals xs us → r x xs H Q →
    wpAny (model X.prog X.w) X.A (call (.builtin id) (v :: us)) (EP X pins σ Q) X.xe s
section
variable {X : Cx} {a b : Expr} {ta tb : TE} {pos : Pos}
theorem pe_ix {r : R2} (hr : IxR X r) (ha : PE X a ta) (hb : PE X b tb) (hs : PlainIx b) : PE X (.Subscript a b pos) (tOp r ta tb) := by
  intro pins s σ H Q I h
  exact Subscript_ (binT ha hb I h fun v u s2 x y H2 I2 rx ry q => hr a b pins s2 σ H2 x y v u Q I2 rx ry q (hs _ _))

noncomputable def rIxL (K : PySem.W.Frag) : R2 := fun x y H Q => ∃ p xs i v, x = .ref p ∧ y = .int i ∧ SqL K H p xs ∧ atI xs i = some v ∧ Q v H
theorem ix_list : IxR X (rIxL X.K) := by
  intro value slice pins s σ H x y v u Q I rx ry h hs
  obtain ⟨p, xs, i, z, rfl, rfl, hq, he, q⟩ := h
  cases rx
  obtain ⟨t, rfl⟩ := ry
  obtain ⟨its, r, pl, hz⟩ := I.list hq
  obtain ⟨j, h1, h2, h3, h4, h5⟩ := atI_get he
  obtain ⟨w, ew, rw'⟩ := r.get h2
  have hl := r.length
  have hn := line63
  have fin : EP X pins σ Q w s := ⟨z, H, I, rw', q⟩
  by_cases h0 : 0 ≤ i
  · have hj : i.toNat = j := by
      rw [seqIndex_of h0 h5] at h1
      exact Option.some.inj h1
    exact item_listR pl.isList h0 (by omega) (by rw [hj]; simpa using ew) fin hs
  · have hj : (i + (its.toArray.size : Int)).toNat = j := by
      rw [seqIndex_neg (by omega) h4] at h1
      rw [List.size_toArray, ← hl]
      exact Option.some.inj h1
    exact subscriptTail_builtinR (x := w) pl.isList.typeIs slot_list_getitem.lookup
      (wpAny_getItem_list_neg (Q := fun r s' => r = w ∧ EP X pins σ Q r s') pl.isList (by omega) (by rw [List.size_toArray] <;> omega) (by omega) (by rw [hj]; simpa using ew) ⟨rfl, fin⟩) hs
theorem slice_bounds (lo hi : Option Int) (n : Nat) : (sliceBounds lo hi none n).1 = ((HT.sIx n 0 lo : Nat) : Int) ∧ (sliceBounds lo hi none n).2.1 = ((HT.sIx n n hi : Nat) : Int) ∧ (sliceBounds lo hi none n).2.2 = 1 := by
  refine ⟨?_, ?_, rfl⟩
  · cases lo with
    | none => simp [sliceBounds, HT.sIx]
    | some i =>
      simp only [sliceBounds, HT.sIx, Option.getD_none, show (1 : Int) > 0 by decide, if_true]
      by_cases h : i < 0
      · simp only [h, if_true] <;> omega
      · simp only [h, if_false] <;> omega
  · cases hi with
    | none => simp [sliceBounds, HT.sIx]
    | some i =>
      simp only [sliceBounds, HT.sIx, Option.getD_none, show (1 : Int) > 0 by decide, if_true]
      by_cases h : i < 0
      · simp only [h, if_true] <;> omega
      · simp only [h, if_false] <;> omega
theorem slicePick_cut (its : List Value) (lo hi : Option Int) : slicePick its.toArray lo hi none = ((its.drop (HT.sIx its.length 0 lo)).take (HT.sIx its.length its.length hi - HT.sIx its.length 0 lo)).toArray := by
  obtain ⟨h1, h2, h3⟩ := slice_bounds lo hi its.toArray.size
  unfold slicePick
  rw [h1, h2, h3]
  simp only [sliceRange_one, pick_run, List.size_toArray] <;> rfl
noncomputable def rSlL (K : PySem.W.Frag) : V → Option Int → Option Int → Hp → VK → Prop := fun x lo hi H Q => ∃ a xs, x = .ref a ∧ SqL K H a xs ∧ ∀ p, H p = none → Q (.ref p) (upd H p (.lst (cutV xs lo hi)))
theorem sl_list : SlR X (rSlL X.K) := by
  intro pins s σ H x v vl vu lo hi sl Q I rx hs pl pu h
  obtain ⟨a, xs, rfl, hx, q⟩ := h
  cases rx
  obtain ⟨its, r, ht, hz⟩ := I.list hx
  have hlen := r.length
  refine ⟨"list", _, slot_list_getitem.lookup, ht.isList.typeIs, ?_⟩
  refine wpAny_getItem_list_slice ht.isList hs pl pu .none (by simp) ?_ (by rw [List.size_toArray] <;> omega)
  rw [slicePick_cut, ← hlen]
  refine ⟨.ref s.heap.objs.size, _, I.laid (t' := s.toks) (o := .lst (cutV xs lo hi)) (fun b ob q => Heap.get?_push_of_some _ q) (Nat.le_refl _) ?_, rfl, q _ (I.hok.fresh (Nat.le_refl _))⟩
  exact ⟨Nat.le_trans (cutV_length xs lo hi) hz, _, 0, (r.drop (HT.sIx xs.length 0 lo)).take (HT.sIx xs.length xs.length hi - HT.sIx xs.length 0 lo), Heap.get?_push_size _ rfl⟩

theorem call_len_seq : CallR X (.builtin "len") (fun xs H Q => ∃ p ys, xs = [.ref p] ∧ (SqL X.K H p ys ∨ SqT X.K H p ys) ∧ Q (.int ys.length) H) := by
  intro pins s σ H xs us Q I r h
  obtain ⟨p, ys, rfl, hq, q⟩ := h
  obtain ⟨u, rfl, rx⟩ := vals1 r
  cases rx
  have hn := line63
  rcases hq with hq | hq
  · obtain ⟨its, r', pl, hz⟩ := I.list hq
    have hlen := r'.length
    exact Calls.call_len_list pl.isList (by simp only [List.size_toArray] <;> omega) ⟨.int ys.length, H, I.tok _, ⟨s.toks + 1, by rw [List.size_toArray, hlen]⟩, q⟩
  · obtain ⟨its, r', pl, hz⟩ := I.tuple hq
    have hlen := r'.length
    exact len_tuple pl (by simp only [List.size_toArray] <;> omega) ⟨.int ys.length, H, I.tok _, ⟨s.toks + 1, by rw [List.size_toArray, hlen]⟩, q⟩
theorem call_list_of : CallR X (.type "list") (fun xs H Q => ∃ p ys, xs = [.ref p] ∧ (SqL X.K H p ys ∨ SqT X.K H p ys) ∧ ∀ l, H l = none → Q (.ref l) (upd H l (.lst ys))) := by
  intro pins s σ H xs us Q I r h
  obtain ⟨p, ys, rfl, hq, q⟩ := h
  obtain ⟨u, rfl, rx⟩ := vals1 r
  cases rx
  have fin : ∀ (its : List Value), Vals ys its → ys.length ≤ sizeLine → ∀ (h' : Heap) (c' : Nat), (∀ b o', s.heap.get? b = some o' → h'.get? b = some o') →
      h'.get? s.heap.objs.size = some { cls := .type "list", dict := none, data := .seq its.toArray c', slots := #[] } → EP X pins σ Q (.ref s.heap.objs.size) { s with heap := h' } := fun its r' hz h' c' kp e =>
    ⟨.ref s.heap.objs.size, _, I.laid (t' := s.toks) kp (Nat.le_refl _) (show ObjOk X.prog X.w _ h' _ (.lst ys) from ⟨hz, its, c', r', e⟩), rfl, q _ (I.hok.fresh (Nat.le_refl _))⟩
  rcases hq with hq | hq
  · obtain ⟨its, r', pl, hz⟩ := I.list hq
    have hlen := r'.length
    obtain ⟨o, ho, hc, n, hd⟩ := pl.isList
    exact call_list_seq p (.inl rfl) ho hc hd (fun h' c' kp e => fin its r' hz h' c' kp e) (by simp only [List.size_toArray] <;> omega)
  · obtain ⟨its, r', pl, hz⟩ := I.tuple hq
    have hlen := r'.length
    obtain ⟨o, ho, hc, n, hd⟩ := pl
    exact call_list_seq p (.inr rfl) ho hc hd (fun h' c' kp e => fin its r' hz h' c' kp e) (by simp only [List.size_toArray] <;> omega)
noncomputable def tyV (K : PySem.W.Frag) (T : String) (x : V) (H : Hp) : Prop := match x with
  | .str _ => T = "str"
  | .int _ => T = "int"
  | .ref p => (T = "list" ∧ ∃ xs, SqL K H p xs) ∨ (T = "tuple" ∧ ∃ o, K.lookup p = some o ∧ o.cls = .type "tuple" ∧ o.dict = none) ∨
      (T = "dict" ∧ ((∃ kvs, H p = some (.dK kvs)) ∨ ∃ kvs, H p = some (.dT kvs))) ∨ (T = "set" ∧ ∃ S n, H p = some (.set S n))
  | _ => False
theorem tyV_is {pins : List (Addr × Obj)} {σ : St} {H : Hp} {s : Shared} {T : String} {x : V} {v : Value} (I : Inv X pins σ H s) (r : RelV x v) (ty : tyV X.K T x H) :
    s.TypeIs v T ∧ ∀ a, v = .ref a → ∃ ob, s.heap.get? a = some ob ∧ ob.dict = none := by
  cases x with
  | str z =>
    obtain ⟨t, rfl⟩ := r
    cases (show T = "str" from ty)
    exact ⟨typeIs_str s z t, fun _ e => nomatch e⟩
  | int i =>
    obtain ⟨t, rfl⟩ := r
    cases (show T = "int" from ty)
    exact ⟨typeIs_int s i t, fun _ e => nomatch e⟩
  | ref p =>
    cases r
    rcases ty with ⟨rfl, xs, hq⟩ | ⟨rfl, o, hk, hc, hd⟩ | ⟨rfl, hk⟩ | ⟨rfl, S, n, hk⟩
    · obtain ⟨its, _, pl, _⟩ := I.list hq
      refine ⟨pl.isList.typeIs, fun a e => ?_⟩
      cases e
      obtain ⟨o, n, e, c, hd, _⟩ := pl
      exact ⟨o, e, hd⟩
    · refine ⟨⟨o, I.kIn p o hk, hc⟩, fun a e => ?_⟩
      cases e
      exact ⟨o, I.kIn _ o hk, hd⟩
    · have z : ∃ o, s.heap.get? p = some o ∧ o.ExactDict := by
        rcases hk with ⟨kvs, hk⟩ | ⟨kvs, hk⟩
        · obtain ⟨_, _, _, _, o, _, _, e, ex, _⟩ := I.hok p _ hk
          exact ⟨o, e, ex⟩
        · obtain ⟨_, _, _, _, o, _, _, e, ex, _⟩ := I.hok p _ hk
          exact ⟨o, e, ex⟩
      obtain ⟨o, e, ex⟩ := z
      refine ⟨⟨o, e, ex.1⟩, fun a e2 => ?_⟩
      cases e2
      exact ⟨o, e, ex.2.1⟩
    · obtain ⟨o, _, _, _, e, ex, _⟩ := I.hok p _ hk
      refine ⟨⟨o, e, ex.1⟩, fun a e2 => ?_⟩
      cases e2
      exact ⟨o, e, ex.2.1⟩
  | _ => exact False.elim ty
noncomputable def tBM (K : PySem.W.Frag) (T : String) (r : V → List V → Hp → VK → Prop) (to : TE) (t : TA) : TE := fun σ H Q => to σ H fun x H1 => tyV K T x H1 ∧ t σ H1 fun xs H2 => r x xs H2 Q
variable {o e : Expr} {es : List Expr} {to : TE} {t : TA} {name : Str} {apos cpos : Pos} {T id : String} {r : V → List V → Hp → VK → Prop}
theorem pe_bm (pa : PlainAttrs T) (slot : Slot T name id) (hty : typeOf (.builtin id) = pure (.type "method_descriptor")) (hm : MtR X id r) (ho : PE X o to) (ha : PA X (e :: es) t)
    (hbase : attributeBase o name X.env (eval o X.env) = eval o X.env := by rfl)
    (hfew : ((backTo cpos (starEach (e :: es) X.env)).all (fun x => !x.1) && (backToKw cpos (keywordEach [] X.env)).all (fun x => x.1.isSome)
      && decide ((e :: es).length + ([] : List Keyword).length + (if ([] : List Keyword).isEmpty then 0 else 1) < 30)) = true := by rfl)
    (hline : (apos.endLine == cpos.line) = true := by rfl) (hs : starEach (e :: es) X.env = (false, eval e X.env) :: starEach es X.env := by rfl) (hplain : (backTo cpos (starEach es X.env)).any (·.1) = false := by rfl) :
    PE X (.Call (.Attribute o name apos) (e :: es) [] cpos) (tBM X.K T r to t) := by
  intro pins s σ H Q I h
  refine wpAny_Call_method_late hbase hfew hline rfl (thn (ho pins s σ H _ I h) fun v s1 ⟨x, H1, I1, r1, ty, q1⟩ => ?_)
  obtain ⟨h1, h2⟩ := tyV_is I1 r1 ty
  refine ⟨T, id, pa, slot, hty, h1, h2, ?_⟩
  have hA := ha cpos pins s1 σ H1 _ I1 q1
  rw [hs] at hA ⊢
  refine Calls.callWith_builtin (by show (false || (backTo cpos (starEach es X.env)).any (·.1)) = false; rw [hplain] <;> rfl) (Calls.evalArgs_plain ?_)
  exact thn hA fun us s2 ⟨vs, H2, I2, r2, q2⟩ => hm pins s2 σ H2 x vs v us Q I2 r1 r2 q2
/- xs.append(e), list.index on a module's tuple .. are MtR facts of 06m -/
end
end L2

namespace L2
open PySem PySem.Spec PyProof.Rows

noncomputable def MtM (X : Cx) (id : String) (r : V → List V → Hp → VK → Prop) : Prop :=
  ∀ (pins : List (Addr × Obj)) (s : Shared) (σ : St) (H : Hp) (x : V) (xs : List V) (v : Value) (us : List Value) (Q : VK), Inv X pins σ H s → RelV x v → Vals xs us → r x xs H Q →
    wpAny (model X.prog X.w) X.A (call (.builtin id) (v :: us)) (EP X pins σ Q) X.xe s

theorem Vals.one : ∀ {x : V} {us : List Value}, Vals [x] us → ∃ u, us = [u] ∧ RelV x u
  | _, _, .cons r .nil => ⟨_, rfl, r⟩
theorem Vals.rep {xs : List V} {us : List Value} (h : Vals xs us) : ∀ k : Nat, Vals (List.replicate k xs).flatten (List.replicate k us).flatten
  | 0 => .nil
  | k + 1 => by
    rw [List.replicate_succ, List.replicate_succ, List.flatten_cons, List.flatten_cons]
    exact Vals.append h (Vals.rep h k)
theorem foldl_rep (its : List Value) : ∀ (k : Nat) (acc : List Value),
    List.foldl (fun x1 x2 => x1 ++ x2) acc.toArray (List.replicate k its.toArray) = (acc ++ (List.replicate k its).flatten).toArray
  | 0, acc => by simp
  | k + 1, acc => by
    have e : acc.toArray ++ its.toArray = (acc ++ its).toArray := by simp
    have e2 : (acc ++ its) ++ (List.replicate k its).flatten = acc ++ (List.replicate (k + 1) its).flatten := by
      rw [List.replicate_succ, List.flatten_cons, List.append_assoc]
    rw [← e2, ← foldl_rep its k (acc ++ its), ← e, List.replicate_succ, List.foldl_cons]

section
variable {X : Cx} {pins : List (Addr × Obj)} {σ : St} {H : Hp} {s : Shared} {l b : Addr} {xs ys zs : List V}

theorem Inv.lset {its its' : List Value} {n : Nat} {f : Array Value → Array Value} {t' : Nat} (I : Inv X pins σ H s) (hH : H l = some (.lst xs))
    (e : s.heap.get? l = some { cls := .type "list", data := .seq its.toArray n }) (hf : f its.toArray = its'.toArray) (hv : Vals ys its') (hz : ys.length ≤ sizeLine) :
    Inv X pins σ (upd H l (.lst ys)) { s with heap := s.heap.update l (Obj.mapSeq f), toks := t' } := by
  have q := PySem.IsL.update e f
  rw [hf] at q
  refine I.write (x := l) (e := l) (by rw [hH]; exact trivial) (.inl rfl) (fun b' u hb hu => (Heap.get?_update_other s.heap (Obj.mapSeq f) (Ne.symm hb)).trans hu) ⟨_, q⟩ ?_
  exact ⟨hz, its', _, hv, q⟩
theorem Inv.lnew {its : List Value} {t' : Nat} (I : Inv X pins σ H s) (hv : Vals ys its) (hz : ys.length ≤ sizeLine) :
    Inv X pins σ (upd H s.heap.objs.size (.lst ys)) { s with heap := s.heap.push { cls := .type "list", data := .seq its.toArray }, toks := t' } :=
  I.laid (fun _ _ q => Heap.get?_push_of_some _ q) (Nat.le_refl _) ⟨hz, its, 0, hv, Heap.get?_push_size _ rfl⟩
theorem Inv.fresh (I : Inv X pins σ H s) : H s.heap.objs.size = none := I.hok.fresh (Nat.le_refl _)
theorem Inv.lstM (I : Inv X pins σ H s) (hH : H l = some (.lst xs)) : xs.length ≤ sizeLine ∧ ∃ (its : List Value) (n : Nat), Vals xs its ∧ xs.length = its.length ∧ s.heap.get? l = some { cls := .type "list", data := .seq its.toArray n } := by
  obtain ⟨z, its, n, r, e⟩ := I.hok l _ hH
  exact ⟨z, its, n, r, r.length, e⟩

theorem notLongL {n : Nat} (h : n ≤ sizeLine) : Builtin.List.listTooLong n = false := by
  unfold Builtin.List.listTooLong
  exact decide_eq_false (by omega)
end

section
variable {X : Cx}

noncomputable def rAppend : V → List V → Hp → VK → Prop := fun x vs H Q => ∃ l xs y, x = .ref l ∧ vs = [y] ∧ H l = some (.lst xs) ∧ xs.length < sizeLine ∧ Q .non (upd H l (.lst (xs ++ [y])))
theorem mt_append : MtM X "list.append" rAppend := by
  intro pins s σ H x vs v us Q I rx rv h
  obtain ⟨l, xs, y, rfl, rfl, hH, hz, q⟩ := h
  cases rx
  obtain ⟨u, rfl, ru⟩ := rv.one
  obtain ⟨z, its, n, r, hl, e⟩ := I.lstM hH
  refine call_meets F.slot_list_append ⟨_, e, rfl⟩ F.entry_list_append (F.args_list_append_2 _ _) (PySem.list_append l its.toArray n u (by rw [List.size_toArray]; omega)) ⟨e, ?_⟩
  refine ⟨.non, _, I.lset (its' := its ++ [u]) hH e (by simp) (r.append (.cons ru .nil)) ?_, rfl, q⟩
  rw [List.length_append, List.length_singleton]
  omega

noncomputable def rCat : R2 := fun x y H Q => ∃ l b xs zs, x = .ref l ∧ y = .ref b ∧ H l = some (.lst xs) ∧ H b = some (.lst zs) ∧ xs.length + zs.length ≤ sizeLine ∧ ∀ p, H p = none → Q (.ref p) (upd H p (.lst (xs ++ zs)))
theorem op_cat : OpR X (binaryOp .Add) rCat := by
  intro pins s σ H x y v u Q I rx ry h
  obtain ⟨l, b, xs, zs, rfl, rfl, hH, hB, hz, q⟩ := h
  cases rx
  cases ry
  obtain ⟨z, its, n, r, hl, e⟩ := I.lstM hH
  obtain ⟨z2, its2, n2, r2, hl2, e2⟩ := I.lstM hB
  refine PySem.P.add_list e e2 ?_ (by rw [List.size_toArray, List.size_toArray]; omega)
  have ea : its.toArray ++ its2.toArray = (its ++ its2).toArray := by simp
  rw [ea]
  exact ⟨.ref _, _, I.lnew (t' := s.toks) (r.append r2) (by rw [List.length_append]; omega), rfl, q _ I.fresh⟩
noncomputable def rRep : R2 := fun x y H Q => ∃ l k xs, x = .ref l ∧ y = .int k ∧ H l = some (.lst xs) ∧ -(2 ^ 63) ≤ k ∧ k < 2 ^ 63 ∧ xs.length * k.toNat ≤ sizeLine ∧
  ∀ p, H p = none → Q (.ref p) (upd H p (.lst (List.replicate k.toNat xs).flatten))
theorem len_rep {α : Type} (xs : List α) (k : Nat) : (List.replicate k xs).flatten.length = k * xs.length := by
  induction k with
  | zero => simp
  | succ k ih => rw [List.replicate_succ, List.flatten_cons, List.length_append, ih, Nat.succ_mul, Nat.add_comm]
theorem op_rep : OpR X (binaryOp .Mult) rRep := by
  intro pins s σ H x y v u Q I rx ry h
  obtain ⟨l, k, xs, rfl, rfl, hH, h1, h2, hz, q⟩ := h
  cases rx
  obtain ⟨t, rfl⟩ := ry
  obtain ⟨z, its, n, r, hl, e⟩ := I.lstM hH
  have hlen : its.toArray.size * k.toNat ≤ sizeLine := by rw [List.size_toArray, ← hl]; exact hz
  have hcap : ¬ its.toArray.size * k.toNat > (2 ^ 63 - 1) / 8 := by
    have : (sizeLine : Nat) ≤ (2 ^ 63 - 1) / 8 := by decide
    omega
  have hfit : ¬ (!Builtin.List.listFitsIndex k) = true := by
    rw [fitsIndex_both h1 h2]
    exact Bool.false_ne_true
  have hlong : ¬ Builtin.List.listTooLong (its.toArray.size * k.toNat) = true := by
    rw [notLongL hlen]
    exact Bool.false_ne_true
  have hnew : List.foldl (fun x1 x2 => x1 ++ x2) #[] (List.replicate (if its.toArray.isEmpty = true then 0 else k.toNat) its.toArray) = (List.replicate k.toNat its).flatten.toArray := by
    have f0 : ∀ m : Nat, List.foldl (fun x1 x2 => x1 ++ x2) #[] (List.replicate m its.toArray) = (List.replicate m its).flatten.toArray := fun m => by
      have := foldl_rep its m []
      rw [List.nil_append] at this
      exact this
    rw [f0]
    cases its with
    | nil => simp
    | cons a r' => rw [if_neg (by simp)]
  refine wpAny_binaryOp_repeat_ref (T := "list") (U := "int") (by decide) ⟨_, e, rfl⟩ (fun s' => typeIs_int s' k t) noFill_list_mul F.fills_int_mul F.slot_int_rmul repeat_list F.slot_int_index.lookup
    (call_meets F.slot_int_rmul (typeIs_int s k t) F.entry_int_rmul (F.args_int_rmul_2 _ _) (int___rmul___int_list k t l its.toArray n)
      ⟨e, rfl, ⟨_, e, rfl⟩, call_meets F.slot_list_mul ⟨_, e, rfl⟩ F.entry_list_mul (F.args_list_mul_2 _ _) (AutoListH.list___mul___list_int_3 l its.toArray n k t hfit hcap hlong) ⟨e, ?_⟩⟩)
  rw [hnew]
  exact ⟨.ref _, _, I.lnew (t' := s.toks) (r.rep k.toNat) (by rw [len_rep, Nat.mul_comm]; exact hz), rfl, q _ I.fresh⟩

end

section
variable {prog : Program} {w : World} {A : Around} {E : Value → Shared → Prop} {s : Shared}
set_option maxRecDepth 100000 in
end

section
variable {X : Cx}
end
end L2

namespace L2
open PySem PySem.Spec PyProof.Rows

section
variable {κ : Type} [DecidableEq κ]
noncomputable def valV (kvs : List (κ × V)) (k : κ) : Option V := (kvs.find? fun kv => decide (kv.1 = k)).map (·.2)
noncomputable def putK (kvs : List (κ × V)) (k : κ) (v : V) : List (κ × V) :=
  if (kvs.any fun kv => decide (kv.1 = k)) = true then kvs.map (fun kv => if kv.1 = k then (kv.1, v) else kv) else kvs ++ [(k, v)]
theorem valV_nil {k : κ} : valV ([] : List (κ × V)) k = none := rfl
theorem valV_pos {p : κ × V} {r : List (κ × V)} {k : κ} (e : p.1 = k) : valV (p :: r) k = some p.2 := by simp [valV, List.find?_cons, e]
theorem valV_neg {p : κ × V} {r : List (κ × V)} {k : κ} (e : ¬ p.1 = k) : valV (p :: r) k = valV r k := by simp [valV, List.find?_cons, e]
theorem valV_any (k : κ) : ∀ kvs : List (κ × V), (kvs.any fun kv => decide (kv.1 = k)) = (valV kvs k).isSome
  | [] => rfl
  | p :: r => by
    rw [List.any_cons]
    by_cases e : p.1 = k
    · simp only [valV_pos e, decide_eq_true e, Bool.true_or, Option.isSome_some]
    · rw [valV_neg e, decide_eq_false e, Bool.false_or]; exact valV_any k r
theorem valV_map (k j : κ) (y : V) : ∀ kvs : List (κ × V), valV (kvs.map fun kv => if kv.1 = k then (kv.1, y) else kv) j = (valV kvs j).map fun x => if j = k then y else x
  | [] => rfl
  | p :: r => by
    have ih := valV_map k j y r
    rw [List.map_cons]
    by_cases h : p.1 = k
    · rw [if_pos h]
      by_cases e : p.1 = j
      · rw [valV_pos (p := (p.1, y)) e, valV_pos e, Option.map_some, if_pos (e.symm.trans h)]
      · rw [valV_neg (p := (p.1, y)) e, valV_neg e, ih]
    · rw [if_neg h]
      by_cases e : p.1 = j
      · rw [valV_pos (p := p) e, valV_pos e, Option.map_some, if_neg (fun z => h (e.trans z))]
      · rw [valV_neg (p := p) e, valV_neg e, ih]
theorem valV_snoc (k j : κ) (y : V) : ∀ kvs : List (κ × V), valV kvs k = none → valV (kvs ++ [(k, y)]) j = if j = k then some y else valV kvs j
  | [], _ => by
    by_cases e : k = j
    · rw [if_pos e.symm]; exact valV_pos (p := (k, y)) e
    · rw [if_neg (fun z => e z.symm)]; exact valV_neg (p := (k, y)) e
  | p :: r, hn => by
    rw [List.cons_append]
    have hk : ¬ p.1 = k := fun z => by rw [valV_pos z] at hn; cases hn
    rw [valV_neg hk] at hn
    have ih := valV_snoc k j y r hn
    by_cases e : p.1 = j
    · rw [valV_pos e, valV_pos e, if_neg (fun z => hk (e.trans z))]
    · rw [valV_neg e, valV_neg e, ih]
theorem valV_put (kvs : List (κ × V)) (k j : κ) (y : V) : valV (putK kvs k y) j = if j = k then some y else valV kvs j := by
  unfold putK
  by_cases a : (kvs.any fun kv => decide (kv.1 = k)) = true
  · rw [if_pos a, valV_map]
    rw [valV_any] at a
    by_cases e : j = k
    · obtain ⟨x, hx⟩ := Option.isSome_iff_exists.mp a
      rw [if_pos e, e, hx, Option.map_some, if_pos rfl]
    · rw [if_neg e]
      cases valV kvs j with
      | none => rfl
      | some x => rw [Option.map_some, if_neg e]
  · rw [if_neg a]
    refine valV_snoc k j y kvs ?_
    rw [valV_any] at a
    cases q : valV kvs k with
    | none => rfl
    | some x => rw [q] at a; exact (a rfl).elim
theorem length_putK (kvs : List (κ × V)) (k : κ) (v : V) : (putK kvs k v).length ≤ kvs.length + 1 := by
  unfold putK
  split
  · rw [List.length_map]; omega
  · rw [List.length_append, List.length_cons, List.length_nil]; omega
theorem putK_new {kvs : List (κ × V)} {k : κ} (v : V) (h : valV kvs k = none) : putK kvs k v = kvs ++ [(k, v)] := by
  unfold putK
  rw [valV_any, h]
  exact if_neg (by decide)

theorem RelO.isSome_eq {o : Option V} {u : Option Value} (r : RelO o u) : o.isSome = u.isSome := by
  cases o with
  | none => cases u with
    | none => rfl
    | some _ => exact (show False from r).elim
  | some _ => cases u with
    | none => exact (show False from r).elim
    | some _ => rfl
theorem RelO.getD {o : Option V} {u : Option Value} {d : V} {d' : Value} (r : RelO o u) (rd : RelV d d') : RelV (o.getD d) (u.getD d') := by
  cases o with
  | none => cases u with
    | none => exact rd
    | some _ => exact (show False from r).elim
  | some _ => cases u with
    | none => exact (show False from r).elim
    | some _ => exact r

theorem KV.val {kvs : List (κ × V)} {vs : List (κ × Value)} (r : KV kvs vs) (k : κ) : RelO (valV kvs k) (valueAt vs k) := by
  unfold KV at r
  induction r with
  | nil => exact True.intro
  | @cons p q ps qs h t ih =>
    obtain ⟨h1, h2⟩ := h
    by_cases e : p.1 = k
    · have e' : q.1 = k := h1.symm.trans e
      have b : valueAt (q :: qs) k = some q.2 := by simp [valueAt, List.find?_cons, e']
      rw [valV_pos e, b]; exact h2
    · have e' : ¬ q.1 = k := fun z => e (h1.trans z)
      have b : valueAt (q :: qs) k = valueAt qs k := by simp [valueAt, List.find?_cons, e']
      rw [valV_neg e, b]; exact ih
theorem KV.any {kvs : List (κ × V)} {vs : List (κ × Value)} (r : KV kvs vs) (k : κ) : (kvs.any fun kv => decide (kv.1 = k)) = vs.any fun kv => decide (kv.1 = k) := by
  unfold KV at r
  induction r with
  | nil => rfl
  | cons h t ih => rw [List.any_cons, List.any_cons, ih, h.1]
theorem KV.repl {kvs : List (κ × V)} {vs : List (κ × Value)} (r : KV kvs vs) (k : κ) {y : V} {u : Value} (ry : RelV y u) :
    KV (kvs.map fun kv => if kv.1 = k then (kv.1, y) else kv) (vs.map fun kv => if kv.1 = k then (kv.1, u) else kv) := by
  unfold KV at r ⊢
  induction r with
  | nil => exact .nil
  | @cons p q ps qs h t ih =>
    rw [List.map_cons, List.map_cons]
    refine .cons ?_ ih
    obtain ⟨h1, h2⟩ := h
    by_cases e : p.1 = k
    · rw [if_pos e, if_pos (h1.symm.trans e)]; exact ⟨h1, ry⟩
    · rw [if_neg e, if_neg (fun z => e (h1.trans z))]; exact ⟨h1, h2⟩
theorem KV.put {kvs : List (κ × V)} {vs : List (κ × Value)} (r : KV kvs vs) (k : κ) {y : V} {u : Value} (ry : RelV y u) : KV (putK kvs k y) (stored vs k u) := by
  unfold putK stored
  rw [r.any k]
  by_cases e : (vs.any fun kv => decide (kv.1 = k)) = true
  · rw [if_pos e, if_pos e]; exact r.repl k ry
  · rw [if_neg e, if_neg e]; exact Paired.snoc r ⟨rfl, ry⟩
theorem KV.keys {kvs : List (κ × V)} {vs : List (κ × Value)} (r : KV kvs vs) : kvs.map (·.1) = vs.map (·.1) := by
  unfold KV at r
  induction r with
  | nil => rfl
  | cons h t ih => rw [List.map_cons, List.map_cons, ih, h.1]
theorem KV.length {kvs : List (κ × V)} {vs : List (κ × Value)} (r : KV kvs vs) : kvs.length = vs.length := Paired.length r
end


theorem kV_is {P : Program} {w : World} {k : Key} {u : Value} (r : RelV (kV k) u) : (mixKind P w).is k u = true := by
  cases k with
  | inl i => obtain ⟨t, e⟩ := (show ∃ t, u = Value.int i t from r); subst e; exact mixKind_int P w i t
  | inr x => obtain ⟨t, e⟩ := (show ∃ t, u = Value.str x t from r); subst e; exact mixKind_str P w x t
theorem items_are {P : Program} {w : World} : ∀ {ks : List Key} {us : List Value}, Vals (ks.map kV) us → ItemsAre (mixKind P w) ks us
  | [], _, r => by rw [List.map_nil] at r; cases r; exact .nil
  | k :: ks, _, r => by
    rw [List.map_cons] at r
    cases r with
    | cons h t => exact .cons (kV_is h) (items_are t)

noncomputable abbrev KT (H : Hp) : List (List Key × V) → List (List Key × Addr × Value) → Prop := Paired fun p q => p.1 = q.1 ∧ H q.2.1 = some (.tup (p.1.map kV)) ∧ RelV p.2 q.2.2
theorem KT.val {H : Hp} {kvs : List (List Key × V)} {xs : List (List Key × Addr × Value)} (r : KT H kvs xs) (k : List Key) : RelO (valV kvs k) ((atKey xs k).map (·.2)) := by
  induction r with
  | nil => exact True.intro
  | @cons p q ps qs h t ih =>
    obtain ⟨h1, _, h2⟩ := h
    by_cases e : p.1 = k
    · have e' : q.1 = k := h1.symm.trans e
      have b : atKey (q :: qs) k = some q.2 := by simp [atKey, List.find?_cons, e']
      rw [valV_pos e, b]; exact h2
    · have e' : ¬ q.1 = k := fun z => e (h1.trans z)
      have b : atKey (q :: qs) k = atKey qs k := by simp [atKey, List.find?_cons, e']
      rw [valV_neg e, b]; exact ih
theorem KT.repl {H : Hp} {kvs : List (List Key × V)} {xs : List (List Key × Addr × Value)} (r : KT H kvs xs) (k : List Key) {y : V} {u : Value} (ry : RelV y u) :
    KT H (kvs.map fun kv => if kv.1 = k then (kv.1, y) else kv) (xs.map (putAt k u)) := by
  induction r with
  | nil => exact .nil
  | @cons p q ps qs h t ih =>
    rw [List.map_cons, List.map_cons]
    refine .cons ?_ ih
    obtain ⟨h1, h2, h3⟩ := h
    unfold putAt
    by_cases e : p.1 = k
    · rw [if_pos e, if_pos (h1.symm.trans e)]; exact ⟨h1, h2, ry⟩
    · rw [if_neg e, if_neg (fun z => e (h1.trans z))]; exact ⟨h1, h2, h3⟩
theorem KT.put {H : Hp} {kvs : List (List Key × V)} {xs : List (List Key × Addr × Value)} (r : KT H kvs xs) (k : List Key) {b : Addr} {y : V} {u : Value} (hb : H b = some (.tup (k.map kV))) (ry : RelV y u) :
    KT H (putK kvs k y) (storedH xs k b u) := by
  have e : (kvs.any fun kv => decide (kv.1 = k)) = (atKey xs k).isSome := by
    rw [valV_any, (r.val k).isSome_eq, Option.isSome_map]
  unfold putK storedH
  rw [e]
  by_cases q : (atKey xs k).isSome = true
  · rw [if_pos q, if_pos q]; exact r.repl k ry
  · rw [if_neg q, if_neg q]; exact Paired.snoc r ⟨rfl, hb, ry⟩
theorem KT.keeps {H H' : Hp} {kvs : List (List Key × V)} {xs : List (List Key × Addr × Value)} (r : KT H kvs xs) (ht : ∀ b ys, H b = some (.tup ys) → H' b = some (.tup ys)) : KT H' kvs xs :=
  Paired.mapP r fun _ _ z => ⟨z.1, ht _ _ z.2.1, z.2.2⟩

section
variable {P : Program} {w : World} {H : Hp} {h : Heap} {a : Addr}
theorem rd_of {u : HO} (ok : HOk P w H h) (e : Rd H a u) : ObjOk P w H h a u := e.ok ok
theorem dk_rd {kvs : List (Key × V)} (ok : HOk P w H h) (e : Rd H a (.dK kvs)) : kvs.length ≤ sizeLine ∧ (a == sysModules) = false ∧ ∃ vs, KV kvs vs ∧ h.DictOf (mixKind P w) a vs :=
  show ObjOk P w H h a (.dK kvs) from rd_of ok e
theorem dk_of {kvs : List (Key × V)} (ok : HOk P w H h) (e : H a = some (.dK kvs)) : kvs.length ≤ sizeLine ∧ (a == sysModules) = false ∧ ∃ vs, KV kvs vs ∧ h.DictOf (mixKind P w) a vs := dk_rd ok (.inl e)
theorem key_of {ks : List Key} (ok : HOk P w H h) (e : H a = some (.tup (ks.map kV))) : (tupleKind (mixKind P w)).is h ks a := by
  obtain ⟨_, its, r, o, h1, h2, n, h3⟩ := (show ObjOk P w H h a (.tup (ks.map kV)) from ok a _ e)
  exact ⟨o, its.toArray, n, h1, h2, h3, by simpa using items_are r⟩
theorem dt_rd {kvs : List (List Key × V)} (ok : HOk P w H h) (e : Rd H a (.dT kvs)) : kvs.length ≤ sizeLine ∧ (a == sysModules) = false ∧
    ∃ xs, KT H kvs xs ∧ h.DictOfH (tupleKind (mixKind P w)) a xs := by
  obtain ⟨z, y, xs, r, o, es, ep, h1, h2, h3, h4, h5⟩ := (show ObjOk P w H h a (.dT kvs) from rd_of ok e)
  refine ⟨z, y, xs, r, o, es, ep, h1, h2, h3, h4, fun x hx => ?_, h5⟩
  have all : ∀ {l : List (List Key × V)} {m : List (List Key × Addr × Value)}, KT H l m → ∀ x ∈ m, (tupleKind (mixKind P w)).is h x.1 x.2.1 := by
    intro l m q
    induction q with
    | nil => intro x hx; exact nomatch hx
    | @cons p q ps qs hq t ih =>
      intro x hx
      rcases List.mem_cons.mp hx with e | hx
      · subst e
        exact key_of ok (by rw [← hq.1]; exact hq.2.1)
      · exact ih x hx
  exact all r x hx
theorem dt_of {kvs : List (List Key × V)} (ok : HOk P w H h) (e : H a = some (.dT kvs)) : kvs.length ≤ sizeLine ∧ (a == sysModules) = false ∧
    ∃ xs, KT H kvs xs ∧ h.DictOfH (tupleKind (mixKind P w)) a xs := dt_rd ok (.inl e)
end

noncomputable def DGet (H : Hp) (a : Addr) (y : V) (r : Option V) : Prop :=
  (∃ kvs k, Rd H a (.dK kvs) ∧ y = kV k ∧ r = valV kvs k) ∨ ∃ kvs k b, Rd H a (.dT kvs) ∧ y = .ref b ∧ H b = some (.tup (k.map kV)) ∧ r = valV kvs k
noncomputable def DPut (H : Hp) (a : Addr) (y v : V) (H' : Hp) : Prop :=
  (∃ kvs k, H a = some (.dK kvs) ∧ y = kV k ∧ kvs.length < sizeLine ∧ H' = upd H a (.dK (putK kvs k v))) ∨
  ∃ kvs k b, H a = some (.dT kvs) ∧ y = .ref b ∧ H b = some (.tup (k.map kV)) ∧ kvs.length < sizeLine ∧ H' = upd H a (.dT (putK kvs k v))
theorem DGet.k {H : Hp} {a : Addr} {kvs : List (Key × V)} {k : Key} (e : H a = some (.dK kvs)) : DGet H a (kV k) (valV kvs k) := .inl ⟨kvs, k, .inl e, rfl, rfl⟩
theorem DPut.k {H : Hp} {a : Addr} {kvs : List (Key × V)} {k : Key} {v : V} (e : H a = some (.dK kvs)) (hl : kvs.length < sizeLine) : DPut H a (kV k) v (upd H a (.dK (putK kvs k v))) := .inl ⟨kvs, k, e, rfl, hl, rfl⟩
section
variable {X : Cx} {pins : List (Addr × Obj)} {σ : St} {H : Hp} {s : Shared} {a : Addr} {y v : V} {u r : Value} {o : Option V} {A : Around} {E : Value → Shared → Prop}

theorem Inv.big (I : Inv X pins σ H s) : sysModules < s.heap.objs.size := by
  have h : mainGlobals < s.heap.objs.size := (I.mod.glob.keeps I.bk).lt
  exact Nat.lt_trans (by decide) h

theorem d_getItem {Q : Value → Shared → Prop} (hu : A.units + 1 < cLine) (I : Inv X pins σ H s) (g : DGet H a y (some v)) (ry : RelV y u) (h : ∀ w' s', Inv X pins σ H s' → RelV v w' → Q w' s') :
    wpAny (model X.prog X.w) A (getItem (.ref a) u) Q E s := by
  rcases g with ⟨kvs, k, e, ey, l⟩ | ⟨kvs, k, b, e, ey, eb, l⟩
  · subst ey
    obtain ⟨z, hd, vs, rel, dd⟩ := dk_rd I.hok e
    obtain ⟨w', hw, rw'⟩ := RelO.some_of (v := v) (o := valueAt vs k) (by rw [l]; exact rel.val k)
    exact wpAny_getItem_of (kV_is ry) dd.mapOf hw (h w' _ (I.tok _) rw')
  · subst ey
    cases (show u = Value.ref b from ry)
    obtain ⟨z, hd, xs, rel, dd⟩ := dt_rd I.hok e
    obtain ⟨w', hw, rw'⟩ := RelO.some_of (v := v) (o := (atKey xs k).map (·.2)) (by rw [l]; exact rel.val k)
    obtain ⟨p, hp, hp2⟩ := Option.map_eq_some_iff.mp hw
    refine wpAny_getItem_heap (tupleKind_room_in1 hu) (key_of I.hok eb) dd hp ?_
    rw [hp2]
    exact h w' _ (I.tok _) rw'
theorem d_in {Q : Value → Shared → Prop} (hu : A.units + 1 < cLine) (I : Inv X pins σ H s) (g : DGet H a y o) (ry : RelV y u) (h : ∀ s', Inv X pins σ H s' → Q (.bool o.isSome) s') :
    wpAny (model X.prog X.w) A (compareOp .In u (.ref a)) Q E s := by
  rcases g with ⟨kvs, k, e, ey, l⟩ | ⟨kvs, k, b, e, ey, eb, l⟩
  · subst ey
    obtain ⟨z, hd, vs, rel, dd⟩ := dk_rd I.hok e
    refine wpAny_in_of (kV_is ry) hd dd.mapOf ?_
    rw [← (rel.val k).isSome_eq, ← l]
    exact h _ (I.tok _)
  · subst ey
    cases (show u = Value.ref b from ry)
    obtain ⟨z, hd, xs, rel, dd⟩ := dt_rd I.hok e
    refine wpAny_in_heap (tupleKind_room_in1 hu) (key_of I.hok eb) hd dd ?_
    have q := (rel.val k).isSome_eq
    rw [Option.isSome_map] at q
    rw [← q, ← l]
    exact h _ (I.tok _)
theorem d_write {h' : Heap} {t' : Nat} {ob : HO} (I : Inv X pins σ H s) (mu : Mut (H a)) (hs : Heap.SameBut a s.heap h') (he : ∃ q, h'.get? a = some q) (new : ObjOk X.prog X.w (upd H a ob) h' a ob) :
    Inv X pins σ (upd H a ob) { s with heap := h', toks := t' } :=
  I.write (x := a) (e := a) mu (.inl rfl) (fun b q hb z => (hs.2 b hb).trans z) he new
theorem dk_new {P : Program} {w : World} {H' : Hp} {h' : Heap} {kvs : List (Key × V)} {vs : List (Key × Value)} (z : kvs.length ≤ sizeLine) (hd : (a == sysModules) = false) (rel : KV kvs vs) (dd : h'.DictOf (mixKind P w) a vs) :
    ObjOk P w H' h' a (.dK kvs) := ⟨z, hd, vs, rel, dd⟩
theorem d_setItem {H' : Hp} {Q : Unit → Shared → Prop} (hu : A.units + 1 < cLine) (I : Inv X pins σ H s) (g : DPut H a y v H') (ry : RelV y u) (rv : RelV v r) (h : ∀ s', Inv X pins σ H' s' → Q () s') :
    wpAny (model X.prog X.w) A (setItem (.ref a) u r) Q E s := by
  rcases g with ⟨kvs, k, e, ey, l, eH⟩ | ⟨kvs, k, b, e, ey, eb, l, eH⟩
  · subst ey eH
    obtain ⟨z, hd, vs, rel, dd⟩ := dk_of I.hok e
    have hz : vs.length ≤ sizeLine := by rw [← rel.length]; exact z
    have hl : (putK kvs k v).length ≤ sizeLine := by have := length_putK kvs k v; omega
    refine wpAny_setItem_pairs (hsz := hz) (kV_is ry) dd fun h' dd' hs => h _ ?_
    have he : ∃ q, h'.get? a = some q := let ⟨q, _, _, hq, _⟩ := dd'; ⟨q, hq⟩
    exact d_write I (by rw [e]; exact True.intro) hs he (dk_new hl hd (rel.put k rv) dd')
  · subst ey eH
    cases (show u = Value.ref b from ry)
    obtain ⟨z, hd, xs, rel, dd⟩ := dt_of I.hok e
    have hz : xs.length ≤ sizeLine := by rw [← Paired.length rel]; exact z
    have hl : (putK kvs k v).length ≤ sizeLine := by have := length_putK kvs k v; omega
    refine wpAny_setItem_heap (hsz := hz) (tupleKind_room_in1 hu) (key_of I.hok eb) dd fun h' dd' hs => h _ ?_
    obtain ⟨q, es, ep, hq, h2, h3, h4, _, h5⟩ := dd'
    refine d_write I (by rw [e]; exact True.intro) hs ⟨q, hq⟩ ⟨hl, hd, _, (rel.put k eb rv).keeps fun c ys ec => ?_, q, es, ep, hq, h2, h3, h4, h5⟩
    rw [upd_ne (ne_of ec e (fun z => nomatch z))]
    exact ec
end

section
variable {X : Cx} {pins : List (Addr × Obj)} {σ : St} {H : Hp} {s : Shared} {a : Addr} {kvs : List (Key × V)} {k : Key} {u : Value} {A : Around} {E : Value → Shared → Prop}
end


noncomputable def NoSl (i : Expr) : Prop := ∀ ov iv, subscripted i false ov iv = operate [ov, iv] (getItem ov iv)
theorem subD_of {prog : Program} {w : World} {A : Around} {E : Value → Shared → Prop} {s : Shared} {env : Env} {value slice : Expr} {pos : Pos} {T id : String} {Q : Value → Shared → Prop}
    (hl : typeLookup (.type T) "__getitem__" = pure (some (.builtin id))) (hs : NoSl slice)
    (h : wpAny (model prog w) A (eval value env) (fun o s₁ => wpAny (model prog w) A (eval slice env) (fun i s₂ => s₂.TypeIs o T ∧ wpAny (model prog w) A (getItem o i) Q E s₂) E s₁) E s) :
    wpAny (model prog w) A (eval (.Subscript value slice pos) env) Q E s := by
  refine Subscript_ (wpAny_mono h (fun o s₁ h₁ => wpAny_mono h₁ (fun i s₂ h₂ => ?_) fun _ _ x => x) fun _ _ x => x)
  obtain ⟨hT, h₂⟩ := h₂
  unfold subscriptTail
  refine wpAny_bind ?_
  rw [getitemInPython_of_ne hT.not_modules]
  refine wpAny_bind (wpAny_specialOf hT hl ?_)
  have fin : wpAny (model prog w) A (subscripted slice false o i) (fun r s₃ => wpAny (model prog w) A (letTemporaryGo value o r >>= fun _ => pure r) Q E s₃) E s₂ := by
    rw [hs o i]
    exact wpAny_operating (wpAny_mono h₂ (fun r s₃ h₃ => wpAny_bind (wpAny_letTemporaryGo (wpAny_pure h₃))) fun _ _ x => x)
  first
    | exact wpAny_pure (wpAny_bind fin)
    | exact wpAny_bind (wpAny_pure (wpAny_bind fin))
    | exact wpAny_bind fin

theorem dict_typeIs {X : Cx} {pins : List (Addr × Obj)} {σ : St} {H : Hp} {s : Shared} {a : Addr} {y : V} {o : Option V} (I : Inv X pins σ H s) (g : DGet H a y o) : s.TypeIs (.ref a) "dict" := by
  rcases g with ⟨kvs, k, e, _, _⟩ | ⟨kvs, k, b, e, _, _, _⟩
  · obtain ⟨_, _, vs, _, dd⟩ := dk_rd I.hok e
    exact dd.typeIs
  · obtain ⟨_, _, xs, _, dd⟩ := dt_rd I.hok e
    exact dd.typeIs
noncomputable def tDGet (td ty : TE) : TE := fun σ H Q => td σ H fun x H1 => ty σ H1 fun y H2 => ∃ a v, x = .ref a ∧ DGet H2 a y (some v) ∧ Q v H2
noncomputable def tDIn (ty td : TE) : TE := fun σ H Q => ty σ H fun y H1 => td σ H1 fun x H2 => ∃ a o, x = .ref a ∧ DGet H2 a y o ∧ Q (.bl o.isSome) H2
noncomputable def sDPut (td ty tv : TE) : TS := fun D σ H => tv σ H fun v H1 => td σ H1 fun x H2 => ty σ H2 fun y H3 => ∃ a H4, x = .ref a ∧ DPut H3 a y v H4 ∧ D.nx σ H4
section
variable {X : Cx} {o i e value : Expr} {pos pos' tpos : Pos} {td ty tv : TE}
theorem pe_dget (hu : X.A.units + 1 < cLine) (ho : PE X o td) (hi : PE X i ty) (hs : NoSl i) : PE X (.Subscript o i pos) (tDGet td ty) := by
  intro pins s σ H Q I h
  refine subD_of PySem.F.slot_dict_getitem.lookup hs (thn (ho pins s σ H _ I h) fun u s1 ⟨x, H1, I1, rx, q1⟩ => thn (hi pins s1 σ H1 _ I1 q1) fun iv s2 ⟨y, H2, I2, ry, a, v, ex, g, q2⟩ => ?_)
  subst ex
  obtain rfl : u = Value.ref a := rx
  exact ⟨dict_typeIs I2 g, d_getItem hu I2 g ry fun w' s3 I3 rw' => ⟨v, H2, I3, rw', q2⟩⟩
theorem pc_din (hu : X.A.units + 1 < cLine) (hi : PE X i ty) (ho : PE X o td) : PC X .In i o (tDIn ty td) := by
  intro pins s σ H Q I h
  refine thn (hi pins s σ H _ I h) fun iv s1 ⟨y, H1, I1, ry, q1⟩ => thn (ho pins s1 σ H1 _ I1 q1) fun u s2 ⟨x, H2, I2, rx, a, ov, ex, g, q2⟩ => ?_
  subst ex
  obtain rfl : u = Value.ref a := rx
  exact d_in hu I2 g ry fun s3 I3 => ⟨.bl ov.isSome, H2, I3, rfl, q2⟩
theorem ps_dput (hu : X.A.units + 1 < cLine) (ho : PE X o td) (hi : PE X i ty) (hv : PE X value tv) (hs : swapsWith value (some (.Subscript o i pos')) pos.line X.env = pure false) :
    PS X (.Assign [.Subscript o i pos'] value pos) (sDPut td ty tv) := by
  intro pins s σ H D I h
  refine wpAny_Assign_Subscript (thn (hv pins s σ H _ I h) fun r s1 ⟨v, H1, I1, rv, q1⟩ => thn (ho pins s1 σ H1 _ I1 q1) fun u s2 ⟨x, H2, I2, rx, q2⟩ => thn (hi pins s2 σ H2 _ I2 q2) fun iv s3 ⟨y, H3, I3, ry, a, H4, ex, g, q3⟩ => ?_) hs
  subst ex
  obtain rfl : u = Value.ref a := rx
  exact d_setItem hu I3 g ry rv fun s4 I4 => ⟨σ, H4, I4, q3⟩
end


theorem dk_empty {P : Program} {w : World} {H : Hp} (h : Heap) (hb : sysModules < h.objs.size) : ObjOk P w H (h.push { cls := .type "dict", data := .dict #[] }) h.objs.size (.dK []) :=
  ⟨Nat.zero_le _, beq_eq_false_iff_ne.mpr (Ne.symm (Nat.ne_of_lt hb)), [], .nil, Heap.DictOf.new h⟩
noncomputable def tDNewK : TE := fun _ H Q => ∀ p, H p = none → Q (.ref p) (upd H p (.dK []))
section
variable {X : Cx} {pos : Pos}
theorem pe_dnewK : PE X (.Dict [] [] pos) tDNewK := fun pins s σ H Q I h =>
  wpAny_Dict_empty ⟨.ref s.heap.objs.size, _, I.laid (a := s.heap.objs.size) (o := .dK []) (t' := s.toks) (fun _ _ q => Heap.get?_push_of_some _ q) (Nat.le_refl _) (dk_empty s.heap I.big), rfl, h _ (I.hok.fresh (Nat.le_refl _))⟩
end

structure M2 (X : Cx) (o : Expr) (m : Str) (apos : Pos) (e f : Expr) (cpos : Pos) : Prop where
  base : attributeBase o m X.env (eval o X.env) = eval o X.env
  few : ((backTo cpos (starEach [e, f] X.env)).all (fun x => !x.1) && (backToKw cpos (keywordEach [] X.env)).all (fun x => x.1.isSome)
    && decide (([e, f] : List Expr).length + ([] : List Keyword).length + (if ([] : List Keyword).isEmpty then 0 else 1) < 30)) = true
  line : (apos.endLine == cpos.line) = true
  trees : backTo cpos (starEach [e, f] X.env) = [(false, eval e X.env), (false, eval f X.env)]

noncomputable def IsD (H : Hp) (a : Addr) : Prop := (∃ kvs, Rd H a (.dK kvs)) ∨ ∃ kvs, Rd H a (.dT kvs)
theorem isD_at {X : Cx} {pins : List (Addr × Obj)} {σ : St} {H : Hp} {s : Shared} {a : Addr} (I : Inv X pins σ H s) (d : IsD H a) :
    s.TypeIs (.ref a) "dict" ∧ (∀ b, Value.ref a = .ref b → ∃ ob, s.heap.get? b = some ob ∧ ob.dict = none) ∧ (a == sysModules) = false := by
  rcases d with ⟨kvs, e⟩ | ⟨kvs, e⟩
  · obtain ⟨_, hd, vs, _, dd⟩ := dk_rd I.hok e
    refine ⟨dd.typeIs, fun b q => ?_, hd⟩
    cases q
    obtain ⟨ob, _, _, h1, h2, _⟩ := dd
    exact ⟨ob, h1, h2.2.1⟩
  · obtain ⟨_, hd, xs, _, dd⟩ := dt_rd I.hok e
    refine ⟨dd.typeIs, fun b q => ?_, hd⟩
    cases q
    obtain ⟨ob, _, _, h1, h2, _⟩ := dd
    exact ⟨ob, h1, h2.2.1⟩

section
variable {X : Cx} {pins : List (Addr × Obj)} {σ : St} {H : Hp} {s : Shared} {a : Addr} {y d : V} {u r : Value} {o : Option V} {A : Around} {E : Value → Shared → Prop}
theorem d_get2 {Q : Value → Shared → Prop} (hu : A.units + 1 < cLine) (I : Inv X pins σ H s) (g : DGet H a y o) (ry : RelV y u) (rd : RelV d r) (h : ∀ w' s', Inv X pins σ H s' → RelV (o.getD d) w' → Q w' s') :
    wpAny (model X.prog X.w) A (call (.builtin "dict.get") [.ref a, u, r]) Q E s := by
  rcases g with ⟨kvs, k, e, ey, l⟩ | ⟨kvs, k, b, e, ey, eb, l⟩
  · subst ey
    obtain ⟨z, hd, vs, rel, dd⟩ := dk_rd I.hok e
    refine call_meetsIn PySem.F.slot_dict_get dd.typeIs PySem.F.entry_dict_get (PySem.F.args_dict_get_3 _ _ _) (meets_dict_get_default (mixKind X.prog X.w) a (kV_is ry) hd r) ⟨_, dd.mapOf, h _ _ (I.tok _) ?_⟩
    rw [l]
    exact (rel.val k).getD rd
  · subst ey
    cases (show u = Value.ref b from ry)
    obtain ⟨z, hd, xs, rel, dd⟩ := dt_rd I.hok e
    refine call_meetsIn PySem.F.slot_dict_get dd.typeIs PySem.F.entry_dict_get (PySem.F.args_dict_get_3 _ _ _) (meetsH_dict_get_default (tupleKind (mixKind X.prog X.w)) a b hd r) ⟨tupleKind_room_in1 hu, k, xs, key_of I.hok eb, dd, h _ _ (I.tok _) ?_⟩
    rw [l]
    exact (rel.val k).getD rd
end

noncomputable def tDGet2 (td ty tx : TE) : TE := fun σ H Q => td σ H fun x H1 => ∃ a, x = .ref a ∧ IsD H1 a ∧ ty σ H1 fun y H2 => tx σ H2 fun z H3 => ∃ o, DGet H3 a y o ∧ Q (o.getD z) H3
section
variable {X : Cx} {o e f : Expr} {apos cpos : Pos} {td ty tx : TE}
theorem pe_dget2 (hu : X.A.units + 1 < cLine) (ho : PE X o td) (he : PE X e ty) (hf : PE X f tx) (m : M2 X o "get" apos e f cpos) : PE X (.Call (.Attribute o "get" apos) [e, f] [] cpos) (tDGet2 td ty tx) := by
  intro pins s σ H Q I h
  refine wpAny_Call_method m.base m.few m.line PySem.F.plainAttrs_dict PySem.F.slot_dict_get PySem.F.type_dict_get (thn (ho pins s σ H _ I h) fun u s1 ⟨x, H1, I1, rx, a, ex, d, q1⟩ => ?_)
  subst ex
  obtain rfl : u = Value.ref a := rx
  obtain ⟨t1, t2, _⟩ := isD_at I1 d
  refine ⟨t1, t2, ?_⟩
  rw [m.trees]
  refine Calls.callWith_builtin rfl (Calls.evalArgs_plain (Calls.spliced_cons (thn (he pins s1 σ H1 _ I1 q1) fun iv s2 ⟨y, H2, I2, ry, q2⟩ =>
    Calls.spliced_cons (thn (hf pins s2 σ H2 _ I2 q2) fun fv s3 ⟨z, H3, I3, rz, ov, g, q3⟩ => Calls.spliced_nil ?_))))
  exact d_get2 hu I3 g ry rz fun w' s4 I4 rw' => ⟨_, H3, I4, rw', q3⟩
end

section
variable {X : Cx} {pins : List (Addr × Obj)} {σ : St} {H : Hp} {s : Shared} {a : Addr} {kvs : List (Key × V)} {A : Around} {E : Value → Shared → Prop}
end


section
variable {X : Cx} {pins : List (Addr × Obj)} {σ : St} {H : Hp} {s : Shared} {a : Addr} {y : V} {u : Value} {A : Around} {E : Value → Shared → Prop}
end
end L2

namespace Att
open PySem PySem.W PySem.Calls PyProof.Rows

theorem ints_of_wellAll {P : Params} {h : Heap} : ∀ (ns : List Int) (vs : List Value), WellAll P h vs (ns.map WData.int) → IntsAre vs ns := by
  intro ns
  induction ns with
  | nil =>
    intro vs w
    rw [List.map_nil] at w
    cases w
    exact .nil
  | cons n ns ih =>
    intro vs w
    rw [List.map_cons] at w
    cases w with
    | cons a b =>
      cases a
      exact .cons _ _ (ih _ b)

theorem script_of {l : OpenLaw} {n : Nat} (hn : l.most = some n) {P : Params} {h : Heap} {args : List WData} {vals : List Value}
    (hpre : l.row.toRowW.claim.pre args = true) (hwl : WellAll P h vals args) :
    ∃ a vs ns, vals = [Value.ref a] ∧ args = [WData.list (ns.map WData.int)] ∧ h.get? a = some { cls := .type "list", data := .seq vs.toArray } ∧ IntsAre vs ns ∧ ns.length ≤ n := by
  have hsh : WShape.hasAll [] args [.list .int] = true := (pre_splitW hpre).1
  have hc : l.pre.holds [] { args := args } = true := (pre_splitW hpre).2
  obtain ⟨d, r, rfl, h1, h2⟩ := hasAllW_cons hsh
  obtain rfl := hasAllW_nil h2
  obtain ⟨xs, rfl, h3⟩ := hasW_list h1
  obtain ⟨ns, rfl⟩ := items_int h3
  have hlen : ns.length ≤ n := by
    unfold OpenLaw.pre at hc
    have h4 : (WTm.not (.lt (.lit (.int (n : Int))) (.len (.arg 0)))).holds [] { args := [.list (ns.map .int)] } = true := by
      have h4 := (holds_andW hc).1
      rw [hn] at h4
      exact h4
    have h5 := condW_of h4 (w_not (w_lt w_lit (w_len_list (w_arg rfl))))
    rw [List.length_map] at h5
    refine Nat.le_of_not_lt fun q => ?_
    have q' : (n : Int) < ((ns.length : Nat) : Int) := by omega
    first
      | (rw [decide_eq_true q'] at h5; exact absurd h5 (by decide))
      | (simp at h5; omega)
  cases hwl with
  | cons w1 w2 =>
    cases w2
    cases w1 with
    | list ho hall => exact ⟨_, _, ns, rfl, rfl, ho, ints_of_wellAll ns _ hall, hlen⟩

theorem post_true (l : OpenLaw) (args : List WData) : l.row.toRowW.claim.post args (.bool true) args = true :=
  postW_of (r := l.row.toRowW) (X := (true == true))
    (show WShape.has [] (.bool true) .bool = true by first | rfl | decide | simp [WShape.has, WShape.arms, WShape.armsAll])
    (show (WTm.eq .res (.lit (.bool true))).value [] { args := args, res := some (.bool true), after := args } = some (.bool (true == true)) from w_eq_bool (w_res rfl) w_lit) rfl

theorem attach_call {l : OpenLaw} {n : Nat} {q : Program} {loose : List Str} {XP : (Str → Option Value) → Heap → Prop} {YP : World → Heap → Prop} {d : DefRec}
    (hn : l.most = some n) (hdf : d.params.defaults = [])
    (call : ∀ (w : World) (s₀ s₁ : Shared) (mg mb : Str → Option Value) (fa : Addr) (o : Obj) (pm cd doc : Value) (a : Addr) (vs : List Value) (ns : List Int),
      Ground q loose [] XP w s₀ mg mb s₁.heap → YP w s₁.heap →
      s₁.heap.get? fa = some o → o.data = .func (docDef d.name d.params d.body d.scope pm cd doc) → s₁.heap.CodeRec cd d.name → mg d.name = some (.ref fa) →
      s₁.heap.get? a = some { cls := .type "list", data := .seq vs.toArray } → IntsAre vs ns → ns.length ≤ n → s₁.gens = #[] →
      codeAny (model l.prog w) callerA (.call (.ref fa) ⟨[.ref a], []⟩) (fun r s' => r = .ok (.ret (.bool true)) ∧ OldK s₁.heap s'.heap ∧ s'.os = s₁.os ∧ AllBare s'.gens) s₁) :
    WalkO q loose XP YP l.row.toRowW d [] (fun f vs => PySem.call f vs) := by
  intro w s₀ s₁ mg mb G Y fa o pm cd doc dV kV ho hd hcd hD hmg hg args vals as hpre hlay hrd hwl hlo
  obtain rfl : dV = .none := Dflts.none hD hdf
  obtain rfl : kV = .none := Dflts.noKw hD
  obtain ⟨a, vs, ns, rfl, rfl, hobj, hints, hlen⟩ := script_of hn hpre hwl
  refine enter_call (codeAny_mono (call w s₀ s₁ mg mb fa o pm cd doc a vs ns G Y ho (fd_plain hd) hcd hmg hobj hints hlen hg) fun r s' hq => ?_)
  obtain ⟨rfl, h2, h3, h4⟩ := hq
  exact ⟨.inl ⟨.bool true, .bool true, [], rfl, fun _ => rfl, .bool true, post_true l _, fun _ => ⟨List.Pairwise.nil, fun _ hm => (nomatch hm)⟩⟩, h2, h3, h4⟩

section
variable {prog : Program} {w : World} {A : Around} {E : Value → Shared → Prop} {s : Shared} {K : Frag}

end
end Att

namespace L2
open PySem PySem.Spec PyProof.Rows

theorem vals_ints : ∀ {vs : List Value} {ns : List Int}, IntsAre vs ns → Vals (ns.map V.int) vs
  | _, _, .nil => .nil
  | _, _, .cons n t h => .cons ⟨t, rfl⟩ (vals_ints h)

noncomputable def Only (H : Hp) : Prop := ∀ b, H b = none ∨ ∃ o xs, H b = some (.frz o (.lst xs))

theorem law_call {P : Program} {w : World} {K : PySem.W.Frag} {mg mb : Str → Option Value} {CX : CXT} {k : Nat} {fa a : Addr} {fd : FuncData} {x : Str} {sp : Sp} {s₁ : Shared} {vs : List Value} {ns : List Int}
    (KX : K.In s₁.heap) (hns : s₁.heap.Ns mainGlobals mg) (hb : s₁.heap.Ns builtinsNs mb) (hbb : ∀ x : Str, x ≠ "__name__" → mb x = bootBuiltins x) (hlim : s₁.heap.NoLimit) (hg : s₁.gens = #[])
    (ha : s₁.heap.get? a = some { cls := .type "list", data := .seq vs.toArray }) (hi : IntsAre vs ns) (hl : ns.length ≤ sizeLine) (hr : Room k callerA)
    (F : ∀ base : Heap, K.In base → base.Ns mainGlobals mg → FnOk P w K mg base CX k fa fd [x] sp) (hbind : ∀ (s : Shared) (u : Value), BindsTo s fd ⟨[u], []⟩ [(x, u)])
    (hsp : ∀ H : Hp, Only H → SqL K H a (ns.map V.int) → sp [.ref a] H (fun v _ => v = .bl true) fun _ _ _ => False)
    (hCX : ∀ H e s', CX [] H s₁ (fun _ _ _ => False) e s' → False) :
    codeAny (model P w) callerA (.call (.ref fa) ⟨[.ref a], []⟩) (fun r s' => r = .ok (.ret (.bool true)) ∧ OldK s₁.heap s'.heap ∧ s'.os = s₁.os ∧ AllBare s'.gens) s₁ := by
  have rv := vals_ints hi
  have lenV := hi.length
  -- from an abstract heap in which nothing but the script may be tracked
  have core : ∀ H : Hp, Only H → SqL K H a (ns.map V.int) → HOk P w H s₁.heap → (∀ b, H b ≠ none → b = a) → (H a ≠ none → K.lookup a = none) →
      codeAny (model P w) callerA (.call (.ref fa) ⟨[.ref a], []⟩) (fun r s' => r = .ok (.ret (.bool true)) ∧ OldK s₁.heap s'.heap ∧ s'.os = s₁.os ∧ AllBare s'.gens) s₁ := by
    intro H hO hS hok hA hK
    have base_of : ∀ {b : Addr} {o : Obj}, s₁.heap.get? b = some o → H b = none → (hidT s₁.heap H).get? b = some o := fun e n => hidT_get e n
    have noA : ∀ {b : Addr} {o : Obj} {es : Array DictEntry} {ep : Nat}, s₁.heap.get? b = some o → o.data = .dict es ep → H b = none := fun {b o es ep} e d => by
      cases q : H b with
      | none => rfl
      | some u =>
        have e' : b = a := hA b (by rw [q]; simp)
        subst e'
        rw [ha] at e; cases e
        have d' : Data.seq vs.toArray _ = Data.dict es ep := d
        cases d'
    have nsK : ∀ {b : Addr} {m : Str → Option Value}, s₁.heap.Ns b m → (hidT s₁.heap H).Ns b m := fun {b m} ⟨o, es, ep, e, d, r⟩ => ⟨o, es, ep, base_of e (noA e d), d, r⟩
    have hKb : K.In (hidT s₁.heap H) := fun b o e => base_of (KX b o e) (by
      cases q : H b with
      | none => rfl
      | some u =>
        have e' : b = a := hA b (by rw [q]; simp)
        subst e'
        rw [hK (by rw [q]; simp)] at e; cases e)
    have hM : Mod K mg (hidT s₁.heap H) := ⟨hKb, nsK hns, ⟨mb, nsK hb, hbb⟩, let ⟨mc, h1, h2⟩ := hlim; ⟨mc, nsK h1, h2⟩⟩
    have e0 : Env0 P w K mg (hidT s₁.heap H) callerA [] s₁ H := ⟨rfl, hM, fun b o e => of_hidT e, Nat.le_of_eq (hidT_size _ _), trivial, fun b hb => absurd (show b ∈ ([] : List Addr) from hb) (by simp), hok, .of_eq hg⟩
    refine codeAny_mono ((F _ hKb (nsK hns)).run callerA [] s₁ H ⟨[.ref a], []⟩ [.ref a] [.ref a] _ _ hr e0 (hbind s₁ (.ref a)) (.cons rfl .nil) (hsp H hO hS)) fun r s' h => ?_
    cases r with
    | error e => exact (hCX H e s' h).elim
    | ok fl =>
      cases fl with
      | next => exact False.elim h
      | brk => exact False.elim h
      | cont => exact False.elim h
      | ret u =>
        obtain ⟨v, H', os, bare, un, hok', r', q⟩ := h
        have q' : v = .bl true := q
        subst q'
        obtain rfl : u = Value.bool true := r'
        refine ⟨rfl, OldK.of_keep fun b o e => ?_, os, bare⟩
        cases q : H b with
        | none => exact un.keep b o e q (by intro z; exact absurd (show b ∈ ([] : List Addr) from z) (by simp)) (by simp)
        | some u =>
          rcases hO b with z | ⟨ob, xs, z⟩
          · rw [q] at z; cases z
          · have z2 := un.frzs b ob _ z
            obtain ⟨e1, _⟩ := hok b _ z
            obtain ⟨e2, _⟩ := hok' b _ z2
            rw [e] at e1; cases e1
            exact e2
  cases hk : K.lookup a with
  | some o =>
    -- the script is one of the module's own objects
    have e := KX a o hk
    rw [ha] at e
    cases e
    refine core (fun _ => none) (fun _ => .inl rfl) (.inr ⟨_, vs.toArray, _, hk, rfl, rfl, rfl, by rw [List.size_toArray, lenV]; exact hl, by simpa using rv⟩) (fun b u z => by have z' : (none : Option HO) = some u := z; cases z') (fun b z => absurd rfl z) fun z => absurd rfl z
  | none =>
    refine core (fun b => if b = a then some (.frz { cls := .type "list", data := .seq vs.toArray } (.lst (ns.map V.int))) else none) (fun b => ?_) (.inl (.inr ⟨{ cls := .type "list", data := .seq vs.toArray }, if_pos rfl⟩)) (fun b u z => ?_) (fun b z => ?_) fun _ => hk
    · by_cases hb : b = a
      · exact .inr ⟨_, _, if_pos hb⟩
      · exact .inl (if_neg hb)
    · by_cases hb : b = a
      · have z' := (if_pos hb).symm.trans z
        cases z'
        subst hb
        exact ⟨ha, by rw [List.length_map]; exact hl, vs, _, rv, ha⟩
      · have z' := (if_neg hb).symm.trans z
        cases z'
    · by_cases hb : b = a
      · exact hb
      · exact absurd (if_neg hb) z
end L2

namespace L2
open PySem PySem.Spec PyProof.Rows

theorem walk_of {l : PySem.W.OpenLaw} {n k : Nat} {q : Program} {loose : List Str} {XP : (Str → Option Value) → Heap → Prop} {YP : World → Heap → Prop} {d : DefRec} {K : Params → PySem.W.Frag} {CX : World → CXT} {sp : World → Sp} {x : Str}
    (hn : l.most = some n) (hn2 : n ≤ sizeLine) (hdf : d.params.defaults = []) (hr : Room k callerA)
    (hY : ∀ (w : World) (h : Heap), YP w h → (K w.params).In h)
    (F : ∀ (w : World) (mg : Str → Option Value) (fa : Addr) (h : Heap), (K w.params).In h → h.Ns mainGlobals mg → mg d.name = some (.ref fa) →
      ∃ fd : FuncData, (∀ (s : Shared) (u : Value), BindsTo s fd ⟨[u], []⟩ [(x, u)]) ∧
        ∀ base : Heap, (K w.params).In base → base.Ns mainGlobals mg → FnOk l.prog w (K w.params) mg base (CX w) k fa fd [x] (sp w))
    (hsp : ∀ (w : World) (H : Hp) (a : Addr) (ns : List Int), ns.length ≤ n → Only H → SqL (K w.params) H a (ns.map V.int) → sp w [.ref a] H (fun v _ => v = .bl true) fun _ _ _ => False)
    (hCX : ∀ (w : World) (H : Hp) (s : Shared) (e : Value) (s' : Shared), CX w [] H s (fun _ _ _ => False) e s' → False) :
    PySem.W.WalkO q loose XP YP l.row.toRowW d [] (fun f vs => PySem.call f vs) := by
  refine Att.attach_call hn hdf fun w s₀ s₁ mg mb fa o pm cd doc a vs ns G Y ho hd hcd hmg hobj hints hlen hg => ?_
  have KX := hY w _ Y
  obtain ⟨fd, hb, hF⟩ := F w mg fa _ KX G.T.g hmg
  exact law_call KX G.T.g G.T.b G.T.builtins G.T.nolimit hg hobj hints (Nat.le_trans hlen hn2) hr hF hb (fun H hO hS => hsp w H a ns hlen hO hS) fun H e s' => hCX w H s₁ e s'
end L2

namespace L2
open PySem PySem.Spec PyProof.Rows

noncomputable def inClass (s : Stmt) (j : Nat) : Stmt := match s with
  | .ClassDef _ _ _ body _ _ _ _ _ _ _ => body.getD j (.Pass ⟨0, 0, 0, 0⟩)
  | _ => .Pass ⟨0, 0, 0, 0⟩
noncomputable def defArgs (s : Stmt) : Arguments := match s with
  | .FunctionDef _ a _ _ _ _ _ _ _ _ => a
  | _ => { posonlyargs := [], args := [], vararg := none, kwonlyargs := [], kw_defaults := [], kwarg := none, defaults := [] }
noncomputable def defBody (s : Stmt) : List Stmt := match s with
  | .FunctionDef _ _ b _ _ _ _ _ _ _ => b
  | _ => []
noncomputable def defScope (s : Stmt) : Scope := match s with
  | .FunctionDef _ _ _ _ _ _ sc _ _ _ => sc
  | _ => { kind := .function, names := [], isGenerator := false, isCoroutine := false }

noncomputable abbrev CX0 : CXT := fun _ _ _ _ _ _ => False
noncomputable abbrev E0 : XK := fun _ _ _ => False
theorem pass0 {X : Cx} : Passes CX0 X E0 := fun _ _ _ _ _ _ _ h => h.elim

structure Fun (K : PySem.W.Frag) (x qual : Str) (st : Stmt) (f : Addr) (fd : FuncData) : Prop where
  ex : ∃ (oc : Value) (od : Option Addr) (kV doc pm : Value) (an : Option Addr) (cdv ct : Value) (osl : Array (Option Value)),
    fd = PySem.W.fnOf x qual (defArgs st) (defBody st) (defScope st) .none kV doc pm an cdv ct ∧ K.lookup f = some ⟨oc, od, .func fd, osl⟩ ∧ PySem.W.codeIn K cdv qual = true
  kp : PySem.W.keepIn K (.ref f) = true
section
variable {P : Program} {w : World} {K : PySem.W.Frag} {mg : Str → Option Value} {base : Heap}
theorem Fun.ok {x qual : Str} {st : Stmt} {f : Addr} {fd : FuncData} {N ps : List Str} {k : Nat} {sp : Sp} (F : Fun K x qual st f fd) (S : FnScope N ps (defScope st)) (len : ∀ vs H Q E, sp vs H Q E → vs.length = ps.length)
    (hbody : ∀ (cdv : Value) (A : Around) (outer : List Env) (s : Shared) (H : Hp) (vs : List V) (Q : VK) (E : XK), Room k (A.deeper (envOfC qual (defScope st) s.heap.objs.size f cdv)) → sp vs H Q E →
      ∃ t, PSs (cxOf CX0 P w K mg base N qual (defScope st) f cdv A outer s H E).nox (defBody st) t ∧ t { nx := fun _ H' => Q .non H', rt := Q } (start N vs) H) : FnOk P w K mg base CX0 (k + 1) f fd ps sp := by
  obtain ⟨oc, od, kV, doc, pm, an, cdv, ct, osl, rfl, lk, hcd⟩ := F.ex
  refine fn_of lk hcd S len fun A outer s H vs Q E hr hsp => ?_
  obtain ⟨t, h, q⟩ := hbody cdv A outer s H vs Q E hr hsp
  exact ⟨t, h.nox, q⟩
theorem Fun.binds {x qual : Str} {st : Stmt} {f : Addr} {fd : FuncData} {ps : List Str} (F : Fun K x qual st f fd)
    (h : ∀ (kV doc pm : Value) (an : Option Addr) (cdv ct : Value) (us : List Value), us.length = ps.length → bindArgs (PySem.W.fnOf x qual (defArgs st) (defBody st) (defScope st) .none kV doc pm an cdv ct) ⟨us, []⟩ = pure (ps.zip us)) : Binds K fd ps [] := by
  obtain ⟨oc, od, kV, doc, pm, an, cdv, ct, osl, rfl, lk, hcd⟩ := F.ex
  exact .all (h kV doc pm an cdv ct)
theorem fun_mk {x qual : Str} {st : Stmt} {f : Addr} {oc : Value} {od an : Option Addr} {osl : Array (Option Value)} {kV doc pm cdv ct : Value} (l : K.lookup f = some ⟨oc, od, .func (PySem.W.fnOf x qual (defArgs st) (defBody st) (defScope st) .none kV doc pm an cdv ct), osl⟩)
    (c : PySem.W.codeIn K cdv qual = true) (k : PySem.W.keepIn K (.ref f) = true) : Fun K x qual st f (PySem.W.fnOf x qual (defArgs st) (defBody st) (defScope st) .none kV doc pm an cdv ct) := ⟨⟨oc, od, kV, doc, pm, an, cdv, ct, osl, rfl, l, c⟩, k⟩
end
theorem hu_of {A : Around} {k : Nat} (hr : Room k A) : A.units + 1 < cLine := Nat.lt_of_le_of_lt (Nat.add_le_add_left (by decide : 1 ≤ 64) _) hr.units
theorem small1000 {n : Nat} (h : n ≤ 1000) : n < sizeLine := Nat.lt_of_le_of_lt h (by decide)

section
variable {X : Cx}
theorem pv (i : Nat) {x : Str} {pos : Pos} (hN : X.N[i]? = some x := by rfl) (hv : Vis X.env.scope x := by first | exact Or.inl rfl | exact Or.inr (Or.inl rfl) | exact Or.inr (Or.inr rfl)) (hd : (x == ("__debug__" : Str)) = false := by decide)
    (hcd : (x == ("__classdict__" : Str)) = false := by decide) : PE X (.Name x pos) (tVar i) := pe_var hN hv hd hcd
end

theorem iteF {A B : Prop} (h : B) : if false = true then A else B := by
  rw [if_neg Bool.false_ne_true]
  exact h
theorem iteT {A B : Prop} (h : A) : if true = true then A else B := by
  rw [if_pos rfl]
  exact h
theorem ite2 {c A B : Prop} [Decidable c] (h1 : c → A) (h2 : ¬ c → B) : if c then A else B := by
  by_cases h : c
  · rw [if_pos h]
    exact h1 h
  · rw [if_neg h]
    exact h2 h
theorem iteNS {c A B : Prop} [Decidable c] (hc : c) (h : B) : if (!decide c) = true then A else B := by
  rw [decide_eq_true hc]
  exact iteF h

noncomputable def Same (H H' : Hp) : Prop := ∀ b o, H b = some o → H' b = some o
theorem Same.refl (H : Hp) : Same H H := fun _ _ h => h
theorem Same.trans {H H1 H2 : Hp} (a : Same H H1) (b : Same H1 H2) : Same H H2 := fun c o h => b c o (a c o h)
theorem Same.free {H H' : Hp} (e : Same H H') {l : Addr} (h : H' l = Option.none) : H l = Option.none := by
  cases q : H l with
  | none => rfl
  | some o =>
    rw [e l o q] at h
    cases h
theorem Same.seq {K : PySem.W.Frag} {H H' : Hp} {a : Addr} {xs : List V} (e : Same H H') (h : SqL K H a xs) : SqL K H' a xs := by
  rcases h with (h | ⟨o, h⟩) | h
  · exact .inl (.inl (e _ _ h))
  · exact .inl (.inr ⟨o, e _ _ h⟩)
  · exact .inr h

end L2

namespace L2
open PySem PySem.Spec PyProof.Rows
section
variable {X : Cx}
end
section
variable {κ : Type} [DecidableEq κ]
theorem valV_not {kvs : List (κ × V)} {k : κ} (h : valV kvs k = none) : ¬ k ∈ kvs.map (·.1) := by
  intro m
  obtain ⟨p, hp, e⟩ := List.mem_map.mp m
  have q : (kvs.any fun kv => decide (kv.1 = k)) = true := List.any_eq_true.mpr ⟨p, hp, decide_eq_true e⟩
  rw [valV_any, h] at q
  exact absurd q (by simp)
theorem valV_in {kvs : List (κ × V)} {k : κ} {v : V} (h : valV kvs k = some v) : k ∈ kvs.map (·.1) := by
  have q : (kvs.any fun kv => decide (kv.1 = k)) = true := by
    rw [valV_any, h]
    all_goals rfl
  obtain ⟨p, hp, e⟩ := List.any_eq_true.mp q
  exact List.mem_map.mpr ⟨p, hp, of_decide_eq_true e⟩
theorem nd_snoc : ∀ {l : List κ} {k : κ}, l.Nodup → ¬ k ∈ l → (l ++ [k]).Nodup
  | [], k, _, _ => by simp
  | a :: r, k, h, hk => by
    obtain ⟨h1, h2⟩ := List.nodup_cons.mp h
    show (a :: (r ++ [k])).Nodup
    refine List.nodup_cons.mpr ⟨fun m => ?_, nd_snoc h2 fun m => hk (List.mem_cons.mpr (Or.inr m))⟩
    rcases List.mem_append.mp m with q | q
    · exact h1 q
    · exact hk (List.mem_cons.mpr (Or.inl (List.mem_singleton.mp q).symm))
end
end L2

set_option Elab.async false
set_option linter.all false
set_option maxRecDepth 100000
namespace L2
open PySem PySem.Spec PyProof.Rows

theorem closure_go (env : Env) : ∀ (names : List (Str × NameKind)) (acc : List (Str × Addr)),
    (∀ y ∈ names, y.2 = .free → ∃ c, env.cells.lookup y.1 = some c) →
    ∃ cl, (forIn names acc (fun (y : Str × NameKind) (cs : List (Str × Addr)) => (if (y.2 == NameKind.free) = true then (do let c ← cellOf env y.1; pure (ForInStep.yield ((y.1, c) :: cs))) else pure (ForInStep.yield cs) : Sem (ForInStep (List (Str × Addr)))))) = pure cl ∧
      (∀ p ∈ cl, p ∈ acc ∨ env.cells.lookup p.1 = some p.2) ∧ (∀ p ∈ acc, p ∈ cl) ∧ (∀ y ∈ names, y.2 = .free → ∃ c, (y.1, c) ∈ cl)
  | [], acc, _ => ⟨acc, rfl, fun p h => .inl h, fun p h => h, fun y h => nomatch h⟩
  | (x, k) :: r, acc, h => by
    by_cases hk : k = .free
    · subst hk
      obtain ⟨c, hc⟩ := h (x, .free) List.mem_cons_self rfl
      obtain ⟨cl, e, h1, h2, h3⟩ := closure_go env r ((x, c) :: acc) fun y hy => h y (List.mem_cons_of_mem _ hy)
      have hc' : cellOf env x = pure c := by unfold cellOf; rw [show env.cells.lookup x = some c from hc]
      refine ⟨cl, ?_, fun p hp => ?_, fun p hp => h2 p (List.mem_cons_of_mem _ hp), fun y hy hf => ?_⟩
      · rw [List.forIn_cons]
        simp only [beq_self_eq_true, if_true, hc', pure_bind]
        exact e
      · rcases h1 p hp with q | q
        · rcases List.mem_cons.mp q with q | q
          · subst q; exact .inr hc
          · exact .inl q
        · exact .inr q
      · rcases List.mem_cons.mp hy with q | q
        · subst q; exact ⟨c, h2 _ List.mem_cons_self⟩
        · exact h3 y q hf
    · obtain ⟨cl, e, h1, h2, h3⟩ := closure_go env r acc fun y hy => h y (List.mem_cons_of_mem _ hy)
      have hb : (k == NameKind.free) = false := by simpa using hk
      refine ⟨cl, ?_, h1, h2, fun y hy hf => ?_⟩
      · rw [List.forIn_cons]
        simp only [hb, Bool.false_eq_true, if_false, pure_bind]
        exact e
      · rcases List.mem_cons.mp hy with q | q
        · subst q; exact absurd hf hk
        · exact h3 y q hf
theorem lookup_some_of_mem {α : Type} : ∀ {l : List (Str × α)} {x : Str} {c : α}, (x, c) ∈ l → ∃ d, l.lookup x = some d
  | [], _, _, h => nomatch h
  | (y, d) :: r, x, c, h => by
    rw [List.lookup_cons]
    cases e : x == y with
    | true => exact ⟨d, rfl⟩
    | false =>
      rcases List.mem_cons.mp h with q | q
      · cases q; simp at e
      · exact lookup_some_of_mem q
theorem closure_of {env : Env} {scope : Scope} (h : ∀ y ∈ scope.names, y.2 = .free → ∃ c, env.cells.lookup y.1 = some c) :
    ∃ cl, closureFor scope env = pure cl ∧ (∀ x c, cl.lookup x = some c → env.cells.lookup x = some c) ∧ (∀ x, (x, NameKind.free) ∈ scope.names → ∃ c, cl.lookup x = some c) := by
  obtain ⟨cl, e, h1, h2, h3⟩ := closure_go env scope.names [] h
  refine ⟨cl, ?_, fun x c hx => ?_, fun x hx => ?_⟩
  · unfold closureFor
    simp only [bind_pure_comp, map_pure] at e ⊢
    have e2 := e
    rw [show (forIn scope.names [] _ : Sem (List (Str × Addr))) = pure cl from e2]
    rfl
  · rcases h1 _ (PySem.mem_of_lookup hx) with q | q
    · exact nomatch q
    · exact q
  · obtain ⟨c, hc⟩ := h3 _ hx rfl
    exact lookup_some_of_mem hc

noncomputable def compCx (X : Cx) (N : List Str) (scope : Scope) (cl : List (Str × Addr)) (C : Addr) (s₂ : Shared) (H2 : Hp) (ex : List Addr) : Cx :=
  { X with N := N, s₀ := s₂, H₀ := H2, env := compEnvC scope cl C X.env, outer := X.stack, stack := X.stack, ex := ex, fn := fun _ => false, pn := [], xe := fun _ _ => False }
noncomputable def capt (js : List (Option Nat)) (σ : St) : St := js.map fun o => match o with
  | some j => (σ[j]?).join
  | none => none
structure CompScope (X : Cx) (N : List Str) (js : List (Option Nat)) (scope : Scope) : Prop where
  kind : scope.kind = .function
  nocell : (scope.names.all fun y => y.2 != NameKind.cell) = true
  loc : (scope.names.all fun y => y.2 != NameKind.local || scope.names.lookup y.1 == some NameKind.local) = true
  fr : (scope.names.all fun y => y.2 != NameKind.free || (X.env.scope.names.lookup y.1 == some NameKind.cell || X.env.scope.names.lookup y.1 == some NameKind.free)) = true
  len : js.length = N.length
  cap : ((N.zip js).all fun p => match p.2 with
    | none => true
    | some j => X.N[j]? == some p.1 && scope.names.lookup p.1 == some NameKind.free) = true

section
variable {X : Cx} {N : List Str} {js : List (Option Nat)} {scope : Scope}
theorem CompScope.nocell' (S : CompScope X N js scope) : ∀ y ∈ scope.names, y.2 ≠ .cell := fun y hy => by
  have := List.all_eq_true.mp S.nocell y hy
  simpa using this
theorem CompScope.loc' (S : CompScope X N js scope) : ∀ y ∈ scope.names, y.2 = .local → scope.names.lookup y.1 = some .local := fun y hy e => by
  have := List.all_eq_true.mp S.loc y hy
  simpa [e] using this
theorem CompScope.fr' (S : CompScope X N js scope) : ∀ y ∈ scope.names, y.2 = .free → X.env.kindOf y.1 = some .cell ∨ X.env.kindOf y.1 = some .free := fun y hy e => by
  have := List.all_eq_true.mp S.fr y hy
  have q : X.env.scope.names.lookup y.1 = some NameKind.cell ∨ X.env.scope.names.lookup y.1 = some NameKind.free := by simpa [e] using this
  exact q
theorem CompScope.cap' (S : CompScope X N js scope) {i j : Nat} {x : Str} (h1 : N[i]? = some x) (h2 : js[i]? = some (some j)) : X.N[j]? = some x ∧ scope.names.lookup x = some .free := by
  have hz : (N.zip js)[i]? = some (x, some j) := by
    rw [List.getElem?_zip_eq_some]
    exact ⟨h1, h2⟩
  have := List.all_eq_true.mp S.cap _ (List.mem_of_getElem? hz)
  simpa using this
theorem lookup_relabel_free {env : Env} : ∀ {names : List (Str × NameKind)} {x : Str}, names.lookup x = some .free →
    (names.map fun (n, k) => if (k == NameKind.free && env.scope.kind == .function && env.kindOf n == some .cell) then (n, NameKind.cell) else (n, k)).lookup x = some .cell ∨
    (names.map fun (n, k) => if (k == NameKind.free && env.scope.kind == .function && env.kindOf n == some .cell) then (n, NameKind.cell) else (n, k)).lookup x = some .free
  | [], _, h => by simp at h
  | (n, k) :: r, x, h => by
    have ih := @lookup_relabel_free env r x
    show List.lookup x ((if (k == NameKind.free && env.scope.kind == .function && env.kindOf n == some .cell) = true then (n, NameKind.cell) else (n, k)) :: _) = _ ∨ List.lookup x ((if (k == NameKind.free && env.scope.kind == .function && env.kindOf n == some .cell) = true then (n, NameKind.cell) else (n, k)) :: _) = _
    cases hx : x == n with
    | true =>
      simp only [List.lookup_cons, hx] at h
      cases h
      by_cases hc : (NameKind.free == NameKind.free && env.scope.kind == .function && env.kindOf n == some .cell) = true
      · rw [if_pos hc]; simp [List.lookup_cons, hx]
      · rw [if_neg hc]; simp [List.lookup_cons, hx]
    | false =>
      simp only [List.lookup_cons, hx] at h
      by_cases hc : (k == NameKind.free && env.scope.kind == .function && env.kindOf n == some .cell) = true
      · rw [if_pos hc]; simp only [List.lookup_cons, hx]; exact ih h
      · rw [if_neg hc]; simp only [List.lookup_cons, hx]; exact ih h
theorem free_of_relabel {env : Env} : ∀ {names : List (Str × NameKind)} {x : Str}, (∀ y ∈ names, y.2 ≠ .cell) →
    ((names.map fun (n, k) => if (k == NameKind.free && env.scope.kind == .function && env.kindOf n == some .cell) then (n, NameKind.cell) else (n, k)).lookup x = some .cell ∨
    (names.map fun (n, k) => if (k == NameKind.free && env.scope.kind == .function && env.kindOf n == some .cell) then (n, NameKind.cell) else (n, k)).lookup x = some .free) → (x, NameKind.free) ∈ names
  | [], _, _, h => by simp at h
  | (n, k) :: r, x, hn, h => by
    have ih := @free_of_relabel env r x fun y hy => hn y (List.mem_cons_of_mem _ hy)
    rw [List.map_cons] at h
    dsimp only at h
    by_cases hc : (k == NameKind.free && env.scope.kind == .function && env.kindOf n == some .cell) = true
    · rw [if_pos hc] at h
      have hk : k = .free := by
        have := (Bool.and_eq_true_iff.mp (Bool.and_eq_true_iff.mp hc).1).1
        simpa using this
      subst hk
      cases hx : x == n with
      | true =>
        have e : x = n := by simpa using hx
        subst e
        exact List.mem_cons_self
      | false =>
        simp only [List.lookup_cons, hx] at h
        exact List.mem_cons_of_mem _ (ih h)
    · rw [if_neg hc] at h
      cases hx : x == n with
      | true =>
        have e : x = n := by simpa using hx
        subst e
        simp only [List.lookup_cons, beq_self_eq_true] at h
        rcases h with h | h
        · exact absurd (Option.some.inj h) (hn (x, k) List.mem_cons_self)
        · have := Option.some.inj h
          subst this
          exact List.mem_cons_self
      | false =>
        simp only [List.lookup_cons, hx] at h
        exact List.mem_cons_of_mem _ (ih h)

theorem capt_get {js : List (Option Nat)} {σ : St} {i : Nat} {v : V} (h : (capt js σ)[i]? = some (some v)) : ∃ j, js[i]? = some (some j) ∧ σ[j]? = some (some v) := by
  unfold capt at h
  rw [List.getElem?_map] at h
  cases e : js[i]? with
  | none => rw [e] at h; cases h
  | some o =>
    rw [e] at h
    cases o with
    | none => cases h
    | some j =>
      refine ⟨j, rfl, ?_⟩
      have h : (σ[j]?).join = some v := Option.some.inj h
      cases q : σ[j]? with
      | none => rw [q] at h; cases h
      | some z => rw [q] at h; exact congrArg some h

variable {pins : List (Addr × Obj)} {σ : St} {H2 : Hp} {s₂ : Shared}
theorem inv_comp (I : Inv X pins σ H2 s₂) (S : CompScope X N js scope) {cl : List (Str × Addr)} {C D : Addr} {fp : List Addr} {h₁ : Heap} {tk n : Nat} {m : Str → Option Value}
    (hcl1 : ∀ x c, cl.lookup x = some c → X.env.cells.lookup x = some c) (hcl2 : ∀ x, (x, NameKind.free) ∈ scope.names → ∃ c, cl.lookup x = some c)
    (hC : s₂.heap.objs.size ≤ C) (hD : s₂.heap.objs.size ≤ D) (hCD : C ≠ D) (hf : ∀ b ∈ fp, FpOk X pins H2 b) (hb : ∀ b ∈ fp, b < s₂.heap.objs.size) (hns : h₁.Ns C m)
    (old : ∀ b o, s₂.heap.get? b = some o → h₁.get? b = some o) (hl : h₁.get? D = some { cls := .type "list", data := .seq ([] : List Value).toArray n }) :
    Inv (compCx X N scope cl C s₂ H2 fp) [] (capt js σ) (upd H2 D (.lst [])) { s₂ with heap := h₁, toks := tk } := by
  have cellLt : ∀ x c, X.env.cells.lookup x = some c → c < s₂.heap.objs.size := fun x c e => by
    obtain ⟨v, q⟩ := I.cell x c e
    exact q.lt
  have kindE : ∀ x, (compEnvC scope cl C X.env).kindOf x = (scope.names.map fun (n, k) => if (k == NameKind.free && X.env.scope.kind == .function && X.env.kindOf n == some .cell) then (n, NameKind.cell) else (n, k)).lookup x := fun x => rfl
  refine ⟨⟨I.ok.mod, S.kind, I.ok.glob, I.ok.blt, hC, fun x y c h1 h2 => I.ok.inj x y c (hcl1 x c h1) (hcl1 y c h2), fun x hx => ?_, fun x c h _ => absurd h Bool.false_ne_true, I.ok.hd, I.ok.frames, .inl rfl, fun b hb' => ⟨?_, fun x c e => ?_⟩, I.bs, Nat.le_trans I.ok.bsz I.sz, fun b o e hb' => ?_, fun b hb' z => ?_, I.stack, I.stkFree⟩,
    rfl, I.bare, Un.laid old hD (I.hok.fresh hD), ⟨m, hns, fun i x v e1 e2 _ => ?_⟩, fun x c e => ?_, ?_, fun x c e => ?_, fun p hp => absurd (show p ∈ ([] : List (Addr × Obj)) from hp) (by simp), I.hok.laid old hD ⟨Nat.zero_le _, [], n, .nil, hl⟩, ?_⟩
  · have hx' := free_of_relabel (env := X.env) S.nocell' hx
    exact hcl2 x hx'
  · exact Nat.ne_of_lt (Nat.lt_of_lt_of_le (hb b hb') hC)
  · exact (hf b hb').2.2.2.2.1 x c (hcl1 x c e)
  · rcases (hf b hb').2.2.2.1 with z | z
    · exact I.ok.noex b o e z
    · exact absurd (Nat.lt_of_lt_of_le (Heap.lt_size (I.ok.bs b o e).1) z) (Nat.lt_irrefl _)
  · rcases List.mem_cons.mp (I.stkSub b z) with q | q
    · exact (hf b hb').2.1 q
    · exact (hf b hb').2.2.1 q
  · obtain ⟨j, hj, hv⟩ := capt_get e2
    obtain ⟨hN, hfree⟩ := S.cap' e1 hj
    have hk := S.fr' (x, .free) (PySem.mem_of_lookup hfree) rfl
    have vis : Vis X.env.scope x := by rcases hk with k | k; exact .inr (.inl k); exact .inr (.inr k)
    obtain ⟨m0, hn0, hl0⟩ := I.loc
    obtain ⟨u, r, l⟩ := hl0 j x v hN hv vis
    refine ⟨u, r, ?_⟩
    rcases l with ⟨k, _⟩ | ⟨_, c, hc, hcell⟩
    · rcases hk with k' | k' <;> · rw [k] at k'; cases k'
    · obtain ⟨c', hc'⟩ := hcl2 x (PySem.mem_of_lookup hfree)
      have e := (hcl1 x c' hc').symm.trans hc
      have e := Option.some.inj e
      subst e
      obtain ⟨o, ho, hd⟩ := hcell
      exact .inr ⟨lookup_relabel_free hfree, c', hc', ⟨o, old _ _ ho, hd⟩⟩
  · obtain ⟨v, o, ho, hd⟩ := I.cell x c (hcl1 x c e)
    exact ⟨v, o, old _ _ ho, hd⟩
  · show upd H2 D (.lst []) C = none
    rw [upd_ne hCD]
    exact I.hok.fresh hC
  · have hc := cellLt x c (hcl1 x c e)
    show upd H2 D (.lst []) c = none
    rw [upd_ne (Nat.ne_of_lt (Nat.lt_of_lt_of_le hc hD))]
    exact I.freeC x c (hcl1 x c e)
  · unfold capt
    rw [List.length_map]
    exact S.len

theorem comp_back {H' : Hp} {s' : Shared} {σ' : St} {pins' : List (Addr × Obj)} {cl : List (Str × Addr)} {C : Addr} {fp : List Addr} (I : Inv X pins σ H2 s₂) (hf : ∀ b ∈ fp, FpOk X pins H2 b)
    (J : Inv (compCx X N scope cl C s₂ H2 fp) pins' σ' H' s') : Inv X pins σ H' s' :=
  I.call' (ch := fp) J.os J.base J.hok J.bare fun b hb => let ⟨_, f1, _, f3, f4, f5⟩ := hf b hb; ⟨f3, f1, f4, f5⟩
theorem comp_left {H' : Hp} {s' : Shared} {σ3 : St} {C : Addr} {h' : Heap} (I : Inv X pins σ H2 s₂) (J : Inv X pins σ3 H' s') (hC : s₂.heap.objs.size ≤ C) (hn : H' C = none) (hs : Heap.SameBut C s'.heap h') : Inv X pins σ3 H' { s' with heap := h' } := by
  obtain ⟨f0, f1, f2, f3, f4, f5⟩ := I.fpOk (b := C) hC hn
  exact J.turned (t' := s'.toks) (fun b o hb e => (hs.2 b hb).trans e) f0 f1 f3 f4 f5
end

section
variable {prog : Program} {w : World} {A : Around} {R : Result → Shared → Prop} {s : Shared}
theorem compLoop_any {elt target iter : Expr} {ifs : List Expr} {scope : Scope} {pos : Pos} {it acc : Value} {env : Env} (I : Nat → Shared → Prop)
    (turn : ∀ n s, I n s → wpAny (model prog w) A (pyNext it) (fun r s₁ => match r with
      | none => R (.ok .next) s₁
      | some v => wpAny (model prog w) A (letOwnedTupleGo target it v) (fun _ s₁' => wpAny (model prog w) A (assign target env v) (fun _ s₂ =>
          wpAny (model prog w) A (forIn ifs true fun c r => if r = true then do let ok ← isTrue c env (eval c env); pure (ForInStep.yield ok) else pure (ForInStep.yield r)) (fun ok s₃ =>
            if ok = true then wpAny (model prog w) A (eval elt env) (fun x s₄ =>
              wpAny (model prog w) A (call (.builtin "list.append") [acc, x]) (fun _ s₅ => ∃ m, m < n ∧ I m s₅) (fun _ _ => False) s₄) (fun _ _ => False) s₃
            else ∃ m, m < n ∧ I m s₃) (fun _ _ => False) s₂) (fun _ _ => False) s₁') (fun _ _ => False) s₁) (fun _ _ => False) s)
    (n : Nat) (h : I n s) : codeAny (model prog w) A (.compLoop (.ListComp elt [⟨target, iter, ifs, 0⟩] scope pos) 0 it acc env) R s := by
  refine codeAny_loop rfl I (fun n s hI => ?_) n h
  show wpAny _ A ((compTurn (.ListComp elt [⟨target, iter, ifs, 0⟩] scope pos) 0 it acc env).onRaise (fun x => do noteFrame x env; theTreesLotGoes x)) _ _ s
  refine wpAny_noted ?_
  rw [compTurn_list]
  refine wpAny_bind (wpAny_standAt (wpAny_bind (wpAny_mono (turn n s hI) (fun r s₁ h₁ => ?_) fun _ _ h' => h'.elim)))
  cases r with
  | none => exact wpAny_pure h₁
  | some v =>
    refine wpAny_bind (wpAny_mono h₁ (fun _ s₁' h₁' => ?_) fun _ _ h' => h'.elim)
    refine wpAny_bind (wpAny_mono h₁' (fun _ s₂ h₂ => wpAny_bind (wpAny_mono h₂ (fun ok s₃ h₃ => ?_) fun _ _ h' => h'.elim)) fun _ _ h' => h'.elim)
    cases ok with
    | false => exact wpAny_pure ⟨rfl, h₃⟩
    | true =>
      exact wpAny_bind (wpAny_bind (wpAny_mono h₃ (fun x s₄ h₄ => wpAny_bind (wpAny_mono h₄ (fun _ s₅ h₅ => wpAny_pure (wpAny_pure ⟨rfl, h₅⟩)) fun _ _ h' => h'.elim)) fun _ _ h' => h'.elim))
end

noncomputable def PTs (X : Cx) (ifs : List Expr) (t : TT) : Prop :=
  ∀ (pins : List (Addr × Obj)) (s : Shared) (σ : St) (H : Hp) (Q : Bool → Hp → Prop), Inv X pins σ H s → t σ H Q →
    wpAny (model X.prog X.w) X.A (forIn ifs true fun c r => if r = true then do let ok ← isTrue c X.env (eval c X.env); pure (ForInStep.yield ok) else pure (ForInStep.yield r)) (TP X pins σ Q) X.xe s
noncomputable def tYes : TT := fun _ H Q => Q true H
theorem pts_nil {X : Cx} : PTs X [] tYes := fun _ _ _ H _ I h => wpAny_tests_nil ⟨H, I, h⟩
noncomputable def CompW (js : List (Option Nat)) (J : It) (g : TG) (tc : TT) (te : TE) (σ : St) (H1 : Hp) (D : Addr) (Q : VK) : Prop :=
  ∃ W : Nat → Nat → St → Hp → Prop, (∃ m, W 0 m (capt js σ) (upd H1 D (.lst []))) ∧ ∀ i m σ' H', W i m σ' H' →
    (J.stop i H' ∧ Q (.ref D) H') ∨ (J.go i H' ∧ ∀ x H2, J.yld i H' x H2 → g x σ' H2 fun σ3 H3 => tc σ3 H3 fun b H4 => if b = true then
      te σ3 H4 fun y H5 => ∃ ys, H5 D = some (.lst ys) ∧ ys.length < sizeLine ∧ ∃ m', m' < m ∧ W (i + 1) m' σ3 (upd H5 D (.lst (ys ++ [y])))
      else ∃ m', m' < m ∧ W (i + 1) m' σ3 H4)
noncomputable def tComp (js : List (Option Nat)) (wi : TI) (g : TG) (tc : TT) (te : TE) : TE := fun σ H Q => wi σ H fun J H1 => ∀ D, H1 D = none → CompW js J g tc te σ H1 D Q

section
variable {X : Cx} {N : List Str} {js : List (Option Nat)} {scope : Scope} {tg iter elt : Expr} {ifs : List Expr} {pos : Pos} {wi : TI} {g : TG} {tc : TT} {te : TE}
theorem comp_block {pins : List (Addr × Obj)} {σ : St} {H2 : Hp} {s₂ : Shared} (hc : X.calm = true) (S : CompScope X N js scope) {cl : List (Str × Addr)} {it : Addr} {fp : List Addr} {tn : Nat → Heap → Prop} {J : It}
    {E : Value → Shared → Prop} {Q : VK} {RR : Value → Addr → Result → Shared → Prop}
    (hg : ∀ C s H ex, PG (compCx X N scope cl C s H ex) tg g) (ht : ∀ C s H ex, PTs (compCx X N scope cl C s H ex) ifs tc) (he : ∀ C s H ex, PE (compCx X N scope cl C s H ex) elt te)
    (hcl1 : ∀ x c, cl.lookup x = some c → X.env.cells.lookup x = some c) (hcl2 : ∀ x, (x, NameKind.free) ∈ scope.names → ∃ c, cl.lookup x = some c)
    (I : Inv X pins σ H2 s₂) (T : Turn X.prog X.w X.K tg J fp it tn) (st : tn 0 s₂.heap) (hf : ∀ b ∈ fp, FpOk X pins H2 b) (q : ∀ D, H2 D = none → CompW js J g tc te σ H2 D Q)
    (hRR : ∀ D C s' H' σ', s₂.heap.objs.size ≤ C → H2 D = none → Inv (compCx X N scope cl C s₂ H2 fp) [] σ' H' s' → Q (.ref D) H' → RR (.ref D) C (.ok .next) s') :
    wpAny (model X.prog X.w) X.A (newList []) (fun acc s₃ => wpAny (model X.prog X.w) X.A (newFunctionEnv scope X.env.globals cl [] X.env.qual none .none (some X.env)) (fun cenv s₄ =>
      codeAny (model X.prog X.w) X.A (.compStart (.ListComp elt [⟨tg, iter, ifs, 0⟩] scope pos) 0 (.ref it) acc { cenv with scope := relabel scope X.env }) (RR acc cenv.locals) s₄) E s₃) E s₂ := by
  have hb : ∀ b ∈ fp, b < s₂.heap.objs.size := fun b hb => by
    obtain ⟨o, e, _⟩ := T.obj 0 _ st b hb
    exact Heap.lt_size e
  refine wpAny_newObj_type (wpAny_newFunctionEnv S.nocell' (by intro y hy; simp at hy) (fun h₁ hns₁ hsb₁ => ?_) S.kind)
  dsimp only at hns₁ hsb₁ ⊢
  generalize hH2 : s₂.heap.push { cls := .type "list", dict := none, data := .seq ([] : List Value).toArray } = HH at hns₁ hsb₁ ⊢
  have hC : HH.objs.size = s₂.heap.objs.size + 1 := by rw [← hH2, Heap.size_push]
  have hDC : s₂.heap.objs.size ≠ HH.objs.size := by rw [hC]; exact Nat.ne_of_lt (Nat.lt_succ_self _)
  have hCle : s₂.heap.objs.size ≤ HH.objs.size := by rw [hC]; exact Nat.le_succ _
  have below : ∀ b, b < s₂.heap.objs.size → b ≠ HH.objs.size := fun b hb => by rw [hC]; exact Nat.ne_of_lt (Nat.lt_succ_of_lt hb)
  have old : ∀ b o, s₂.heap.get? b = some o → h₁.get? b = some o := fun b o e => hsb₁.extBut b o (below b (Heap.lt_size e)) (Heap.get?_push_of_some _ (hH2 ▸ Heap.get?_push_of_some _ e))
  have hl : h₁.get? s₂.heap.objs.size = some { cls := .type "list", data := .seq ([] : List Value).toArray 0 } := hsb₁.extBut _ _ hDC (Heap.get?_push_of_some _ (hH2 ▸ Heap.get?_push_size _ rfl))
  have I0 := inv_comp (tk := s₂.toks + ([] : List (Str × Value)).length) I S hcl1 hcl2 hCle (Nat.le_refl _) (Ne.symm hDC) hf hb hns₁ old hl
  have st1 : tn 0 h₁ := T.keep 0 _ _ st fun b _ o e => old b o e
  have hD0 : H2 s₂.heap.objs.size = none := I.hok.fresh (Nat.le_refl _)
  obtain ⟨W, ⟨m0, w0⟩, turn⟩ := q _ hD0
  -- the iterator's objects through the block
  have stat : ∀ {H' : Hp}, (∀ b ∈ fp, H' b = none) → ∀ b ∈ fp, FpOk (compCx X N scope cl HH.objs.size s₂ H2 fp) [] H' b := fun hn b hb' =>
    ⟨hn b hb', below b (hb b hb'), I0.ok.exfs b hb', .inl hb', (I0.ok.exf b hb').2, fun p hp => absurd (show p ∈ ([] : List (Addr × Obj)) from hp) (by simp)⟩
  have fr0 : ∀ b ∈ fp, upd H2 s₂.heap.objs.size (.lst []) b = none := fun b hb' => by
    rw [upd_ne (Nat.ne_of_lt (hb b hb'))]
    exact (hf b hb').1
  have loop : ∀ s₃ : Shared, s₃ = { s₂ with heap := h₁, toks := s₂.toks + ([] : List (Str × Value)).length } →
      codeAny (model X.prog X.w) X.A (.compLoop (.ListComp elt [⟨tg, iter, ifs, 0⟩] scope pos) 0 (.ref it) (.ref s₂.heap.objs.size) (compEnvC scope cl HH.objs.size X.env)) (RR (.ref s₂.heap.objs.size) HH.objs.size) s₃ := by
    rintro s₃ rfl
    refine compLoop_any (fun n s' => ∃ i σ' H', Inv (compCx X N scope cl HH.objs.size s₂ H2 fp) [] σ' H' s' ∧ tn i s'.heap ∧ (∀ b ∈ fp, H' b = none) ∧ W i n σ' H') ?_ m0 ⟨0, _, _, I0, st1, fr0, w0⟩
    rintro n s3 ⟨i, σ3, H3, I3, st3, fr3, w3⟩
    rcases turn i n σ3 H3 w3 with ⟨stop, qn⟩ | ⟨go, step⟩
    · refine thn (T.done (compCx X N scope cl HH.objs.size s₂ H2 fp) rfl rfl rfl hc i [] s3 σ3 H3 (fun _ _ => False) I3 (stat fr3) st3 stop) fun r s4 ⟨hr, I4⟩ => ?_
      subst hr
      exact hRR _ _ s4 H3 σ3 hCle hD0 I4 qn
    · refine thn (T.item (compCx X N scope cl HH.objs.size s₂ H2 fp) rfl rfl rfl hc i [] s3 σ3 H3 (fun _ _ => False) I3 (stat fr3) st3 go) fun r s4 ⟨u, hr, h4⟩ => ?_
      subst hr
      refine thn h4 fun _ s5 ⟨x, H5, I5, r5, y5, st5, fr5⟩ => ?_
      have I5' := I5.pinned (stat fr5) (T.obj _ _ st5)
      have again : ∀ {σ7 : St} {H7 : Hp} {s7 : Shared} {m' : Nat}, Inv (compCx X N scope cl HH.objs.size s₂ H2 fp) ([] ++ pinsAt fp s5.heap) σ7 H7 s7 → m' < n → W (i + 1) m' σ7 H7 →
          ∃ m, m < n ∧ ∃ i σ' H', Inv (compCx X N scope cl HH.objs.size s₂ H2 fp) [] σ' H' s7 ∧ tn i s7.heap ∧ (∀ b ∈ fp, H' b = none) ∧ W i m σ' H' := fun {σ7 H7 s7 m'} I7 hm w7 => by
        refine ⟨m', hm, i + 1, σ7, H7, I7.unpinned, T.keep _ _ _ st5 fun b hb' o e => (I7.pin (b, o) (List.mem_append_right _ (List.mem_append_right _ (mem_pinsAt hb' e)))).1, fun b hb' => ?_, w7⟩
        obtain ⟨o, e, d⟩ := T.obj _ _ st5 b hb'
        exact (I7.pin (b, o) (List.mem_append_right _ (List.mem_append_right _ (mem_pinsAt hb' e)))).2.1
      refine thn (hg _ _ _ _ _ s5 σ3 H5 x u _ I5' r5 (step x H5 y5)) fun _ s6 ⟨σ6, H6, I6, q6⟩ => ?_
      refine thn (ht _ _ _ _ _ s6 σ6 H6 _ I6 q6) fun ok s7 ⟨H7, I7, q7⟩ => ?_
      cases ok with
      | false =>
        obtain ⟨m', hm, w7⟩ := q7
        exact again I7 hm w7
      | true =>
        refine thn (he _ _ _ _ _ s7 σ6 H7 _ I7 q7) fun y s8 ⟨yv, H8, I8, r8, q8⟩ => ?_
        obtain ⟨ys, hys, hz, m', hm, w8⟩ := q8
        refine thn (mt_append _ s8 σ6 H8 (.ref s₂.heap.objs.size) [yv] _ _ (fun _ H' => W (i + 1) m' σ6 H') I8 rfl (.cons r8 .nil) ⟨_, ys, yv, rfl, rfl, hys, hz, w8⟩) fun _ s9 ⟨_, H9, I9, _, q9⟩ => ?_
        exact again I9 hm q9
  exact codeAny_compStart_list (loop _ rfl) (T.self _ 0 _ _ _ st1 (loop _ rfl))

theorem pe_comp (hc : X.calm = true) (S : CompScope X N js scope) (hi : PI X tg iter wi)
    (hg : ∀ cl C s H ex, PG (compCx X N scope cl C s H ex) tg g) (ht : ∀ cl C s H ex, PTs (compCx X N scope cl C s H ex) ifs tc) (he : ∀ cl C s H ex, PE (compCx X N scope cl C s H ex) elt te)
    (hs : ∀ x, foldedSetIterable iter X.env x = pure x := by intro _; rfl) : PE X (.ListComp elt [⟨tg, iter, ifs, 0⟩] scope pos) (tComp js wi g tc te) := by
  intro pins s σ H Q I h
  obtain ⟨cl, hclos, hcl1, hcl2⟩ := closure_of (env := X.env) (scope := scope) fun y hy e => I.ok.has y.1 (S.fr' y hy e)
  rw [eval_ListComp]
  refine wpAny_comprehension_free (use := none) rfl hs hclos S.kind S.loc' (thn (hi pins s σ H _ I h) fun v s1 h1 => thn h1 fun itv s2 h2 => ?_)
  obtain ⟨it, fp, tn, J, H2, rfl, I2, T, st, hf, q⟩ := h2
  refine comp_block (RR := fun acc C => compPost (model X.prog X.w) X.A X.xe none (EP X pins σ Q) acc C) hc S (hg cl) (ht cl) (he cl) hcl1 hcl2 I2 T st hf q ?_
  intro D C s' H' σ' hC hD J' qq
  obtain ⟨m, hn, _⟩ := J'.loc
  exact ⟨m, hn, fun h' hs' => ⟨.ref D, H', comp_left I2 (comp_back I2 hf J') hC J'.free hs', rfl, qq⟩⟩
end
end L2

set_option Elab.async false
set_option linter.all false
set_option maxRecDepth 100000
namespace L2
open PySem PySem.Spec PyProof.Rows

section
variable {X : Cx} {pins : List (Addr × Obj)} {σ : St} {H : Hp} {s : Shared} {h' : Heap}
theorem Inv.turnMany {t' : Nat} {ch : List Addr} (I : Inv X pins σ H s) (hf : ∀ b ∈ ch, FpOk X pins H b) (k : ∀ b o, b ∉ ch → s.heap.get? b = some o → h'.get? b = some o) : Inv X pins σ H { s with heap := h', toks := t' } := by
  have nit : ∀ b u, H b = some u → b ∉ ch := fun b u e z => by rw [(hf b z).1] at e; cases e
  refine I.step (g' := s.gens) (d' := s.drawn) (ch := ch) (fun b hb => let ⟨_, f1, _, f3, f4, f5⟩ := hf b hb; ⟨f3, f1, f4, f5⟩) (fun b o _ _ hc e _ => k b o hc e) (fun b o _ _ hc e _ => ⟨o.slots, k b o hc e⟩) (fun _ _ _ _ n => n)
    (fun b o hc e => ⟨o, k b o hc e⟩) (fun _ _ e => e) (fun _ _ _ e => e) (fun b ps e => ⟨#[], by rw [e]; simp⟩) (fun m hm => ?_) (fun b u e => ?_) I.bare
  · obtain ⟨o, es, ep, ho, r⟩ := hm
    exact ⟨o, es, ep, k _ o (fun z => (hf _ z).2.1 rfl) ho, r⟩
  · refine (I.hok b u e).stay (fun c v hc q => k c v ?_ q) (fun _ q => q) fun _ _ q => q
    rcases hc with z | z
    · rw [z]; exact nit b u e
    · exact nit c _ z
theorem Inv.turnNew {t' : Nat} {ch : List Addr} {T : Addr} {o : HO} (I : Inv X pins σ H s) (hf : ∀ b ∈ ch, FpOk X pins H b) (k : ∀ b o, b ∉ ch → s.heap.get? b = some o → h'.get? b = some o) (hp : s.heap.objs.size ≤ T)
    (new : ObjOk X.prog X.w (upd H T o) h' T o) : Inv X pins σ (upd H T o) { s with heap := h', toks := t' } := by
  have hn : H T = none := I.hok.fresh hp
  have nit : ∀ b u, H b = some u → b ∉ ch := fun b u e z => by rw [(hf b z).1] at e; cases e
  refine I.step (g' := s.gens) (d' := s.drawn) (ch := ch) (fun b hb => let ⟨_, f1, _, f3, f4, f5⟩ := hf b hb; ⟨f3, f1, f4, f5⟩) (fun b o _ _ hc e _ => k b o hc e) (fun b o _ _ hc e _ => ⟨o.slots, k b o hc e⟩)
    (fun b o _ e n => by rw [upd_ne (Nat.ne_of_lt (Nat.lt_of_lt_of_le (Heap.lt_size e) hp))]; exact n)
    (fun b o hc e => ⟨o, k b o hc e⟩) (fun b xs q => by rw [upd_ne (ne_of_none q hn)]; exact q) (fun b u xs q => by rw [upd_ne (ne_of_none q hn)]; exact q) (fun b ps q => ⟨#[], by rw [upd_ne (ne_of_none q hn), q]; simp⟩) (fun m hm => ?_) (fun b u e => ?_) I.bare
  · obtain ⟨o, es, ep, ho, r⟩ := hm
    exact ⟨o, es, ep, k _ o (fun z => (hf _ z).2.1 rfl) ho, r⟩
  · by_cases hb : b = T
    · subst hb; rw [upd_same] at e; cases e; exact new
    · rw [upd_ne hb] at e
      refine (I.hok b u e).stay (fun c v hc q => k c v ?_ q) (fun c q => by rw [upd_ne (ne_of_none q hn)]; exact q) fun c xs q => by rw [upd_ne (ne_of_none q hn)]; exact q
      rcases hc with z | z
      · rw [z]; exact nit b u e
      · exact nit c _ z
end

noncomputable def Ite (K : PySem.W.Frag) (a : Addr) : It :=
  ⟨fun i H => ∃ xs x, SqL K H a xs ∧ xs[i]? = some x, fun i H v H' => ∃ T x, v = .ref T ∧ H T = none ∧ H' = upd H T (.tup [.int i, x]) ∧ ∀ xs, SqL K H a xs → xs[i]? = some x, fun i H => ∃ xs, SqL K H a xs ∧ xs.length ≤ i⟩
theorem turn_enum {P : Program} {w : World} {K : PySem.W.Frag} {es : List Expr} {k : Nat} {tp : Pos} (a e it : Addr) (hne : e ≠ it) :
    Turn P w K (.Tuple es k tp) (Ite K a) [e, it] e (fun i h => (∃ old, IsEnum h e it i old) ∧ h.IsListIter it a i) where
  mem := by simp
  obj := fun i h st b hb => by
    obtain ⟨⟨old, he⟩, hit⟩ := st
    rcases List.mem_cons.mp hb with q | q
    · subst q
      exact ⟨_, he, fun v z => by
        have z' : Data.fields _ = Data.cell v := z
        cases z'⟩
    · have q : b = it := by simpa using q
      subst q
      obtain ⟨o, e1, c, d⟩ := hit
      exact ⟨o, e1, fun v z => by rw [d] at z; cases z⟩
  keep := fun i h h' st k => by
    obtain ⟨⟨old, he⟩, hit⟩ := st
    exact ⟨⟨old, k e (by simp) _ he⟩, hit.at fun o x => k it (by simp) o x⟩
  item := by
    intro X hP hw hK hc i pins s σ H E I hf st hg
    subst hP hw hK
    obtain ⟨⟨old, he⟩, hit⟩ := st
    obtain ⟨xs, x, hq, hx⟩ := hg
    obtain ⟨its, rv, p, hz⟩ := I.list hq
    obtain ⟨u, hu, ru⟩ := rv.get hx
    refine wpAny_pyNext_enum_item he hit p.isList (x := u) (by simpa using hu) hne fun h1 out hit1 hT hsz hk => ?_
    refine ⟨_, rfl, wpAny_letOwnedTupleGo_enum out fun h2 he2 hs2 => ?_⟩
    have hel : e < s.heap.objs.size := Heap.lt_size he
    have hil : it < s.heap.objs.size := by obtain ⟨_, q, _⟩ := hit; exact Heap.lt_size q
    have hT2 : h2.get? s.heap.objs.size = some { cls := .type "tuple", data := .seq #[.int i s.toks, u] } := hs2.extBut _ _ (Nat.ne_of_gt hel) hT
    have kk : ∀ b o, b ∉ [e, it] → s.heap.get? b = some o → h2.get? b = some o := fun b o hb q => by
      have h1b : b ≠ e := fun z => hb (by simp [z])
      have h2b : b ≠ it := fun z => hb (by simp [z])
      exact hs2.extBut _ _ h1b (hk b o h1b h2b q)
    have I2 : Inv X pins σ (upd H s.heap.objs.size (.tup [.int i, x])) { s with heap := h2, toks := s.toks + 1 } :=
      I.turnNew hf kk (Nat.le_refl _) ⟨by show 2 ≤ sizeLine; decide, [.int i s.toks, u], .cons ⟨_, rfl⟩ (.cons ru .nil), _, hT2, rfl, _, rfl⟩
    refine ⟨.ref s.heap.objs.size, _, I2, rfl, ⟨_, x, rfl, I.hok.fresh (Nat.le_refl _), rfl, fun ys hy => by rw [I.list_inj hy hq]; exact hx⟩, ⟨⟨_, by simpa using he2⟩, hit1.at fun o q => (hs2.2 it hne.symm).trans q⟩, fun b hb => ?_⟩
    have hbl : b < s.heap.objs.size := by
      rcases List.mem_cons.mp hb with q | q
      · rw [q]; exact hel
      · rw [List.mem_singleton.mp q]; exact hil
    rw [upd_ne (Nat.ne_of_lt hbl)]
    exact (hf b hb).1
  done := by
    intro X hP hw hK hc i pins s σ H E I hf st hg
    subst hP hw hK
    obtain ⟨⟨old, he⟩, hit⟩ := st
    obtain ⟨xs, hq, hx⟩ := hg
    obtain ⟨its, rv, p, hz⟩ := I.list hq
    have hl := rv.length
    refine wpAny_pyNext_enum_end (I.ok.hd hc) he hit p.isList (by simp; omega) fun h' eb => ⟨rfl, I.turnMany (t' := s.toks) hf fun b o hb q => eb b o (fun z => hb (by simp [z])) q⟩
  self := fun _ _ _ _ _ st h => wpAny_pyIter_enum st.1.choose_spec h
noncomputable def iEnum (K : PySem.W.Frag) (ta : TA) : TI := fun σ H R => ta σ H fun vs H1 => ∃ a, vs = [.ref a] ∧ (∃ xs, SqL K H1 a xs) ∧ R (Ite K a) H1
theorem pi_enum {X : Cx} {l : Expr} {ta : TA} {es : List Expr} {k : Nat} {tp p pos : Pos} (hg : Gl X "enumerate") (hm : X.mg "enumerate" = none) (ha : PA X [l] ta) (hs : starEach [l] X.env = [(false, eval l X.env)] := by rfl) :
    PI X (.Tuple es k tp) (.Call (.Name "enumerate" p) [l] [] pos) (iEnum X.K ta) := by
  intro pins s σ H R I h
  refine Call_ (ld_blt I hg hm boot_enumerate (PyProof.Rows.callWith_type1 (thn (ha pos pins s σ H _ I h) fun us s1 ⟨vs, H1, I1, r1, q1⟩ => ?_) hs rfl))
  obtain ⟨a, rfl, ⟨xs, hq⟩, q⟩ := q1
  obtain ⟨u, rfl, ru⟩ := vals1 r1
  cases ru
  obtain ⟨its, rv, pl, hz⟩ := I1.list hq
  refine call_enumerate_list pl.isList fun h' he hit hsz hk => ?_
  have hne : s1.heap.objs.size + 1 ≠ s1.heap.objs.size := Nat.succ_ne_self _
  have I2 : Inv X pins σ H1 { s1 with heap := h' } := I1.kept (t' := s1.toks) hk
  refine wpAny_pyIter_enum (s := { s1 with heap := h' }) he ?_
  refine ⟨_, [s1.heap.objs.size + 1, s1.heap.objs.size], _, _, H1, rfl, I2, turn_enum a _ _ hne, ⟨⟨_, he⟩, hit⟩, fun b hb => ?_, q⟩
  have hb' : s1.heap.objs.size ≤ b := by
    rcases List.mem_cons.mp hb with z | z
    · rw [z]; exact Nat.le_succ _
    · rw [List.mem_singleton.mp z]; exact Nat.le_refl _
  exact I1.fpOk hb' (I1.hok.fresh hb')

end L2

set_option Elab.async false
set_option linter.all false
set_option maxRecDepth 100000
namespace L2
open PySem PySem.Spec PyProof.Rows
section
variable {X : Cx}
theorem call_sum (hc : X.calm = true) : CallR X (.builtin "sum") (fun xs H Q => ∃ (p : Addr) (ns : List Int), xs = [.ref p] ∧ SqL X.K H p (ns.map V.int) ∧ Q (.int ns.sum) H) := by
  intro pins s σ H xs us Q I r h
  obtain ⟨p, ns, rfl, hq, q⟩ := h
  obtain ⟨u, rfl, ru⟩ := vals1 r
  cases ru
  obtain ⟨its, rv, pl, hz⟩ := I.list hq
  have hi : IntsAre its ns := intsAre_of rv
  obtain ⟨ys, hy⟩ := hi.allInts.items
  have hl' : s.heap.IsList p (intItems ys) := hy ▸ pl.isList
  refine sum_intListG (I.ok.hd hc) hl' fun h' tk t' hk => ?_
  have e1 : ns = ys.toList.map (·.1) := by
    rw [← nums_intItems, ← hy]
    exact (show numsOf its.toArray.toList = ns from hi.numsOf).symm
  have e2 : preSum (numAt ys) ys.size = ns.sum := by
    rw [preSum_eq, List.take_of_length_le (by simp), e1]
  exact ⟨.int ns.sum, H, I.kept hk, ⟨t', by rw [e2]⟩, q⟩
theorem call_isinst : CallR X (.builtin "isinstance") (fun xs H Q => ∃ (x c : V) (u t : Value) (b : Bool), xs = [x, c] ∧ (∀ u', RelV c u' → u' = u) ∧ TyOf X.K H x t ∧ PySem.W.kitOne X.K t u = some b ∧ Q (.bl b) H) := by
  intro pins s σ H xs us Q I r h
  obtain ⟨x, c, u, t, b, rfl, hc, ty, e, q⟩ := h
  obtain ⟨v, w', rfl, rv, rw'⟩ := vals2 r
  cases hc _ rw'
  exact isinst_ok I rv ty e fun tk => ⟨.bl b, H, I.tok tk, rfl, q⟩
mutual
inductive DV (K : PySem.W.Frag) (H : Hp) : V → PyData → Prop
  | non : DV K H .non .none
  | bl (b : Bool) : DV K H (.bl b) (.bool b)
  | int (i : Int) : DV K H (.int i) (.int i)
  | str (x : Str) : DV K H (.str x) (.str x)
  | lst {a : Addr} {xs : List V} {ds : List PyData} : SqL K H a xs → DVs K H xs ds → DV K H (.ref a) (.list ds)
  | tup {a : Addr} {xs : List V} {ds : List PyData} : SqT K H a xs → DVs K H xs ds → DV K H (.ref a) (.tuple ds)
inductive DVs (K : PySem.W.Frag) (H : Hp) : List V → List PyData → Prop
  | nil : DVs K H [] []
  | cons {x : V} {xs : List V} {d : PyData} {ds : List PyData} : DV K H x d → DVs K H xs ds → DVs K H (x :: xs) (d :: ds)
end
mutual
theorem DV.reads {pins : List (Addr × Obj)} {σ : St} {H : Hp} {s : Shared} (I : Inv X pins σ H s) : ∀ {x : V} {d : PyData} {u : Value}, DV X.K H x d → RelV x u → ∃ as, Reads s.heap u d as
  | _, _, _, .non, r => by cases r; exact ⟨_, .none⟩
  | _, _, _, .bl b, r => by cases r; exact ⟨_, .bool b⟩
  | _, _, _, .int i, r => by obtain ⟨t, rfl⟩ := r; exact ⟨_, .int i t⟩
  | _, _, _, .str x, r => by obtain ⟨t, rfl⟩ := r; exact ⟨_, .str x t⟩
  | _, _, _, .lst hq hs, r => by
    cases r
    obtain ⟨its, rv, pl, _⟩ := I.list hq
    obtain ⟨as, ra⟩ := DVs.reads I hs rv
    obtain ⟨o, ho, hc, n, hd⟩ := pl.isList
    exact ⟨_, .list ho hc hd (by simpa using ra)⟩
  | _, _, _, .tup hq hs, r => by
    cases r
    obtain ⟨its, rv, pl, _⟩ := I.tuple hq
    obtain ⟨as, ra⟩ := DVs.reads I hs rv
    obtain ⟨o, ho, hc, n, hd⟩ := pl
    exact ⟨_, .tuple ho hc hd (by simpa using ra)⟩
theorem DVs.reads {pins : List (Addr × Obj)} {σ : St} {H : Hp} {s : Shared} (I : Inv X pins σ H s) : ∀ {xs : List V} {ds : List PyData} {us : List Value}, DVs X.K H xs ds → Vals xs us → ∃ as, ReadsAll s.heap us ds as
  | _, _, _, .nil, r => by cases r; exact ⟨_, .nil⟩
  | _, _, _, .cons h hs, r => by
    cases r with
    | cons r rr =>
      obtain ⟨as, ra⟩ := DV.reads I h r
      obtain ⟨bs, rb⟩ := DVs.reads I hs rr
      exact ⟨_, .cons ra rb⟩
end
theorem op_neD (hu : X.A.units + 64 < cLine) : OpR X (compareOp .NotEq) (fun x y H Q => ∃ d e, DV X.K H x d ∧ DV X.K H y e ∧ SeqAt.shaped d = true ∧ SeqAt.shaped e = true ∧ Q (.bl (!PyData.eqv d e)) H) := by
  intro pins s σ H x y v u Q I rx ry h
  obtain ⟨d, e, hd, he, sd, se, q⟩ := h
  obtain ⟨as, ra⟩ := DV.reads I hd rx
  obtain ⟨bs, rb⟩ := DV.reads I he ry
  exact ne_dataH ra rb sd se hu ⟨.bl _, H, I, rfl, q⟩
theorem eqv_ints : ∀ ns ms : List Int, PyData.eqvAll (ns.map PyData.int) (ms.map PyData.int) = decide (ns = ms)
  | [], [] => by simp [PyData.eqvAll]
  | [], _ :: _ => by simp [PyData.eqvAll]
  | _ :: _, [] => by simp [PyData.eqvAll]
  | n :: r, m :: q => by
    simp only [List.map_cons, PyData.eqvAll, PyData.eqv, eqv_ints r q]
    by_cases h : n = m <;> simp [h]
theorem eqv_list_ints (ns ms : List Int) : PyData.eqv (.list (ns.map PyData.int)) (.list (ms.map PyData.int)) = decide (ns = ms) := by
  simp only [PyData.eqv]; exact eqv_ints ns ms
noncomputable def rNeL (K : PySem.W.Frag) : R2 := fun x y H Q => ∃ (a b : Addr) (ns ms : List Int), x = .ref a ∧ y = .ref b ∧ SqL K H a (ns.map V.int) ∧ SqL K H b (ms.map V.int) ∧ Q (.bl (!decide (ns = ms))) H
theorem reads_all_ints {h : Heap} : ∀ {ns : List Int} {us : List Value}, Vals (ns.map V.int) us → ∃ as, ReadsAll h us (ns.map PyData.int) as := by
  intro ns
  induction ns with
  | nil => intro us r; cases r; exact ⟨_, .nil⟩
  | cons n t ih =>
    intro us r
    cases r with
    | cons r rr =>
      obtain ⟨k, rfl⟩ := r
      obtain ⟨bs, rb⟩ := ih rr
      exact ⟨_, .cons (.int n k) rb⟩
theorem reads_ints {pins : List (Addr × Obj)} {σ : St} {H : Hp} {s : Shared} {a : Addr} {ns : List Int} (I : Inv X pins σ H s) (hq : SqL X.K H a (ns.map V.int)) : ∃ as, Reads s.heap (.ref a) (.list (ns.map PyData.int)) as := by
  obtain ⟨its, rv, pl, _⟩ := I.list hq
  obtain ⟨as, ra⟩ := reads_all_ints (h := s.heap) rv
  obtain ⟨o, ho, hc, n, hd⟩ := pl.isList
  exact ⟨_, .list ho hc hd (by simpa using ra)⟩
theorem op_neL (hu : X.A.units + 64 < cLine) : OpR X (compareOp .NotEq) (rNeL X.K) := by
  intro pins s σ H x y v u Q I rx ry h
  obtain ⟨a, b, ns, ms, rfl, rfl, ha, hb, q⟩ := h
  cases rx
  cases ry
  obtain ⟨as, ra⟩ := reads_ints I ha
  obtain ⟨bs, rb⟩ := reads_ints I hb
  exact ne_dataH ra rb (PySem.W.shaped_ints ns) (PySem.W.shaped_ints ms) hu ⟨.bl _, H, I, rfl, by rw [eqv_list_ints]; exact q⟩

end
end L2

set_option Elab.async false
set_option linter.all false
set_option maxRecDepth 100000
namespace L2
open PySem PySem.Spec PyProof.Rows

noncomputable def FunAt (K : PySem.W.Frag) (x qual : Str) (st : Stmt) (ps : List Str) (f : Addr) : Prop := ∃ fd, Fun K x qual st f fd ∧ Binds K fd ps []
noncomputable def OkFn (P : Program) (w : World) (K : PySem.W.Frag) (mg : Str → Option Value) (base : Heap) (k : Nat) (f : Addr) (ps : List Str) (sp : Sp) : Prop := ∃ fd, Binds K fd ps [] ∧ FnOk P w K mg base CX0 k f fd ps sp
section
variable {P : Program} {w : World} {K : PySem.W.Frag} {mg : Str → Option Value} {base : Heap}
theorem okfn {x qual : Str} {st : Stmt} {f : Addr} {N ps : List Str} {k : Nat} {sp : Sp} (F : FunAt K x qual st ps f) (S : FnScope N ps (defScope st)) (len : ∀ vs H Q E, sp vs H Q E → vs.length = ps.length)
    (hbody : ∀ (cdv : Value) (A : Around) (outer : List Env) (s : Shared) (H : Hp) (vs : List V) (Q : VK) (E : XK), Room k (A.deeper (envOfC qual (defScope st) s.heap.objs.size f cdv)) → sp vs H Q E →
      ∃ t, PSs (cxOf CX0 P w K mg base N qual (defScope st) f cdv A outer s H E).nox (defBody st) t ∧ t { nx := fun _ H' => Q .non H', rt := Q } (start N vs) H) : OkFn P w K mg base (k + 1) f ps sp := by
  obtain ⟨fd, F, b⟩ := F
  exact ⟨fd, b, F.ok S len hbody⟩
theorem funat {x qual : Str} {st : Stmt} {f : Addr} {ps : List Str} {oc : Value} {od an : Option Addr} {osl : Array (Option Value)} {kV doc pm cdv ct : Value} (l : K.lookup f = some ⟨oc, od, .func (PySem.W.fnOf x qual (defArgs st) (defBody st) (defScope st) .none kV doc pm an cdv ct), osl⟩)
    (c : PySem.W.codeIn K cdv qual = true) (k : PySem.W.keepIn K (.ref f) = true)
    (h : ∀ (kV doc pm : Value) (an : Option Addr) (cdv ct : Value) (us : List Value), us.length = ps.length → bindArgs (PySem.W.fnOf x qual (defArgs st) (defBody st) (defScope st) .none kV doc pm an cdv ct) ⟨us, []⟩ = pure (ps.zip us)) : FunAt K x qual st ps f :=
  ⟨_, fun_mk l c k, (fun_mk (st := st) l c k).binds h⟩
theorem FunAt.kp {x qual : Str} {st : Stmt} {f : Addr} {ps : List Str} (F : FunAt K x qual st ps f) : PySem.W.keepIn K (.ref f) = true := F.choose_spec.1.kp
end
section
variable {X : Cx} {k : Nat} {f C : Addr} {ps : List Str} {sp : Sp} {x m : Str} {p pos apos : Pos} {e o : Expr} {es : List Expr} {ta : TE} {t : TA}
theorem pe_callO (G : OkFn X.prog X.w X.K X.mg X.base k f ps sp) (hr : Room k X.A) (hm : X.mg x = some (.ref f)) (hk : PySem.W.keepIn X.K (.ref f) = true) (ha : PA X (e :: es) t)
    (hg : Gl X x := by rfl) (hdb : (x == ("__debug__" : Str)) = false := by decide) (he : starEach (e :: es) X.env = (false, eval e X.env) :: starEach es X.env := by rfl) (hpl : (backTo pos (starEach es X.env)).any (·.1) = false := by rfl) :
    PE X (.Call (.Name x p) (e :: es) [] pos) (tCall sp [] E0 t) := by
  obtain ⟨fd, b, F⟩ := G
  exact pe_call F hr hg hm hk b .nil pass0 ha hdb he hpl
theorem pe_makeO {fi : Addr} (M : Mk X.K C fi) (G : OkFn X.prog X.w X.K X.mg X.base k fi ps sp) (hr : Room (k + 1) X.A) (hm : X.mg x = some (.ref C)) (ha : PA X (e :: es) t)
    (hg : Gl X x := by rfl) (hdb : (x == ("__debug__" : Str)) = false := by decide) (he : starEach (e :: es) X.env = (false, eval e X.env) :: starEach es X.env := by rfl) (hpl : (backTo pos (starEach es X.env)).any (·.1) = false := by rfl) :
    PE X (.Call (.Name x p) (e :: es) [] pos) (tMake C sp [] E0 t) := by
  obtain ⟨fd, b, F⟩ := G
  exact pe_make M F hr hg hm b .nil pass0 ha hdb he hpl
end

theorem Same.new {H : Hp} {p : Addr} {o : HO} (h : H p = none) : Same H (upd H p o) := fun b u e => by rw [upd_ne (ne_of_none e h)]; exact e
theorem Same.step {H H1 : Hp} {p : Addr} {o : HO} (e : Same H H1) (h : H p = none) : Same H (upd H1 p o) := fun b u z => by rw [upd_ne (ne_of_none z h)]; exact e b u z
theorem for_enum {K : PySem.W.Frag} {a : Addr} {xs : List V} {g : TG} {tb : TS} {D : Ends} {σ : St} {H : Hp} (Pv : Nat → St → Hp → Prop) (h0 : Pv 0 σ H) (hl : ∀ i σ H, i ≤ xs.length → Pv i σ H → SqL K H a xs)
    (hs : ∀ i x σ H T, xs[i]? = some x → Pv i σ H → H T = none → g (.ref T) σ (upd H T (.tup [.int i, x])) fun σ2 H2 => tb { D with nx := Pv (i + 1), ct := Pv (i + 1), bk := D.nx } σ2 H2) (hd : ∀ σ H, Pv xs.length σ H → D.nx σ H) :
    ∃ W : Nat → Nat → St → Hp → Prop, (∃ m, W 0 m σ H) ∧ ∀ i m σ H, W i m σ H →
      ((Ite K a).stop i H ∧ D.nx σ H) ∨ ((Ite K a).go i H ∧ ∃ N : St → Hp → Prop, (∀ σ' H', N σ' H' → ∃ m', m' < m ∧ W (i + 1) m' σ' H') ∧ ∀ x H', (Ite K a).yld i H x H' → g x σ H' fun σ2 H2 => tb { D with nx := N, ct := N, bk := D.nx } σ2 H2) := by
  refine ⟨fun i m σ H => m = xs.length - i ∧ i ≤ xs.length ∧ Pv i σ H, ⟨xs.length, by simp, Nat.zero_le _, h0⟩, ?_⟩
  rintro i m σ H ⟨rfl, hi, p⟩
  have q := hl i σ H hi p
  by_cases hlt : i < xs.length
  · refine .inr ⟨⟨xs, xs[i], q, by simp [hlt]⟩, Pv (i + 1), fun σ' H' p' => ⟨xs.length - (i + 1), by omega, rfl, hlt, p'⟩, fun x H' y => ?_⟩
    obtain ⟨T, x, rfl, hT, rfl, y⟩ := y
    exact hs i x σ _ T (y xs q) p hT
  · have e : i = xs.length := by omega
    subst e
    exact .inl ⟨⟨xs, q, Nat.le_refl _⟩, hd σ H p⟩

noncomputable def CompI (n : Nat) (Pv : Nat → List V → St → Hp → Prop) : Nat → Nat → St → Hp → Prop := fun i m σ' H' => m = n - i ∧ i ≤ n ∧ ∃ ys, Pv i ys σ' H'
noncomputable def NextC (n : Nat) (Pv : Nat → List V → St → Hp → Prop) (i : Nat) (D : Addr) (σ3 : St) : VK := fun y H5 => ∃ ys, H5 D = some (.lst ys) ∧ ys.length < sizeLine ∧ ∃ m', m' < n - i ∧ CompI n Pv (i + 1) m' σ3 (upd H5 D (.lst (ys ++ [y])))
theorem nextC {n : Nat} {Pv : Nat → List V → St → Hp → Prop} {i : Nat} {D : Addr} {σ3 : St} {y : V} {H5 : Hp} {ys : List V} (hi : i < n) (hD : H5 D = some (.lst ys)) (hz : ys.length < sizeLine) (p : Pv (i + 1) (ys ++ [y]) σ3 (upd H5 D (.lst (ys ++ [y])))) :
    NextC n Pv i D σ3 y H5 := ⟨ys, hD, hz, n - (i + 1), by omega, rfl, hi, _, p⟩
theorem comp_by {js : List (Option Nat)} {J : It} {g : TG} {tc : TT} {te : TE} {σ : St} {H1 : Hp} {D : Addr} {Q : VK} (n : Nat) (Pv : Nat → List V → St → Hp → Prop) (h0 : Pv 0 [] (capt js σ) (upd H1 D (.lst [])))
    (hgo : ∀ i ys σ' H', i < n → Pv i ys σ' H' → J.go i H') (hst : ∀ ys σ' H', Pv n ys σ' H' → J.stop n H')
    (hs : ∀ i ys σ' H', i < n → Pv i ys σ' H' → ∀ x H2, J.yld i H' x H2 → g x σ' H2 fun σ3 H3 => tc σ3 H3 fun b H4 => if b = true then te σ3 H4 (NextC n Pv i D σ3) else ∃ m', m' < n - i ∧ CompI n Pv (i + 1) m' σ3 H4)
    (hd : ∀ ys σ' H', Pv n ys σ' H' → Q (.ref D) H') : CompW js J g tc te σ H1 D Q := by
  refine ⟨CompI n Pv, ⟨n, by simp, Nat.zero_le _, [], h0⟩, ?_⟩
  rintro i m σ' H' ⟨rfl, hi, ys, p⟩
  by_cases hlt : i < n
  · exact .inr ⟨hgo i ys σ' H' hlt p, hs i ys σ' H' hlt p⟩
  · have e : i = n := by omega
    subst e
    exact .inl ⟨hst ys σ' H' p, hd ys σ' H' p⟩
theorem comp_list {K : PySem.W.Frag} {a : Addr} {xs : List V} {js : List (Option Nat)} {g : TG} {te : TE} {σ : St} {H1 : Hp} {D : Addr} {Q : VK} (Pv : Nat → List V → St → Hp → Prop) (h0 : Pv 0 [] (capt js σ) (upd H1 D (.lst [])))
    (hl : ∀ i ys σ' H', Pv i ys σ' H' → SqL K H' a xs)
    (hs : ∀ i ys σ' H' x, i < xs.length → xs[i]? = some x → Pv i ys σ' H' → g x σ' H' fun σ3 H3 => te σ3 H3 (NextC xs.length Pv i D σ3))
    (hd : ∀ ys σ' H', Pv xs.length ys σ' H' → Q (.ref D) H') : CompW js (Itl K a) g tYes te σ H1 D Q := by
  refine comp_by xs.length Pv h0 (fun i ys σ' H' hi p => ⟨xs, xs[i], hl _ _ _ _ p, by simp [hi]⟩) (fun ys σ' H' p => ⟨xs, hl _ _ _ _ p, Nat.le_refl _⟩) (fun i ys σ' H' hi p x H2 y => ?_) hd
  obtain ⟨rfl, y⟩ := y
  have q := hs i ys σ' H2 x hi (y xs (hl _ _ _ _ p)) p
  have e : (fun σ3 H3 => tYes σ3 H3 fun b H4 => if b = true then te σ3 H4 (NextC xs.length Pv i D σ3) else ∃ m', m' < xs.length - i ∧ CompI xs.length Pv (i + 1) m' σ3 H4) = fun σ3 H3 => te σ3 H3 (NextC xs.length Pv i D σ3) := by
    funext σ3 H3
    simp [tYes]
  rw [e]
  exact q
end L2

set_option Elab.async false
set_option linter.all false
set_option maxRecDepth 100000
namespace L2
open PySem PySem.Spec PyProof.Rows
section
variable {X : Cx}
end
section
variable {prog : Program} {w : World} {A : Around} {E : Value → Shared → Prop} {s : Shared}
end
end L2

set_option Elab.async false
set_option linter.all false
set_option maxRecDepth 100000
namespace L2
open PySem PySem.Spec PyProof.Rows
theorem iteP {c A B : Prop} [Decidable c] (h : c) (a : A) : if c then A else B := by
  rw [if_pos h]
  exact a
theorem iteQ {c A B : Prop} [Decidable c] (h : ¬ c) (b : B) : if c then A else B := by
  rw [if_neg h]
  exact b
theorem comp_mapL {K : PySem.W.Frag} {a : Addr} {xs : List V} {js : List (Option Nat)} {g : TG} {te : TE} {σ : St} {H1 : Hp} {D : Addr} {Q : VK} (Sh : St → Prop) (f : Nat → V) (hS : SqL K H1 a xs) (hD : H1 D = none) (hz : xs.length ≤ 1000) (h0 : Sh (capt js σ))
    (step : ∀ i x σ' H', xs[i]? = some x → Same H1 H' → Sh σ' → ∀ R : St → VK, (∀ σ3 H3, Sh σ3 → Same H' H3 → R σ3 (f i) H3) → g x σ' H' fun σ3 H3 => te σ3 H3 (R σ3))
    (hd : ∀ H', Same H1 H' → H' D = some (.lst ((List.range xs.length).map f)) → Q (.ref D) H') : CompW js (Itl K a) g tYes te σ H1 D Q := by
  refine comp_list (K := K) (a := a) (xs := xs) (fun i ys σ' H' => ys = (List.range i).map f ∧ Sh σ' ∧ Same H1 H' ∧ H' D = some (.lst ys)) ⟨rfl, h0, Same.new hD, upd_same⟩ (fun i ys σ' H' ⟨_, _, s, _⟩ => s.seq hS) ?_ ?_
  · rintro i ys σ' H' x hi hx ⟨rfl, sh, s, hl⟩
    refine step i x σ' H' hx s sh (fun σ3 y H3 => NextC xs.length (fun i ys σ' H' => ys = (List.range i).map f ∧ Sh σ' ∧ Same H1 H' ∧ H' D = some (.lst ys)) i D σ3 y H3) fun σ3 H3 sh3 s3 => ?_
    refine nextC hi (s3 _ _ hl) (small1000 (by simp; omega)) ⟨by rw [List.range_succ, List.map_append]; rfl, sh3, (s.trans s3).step hD, upd_same⟩
  · rintro ys σ' H' ⟨rfl, sh, s, hl⟩
    exact hd H' s hl
section
variable {X : Cx} {K : PySem.W.Frag}
theorem ix_listK (hK : X.K = K) : IxR X (rIxL K) := by
  subst hK
  exact ix_list
end
section
variable {K : PySem.W.Frag}
theorem kit_of {C D : Addr} {b : Bool} (mC : PySem.W.mroIn K C (.ref C) = some true) (mD : PySem.W.mroIn K D (.ref D) = some true) (tD : PySem.W.typeIn K (.ref D) = some (.type "type")) (m : PySem.W.mroIn K C (.ref D) = some b) :
    PySem.W.kitOne K (.ref C) (.ref D) = some b := by
  unfold PySem.W.kitOne
  by_cases h : C = D
  · subst h
    rw [if_pos (by simp)]
    exact mC.symm.trans m
  · have e : (Value.ref C == Value.ref D) = false := by
      rw [beq_eq_false_iff_ne]
      intro z
      cases z
      exact h rfl
    rw [e, if_neg Bool.false_ne_true]
    unfold PySem.W.kitCls
    have hs : (PySem.W.clsIn K D).isSome = true := by
      unfold PySem.W.mroIn at mD
      cases q : PySem.W.clsIn K D with
      | none => rw [q] at mD; cases mD
      | some _ => rfl
    show (if ((PySem.W.clsIn K D).isSome && PySem.W.typeIn K (.ref D) == some (.type "type")) = true then PySem.W.subIn K (.ref C) (.ref D) else none) = some b
    rw [hs, tD, if_pos (by simp)]
    exact m
theorem kit_ii : PySem.W.kitOne K (.type "int") (.type "int") = some true := by kernel_rfl
theorem kit_ib : PySem.W.kitOne K (.type "int") (.type "bool") = some false := by kernel_rfl
theorem kit_bi : PySem.W.kitOne K (.type "bool") (.type "int") = some true := by kernel_rfl
theorem kit_bb : PySem.W.kitOne K (.type "bool") (.type "bool") = some true := by kernel_rfl
theorem kit_ll : PySem.W.kitOne K (.type "list") (.type "list") = some true := by kernel_rfl
end
end L2

set_option linter.all false
namespace BS
noncomputable def S (ns : List Int) (i : Nat) : Int := (ns.take i).sum
noncomputable def sumsZ (ns : List Int) : List Int := (List.range (ns.length + 1)).map (S ns)
theorem S_zero (ns : List Int) : S ns 0 = 0 := by simp [S]
theorem S_succ {ns : List Int} {i : Nat} {x : Int} (h : ns[i]? = some x) : S ns (i + 1) = S ns i + x := by
  unfold S
  rw [List.take_add_one, h, List.sum_append]
  simp
theorem S_all (ns : List Int) : S ns ns.length = ns.sum := by simp [S]
theorem sumsZ_length (ns : List Int) : (sumsZ ns).length = ns.length + 1 := by simp [sumsZ]
theorem sumsZ_get {ns : List Int} {i : Nat} (h : i ≤ ns.length) : (sumsZ ns)[i]? = some (S ns i) := by
  unfold sumsZ
  rw [List.getElem?_map, List.getElem?_range (by omega)]
  rfl
theorem cut_sum (ns : List Int) (a k : Nat) : ((ns.drop a).take k).sum = S ns (a + k) - S ns a := by
  unfold S
  have h : ns.take (a + k) = ns.take a ++ (ns.drop a).take k := by
    rw [List.take_add]
  rw [h, List.sum_append]
  omega
noncomputable def lowOk (ns : List Int) (least : Nat) (lows : List Int) (most : Int) (i : Nat) : Bool :=
  decide (lows.getD i 0 ≤ S ns i) && decide (S ns (i + least) - lows.getD i 0 ≤ most) && (i == 0 || decide (lows.getD i 0 ≤ lows.getD (i - 1) 0))
noncomputable def bounds (ns : List Int) (least : Int) (lows : List Int) (most : Int) : Bool :=
  decide (0 ≤ least) && decide ((lows.length : Int) = (ns.length : Int) + 1 - least) && (List.range lows.length).all (lowOk ns least.toNat lows most)

theorem bounds_parts {ns : List Int} {least : Int} {lows : List Int} {most : Int} (h : bounds ns least lows most = true) :
    0 ≤ least ∧ (lows.length : Int) = (ns.length : Int) + 1 - least ∧ ∀ i, i < lows.length → lows.getD i 0 ≤ S ns i ∧ S ns (i + least.toNat) - lows.getD i 0 ≤ most ∧ (0 < i → lows.getD i 0 ≤ lows.getD (i - 1) 0) := by
  unfold bounds at h
  simp only [Bool.and_eq_true, decide_eq_true_eq] at h
  refine ⟨h.1.1, h.1.2, fun i hi => ?_⟩
  have := List.all_eq_true.mp h.2 i (List.mem_range.mpr hi)
  unfold lowOk at this
  simp only [Bool.and_eq_true, Bool.or_eq_true, decide_eq_true_eq, beq_iff_eq] at this
  exact ⟨this.1.1, this.1.2, fun h0 => this.2.resolve_left (by omega)⟩
theorem bounds_of {ns : List Int} {least : Int} {lows : List Int} {most : Int} (h0 : 0 ≤ least) (hl : (lows.length : Int) = (ns.length : Int) + 1 - least)
    (h : ∀ i, i < lows.length → lows.getD i 0 ≤ S ns i ∧ S ns (i + least.toNat) - lows.getD i 0 ≤ most ∧ (0 < i → lows.getD i 0 ≤ lows.getD (i - 1) 0)) : bounds ns least lows most = true := by
  unfold bounds
  simp only [Bool.and_eq_true, decide_eq_true_eq]
  refine ⟨⟨h0, hl⟩, List.all_eq_true.mpr fun i hi => ?_⟩
  obtain ⟨h1, h2, h3⟩ := h i (List.mem_range.mp hi)
  unfold lowOk
  simp only [Bool.and_eq_true, Bool.or_eq_true, decide_eq_true_eq, beq_iff_eq]
  refine ⟨⟨h1, h2⟩, ?_⟩
  by_cases e : i = 0
  · exact .inl e
  · exact .inr (h3 (by omega))
end BS

set_option linter.all false
namespace BS
theorem getD_S {ns : List Int} {i : Nat} (h : i < ns.length) : S ns (i + 1) = S ns i + ns.getD i 0 := by
  have e : ns[i]? = some ns[i] := List.getElem?_eq_getElem h
  rw [S_succ e, List.getD_eq_getElem?_getD, e]
  rfl
noncomputable def ring (ns : List Int) (f m : Nat) : Int := ((List.range m).map fun k => ns.getD ((f + k) % ns.length) 0).sum
theorem ring_succ (ns : List Int) (f m : Nat) : ring ns f (m + 1) = ring ns f m + ns.getD ((f + m) % ns.length) 0 := by
  unfold ring
  rw [List.range_succ, List.map_append, List.sum_append]
  simp
theorem ring_in {ns : List Int} {f : Nat} : ∀ {m : Nat}, f + m ≤ ns.length → ring ns f m = S ns (f + m) - S ns f
  | 0, _ => by simp [ring]
  | m + 1, h => by
    rw [ring_succ, ring_in (m := m) (by omega), show f + (m + 1) = f + m + 1 by omega, getD_S (by omega), Nat.mod_eq_of_lt (by omega)]
    omega
theorem ring_out {ns : List Int} {f : Nat} (hf : f < ns.length) : ∀ {m : Nat}, m ≤ ns.length → ns.length ≤ f + m → ring ns f m = S ns ns.length - S ns f + S ns (f + m - ns.length)
  | 0, _, h2 => by omega
  | m + 1, h1, h2 => by
    rw [ring_succ]
    by_cases h : ns.length ≤ f + m
    · rw [ring_out hf (m := m) (by omega) h, show f + (m + 1) - ns.length = f + m - ns.length + 1 by omega, getD_S (by omega)]
      have e : (f + m) % ns.length = f + m - ns.length := by
        rw [Nat.mod_eq_sub_mod h, Nat.mod_eq_of_lt (by omega)]
      rw [e]
      omega
    · have e : f + (m + 1) = ns.length := by omega
      rw [ring_in (m := m) (by omega), Nat.mod_eq_of_lt (by omega), e, Nat.sub_self, S_zero, show ns.length = f + m + 1 by omega]
      have := getD_S (ns := ns) (i := f + m) (by omega)
      omega
noncomputable def inner (ns : List Int) : List Int := ((ns.drop 1).take (ns.length - 2)).map fun x => -x
theorem inner_length (ns : List Int) : (inner ns).length = ns.length - 2 := by
  unfold inner
  rw [List.length_map, List.length_take, List.length_drop]
  omega
theorem sum_neg : ∀ xs : List Int, (xs.map fun x => -x).sum = -xs.sum
  | [] => rfl
  | x :: r => by
    rw [List.map_cons, List.sum_cons, List.sum_cons, sum_neg r]
    omega
theorem inner_S {ns : List Int} {i : Nat} (h : i + 2 ≤ ns.length) : S (inner ns) i = -(S ns (i + 1) - S ns 1) := by
  unfold inner
  have e : S (((ns.drop 1).take (ns.length - 2)).map fun x => -x) i = -(((ns.drop 1).take (ns.length - 2)).take i).sum := by
    unfold S
    rw [← List.map_take, sum_neg]
  rw [e, List.take_take, Nat.min_eq_left (by omega), cut_sum, Nat.add_comm 1 i]
end BS

set_option linter.all false
namespace BS
end BS

set_option linter.all false
namespace BS
noncomputable def low (ns : List Int) : Nat → Int
  | 0 => S ns 0
  | i + 1 => min (low ns i) (S ns (i + 1))
theorem low_le (ns : List Int) : ∀ i, low ns i ≤ S ns i
  | 0 => Int.le_refl _
  | i + 1 => by unfold low; omega
theorem low_fall (ns : List Int) (i : Nat) : low ns (i + 1) ≤ low ns i := by
  show min _ _ ≤ _
  omega
structure IsBest (ns : List Int) (least f m : Int) (lows : List Int) : Prop where
  f0 : 0 ≤ f
  lm : least ≤ m
  fm : f + m ≤ ns.length
  bd : bounds ns least lows (S ns (f + m).toNat - S ns f.toNat) = true
theorem bounds_mono {ns lows : List Int} {least a b : Int} (h : bounds ns least lows a = true) (hab : a ≤ b) : bounds ns least lows b = true := by
  obtain ⟨h0, hl, hp⟩ := bounds_parts h
  refine bounds_of h0 hl fun i hi => ?_
  obtain ⟨p1, p2, p3⟩ := hp i hi
  exact ⟨p1, by omega, p3⟩
structure BInv (ns : List Int) (least i l f m : Nat) : Prop where
  li : l ≤ i
  sl : S ns l = low ns (i - 1)
  lm : least ≤ m
  fm : f + m ≤ ns.length
  bd : ∀ j, j < i → S ns (j + least) - low ns j ≤ S ns (f + m) - S ns f
noncomputable def lowsZ (ns : List Int) (k : Nat) : List Int := (List.range k).map (low ns)
theorem lowsZ_succ (ns : List Int) (k : Nat) : lowsZ ns (k + 1) = lowsZ ns k ++ [low ns k] := by
  unfold lowsZ
  rw [List.range_succ, List.map_append]
  rfl
theorem lowsZ_len (ns : List Int) (k : Nat) : (lowsZ ns k).length = k := by simp [lowsZ]
theorem lowsZ_getD {ns : List Int} {k i : Nat} (h : i < k) : (lowsZ ns k).getD i 0 = low ns i := by
  rw [List.getD_eq_getElem?_getD]
  unfold lowsZ
  rw [List.getElem?_map, List.getElem?_range h]
  rfl
theorem BInv.start {ns : List Int} {least : Nat} (h : least ≤ ns.length) : BInv ns least 0 0 0 least := ⟨Nat.le_refl _, rfl, Nat.le_refl _, by omega, fun j hj => by omega⟩
theorem BInv.done {ns : List Int} {least l f m : Nat} (h : BInv ns least (ns.length + 1 - least) l f m) (hl : least ≤ ns.length) : IsBest ns least f m (lowsZ ns (ns.length + 1 - least)) := by
  obtain ⟨a1, a2, a3, a4, a5⟩ := h
  refine ⟨by omega, by omega, by omega, bounds_of (by omega) (by rw [lowsZ_len]; omega) fun i hi => ?_⟩
  rw [lowsZ_len] at hi
  rw [lowsZ_getD hi, show ((f : Int) + (m : Int)).toNat = f + m by omega, show (f : Int).toNat = f by omega, show (least : Int).toNat = least by omega]
  refine ⟨low_le ns i, a5 i hi, fun h0 => ?_⟩
  rw [lowsZ_getD (by omega)]
  obtain ⟨j, rfl⟩ : ∃ j, i = j + 1 := ⟨i - 1, by omega⟩
  exact low_fall ns j
theorem BInv.lowest {ns : List Int} {least i l f m : Nat} (h : BInv ns least i l f m) : (if S ns i < S ns l then S ns i else S ns l) = low ns i := by
  cases i with
  | zero =>
    have e : l = 0 := Nat.le_zero.mp h.li
    subst e
    show (if S ns 0 < S ns 0 then S ns 0 else S ns 0) = S ns 0
    split <;> rfl
  | succ i =>
    have := h.sl
    rw [Nat.add_sub_cancel] at this
    rw [this]
    show _ = min _ _
    split <;> omega
theorem BInv.turn {ns : List Int} {least i l l' f m f' m' : Nat} (h : BInv ns least i l f m) (hl' : l' ≤ i) (e : S ns l' = low ns i)
    (hc : (S ns (f + m) - S ns f < S ns (i + least) - S ns l' ∧ f' = l' ∧ m' = i + least - l') ∨ (S ns (i + least) - S ns l' ≤ S ns (f + m) - S ns f ∧ f' = f ∧ m' = m)) (hi : i + least ≤ ns.length) : BInv ns least (i + 1) l' f' m' := by
  obtain ⟨a1, a2, a3, a4, a5⟩ := h
  rcases hc with ⟨c, rfl, rfl⟩ | ⟨c, rfl, rfl⟩
  · refine ⟨by omega, by rw [Nat.add_sub_cancel]; exact e, by omega, by omega, fun j hj => ?_⟩
    rw [show f' + (i + least - f') = i + least by omega]
    by_cases z : j = i
    · subst z
      rw [e]
      omega
    · have := a5 j (by omega)
      omega
  · refine ⟨by omega, by rw [Nat.add_sub_cancel]; exact e, a3, a4, fun j hj => ?_⟩
    by_cases z : j = i
    · subst z
      rw [← e]
      exact c
    · exact a5 j (by omega)
structure IsAround (ns : List Int) (f m : Int) (lows tops : List Int) : Prop where
  f0 : 0 ≤ f
  fn : f < ns.length
  m1 : 1 ≤ m
  mn : m ≤ ns.length
  lo : bounds ns 1 lows (ring ns f.toNat m.toNat) = true
  hi : 3 ≤ ns.length → bounds (inner ns) 1 tops (ring ns f.toNat m.toNat - ns.sum) = true
  em : ns.length < 3 → tops = []
theorem around_small {ns : List Int} {f m : Int} {lows : List Int} (h : IsBest ns 1 f m lows) (hn : ns.length < 3) : IsAround ns f m lows [] := by
  obtain ⟨a, b, c, d⟩ := h
  refine ⟨a, by omega, b, by omega, ?_, fun z => by omega, fun _ => rfl⟩
  rw [ring_in (by omega), show f.toNat + m.toNat = (f + m).toNat by omega]
  exact d
theorem around_in {ns : List Int} {f m g k : Int} {lows tops : List Int} (h : IsBest ns 1 f m lows) (q : IsBest (inner ns) 1 g k tops)
    (hc : ns.sum + (S (inner ns) (g + k).toNat - S (inner ns) g.toNat) ≤ S ns (f + m).toNat - S ns f.toNat) (hn : 3 ≤ ns.length) : IsAround ns f m lows tops := by
  obtain ⟨a, b, c, d⟩ := h
  have e : ring ns f.toNat m.toNat = S ns (f + m).toNat - S ns f.toNat := by rw [ring_in (by omega), show f.toNat + m.toNat = (f + m).toNat by omega]
  refine ⟨a, by omega, b, by omega, by rw [e]; exact d, fun _ => ?_, fun z => by omega⟩
  rw [e]
  exact bounds_mono q.bd (by omega)
theorem around_out {ns : List Int} {f m g k : Int} {lows tops : List Int} (h : IsBest ns 1 f m lows) (q : IsBest (inner ns) 1 g k tops)
    (hc : S ns (f + m).toNat - S ns f.toNat < ns.sum + (S (inner ns) (g + k).toNat - S (inner ns) g.toNat)) (hn : 3 ≤ ns.length) : IsAround ns (1 + g + k) (ns.length - k) lows tops := by
  obtain ⟨a', b', c', d'⟩ := q
  rw [inner_length] at c'
  have e : ring ns (1 + g + k).toNat ((ns.length : Int) - k).toNat = ns.sum + (S (inner ns) (g + k).toNat - S (inner ns) g.toNat) := by
    rw [ring_out (by omega) (by omega) (by omega), inner_S (by omega), inner_S (by omega), S_all, show (g + k).toNat + 1 = (1 + g + k).toNat by omega, show (1 + g + k).toNat + ((ns.length : Int) - k).toNat - ns.length = g.toNat + 1 by omega]
    omega
  refine ⟨by omega, by omega, by omega, by omega, ?_, fun _ => ?_, fun z => by omega⟩
  · rw [e]
    exact bounds_mono h.bd (by omega)
  · rw [e]
    exact bounds_mono d' (by omega)
end BS

set_option linter.all false
namespace BS
end BS

set_option linter.all false
namespace BS
noncomputable def cnt (t : Int) : List Int → Nat
  | [] => 0
  | x :: r => r.countP (fun y => decide (y - x = t)) + cnt t r
theorem cnt_snoc (t y : Int) : ∀ L : List Int, cnt t (L ++ [y]) = cnt t L + L.countP (fun x => decide (y - x = t))
  | [] => rfl
  | x :: r => by
    have h1 : cnt t (x :: (r ++ [y])) = (r ++ [y]).countP (fun y => decide (y - x = t)) + cnt t (r ++ [y]) := rfl
    have h2 : cnt t (x :: r) = r.countP (fun y => decide (y - x = t)) + cnt t r := rfl
    rw [List.cons_append, h1, h2, cnt_snoc t y r, List.countP_append, List.countP_cons (a := x)]
    have : List.countP (fun y => decide (y - x = t)) [y] = if decide (y - x = t) = true then 1 else 0 := by
      rw [List.countP_cons]
      simp
    rw [this]
    omega
noncomputable def many (ns : List Int) (t : Int) : Nat := cnt t (sumsZ ns)
theorem cnt_take {L : List Int} {i : Nat} {y : Int} (h : L[i]? = some y) (t : Int) : cnt t (L.take (i + 1)) = cnt t (L.take i) + (L.take i).countP (fun x => decide (y - x = t)) := by
  rw [List.take_add_one, h]
  exact cnt_snoc t y _
theorem cnt_pos {t : Int} : ∀ {L : List Int}, 0 < cnt t L ↔ ∃ (i j : Nat) (x y : Int), i < j ∧ L[i]? = some x ∧ L[j]? = some y ∧ y - x = t
  | [] => by
    refine ⟨fun h => absurd h (by simp [cnt]), ?_⟩
    rintro ⟨i, j, x, y, _, h, _⟩
    simp at h
  | x :: r => by
    unfold cnt
    constructor
    · intro h
      by_cases c : 0 < r.countP (fun y => decide (y - x = t))
      · obtain ⟨y, hy, e⟩ := List.countP_pos_iff.mp c
        obtain ⟨j, hj⟩ := List.mem_iff_getElem?.mp hy
        exact ⟨0, j + 1, x, y, by omega, rfl, by simpa using hj, by simpa using e⟩
      · obtain ⟨i, j, a, b, hij, h1, h2, e⟩ := (cnt_pos (t := t) (L := r)).mp (by omega)
        exact ⟨i + 1, j + 1, a, b, by omega, by simpa using h1, by simpa using h2, e⟩
    · rintro ⟨i, j, a, b, hij, h1, h2, e⟩
      obtain ⟨j, rfl⟩ : ∃ k, j = k + 1 := ⟨j - 1, by omega⟩
      rw [List.getElem?_cons_succ] at h2
      cases i with
      | zero =>
        rw [List.getElem?_cons_zero] at h1
        cases h1
        have : 0 < r.countP (fun y => decide (y - x = t)) := List.countP_pos_iff.mpr ⟨b, List.mem_of_getElem? h2, by simpa using e⟩
        omega
      | succ i =>
        rw [List.getElem?_cons_succ] at h1
        have := (cnt_pos (t := t) (L := r)).mpr ⟨i, j, a, b, by omega, h1, h2, e⟩
        omega
end BS

set_option linter.all false
namespace BS
noncomputable abbrev Tri := Int × Int × Int
noncomputable def rising (ns : List Int) : Bool := (List.range (ns.length - 1)).all fun i => decide (ns.getD i 0 < ns.getD (i + 1) 0)
noncomputable def nums (ts : List Tri) : List Int := ts.map (·.1)
noncomputable def look (ts : List Tri) (z : Int) : Option (Int × Int) := (ts.find? fun p => decide (p.1 = z)).map (·.2)
noncomputable def spanOk (ts : List Tri) (z : Int) (i : Nat) : Bool := match look ts z with
  | none => false
  | some q => decide (q.1 ≤ (i : Int)) && decide ((i : Int) ≤ q.2)
noncomputable def hasSums (ts : List Tri) (ns : List Int) : Bool := (List.range (ns.length + 1)).all fun i => spanOk ts (S ns i) i
noncomputable def ruleOk (ts : List Tri) (t : Int) (p : Tri) : Bool := match look ts (p.1 + t) with
  | none => true
  | some q => !decide (p.2.1 < q.2)
noncomputable def rulesOut (ts : List Tri) (t : Int) : Bool := ts.all (ruleOk ts t)
noncomputable def never (ts : List Tri) (ns : List Int) (t : Int) : Bool := rising (nums ts) && (hasSums ts ns && rulesOut ts t)
theorem rising_step {ns : List Int} (h : rising ns = true) {i : Nat} (hi : i + 1 < ns.length) : ns.getD i 0 < ns.getD (i + 1) 0 := by
  have := List.all_eq_true.mp h i (List.mem_range.mpr (by omega))
  exact of_decide_eq_true this
theorem rising_lt {ns : List Int} (h : rising ns = true) : ∀ (d i : Nat), i + (d + 1) < ns.length → ns.getD i 0 < ns.getD (i + (d + 1)) 0
  | 0, i, hi => rising_step h hi
  | d + 1, i, hi => by
    have h1 := rising_lt h d i (by omega)
    have h2 := rising_step h (i := i + (d + 1)) (by omega)
    have e : i + (d + 1) + 1 = i + (d + 1 + 1) := by omega
    rw [e] at h2
    omega
theorem getD_at {ns : List Int} {i : Nat} (h : i < ns.length) : ns.getD i 0 = ns[i] := by
  rw [List.getD_eq_getElem?_getD, List.getElem?_eq_getElem h]
  rfl
theorem rising_iff {ns : List Int} : rising ns = true ↔ ns.Pairwise (· < ·) := by
  constructor
  · intro h
    rw [List.pairwise_iff_getElem]
    intro i j hi hj hij
    have := rising_lt h (j - i - 1) i (by omega)
    rw [show i + (j - i - 1 + 1) = j by omega, getD_at hi, getD_at hj] at this
    exact this
  · intro h
    rw [List.pairwise_iff_getElem] at h
    refine List.all_eq_true.mpr fun i hi => ?_
    have hi := List.mem_range.mp hi
    rw [getD_at (by omega), getD_at (by omega)]
    exact decide_eq_true (h i (i + 1) (by omega) (by omega) (by omega))
theorem look_some {ts : List Tri} {z : Int} {q : Int × Int} (h : look ts z = some q) : (z, q) ∈ ts := by
  unfold look at h
  obtain ⟨p, hp, e⟩ := Option.map_eq_some_iff.mp h
  have h1 := List.mem_of_find?_eq_some hp
  have h2 : p.1 = z := by have := List.find?_some hp; simpa using this
  subst h2 e
  exact h1
theorem lt_nodup {ns : List Int} (h : ns.Pairwise (· < ·)) : ns.Nodup := h.imp fun h => Int.ne_of_lt h
theorem look_at : ∀ {ts : List Tri} {p : Tri}, (nums ts).Nodup → p ∈ ts → look ts p.1 = some p.2
  | [], p, _, m => by simp at m
  | q :: r, p, h, m => by
    have h : (q.1 :: nums r).Nodup := h
    obtain ⟨h1, h2⟩ := List.nodup_cons.mp h
    rcases List.mem_cons.mp m with rfl | m
    · simp [look, List.find?_cons]
    · have hne : q.1 ≠ p.1 := fun e => h1 (e ▸ List.mem_map.mpr ⟨p, m, rfl⟩)
      have ih := look_at h2 m
      unfold look at ih ⊢
      rw [List.find?_cons, decide_eq_false hne]
      exact ih
theorem many_pos {ns : List Int} {t : Int} : 0 < many ns t ↔ ∃ i j : Nat, i < j ∧ j ≤ ns.length ∧ S ns j - S ns i = t := by
  unfold many
  rw [cnt_pos]
  constructor
  · rintro ⟨i, j, x, y, hij, h1, h2, e⟩
    have hj : j < (sumsZ ns).length := (List.getElem?_eq_some_iff.mp h2).1
    rw [sumsZ_length] at hj
    rw [sumsZ_get (by omega)] at h1 h2
    cases h1
    cases h2
    exact ⟨i, j, hij, by omega, e⟩
  · rintro ⟨i, j, hij, hj, e⟩
    exact ⟨i, j, _, _, hij, sumsZ_get (by omega), sumsZ_get (by omega), e⟩
theorem never_of {ns : List Int} {t : Int} {zs : List Int} {F L : Int → Int} (hz : zs.Pairwise (· < ·)) (al : ∀ i, i ≤ ns.length → S ns i ∈ zs) (hF : ∀ i : Nat, i ≤ ns.length → F (S ns i) ≤ i) (hL : ∀ i : Nat, i ≤ ns.length → i ≤ L (S ns i))
    (aF : ∀ z ∈ zs, ∃ i : Nat, i ≤ ns.length ∧ F z = i ∧ S ns i = z) (aL : ∀ z ∈ zs, ∃ i : Nat, i ≤ ns.length ∧ L z = i ∧ S ns i = z) (no : ∀ i j : Nat, i < j → j ≤ ns.length → S ns j - S ns i ≠ t) :
    never (zs.map fun z => (z, F z, L z)) ns t = true := by
  have hn : nums (zs.map fun z => (z, F z, L z)) = zs := by
    unfold nums
    rw [List.map_map]
    exact List.map_id'' (fun _ => rfl) zs
  have hl : ∀ z, z ∈ zs → look (zs.map fun z => (z, F z, L z)) z = some (F z, L z) := fun z hz' =>
    look_at (p := (z, F z, L z)) (by rw [hn]; exact lt_nodup hz) (List.mem_map.mpr ⟨z, hz', rfl⟩)
  unfold never
  simp only [Bool.and_eq_true]
  refine ⟨by rw [hn]; exact rising_iff.mpr hz, List.all_eq_true.mpr fun i hi => ?_, List.all_eq_true.mpr fun p hp => ?_⟩
  · have hi : i ≤ ns.length := by have := List.mem_range.mp hi; omega
    unfold spanOk
    rw [hl _ (al i hi)]
    show (decide (F (S ns i) ≤ (i : Int)) && decide ((i : Int) ≤ L (S ns i))) = true
    rw [decide_eq_true (hF i hi), decide_eq_true (hL i hi)]
    rfl
  · obtain ⟨z, hz', rfl⟩ := List.mem_map.mp hp
    unfold ruleOk
    show (match look (zs.map fun z => (z, F z, L z)) (z + t) with
      | none => true
      | some q => !decide (F z < q.2)) = true
    cases e : look (zs.map fun z => (z, F z, L z)) (z + t) with
    | none => rfl
    | some q =>
      have m := look_some e
      obtain ⟨y, hy, ey⟩ := List.mem_map.mp m
      cases ey
      obtain ⟨i, hi, e1, e2⟩ := aF z hz'
      obtain ⟨j, hj, e3, e4⟩ := aL _ hy
      show (!decide (F z < L (z + t))) = true
      rw [decide_eq_false]
      · rfl
      · intro c
        exact no i j (by omega) hj (by omega)
end BS

set_option Elab.async false
set_option linter.all false
set_option maxRecDepth 100000
set_option maxHeartbeats 4000000
namespace So
open PySem PyProof.Rows
structure SB (a₀ : Array Keyed) (pd : Array (Nat × Nat × Nat)) (st : SortSt) : Prop where
  perm : (arrOf st).Perm a₀
  kind : kindOf st = oneType'
  ok : failedOf st = none
  wait : pendingOf st = pd
section
variable {prog : Program} {w : World} {A : Around} {E : Value → Shared → Prop} {s : Shared} {a₀ : Array Keyed} {pd : Array (Nat × Nat × Nat)}
theorem SB.size {st : SortSt} (h : SB a₀ pd st) : (arrOf st).size = a₀.size := h.perm.size_eq
theorem SB.arr {st : SortSt} (h : SB a₀ pd st) {xs : Array Keyed} (hp : xs.Perm (arrOf st)) : SB a₀ pd (setArr st xs) := ⟨hp.trans h.perm, h.kind, h.ok, h.wait⟩
noncomputable def IntAt (xs : Array Keyed) (i : Nat) : Prop := ∃ t q, xs[i]? = some (.int (K xs i) t, q)
theorem intAt_of {xs : Array Keyed} (hk : IntKeys xs) {i : Nat} (hi : i < xs.size) : IntAt xs i := by
  have e : xs[i]? = some xs[i] := Array.getElem?_eq_getElem hi
  obtain ⟨n, t, hn⟩ := hk xs[i] (by simp)
  have e2 : xs[i] = (Value.int n t, xs[i].2) := Prod.ext hn rfl
  refine ⟨t, xs[i].2, ?_⟩
  have ek : K xs i = n := by rw [K_eq hi, hn]; rfl
  rw [ek, e]
  exact congrArg some e2
theorem keys_perm {xs ys : Array Keyed} (h : xs.Perm ys) (hk : IntKeys ys) : IntKeys xs := fun p hp => hk p ((Array.perm_iff_toList_perm.mp h).mem_iff.mp hp)
theorem SB.int {st : SortSt} (h : SB a₀ pd st) (h0 : IntKeys a₀) {i : Nat} (hi : i < a₀.size) : IntAt (arrOf st) i := intAt_of (keys_perm h.perm h0) (by rw [h.size]; exact hi)
theorem wp_at {st : SortSt} {i j : Nat} {Q : Option Bool → SortSt → Prop} (hB : SB a₀ pd st) (h0 : IntKeys a₀) (hi : i < a₀.size) (hj : j < a₀.size)
    (h : Q (some (decide (K (arrOf st) i < K (arrOf st) j))) st) : wpS (model prog w) A E s (ltAt' i j) Q st := by
  obtain ⟨_, _, x⟩ := hB.int h0 hi
  obtain ⟨_, _, y⟩ := hB.int h0 hj
  exact wpS_ltAt hB.kind x y h
noncomputable def Sec (xs : Array Keyed) (lo k : Nat) : Prop := ∀ i j, i ≤ j → j < k → K xs (lo + i) ≤ K xs (lo + j)
noncomputable def Dec (xs : Array Keyed) (lo k : Nat) : Prop := ∀ i j, i ≤ j → j < k → K xs (lo + j) ≤ K xs (lo + i)
noncomputable def Ahead (lo : Nat) (xs ys : Array Keyed) : Prop := ∀ i, i < lo → ys[i]? = xs[i]?
theorem Ahead.refl (lo : Nat) (xs : Array Keyed) : Ahead lo xs xs := fun _ _ => rfl
theorem Ahead.trans {lo : Nat} {xs ys zs : Array Keyed} (h : Ahead lo xs ys) (g : Ahead lo ys zs) : Ahead lo xs zs := fun i hi => (g i hi).trans (h i hi)
theorem Sec.one (xs : Array Keyed) (lo : Nat) : Sec xs lo 1 := fun i j hij hj => by
  obtain rfl : i = j := by omega
  exact Int.le_refl _
theorem ahead_bubble {xs : Array Keyed} {lo src d : Nat} (hs : src < xs.size) (h : lo + d ≤ src) : Ahead lo xs (bubble xs src d) := fun i hi => by
  rw [getElem?_bubble hs d (by omega), if_neg (by omega), if_neg (by omega)]
theorem ahead_mirror {xs : Array Keyed} {lo i j : Nat} (hj : j ≤ xs.size) (h : lo ≤ i) : Ahead lo xs (mirror xs i j ((j - i) / 2)) := fun k hk => by
  rw [getElem?_mirror_all hj, if_neg (by omega)]
theorem bin_at {st : SortSt} {lo n ok : Nat} {Q : Bool → SortSt → Prop} (h0 : IntKeys a₀) (hn : lo + n ≤ a₀.size) (hok : ok ≤ n) (hB : SB a₀ pd st) (hs : Sec (arrOf st) lo ok)
    (h : ∀ st', SB a₀ pd st' → Ahead lo (arrOf st) (arrOf st') → Sec (arrOf st') lo n → Q true st') : wpS (model prog w) A E s (binarySort' lo n ok) Q st := by
  rw [binarySort'_eq]
  refine wpS_bind (wpS_mono (wpS_forRange (I := fun k c st' => c = (none, ()) ∧ SB a₀ pd st' ∧ Ahead lo (arrOf st) (arrOf st') ∧ Sec (arrOf st') lo (min k n))
    (Q := fun c st' => c = (none, ()) ∧ SB a₀ pd st' ∧ Ahead lo (arrOf st) (arrOf st') ∧ Sec (arrOf st') lo n) ?turn ?over ?start) ?aft)
  case aft =>
    rintro _ st' ⟨rfl, b, ah, sc⟩
    exact wpS_pure (h st' b ah sc)
  case start =>
    refine ⟨rfl, hB, Ahead.refl _ _, ?_⟩
    by_cases z : ok = 0
    · intro i j hij hj
      obtain rfl : i = j := by omega
      exact Int.le_refl _
    · intro i j hij hj
      exact hs i j hij (by omega)
  case over =>
    rintro c st' ⟨hc, b, ah, sc⟩
    rw [show min (max (max ok 1) n) n = n by omega] at sc
    exact ⟨hc, b, ah, sc⟩
  case turn =>
    rintro k _ st' hk1 hkn ⟨rfl, b, ah, sc⟩
    rw [show min k n = k by omega] at sc
    refine wpS_bind (wpS_mono (wpS_forRange (I := fun x c st2 => st2 = st' ∧ ∃ l r, c = (none, l, r) ∧ l ≤ r ∧ r ≤ k ∧ r - l ≤ k - x ∧
        (∀ i, i < l → K (arrOf st') (lo + i) ≤ K (arrOf st') (lo + k)) ∧ (∀ i, r ≤ i → i < k → K (arrOf st') (lo + k) < K (arrOf st') (lo + i)))
      (Q := fun c st2 => st2 = st' ∧ ∃ l r, c = (none, l, r) ∧ l ≤ k ∧
        (∀ i, i < l → K (arrOf st') (lo + i) ≤ K (arrOf st') (lo + k)) ∧ (∀ i, l ≤ i → i < k → K (arrOf st') (lo + k) < K (arrOf st') (lo + i))) ?iturn ?iover ?istart) ?ithen)
    case istart => exact ⟨rfl, 0, k, rfl, by omega, by omega, by omega, fun i hi => by omega, fun i p q => by omega⟩
    case iover =>
      rintro _ _ ⟨rfl, l, r, rfl, p1, p2, p3, p4, p5⟩
      obtain rfl : l = r := by omega
      exact ⟨rfl, l, l, rfl, p2, p4, p5⟩
    case iturn =>
      rintro x _ st' _ hx ⟨rfl, l, r, rfl, p1, p2, p3, p4, p5⟩
      dsimp only
      by_cases hge : l ≥ r
      · rw [if_pos hge]
        obtain rfl : l = r := by omega
        exact wpS_pure ⟨rfl, l, l, rfl, p2, p4, p5⟩
      · rw [if_neg hge]
        refine wpS_bind (wp_at b h0 (by omega) (by omega) ?_)
        by_cases q : K (arrOf st') (lo + k) < K (arrOf st') (lo + (l + r) / 2)
        · simp only [q, decide_true, if_true]
          exact wpS_pure ⟨rfl, l, (l + r) / 2, rfl, by omega, by omega, by omega, p4, fun i a1 a2 => Int.lt_of_lt_of_le q (sc _ _ a1 a2)⟩
        · simp only [q, decide_false, Bool.false_eq_true, if_false]
          exact wpS_pure ⟨rfl, (l + r) / 2 + 1, r, rfl, by omega, by omega, by omega, fun i a1 => Int.le_trans (sc i ((l + r) / 2) (by omega) (by omega)) (Int.not_lt.mp q), p5⟩
    case ithen =>
      rintro _ st' ⟨rfl, l, r, rfl, p1, p4, p5⟩
      dsimp only
      rw [moveDown'_eq]
      have hks : lo + k < (arrOf st').size := by rw [b.size]; omega
      refine wpS_bind (wpS_modify (wpS_pure ⟨rfl, b.arr (bubble_perm _ _ _), ah.trans (ahead_bubble hks (by omega)), ?_⟩))
      rw [show min (k + 1) n = k + 1 by omega]
      intro i j hij hj
      show K (bubble (arrOf st') (lo + k) (lo + k - (lo + l))) (lo + i) ≤ K (bubble (arrOf st') (lo + k) (lo + k - (lo + l))) (lo + j)
      rw [K_bubble hks (by omega), K_bubble hks (by omega)]
      by_cases i1 : i = l
      · rw [if_pos (by omega)]
        by_cases j1 : j = l
        · rw [if_pos (by omega)]
          exact Int.le_refl _
        · rw [if_neg (by omega), if_pos (by omega)]
          have := p5 (j - 1) (by omega) (by omega)
          rw [show lo + j - 1 = lo + (j - 1) by omega]
          exact Int.le_of_lt this
      · rw [if_neg (by omega)]
        by_cases i2 : l < i
        · rw [if_pos (by omega), if_neg (by omega), if_pos (by omega), show lo + i - 1 = lo + (i - 1) by omega, show lo + j - 1 = lo + (j - 1) by omega]
          exact sc _ _ (by omega) (by omega)
        · rw [if_neg (by omega)]
          by_cases j1 : j = l
          · rw [if_pos (by omega)]
            exact p4 i (by omega)
          · rw [if_neg (by omega)]
            by_cases j2 : l < j
            · rw [if_pos (by omega), show lo + j - 1 = lo + (j - 1) by omega]
              exact sc _ _ (by omega) (by omega)
            · rw [if_neg (by omega)]
              exact sc _ _ hij (by omega)
end
end So

set_option Elab.async false
set_option linter.all false
set_option maxRecDepth 100000
set_option maxHeartbeats 4000000
namespace So
open PySem PyProof.Rows
noncomputable abbrev S1 := Option (Option Nat) × Nat
noncomputable abbrev S2 := Option (Option Nat) × Nat × Nat
noncomputable def up (lo a nrem : Nat) : StateT SortSt Sem S1 := forIn [a:nrem] ((none, a) : S1) fun _ c => ltAt' (lo + c.2) (lo + c.2 - 1) >>= fun x => match x with
  | some b => if b = true then pure (.done (none, c.2)) else pure (.yield (none, c.2 + 1))
  | _ => pure (.done (some none, c.2))
noncomputable def fin (lo n nrem : Nat) : StateT SortSt Sem (Option Nat) := reverseSlice' lo (lo + n) >>= fun _ => up lo n nrem >>= fun c => match c.1 with
  | some r => pure r
  | none => pure (some c.2)
noncomputable def down (lo n nrem : Nat) : StateT SortSt Sem S2 := forIn [n:nrem] ((none, n, 0) : S2) fun _ c => ltAt' (lo + c.2.1) (lo + c.2.1 - 1) >>= fun x => match x with
  | some b => if b = true then (if c.2.2 > 0 then reverseSlice' (lo + c.2.1 - (c.2.2 + 1)) (lo + c.2.1) >>= fun _ => pure (.yield (none, c.2.1 + 1, 0)) else pure (.yield (none, c.2.1 + 1, 0)))
    else ltAt' (lo + c.2.1 - 1) (lo + c.2.1) >>= fun y => match y with
      | some g => if g = true then pure (.done (none, c.2.1, c.2.2)) else pure (.yield (none, c.2.1 + 1, c.2.2 + 1))
      | _ => pure (.done (some none, c.2.1, c.2.2))
  | _ => pure (.done (some none, c.2.1, c.2.2))
noncomputable def part (lo n nrem : Nat) : StateT SortSt Sem (Option Nat) := liftM (rule "list.sort.descending-run") >>= fun _ => down lo (n + 1) nrem >>= fun c => match c.1 with
  | some r => pure r
  | none => if c.2.2 > 0 then reverseSlice' (lo + c.2.1 - (c.2.2 + 1)) (lo + c.2.1) >>= fun _ => fin lo c.2.1 nrem else fin lo c.2.1 nrem
noncomputable def run (lo nrem : Nat) : StateT SortSt Sem (Option Nat) := up lo 1 nrem >>= fun c => match c.1 with
  | some r => pure r
  | none => if (c.2 == nrem) = true then pure (some c.2) else if c.2 > 1 then ltAt' lo (lo + c.2 - 1) >>= fun x => match x with
      | some rose => if rose = true then pure (some c.2) else reverseSlice' lo (lo + c.2) >>= fun _ => part lo c.2 nrem
      | _ => pure none
    else part lo c.2 nrem
theorem bx {α β : Type} {m m' : StateT SortSt Sem α} {f f' : α → StateT SortSt Sem β} (h : m = m') (g : ∀ a, f a = f' a) : (m >>= f) = (m' >>= f') := by rw [h, show f = f' from funext g]
theorem run_is (lo nrem : Nat) : countRun' lo nrem = run lo nrem := by
  rw [countRun'_eq]
  unfold run
  dsimp only
  refine bx rfl fun c => ?_
  obtain ⟨r, n⟩ := c
  cases r with
  | some r => rfl
  | none =>
    dsimp only
    split
    · rfl
    · split
      · refine bx rfl fun x => ?_
        cases x with
        | none => rfl
        | some rose =>
          dsimp only
          split
          · rfl
          · refine bx rfl fun _ => ?_
            unfold part
            refine bx rfl fun _ => bx rfl fun d => ?_
            obtain ⟨r, m, q⟩ := d
            cases r with
            | some r => rfl
            | none =>
              dsimp only
              unfold fin
              split
              · refine bx rfl fun _ => bx rfl fun _ => bx rfl fun c => ?_
                obtain ⟨r, z⟩ := c
                cases r <;> rfl
              · refine bx rfl fun _ => bx rfl fun c => ?_
                obtain ⟨r, z⟩ := c
                cases r <;> rfl
      · unfold part
        refine bx rfl fun _ => bx rfl fun d => ?_
        obtain ⟨r, m, q⟩ := d
        cases r with
        | some r => rfl
        | none =>
          dsimp only
          unfold fin
          split
          · refine bx rfl fun _ => bx rfl fun _ => bx rfl fun c => ?_
            obtain ⟨r, z⟩ := c
            cases r <;> rfl
          · refine bx rfl fun _ => bx rfl fun c => ?_
            obtain ⟨r, z⟩ := c
            cases r <;> rfl
section
variable {prog : Program} {w : World} {A : Around} {E : Value → Shared → Prop} {s : Shared} {a₀ : Array Keyed} {pd : Array (Nat × Nat × Nat)}
theorem wp_rev {st : SortSt} {i j : Nat} {Q : Unit → SortSt → Prop} (h : Q () (setArr st (mirror (arrOf st) i j ((j - i) / 2)))) : wpS (model prog w) A E s (reverseSlice' i j) Q st := wpS_modify h
theorem wp_up {st : SortSt} {lo a nrem : Nat} {Q : S1 → SortSt → Prop} (h0 : IntKeys a₀) (hn : lo + nrem ≤ a₀.size) (ha : 1 ≤ a) (han : a ≤ nrem) (hB : SB a₀ pd st) (hs : Sec (arrOf st) lo a)
    (h : ∀ n, a ≤ n → n ≤ nrem → Sec (arrOf st) lo n → (n = nrem ∨ K (arrOf st) (lo + n) < K (arrOf st) (lo + n - 1)) → Q (none, n) st) : wpS (model prog w) A E s (up lo a nrem) Q st := by
  refine wpS_forRange (I := fun x c st' => st' = st ∧ c = (none, x) ∧ Sec (arrOf st) lo x) ?turn ?over ⟨rfl, rfl, hs⟩
  case over =>
    rintro _ st ⟨rfl, rfl, q⟩
    have e : max a nrem = nrem := by omega
    rw [e] at q ⊢
    exact h nrem han (Nat.le_refl _) q (.inl rfl)
  case turn =>
    rintro x _ st hx hxn ⟨rfl, rfl, q⟩
    dsimp only
    refine wpS_bind (wp_at hB h0 (by omega) (by omega) ?_)
    by_cases c : K (arrOf st) (lo + x) < K (arrOf st) (lo + x - 1)
    · simp only [c, decide_true, if_true]
      exact wpS_pure (h x hx (by omega) q (.inr c))
    · simp only [c, decide_false, Bool.false_eq_true, if_false]
      refine wpS_pure ⟨rfl, rfl, fun i j hij hj => ?_⟩
      by_cases jx : j < x
      · exact q i j hij jx
      · obtain rfl : j = x := by omega
        by_cases ij : i = j
        · rw [ij]
          exact Int.le_refl _
        · have := q i (j - 1) (by omega) (by omega)
          rw [show lo + (j - 1) = lo + j - 1 by omega] at this
          omega
theorem wp_fin {st : SortSt} {lo n nrem : Nat} {Q : Option Nat → SortSt → Prop} (h0 : IntKeys a₀) (hn : lo + nrem ≤ a₀.size) (h1 : 1 ≤ n) (hnn : n ≤ nrem) (hB : SB a₀ pd st) (hs : Dec (arrOf st) lo n)
    (h : ∀ m st', SB a₀ pd st' → Ahead lo (arrOf st) (arrOf st') → 1 ≤ m → m ≤ nrem → Sec (arrOf st') lo m → Q (some m) st') : wpS (model prog w) A E s (fin lo n nrem) Q st := by
  have hz : lo + n ≤ (arrOf st).size := by rw [hB.size]; omega
  have b := hB.arr (mirror_perm (arrOf st) lo (lo + n) ((lo + n - lo) / 2))
  refine wpS_bind (wp_rev (wpS_bind (wp_up h0 hn h1 hnn b ?_ fun m m1 m2 sm _ => wpS_pure (h m _ b (ahead_mirror hz (Nat.le_refl _)) (by omega) m2 sm))))
  intro i j hij hj
  show K (mirror (arrOf st) lo (lo + n) ((lo + n - lo) / 2)) (lo + i) ≤ K (mirror (arrOf st) lo (lo + n) ((lo + n - lo) / 2)) (lo + j)
  rw [K_mirror hz, K_mirror hz, if_pos (by omega), if_pos (by omega), show lo + (lo + n) - 1 - (lo + i) = lo + (n - 1 - i) by omega, show lo + (lo + n) - 1 - (lo + j) = lo + (n - 1 - j) by omega]
  exact hs _ _ (by omega) (by omega)
theorem wp_down {st : SortSt} {lo n nrem : Nat} {Q : S2 → SortSt → Prop} (h0 : IntKeys a₀) (hn : lo + nrem ≤ a₀.size) (h1 : 1 ≤ n) (hnn : n ≤ nrem) (hB : SB a₀ pd st) (hs : Dec (arrOf st) lo n)
    (h : ∀ m q st', SB a₀ pd st' → Ahead lo (arrOf st) (arrOf st') → n ≤ m → m ≤ nrem → Dec (arrOf st') lo m → q + 1 ≤ m → (∀ i, lo + m - (q + 1) ≤ i → i < lo + m → K (arrOf st') i = K (arrOf st') (lo + m - 1)) → Q (none, m, q) st') :
    wpS (model prog w) A E s (down lo n nrem) Q st := by
  refine wpS_forRange (I := fun x c st' => ∃ q, c = (none, x, q) ∧ SB a₀ pd st' ∧ Ahead lo (arrOf st) (arrOf st') ∧ Dec (arrOf st') lo x ∧ q + 1 ≤ x ∧ ∀ i, lo + x - (q + 1) ≤ i → i < lo + x → K (arrOf st') i = K (arrOf st') (lo + x - 1)) ?turn ?over
    ⟨0, rfl, hB, Ahead.refl _ _, hs, by omega, fun i a1 a2 => by rw [show i = lo + n - 1 by omega]⟩
  case over =>
    rintro _ st' ⟨q, rfl, b, ah, d, q1, eq⟩
    have e : max n nrem = nrem := by omega
    rw [e] at d q1 eq ⊢
    exact h nrem q st' b ah hnn (Nat.le_refl _) d q1 eq
  case turn =>
    rintro x _ st' hx hxn ⟨q, rfl, b, ah, d, q1, eq⟩
    dsimp only
    have hz : lo + x ≤ (arrOf st').size := by rw [b.size]; omega
    refine wpS_bind (wp_at b h0 (by omega) (by omega) ?_)
    have more : ∀ xs : Array Keyed, (∀ k, K xs k = K (arrOf st') k) → K (arrOf st') (lo + x) ≤ K (arrOf st') (lo + x - 1) → Dec xs lo (x + 1) := by
      intro xs same le i j hij hj
      rw [same, same]
      by_cases jx : j < x
      · exact d i j hij jx
      · obtain rfl : j = x := by omega
        by_cases ij : i = j
        · rw [ij]
          exact Int.le_refl _
        · have := d i (j - 1) (by omega) (by omega)
          rw [show lo + (j - 1) = lo + j - 1 by omega] at this
          omega
    by_cases c : K (arrOf st') (lo + x) < K (arrOf st') (lo + x - 1)
    · simp only [c, decide_true, if_true]
      by_cases qp : q > 0
      · rw [if_pos qp]
        refine wpS_bind (wp_rev (wpS_pure ⟨0, rfl, b.arr (mirror_perm _ _ _ _), ah.trans (ahead_mirror hz (by omega)), more _ (K_mirror_equal hz eq) (Int.le_of_lt c), by omega, fun i a1 a2 => by rw [show i = lo + (x + 1) - 1 by omega]⟩))
      · rw [if_neg qp]
        exact wpS_pure ⟨0, rfl, b, ah, more _ (fun _ => rfl) (Int.le_of_lt c), by omega, fun i a1 a2 => by rw [show i = lo + (x + 1) - 1 by omega]⟩
    · simp only [c, decide_false, Bool.false_eq_true, if_false]
      refine wpS_bind (wp_at b h0 (by omega) (by omega) ?_)
      by_cases g : K (arrOf st') (lo + x - 1) < K (arrOf st') (lo + x)
      · simp only [g, decide_true, if_true]
        exact wpS_pure (h x q st' b ah hx (by omega) d q1 eq)
      · simp only [g, decide_false, Bool.false_eq_true, if_false]
        refine wpS_pure ⟨q + 1, rfl, b, ah, more _ (fun _ => rfl) (Int.not_lt.mp g), by omega, fun i a1 a2 => ?_⟩
        rw [show lo + (x + 1) - 1 = lo + x by omega]
        by_cases ix : i = lo + x
        · rw [ix]
        · rw [eq i (by omega) (by omega)]
          omega
theorem wp_part {st : SortSt} {lo n nrem : Nat} {Q : Option Nat → SortSt → Prop} (h0 : IntKeys a₀) (hn : lo + nrem ≤ a₀.size) (hnn : n + 1 ≤ nrem) (hB : SB a₀ pd st) (hs : Dec (arrOf st) lo (n + 1))
    (h : ∀ m st', SB a₀ pd st' → Ahead lo (arrOf st) (arrOf st') → 1 ≤ m → m ≤ nrem → Sec (arrOf st') lo m → Q (some m) st') : wpS (model prog w) A E s (part lo n nrem) Q st := by
  refine wpS_bind (wpS_lift (wpAny_rule ⟨rfl, ?_⟩))
  refine wpS_bind (wp_down h0 hn (by omega) hnn hB hs fun m q st' b ah m1 m2 d q1 eq => ?_)
  dsimp only
  have hz : lo + m ≤ (arrOf st').size := by rw [b.size]; omega
  by_cases qp : q > 0
  · rw [if_pos qp]
    refine wpS_bind (wp_rev (wp_fin h0 hn (by omega) m2 (b.arr (mirror_perm _ _ _ _)) ?_ fun m' st2 b2 ah2 => h m' st2 b2 ((ah.trans (ahead_mirror hz (by omega))).trans ah2)))
    intro i j hij hj
    show K (mirror (arrOf st') _ _ _) _ ≤ K (mirror (arrOf st') _ _ _) _
    rw [K_mirror_equal hz eq, K_mirror_equal hz eq]
    exact d i j hij hj
  · rw [if_neg qp]
    exact wp_fin h0 hn (by omega) m2 b d fun m' st2 b2 ah2 => h m' st2 b2 (ah.trans ah2)
theorem run_at {st : SortSt} {lo nrem : Nat} {Q : Option Nat → SortSt → Prop} (h0 : IntKeys a₀) (hn : lo + nrem ≤ a₀.size) (h1 : 1 ≤ nrem) (hB : SB a₀ pd st)
    (h : ∀ m st', SB a₀ pd st' → Ahead lo (arrOf st) (arrOf st') → 1 ≤ m → m ≤ nrem → Sec (arrOf st') lo m → Q (some m) st') : wpS (model prog w) A E s (countRun' lo nrem) Q st := by
  rw [run_is]
  refine wpS_bind (wp_up h0 hn (Nat.le_refl 1) h1 hB (Sec.one _ _) fun n n1 n2 sn or => ?_)
  dsimp only
  by_cases e : n = nrem
  · rw [if_pos (by simpa using e)]
    exact wpS_pure (h n st hB (Ahead.refl _ _) n1 n2 sn)
  · rw [if_neg (by simpa using e)]
    have lt := or.resolve_left e
    by_cases g : n > 1
    · rw [if_pos g]
      refine wpS_bind (wp_at hB h0 (by omega) (by omega) ?_)
      by_cases r : K (arrOf st) lo < K (arrOf st) (lo + n - 1)
      · simp only [r, decide_true, if_true]
        exact wpS_pure (h n st hB (Ahead.refl _ _) n1 n2 sn)
      · simp only [r, decide_false, Bool.false_eq_true, if_false]
        have hz : lo + n ≤ (arrOf st).size := by rw [hB.size]; omega
        have all : ∀ k, lo ≤ k → k < lo + n → K (arrOf st) k = K (arrOf st) (lo + n - 1) := by
          intro k k1 k2
          have a1 := sn 0 (k - lo) (by omega) (by omega)
          have a2 := sn (k - lo) (n - 1) (by omega) (by omega)
          rw [show lo + (k - lo) = k by omega] at a1 a2
          rw [show lo + (n - 1) = lo + n - 1 by omega] at a2
          rw [show lo + 0 = lo by omega] at a1
          omega
        refine wpS_bind (wp_rev (wp_part h0 hn (by omega) (hB.arr (mirror_perm _ _ _ _)) ?_ fun m st' b ah => h m st' b ((ahead_mirror hz (Nat.le_refl _)).trans ah)))
        intro i j hij hj
        show K (mirror (arrOf st) _ _ _) _ ≤ K (mirror (arrOf st) _ _ _) _
        rw [K_mirror_equal hz all, K_mirror_equal hz all]
        by_cases jn : j < n
        · rw [all (lo + i) (by omega) (by omega), all (lo + j) (by omega) (by omega)]
          exact Int.le_refl _
        · obtain rfl : j = n := by omega
          by_cases ij : i = j
          · rw [ij]
            exact Int.le_refl _
          · rw [all (lo + i) (by omega) (by omega)]
            exact Int.le_of_lt lt
    · rw [if_neg g]
      obtain rfl : n = 1 := by omega
      refine wp_part h0 hn (by omega) hB ?_ h
      intro i j hij hj
      by_cases ij : i = j
      · rw [ij]
        exact Int.le_refl _
      · rw [show i = 0 by omega, show j = 1 by omega]
        exact Int.le_of_lt lt
end
end So

set_option Elab.async false
set_option linter.all false
set_option maxRecDepth 100000
set_option maxHeartbeats 4000000
namespace So
open PySem PyProof.Rows
noncomputable def gallopP : Bool → Keyed → Array Keyed → Nat → Nat → Nat → StateT SortSt Sem (Option Nat) := sortPriv% PySem.Builtin.gallop
noncomputable def bey (left : Bool) (key : Keyed) (arr : Array Keyed) (base i : Nat) : StateT SortSt Sem (Option Bool) :=
  elem' arr (base + i) >>= fun x => if left = true then lt' x key else lt' key x >>= fun o => pure (o.map fun b => !b)
noncomputable def hunt (left : Bool) (key : Keyed) (arr : Array Keyed) (base n lo hi : Nat) : StateT SortSt Sem (Option Nat) :=
  (forIn [0:n] ((none, lo, hi) : S2) fun _ c => if c.2.1 ≥ c.2.2 then pure (.done (none, c.2.1, c.2.2)) else bey left key arr base (c.2.1 + (c.2.2 - c.2.1) / 2) >>= fun m => match m with
    | some more => if more = true then pure (.yield (none, c.2.1 + (c.2.2 - c.2.1) / 2 + 1, c.2.2)) else pure (.yield (none, c.2.1, c.2.1 + (c.2.2 - c.2.1) / 2))
    | _ => pure (.done (some none, c.2.1, c.2.2))) >>= fun c => match c.1 with
  | some r => pure r
  | none => pure (some c.2.2)
noncomputable def seek (left : Bool) (key : Keyed) (arr : Array Keyed) (base n far : Nat) (look : Nat → Nat) (stop : Bool → Bool) : StateT SortSt Sem S2 :=
  forIn [0:n] ((none, 0, 1) : S2) fun _ c => if c.2.2 ≥ far then pure (.done (none, c.2.1, c.2.2)) else bey left key arr base (look c.2.2) >>= fun m => match m with
    | some b => if stop b = true then pure (.done (none, c.2.1, c.2.2)) else pure (.yield (none, c.2.2, 2 * c.2.2 + 1))
    | _ => pure (.done (some none, c.2.1, c.2.2))
noncomputable def gal (left : Bool) (key : Keyed) (arr : Array Keyed) (base n hint : Nat) : StateT SortSt Sem (Option Nat) := bey left key arr base hint >>= fun r => match r with
  | some right => if right = true then seek left key arr base n (n - hint) (fun o => hint + o) (fun b => !b) >>= fun c => match c.1 with
      | some r => pure r
      | none => hunt left key arr base n (hint + c.2.1 + 1) (hint + min c.2.2 (n - hint))
    else seek left key arr base n (hint + 1) (fun o => hint - o) (fun b => b) >>= fun c => match c.1 with
      | some r => pure r
      | none => hunt left key arr base n (hint + 1 - min c.2.2 (hint + 1)) (hint - c.2.1)
  | _ => pure none
theorem gal_is (left : Bool) (key : Keyed) (arr : Array Keyed) (base n hint : Nat) : gallopP left key arr base n hint = gal left key arr base n hint := by kernel_rfl
noncomputable def beyB (left : Bool) (kv kx : Int) : Bool := if left = true then decide (kx < kv) else !decide (kv < kx)
section
variable {prog : Program} {w : World} {A : Around} {E : Value → Shared → Prop} {s : Shared}
theorem wp_lt {st : SortSt} {a b : Int} {t u : Tok} {p q : Value} {Q : Option Bool → SortSt → Prop} (hk : kindOf st = oneType') (h : Q (some (decide (a < b))) st) :
    wpS (model prog w) A E s (lt' (.int a t, p) (.int b u, q)) Q st := by
  rw [lt'_eq]
  refine wpS_bind (wpS_get ?_)
  rw [hk, keyLt'_oneType]
  exact wpS_bind (wpS_lift (wpAny_attempt (oneLt_int ⟨rfl, wpS_pure h⟩)))
theorem wp_elem {st : SortSt} {xs : Array Keyed} {i : Nat} {p : Keyed} {Q : Keyed → SortSt → Prop} (hi : xs[i]? = some p) (h : Q p st) : wpS (model prog w) A E s (elem' xs i) Q st := by
  rw [elem'_eq, hi]
  exact wpS_pure h
theorem wp_bey {st : SortSt} {left : Bool} {kv : Int} {t : Tok} {q : Value} {arr : Array Keyed} {base i : Nat} {Q : Option Bool → SortSt → Prop} (hk : kindOf st = oneType') (hx : IntAt arr (base + i))
    (h : Q (some (beyB left kv (K arr (base + i)))) st) : wpS (model prog w) A E s (bey left (.int kv t, q) arr base i) Q st := by
  obtain ⟨t', q', e⟩ := hx
  refine wpS_bind (wp_elem e ?_)
  unfold beyB at h
  cases left with
  | true =>
    simp only [if_true] at h ⊢
    exact wp_lt hk h
  | false =>
    simp only [Bool.false_eq_true, if_false] at h ⊢
    exact wpS_bind (wp_lt hk (wpS_pure h))
noncomputable def Cut (left : Bool) (kv : Int) (arr : Array Keyed) (base n k : Nat) : Prop := k ≤ n ∧ (∀ i, i < k → beyB left kv (K arr (base + i)) = true) ∧ ∀ i, k ≤ i → i < n → beyB left kv (K arr (base + i)) = false
theorem bey_mono {left : Bool} {kv x y : Int} (h : x ≤ y) (b : beyB left kv y = true) : beyB left kv x = true := by
  unfold beyB at b ⊢
  cases left with
  | true => simp at b ⊢; omega
  | false => simp at b ⊢; omega
theorem wp_hunt {st : SortSt} {left : Bool} {kv : Int} {t : Tok} {q : Value} {arr : Array Keyed} {base n lo hi : Nat} {Q : Option Nat → SortSt → Prop} (hk : kindOf st = oneType') (hx : ∀ i, i < n → IntAt arr (base + i)) (hs : Sec arr base n)
    (h1 : lo ≤ hi) (h2 : hi ≤ n) (hlo : ∀ i, i < lo → beyB left kv (K arr (base + i)) = true) (hhi : ∀ i, hi ≤ i → i < n → beyB left kv (K arr (base + i)) = false)
    (h : ∀ k, Cut left kv arr base n k → Q (some k) st) : wpS (model prog w) A E s (hunt left (.int kv t, q) arr base n lo hi) Q st := by
  refine wpS_bind (wpS_mono (wpS_forRange (I := fun x c st' => st' = st ∧ ∃ l r, c = (none, l, r) ∧ l ≤ r ∧ r ≤ n ∧ r - l ≤ n - x ∧ (∀ i, i < l → beyB left kv (K arr (base + i)) = true) ∧ ∀ i, r ≤ i → i < n → beyB left kv (K arr (base + i)) = false)
    (Q := fun c st' => st' = st ∧ ∃ l r, c = (none, l, r) ∧ Cut left kv arr base n r) ?turn ?over ⟨rfl, lo, hi, rfl, h1, h2, by omega, hlo, hhi⟩) ?aft)
  case aft =>
    rintro _ st ⟨rfl, l, r, rfl, c⟩
    exact wpS_pure (h r c)
  case over =>
    rintro _ st ⟨rfl, l, r, rfl, a1, a2, a3, a4, a5⟩
    obtain rfl : l = r := by omega
    exact ⟨rfl, l, l, rfl, a2, a4, a5⟩
  case turn =>
    rintro x _ st _ hxn ⟨rfl, l, r, rfl, a1, a2, a3, a4, a5⟩
    dsimp only
    by_cases ge : l ≥ r
    · rw [if_pos ge]
      obtain rfl : l = r := by omega
      exact wpS_pure ⟨rfl, l, l, rfl, a2, a4, a5⟩
    · rw [if_neg ge]
      refine wpS_bind (wp_bey hk (hx _ (by omega)) ?_)
      dsimp only
      by_cases b : beyB left kv (K arr (base + (l + (r - l) / 2))) = true
      · rw [if_pos b]
        exact wpS_pure ⟨rfl, _, _, rfl, by omega, a2, by omega, fun i hi => bey_mono (hs i (l + (r - l) / 2) (by omega) (by omega)) b, a5⟩
      · rw [if_neg b]
        refine wpS_pure ⟨rfl, _, _, rfl, by omega, by omega, by omega, a4, fun i i1 i2 => ?_⟩
        rw [← Bool.not_eq_true]
        exact fun z => b (bey_mono (hs _ i i1 i2) z)
theorem wp_seek {st : SortSt} {left : Bool} {kv : Int} {t : Tok} {q : Value} {arr : Array Keyed} {base n far : Nat} {look : Nat → Nat} {stop : Bool → Bool} {Q : S2 → SortSt → Prop} (hk : kindOf st = oneType') (hx : ∀ i, i < n → IntAt arr (base + i))
    (hfar : far ≤ n) (hl : ∀ o, 1 ≤ o → o < far → look o < n)
    (h : ∀ l o, l < o → (l = 0 ∨ (l < far ∧ stop (beyB left kv (K arr (base + look l))) = false)) → (far ≤ o ∨ stop (beyB left kv (K arr (base + look o))) = true) → Q (none, l, o) st) :
    wpS (model prog w) A E s (seek left (.int kv t, q) arr base n far look stop) Q st := by
  refine wpS_forRange (I := fun x c st' => st' = st ∧ ∃ l o, c = (none, l, o) ∧ l < o ∧ x + 1 ≤ o ∧ (l = 0 ∨ (l < far ∧ stop (beyB left kv (K arr (base + look l))) = false))) ?turn ?over ⟨rfl, 0, 1, rfl, by omega, by omega, .inl rfl⟩
  case over =>
    rintro _ st ⟨rfl, l, o, rfl, a1, a2, a3⟩
    exact h l o a1 a3 (.inl (by omega))
  case turn =>
    rintro x _ st _ hxn ⟨rfl, l, o, rfl, a1, a2, a3⟩
    dsimp only
    by_cases ge : o ≥ far
    · rw [if_pos ge]
      exact wpS_pure (h l o a1 a3 (.inl ge))
    · rw [if_neg ge]
      refine wpS_bind (wp_bey hk (hx _ (hl o (by omega) (by omega))) ?_)
      dsimp only
      by_cases b : stop (beyB left kv (K arr (base + look o))) = true
      · rw [if_pos b]
        exact wpS_pure (h l o a1 a3 (.inr b))
      · rw [if_neg b]
        exact wpS_pure ⟨rfl, o, 2 * o + 1, rfl, by omega, by omega, .inr ⟨by omega, by simpa using b⟩⟩
theorem wp_gal {st : SortSt} {left : Bool} {kv : Int} {t : Tok} {q : Value} {arr : Array Keyed} {base n hint : Nat} {Q : Option Nat → SortSt → Prop} (hk : kindOf st = oneType') (hx : ∀ i, i < n → IntAt arr (base + i)) (hs : Sec arr base n) (hh : hint < n)
    (h : ∀ k, Cut left kv arr base n k → Q (some k) st) : wpS (model prog w) A E s (gallopP left (.int kv t, q) arr base n hint) Q st := by
  rw [gal_is]
  have lower : ∀ {i j}, i ≤ j → j < n → beyB left kv (K arr (base + j)) = true → beyB left kv (K arr (base + i)) = true := fun ij jn b => bey_mono (hs _ _ ij jn) b
  have upper : ∀ {i j}, i ≤ j → j < n → beyB left kv (K arr (base + i)) = false → beyB left kv (K arr (base + j)) = false := fun ij jn b => by
    rw [← Bool.not_eq_true] at b ⊢
    exact fun z => b (lower ij jn z)
  refine wpS_bind (wp_bey hk (hx _ hh) ?_)
  dsimp only
  by_cases b : beyB left kv (K arr (base + hint)) = true
  · rw [if_pos b]
    refine wpS_bind (wp_seek hk hx (by omega) (fun o o1 o2 => by omega) fun l o lo a1 a2 => ?_)
    dsimp only
    refine wp_hunt hk hx hs (by omega) (by omega) (fun i hi => ?_) (fun i i1 i2 => ?_) h
    · rcases a1 with rfl | ⟨z, a1⟩
      · exact lower (show i ≤ hint by omega) hh b
      · exact lower (show i ≤ hint + l by omega) (by omega) (by simpa using a1)
    · rcases a2 with z | a2
      · omega
      · by_cases c : n - hint ≤ o
        · omega
        · exact upper (show hint + o ≤ i by omega) i2 (by simpa using a2)
  · rw [if_neg b]
    have b := Bool.eq_false_iff.mpr b
    refine wpS_bind (wp_seek hk hx (by omega) (fun o o1 o2 => by omega) fun l o lo a1 a2 => ?_)
    dsimp only
    refine wp_hunt hk hx hs (by omega) (by omega) (fun i hi => ?_) (fun i i1 i2 => ?_) h
    · rcases a2 with z | a2
      · omega
      · by_cases c : hint + 1 ≤ o
        · omega
        · exact lower (show i ≤ hint - o by omega) (by omega) a2
    · rcases a1 with rfl | ⟨z, a1⟩
      · exact upper (show hint ≤ i by omega) i2 b
      · exact upper (show hint - l ≤ i by omega) i2 a1
end
end So

set_option Elab.async false
set_option linter.all false
set_option maxRecDepth 100000
set_option maxHeartbeats 4000000
namespace So
open PySem PyProof.Rows
noncomputable abbrev AK := Array Keyed
noncomputable abbrev key (p : Keyed) : Int := numOf p.1
structure MI (a b : AK) (O : List Keyed) (ia ib : Nat) : Prop where
  perm : (O ++ (a.toList.drop ia ++ b.toList.drop ib)).Perm (a.toList ++ b.toList)
  srt : O.Pairwise fun p q => key p ≤ key q
  la : ∀ p ∈ O, ∀ i, ia ≤ i → i < a.size → key p ≤ K a i
  lb : ∀ p ∈ O, ∀ i, ib ≤ i → i < b.size → key p ≤ K b i
noncomputable def Res (a b r : AK) : Prop := r.toList.Perm (a.toList ++ b.toList) ∧ r.toList.Pairwise fun p q => key p ≤ key q
theorem MI.swap {a b : AK} {O : List Keyed} {ia ib : Nat} (h : MI a b O ia ib) : MI b a O ib ia :=
  ⟨((List.Perm.refl O).append List.perm_append_comm).trans (h.perm.trans List.perm_append_comm), h.srt, h.lb, h.la⟩
theorem ext_mem {a : AK} {i j : Nat} {p : Keyed} (h : p ∈ (a.toList.drop i).take (j - i)) : ∃ n, i ≤ n ∧ n < j ∧ n < a.size ∧ key p = K a n := by
  obtain ⟨n, hn, e⟩ := List.getElem_of_mem h
  rw [List.length_take, List.length_drop, Array.length_toList] at hn
  refine ⟨i + n, by omega, by omega, by omega, ?_⟩
  rw [K_eq (show i + n < a.size by omega), ← e, List.getElem_take, List.getElem_drop]
  simp
theorem drop_mem {a : AK} {i : Nat} {p : Keyed} (h : p ∈ a.toList.drop i) : ∃ n, i ≤ n ∧ n < a.size ∧ key p = K a n := by
  obtain ⟨n, hn, e⟩ := List.getElem_of_mem h
  rw [List.length_drop, Array.length_toList] at hn
  refine ⟨i + n, by omega, by omega, ?_⟩
  rw [K_eq (show i + n < a.size by omega), ← e, List.getElem_drop]
  simp
theorem srt_of {a : AK} (h : SortedTo a a.size) : a.toList.Pairwise fun p q => key p ≤ key q := by
  rw [List.pairwise_iff_getElem]
  intro i j hi hj hij
  rw [Array.length_toList] at hi hj
  have := h i j (Nat.le_of_lt hij) hj
  rw [K_eq hi, K_eq hj] at this
  simpa using this
theorem srt_to {r : AK} (h : r.toList.Pairwise fun p q => key p ≤ key q) : SortedTo r r.size := by
  intro i j hij hj
  by_cases e : i = j
  · rw [e]
    exact Int.le_refl _
  · rw [List.pairwise_iff_getElem] at h
    have := h i j (by rw [Array.length_toList]; omega) (by rw [Array.length_toList]; omega) (by omega)
    rw [K_eq (by omega), K_eq hj]
    simpa using this
theorem MI.more {a b : AK} {O : List Keyed} {ia ib k : Nat} (h : MI a b O ia ib) (sa : SortedTo a a.size) (hk : ia + k ≤ a.size) (le : ∀ i j, ia ≤ i → i < ia + k → ib ≤ j → j < b.size → K a i ≤ K b j) :
    MI a b (O ++ (a.toList.drop ia).take k) (ia + k) ib := by
  have mem : ∀ {p}, p ∈ (a.toList.drop ia).take k → ∃ n, ia ≤ n ∧ n < ia + k ∧ n < a.size ∧ key p = K a n := fun hp => ext_mem (j := ia + k) (by rw [show ia + k - ia = k by omega]; exact hp)
  have spl : a.toList.drop ia = (a.toList.drop ia).take k ++ a.toList.drop (ia + k) := by
    rw [← List.drop_drop, List.take_append_drop]
  refine ⟨?_, ?_, ?_, ?_⟩
  · have := h.perm
    rw [spl] at this
    simpa [List.append_assoc] using this
  · rw [List.pairwise_append]
    refine ⟨h.srt, ((srt_of sa).sublist (List.drop_sublist _ _)).sublist (List.take_sublist _ _), fun p hp q hq => ?_⟩
    obtain ⟨n, n1, n2, n3, e⟩ := mem hq
    rw [e]
    exact h.la p hp n n1 n3
  · intro p hp i i1 i2
    rcases List.mem_append.mp hp with hp | hp
    · exact h.la p hp i (by omega) i2
    · obtain ⟨n, n1, n2, n3, e⟩ := mem hp
      rw [e]
      exact sa n i (by omega) i2
  · intro p hp i i1 i2
    rcases List.mem_append.mp hp with hp | hp
    · exact h.lb p hp i i1 i2
    · obtain ⟨n, n1, n2, n3, e⟩ := mem hp
      rw [e]
      exact le n i n1 n2 i1 i2
theorem take_one {a : AK} {i : Nat} {p : Keyed} (h : a[i]? = some p) : (a.toList.drop i).take 1 = [p] := by
  have hi : i < a.size := by
    rcases Nat.lt_or_ge i a.size with z | z
    · exact z
    · rw [Array.getElem?_eq_none z] at h; cases h
  rw [Array.getElem?_eq_getElem hi] at h
  have e : a.toList.drop i = a.toList[i]'(by simpa using hi) :: a.toList.drop (i + 1) := (List.drop_eq_getElem_cons (by simpa using hi))
  rw [e, List.take_succ_cons, List.take_zero]
  simp at h ⊢
  exact h
theorem MI.one {a b : AK} {O : AK} {ia ib : Nat} {p : Keyed} (h : MI a b O.toList ia ib) (sa : SortedTo a a.size) (hp : a[ia]? = some p) (hi : ia < a.size) (le : ∀ j, ib ≤ j → j < b.size → K a ia ≤ K b j) :
    MI a b (O.push p).toList (ia + 1) ib := by
  have := h.more (k := 1) sa (by omega) fun i j i1 i2 j1 j2 => by rw [show i = ia by omega]; exact le j j1 j2
  rw [take_one hp] at this
  rw [Array.toList_push]
  exact this
theorem MI.oneB {a b : AK} {O : AK} {ia ib : Nat} {p : Keyed} (h : MI a b O.toList ia ib) (sb : SortedTo b b.size) (hp : b[ib]? = some p) (hi : ib < b.size) (le : ∀ j, ia ≤ j → j < a.size → K b ib ≤ K a j) :
    MI a b (O.push p).toList ia (ib + 1) := (h.swap.one sb hp hi le).swap
theorem MI.app {a b : AK} {O : AK} {ia ib k : Nat} (h : MI a b O.toList ia ib) (sa : SortedTo a a.size) (hk : ia + k ≤ a.size) (le : ∀ i j, ia ≤ i → i < ia + k → ib ≤ j → j < b.size → K a i ≤ K b j) :
    MI a b (O ++ a.extract ia (ia + k)).toList (ia + k) ib := by
  have := h.more sa hk le
  rw [Array.toList_append, Array.toList_extract, List.extract_eq_drop_take, show ia + k - ia = k by omega]
  exact this
theorem MI.appB {a b : AK} {O : AK} {ia ib k : Nat} (h : MI a b O.toList ia ib) (sb : SortedTo b b.size) (hk : ib + k ≤ b.size) (le : ∀ j i, ib ≤ j → j < ib + k → ia ≤ i → i < a.size → K b j ≤ K a i) :
    MI a b (O ++ b.extract ib (ib + k)).toList ia (ib + k) := (h.swap.app sb hk le).swap
theorem ext_all (a : AK) (i : Nat) : (a.extract i a.size).toList = a.toList.drop i := by
  rw [Array.toList_extract, List.extract_eq_drop_take, List.take_of_length_le (by simp)]
theorem MI.end {a b : AK} {O : AK} {ia ib : Nat} (h : MI a b O.toList ia ib) (sa : SortedTo a a.size) (sb : SortedTo b b.size) (le : ∀ i j, ia ≤ i → i < a.size → ib ≤ j → j < b.size → K a i ≤ K b j) :
    Res a b (O ++ a.extract ia a.size ++ b.extract ib b.size) := by
  unfold Res
  rw [Array.toList_append, Array.toList_append, ext_all, ext_all, List.append_assoc]
  refine ⟨h.perm, ?_⟩
  rw [List.pairwise_append, List.pairwise_append]
  refine ⟨h.srt, ⟨(srt_of sa).sublist (List.drop_sublist _ _), (srt_of sb).sublist (List.drop_sublist _ _), fun p hp q hq => ?_⟩, fun p hp q hq => ?_⟩
  · obtain ⟨n, n1, n2, e⟩ := drop_mem hp
    obtain ⟨m, m1, m2, e'⟩ := drop_mem hq
    rw [e, e']
    exact le n m n1 n2 m1 m2
  · rcases List.mem_append.mp hq with hq | hq
    · obtain ⟨n, n1, n2, e⟩ := drop_mem hq
      rw [e]
      exact h.la p hp n n1 n2
    · obtain ⟨n, n1, n2, e⟩ := drop_mem hq
      rw [e]
      exact h.lb p hp n n1 n2
theorem Res.swap {a b r : AK} (h : Res b a r) : Res a b r := ⟨h.1.trans List.perm_append_comm, h.2⟩
theorem MI.endB {a b : AK} {O : AK} {ia ib : Nat} (h : MI a b O.toList ia ib) (sa : SortedTo a a.size) (sb : SortedTo b b.size) (le : ∀ j i, ib ≤ j → j < b.size → ia ≤ i → i < a.size → K b j ≤ K a i) :
    Res a b (O ++ b.extract ib b.size ++ a.extract ia a.size) := (h.swap.end sb sa le).swap
end So

set_option Elab.async false
set_option linter.all false
set_option maxRecDepth 100000
set_option maxHeartbeats 4000000
namespace So
open PySem PyProof.Rows
noncomputable def mergeLoP : AK → AK → StateT SortSt Sem AK := sortPriv% PySem.Builtin.mergeLo
noncomputable def setGalP : Nat → StateT SortSt Sem Unit := sortPriv% PySem.Builtin.setMinGallop
theorem setGal_is (g : Nat) : setGalP g = modify fun s => SortSt.mk' (kindOf s) (arrOf s) (pendingOf s) g (failedOf s) := rfl
noncomputable abbrev T0 := Option AK × AK × Nat × Nat × Nat
noncomputable abbrev T1 := Option AK × AK × Nat × Nat × Nat × Nat
noncomputable abbrev T2 := Option AK × AK × Nat × Nat × Nat × Nat × Nat
noncomputable abbrev aThenB (a b out : AK) (ia ib : Nat) : AK := out ++ a.extract ia a.size ++ b.extract ib b.size
noncomputable abbrev bThenA (a b out : AK) (ia ib : Nat) : AK := out ++ b.extract ib b.size ++ a.extract ia a.size
noncomputable def lo1 (a b : AK) (mg : Nat) (c : T1) : StateT SortSt Sem (ForInStep T1) :=
  elem' b c.2.2.2.1 >>= fun y => elem' a c.2.2.1 >>= fun x => lt' y x >>= fun o => match o with
  | some w => if w = true then elem' b c.2.2.2.1 >>= fun y =>
        if (c.2.2.2.1 + 1 == b.size) = true then pure (.done (some (aThenB a b (c.2.1.push y) c.2.2.1 (c.2.2.2.1 + 1)), c.2.1.push y, c.2.2.1, c.2.2.2.1 + 1, 0, c.2.2.2.2.2 + 1))
        else if c.2.2.2.2.2 + 1 ≥ mg then pure (.done (none, c.2.1.push y, c.2.2.1, c.2.2.2.1 + 1, 0, c.2.2.2.2.2 + 1)) else pure (.yield (none, c.2.1.push y, c.2.2.1, c.2.2.2.1 + 1, 0, c.2.2.2.2.2 + 1))
      else elem' a c.2.2.1 >>= fun x =>
        if (c.2.2.1 + 1 + 1 == a.size) = true then pure (.done (some (bThenA a b (c.2.1.push x) (c.2.2.1 + 1) c.2.2.2.1), c.2.1.push x, c.2.2.1 + 1, c.2.2.2.1, c.2.2.2.2.1 + 1, 0))
        else if c.2.2.2.2.1 + 1 ≥ mg then pure (.done (none, c.2.1.push x, c.2.2.1 + 1, c.2.2.2.1, c.2.2.2.2.1 + 1, 0)) else pure (.yield (none, c.2.1.push x, c.2.2.1 + 1, c.2.2.2.1, c.2.2.2.2.1 + 1, 0))
  | _ => pure (.done (some (aThenB a b c.2.1 c.2.2.1 c.2.2.2.1), c.2.1, c.2.2.1, c.2.2.2.1, c.2.2.2.2.1, c.2.2.2.2.2))
noncomputable def lo5 (a b : AK) (mg k q : Nat) (out : AK) (ia ib : Nat) : StateT SortSt Sem (ForInStep T2) := elem' a ia >>= fun x =>
  if (ia + 1 + 1 == a.size) = true then pure (.done (some (bThenA a b (out.push x) (ia + 1) ib), out.push x, ia + 1, ib, mg, k, q))
  else if (decide (k < 7) && decide (q < 7)) = true then pure (.done (none, out.push x, ia + 1, ib, mg, k, q)) else pure (.yield (none, out.push x, ia + 1, ib, mg, k, q))
noncomputable def lo4 (a b : AK) (mg k bc : Nat) (out : AK) (ia ib : Nat) : StateT SortSt Sem (ForInStep T2) := elem' a ia >>= fun x => gallopP true x b ib (b.size - ib) 0 >>= fun o => match o with
  | some q => if q > 0 then (if (ib + q == b.size) = true then pure (.done (some (aThenB a b (out ++ b.extract ib (ib + q)) ia (ib + q)), out ++ b.extract ib (ib + q), ia, ib + q, mg, k, q)) else lo5 a b mg k q (out ++ b.extract ib (ib + q)) ia (ib + q))
    else lo5 a b mg k q out ia ib
  | _ => pure (.done (some (aThenB a b out ia ib), out, ia, ib, mg, k, bc))
noncomputable def lo3 (a b : AK) (mg k bc : Nat) (out : AK) (ia ib : Nat) : StateT SortSt Sem (ForInStep T2) := elem' b ib >>= fun y =>
  if (ib + 1 == b.size) = true then pure (.done (some (aThenB a b (out.push y) ia (ib + 1)), out.push y, ia, ib + 1, mg, k, bc)) else lo4 a b mg k bc (out.push y) ia (ib + 1)
noncomputable def lo2 (a b : AK) (mg ac bc : Nat) (out : AK) (ia ib : Nat) : StateT SortSt Sem (ForInStep T2) := setGalP mg >>= fun _ => elem' b ib >>= fun y => gallopP false y a ia (a.size - ia) 0 >>= fun o => match o with
  | some k => if k > 0 then (if (ia + k + 1 == a.size) = true then pure (.done (some (bThenA a b (out ++ a.extract ia (ia + k)) (ia + k) ib), out ++ a.extract ia (ia + k), ia + k, ib, mg, k, bc))
      else if (ia + k == a.size) = true then pure (.done (some (aThenB a b (out ++ a.extract ia (ia + k)) (ia + k) ib), out ++ a.extract ia (ia + k), ia + k, ib, mg, k, bc)) else lo3 a b mg k bc (out ++ a.extract ia (ia + k)) (ia + k) ib)
    else lo3 a b mg k bc out ia ib
  | _ => pure (.done (some (aThenB a b out ia ib), out, ia, ib, mg, ac, bc))
noncomputable def loG (a b : AK) (c : T2) : StateT SortSt Sem (ForInStep T2) := if c.2.2.2.2.1 > 1 then lo2 a b (c.2.2.2.2.1 - 1) c.2.2.2.2.2.1 c.2.2.2.2.2.2 c.2.1 c.2.2.1 c.2.2.2.1 else lo2 a b c.2.2.2.2.1 c.2.2.2.2.2.1 c.2.2.2.2.2.2 c.2.1 c.2.2.1 c.2.2.2.1
noncomputable def lo0 (a b : AK) (c : T0) : StateT SortSt Sem (ForInStep T0) :=
  forIn [0:a.size + b.size] ((none, c.2.1, c.2.2.1, c.2.2.2.1, 0, 0) : T1) (fun _ d => lo1 a b c.2.2.2.2 d) >>= fun d => match d.1 with
  | some r => pure (.done (some r, d.2.1, d.2.2.1, d.2.2.2.1, c.2.2.2.2))
  | none => liftM (rule "list.sort.gallop") >>= fun _ => forIn [0:a.size + b.size] ((none, d.2.1, d.2.2.1, d.2.2.2.1, c.2.2.2.2 + 1, d.2.2.2.2.1, d.2.2.2.2.2) : T2) (fun _ e => loG a b e) >>= fun e => match e.1 with
    | some r => pure (.done (some r, e.2.1, e.2.2.1, e.2.2.2.1, e.2.2.2.2.1))
    | none => setGalP (e.2.2.2.2.1 + 1) >>= fun _ => pure (.yield (none, e.2.1, e.2.2.1, e.2.2.2.1, e.2.2.2.2.1 + 1))
noncomputable def lo (a b : AK) : StateT SortSt Sem AK := liftM (rule "list.sort.merge-lo") >>= fun _ => elem' b 0 >>= fun y =>
  if (1 == b.size) = true then pure (aThenB a b #[y] 0 1) else if (0 + 1 == a.size) = true then pure (bThenA a b #[y] 0 1) else get >>= fun st =>
  forIn [0:a.size + b.size] ((none, #[y], 0, 1, gallopOf st) : T0) (fun _ c => lo0 a b c) >>= fun c => match c.1 with
  | some r => pure r
  | none => liftM (unsupported (α := AK) "internal:list.sort.merge-bound")
theorem lo_is (a b : AK) : mergeLoP a b = lo a b := by kernel_rfl
end So

set_option Elab.async false
set_option linter.all false
set_option maxRecDepth 100000
set_option maxHeartbeats 4000000
namespace So
open PySem PyProof.Rows
noncomputable def Like (st st' : SortSt) : Prop := kindOf st' = kindOf st ∧ arrOf st' = arrOf st ∧ pendingOf st' = pendingOf st ∧ failedOf st' = failedOf st
theorem Like.refl (st : SortSt) : Like st st := ⟨rfl, rfl, rfl, rfl⟩
theorem Like.trans {a b c : SortSt} (h : Like a b) (g : Like b c) : Like a c := ⟨g.1.trans h.1, g.2.1.trans h.2.1, g.2.2.1.trans h.2.2.1, g.2.2.2.trans h.2.2.2⟩
structure Two (a b : AK) : Prop where
  ka : IntKeys a
  kb : IntKeys b
  sa : SortedTo a a.size
  sb : SortedTo b b.size
  a1 : 1 ≤ a.size
  b1 : 1 ≤ b.size
  first : ∀ i, i < a.size → K b 0 ≤ K a i
  last : ∀ j, j < b.size → K b j ≤ K a (a.size - 1)
section
variable {prog : Program} {w : World} {A : Around} {E : Value → Shared → Prop} {s : Shared} {a b : AK} {st₀ : SortSt}
theorem wp_gal_set {st : SortSt} {g : Nat} {Q : Unit → SortSt → Prop} (h : ∀ st', Like st st' → Q () st') : wpS (model prog w) A E s (setGalP g) Q st := by
  rw [setGal_is]
  exact wpS_modify (h _ ⟨rfl, rfl, rfl, rfl⟩)
noncomputable def Go (a b : AK) (n : Nat) (out : AK) (ia ib : Nat) : Prop := MI a b out.toList ia ib ∧ ia + 1 < a.size ∧ ib < b.size ∧ n ≤ ia + ib
noncomputable def E2 (a b : AK) (st₀ : SortSt) (n : Nat) (r : ForInStep T2) (st' : SortSt) : Prop := Like st₀ st' ∧ match r with
  | .done c => (∃ x, c.1 = some x ∧ Res a b x) ∨ (c.1 = none ∧ Go a b n c.2.1 c.2.2.1 c.2.2.2.1)
  | .yield c => c.1 = none ∧ Go a b n c.2.1 c.2.2.1 c.2.2.2.1
noncomputable def E1 (a b : AK) (st₀ : SortSt) (n : Nat) (r : ForInStep T1) (st' : SortSt) : Prop := Like st₀ st' ∧ match r with
  | .done c => (∃ x, c.1 = some x ∧ Res a b x) ∨ (c.1 = none ∧ Go a b n c.2.1 c.2.2.1 c.2.2.2.1)
  | .yield c => c.1 = none ∧ Go a b n c.2.1 c.2.2.1 c.2.2.2.1
theorem end_b (W : Two a b) {O : AK} {ia ib : Nat} (h : MI a b O.toList ia ib) (e : b.size ≤ ib) : Res a b (aThenB a b O ia ib) := h.end W.sa W.sb fun i j _ _ j1 j2 => by omega
theorem end_a (W : Two a b) {O : AK} {ia ib : Nat} (h : MI a b O.toList ia ib) (e : a.size ≤ ia + 1) : Res a b (bThenA a b O ia ib) := h.endB W.sa W.sb fun j i j1 j2 i1 i2 => by
  rw [show i = a.size - 1 by omega]
  exact W.last j j2
theorem wp_lo5 (W : Two a b) {st : SortSt} {mg k q n : Nat} {O : AK} {ia ib : Nat} (hl : Like st₀ st) (h : MI a b O.toList ia ib) (hi : ia + 1 < a.size) (hj : ib < b.size) (hn : n ≤ ia + ib) (le : ∀ j, ib ≤ j → j < b.size → K a ia ≤ K b j) :
    wpS (model prog w) A E s (lo5 a b mg k q O ia ib) (E2 a b st₀ n) st := by
  obtain ⟨t, v, e⟩ := intAt_of W.ka (show ia < a.size by omega)
  refine wpS_bind (wp_elem e ?_)
  have m := h.one W.sa e (by omega) le
  by_cases c : ia + 1 + 1 = a.size
  · rw [if_pos (by simpa using c)]
    exact wpS_pure ⟨hl, .inl ⟨_, rfl, end_a W m (by omega)⟩⟩
  · rw [if_neg (by simpa using c)]
    have g : Go a b n (O.push (.int (K a ia) t, v)) (ia + 1) ib := ⟨m, by omega, hj, by omega⟩
    by_cases d : (decide (k < 7) && decide (q < 7)) = true
    · rw [if_pos d]
      exact wpS_pure ⟨hl, .inr ⟨rfl, g⟩⟩
    · rw [if_neg d]
      exact wpS_pure ⟨hl, rfl, g⟩
theorem wp_lo4 (W : Two a b) {st : SortSt} {mg k bc n : Nat} {O : AK} {ia ib : Nat} (hk : kindOf st₀ = oneType') (hl : Like st₀ st) (h : MI a b O.toList ia ib) (hi : ia + 1 < a.size) (hj : ib < b.size) (hn : n ≤ ia + ib) :
    wpS (model prog w) A E s (lo4 a b mg k bc O ia ib) (E2 a b st₀ n) st := by
  obtain ⟨t, v, e⟩ := intAt_of W.ka (show ia < a.size by omega)
  refine wpS_bind (wp_elem e ?_)
  refine wpS_bind (wp_gal (hl.1.trans hk) (fun i hi => intAt_of W.kb (by omega)) (fun i j hij hj => W.sb _ _ (by omega) (by omega)) (by omega) fun q cut => ?_)
  obtain ⟨q1, q2, q3⟩ := cut
  have q2 : ∀ i, i < q → K b (ib + i) < K a ia := fun i hi => by simpa [beyB] using q2 i hi
  have q3 : ∀ i, q ≤ i → i < b.size - ib → K a ia ≤ K b (ib + i) := fun i i1 i2 => by simpa [beyB] using q3 i i1 i2
  dsimp only
  by_cases z : q > 0
  · rw [if_pos z]
    have m := h.appB (k := q) W.sb (by omega) fun j i j1 j2 i1 i2 => by
      have := q2 (j - ib) (by omega)
      rw [show ib + (j - ib) = j by omega] at this
      exact Int.le_trans (Int.le_of_lt this) (W.sa ia i i1 i2)
    by_cases c : ib + q = b.size
    · rw [if_pos (by simpa using c)]
      exact wpS_pure ⟨hl, .inl ⟨_, rfl, end_b W m (by omega)⟩⟩
    · rw [if_neg (by simpa using c)]
      refine wp_lo5 W hl m hi (by omega) (by omega) fun j j1 j2 => ?_
      have := q3 (j - ib) (by omega) (by omega)
      rwa [show ib + (j - ib) = j by omega] at this
  · rw [if_neg z]
    refine wp_lo5 W hl h hi hj hn fun j j1 j2 => ?_
    have := q3 (j - ib) (by omega) (by omega)
    rwa [show ib + (j - ib) = j by omega] at this
theorem wp_lo3 (W : Two a b) {st : SortSt} {mg k bc n : Nat} {O : AK} {ia ib : Nat} (hk : kindOf st₀ = oneType') (hl : Like st₀ st) (h : MI a b O.toList ia ib) (hi : ia + 1 < a.size) (hj : ib < b.size) (hn : n ≤ ia + ib)
    (le : ∀ i, ia ≤ i → i < a.size → K b ib ≤ K a i) : wpS (model prog w) A E s (lo3 a b mg k bc O ia ib) (E2 a b st₀ n) st := by
  obtain ⟨t, v, e⟩ := intAt_of W.kb hj
  refine wpS_bind (wp_elem e ?_)
  have m := h.oneB W.sb e hj le
  by_cases c : ib + 1 = b.size
  · rw [if_pos (by simpa using c)]
    exact wpS_pure ⟨hl, .inl ⟨_, rfl, end_b W m (by omega)⟩⟩
  · rw [if_neg (by simpa using c)]
    exact wp_lo4 W hk hl m hi (by omega) (by omega)
theorem wp_lo2 (W : Two a b) {st : SortSt} {mg ac bc n : Nat} {O : AK} {ia ib : Nat} (hk : kindOf st₀ = oneType') (hl : Like st₀ st) (h : MI a b O.toList ia ib) (hi : ia + 1 < a.size) (hj : ib < b.size) (hn : n ≤ ia + ib) :
    wpS (model prog w) A E s (lo2 a b mg ac bc O ia ib) (E2 a b st₀ n) st := by
  refine wpS_bind (wp_gal_set fun st' hl' => ?_)
  have hl := hl.trans hl'
  obtain ⟨t, v, e⟩ := intAt_of W.kb hj
  refine wpS_bind (wp_elem e ?_)
  refine wpS_bind (wp_gal (hl.1.trans hk) (fun i hi => intAt_of W.ka (by omega)) (fun i j hij hj => W.sa _ _ (by omega) (by omega)) (by omega) fun k cut => ?_)
  obtain ⟨q1, q2, q3⟩ := cut
  have q2 : ∀ i, i < k → K a (ia + i) ≤ K b ib := fun i hi => by simpa [beyB] using q2 i hi
  have q3 : ∀ i, k ≤ i → i < a.size - ia → K b ib < K a (ia + i) := fun i i1 i2 => by simpa [beyB] using q3 i i1 i2
  have le : ∀ i, ia + k ≤ i → i < a.size → K b ib ≤ K a i := fun i i1 i2 => by
    have := q3 (i - ia) (by omega) (by omega)
    rw [show ia + (i - ia) = i by omega] at this
    omega
  dsimp only
  by_cases z : k > 0
  · rw [if_pos z]
    have m := h.app (k := k) W.sa (by omega) fun i j i1 i2 j1 j2 => by
      have := q2 (i - ia) (by omega)
      rw [show ia + (i - ia) = i by omega] at this
      exact Int.le_trans this (W.sb ib j j1 j2)
    by_cases c : ia + k + 1 = a.size
    · rw [if_pos (by simpa using c)]
      exact wpS_pure ⟨hl, .inl ⟨_, rfl, end_a W m (by omega)⟩⟩
    · rw [if_neg (by simpa using c)]
      by_cases d : ia + k = a.size
      · rw [if_pos (by simpa using d)]
        exact wpS_pure ⟨hl, .inl ⟨_, rfl, m.end W.sa W.sb fun i j i1 i2 _ _ => by omega⟩⟩
      · rw [if_neg (by simpa using d)]
        exact wp_lo3 W hk hl m (by omega) hj (by omega) le
  · rw [if_neg z]
    have k0 : k = 0 := by omega
    subst k0
    exact wp_lo3 W hk hl h hi hj hn le
theorem wp_loG (W : Two a b) {st : SortSt} {n : Nat} {c : T2} (hk : kindOf st₀ = oneType') (hl : Like st₀ st) (h : Go a b n c.2.1 c.2.2.1 c.2.2.2.1) : wpS (model prog w) A E s (loG a b c) (E2 a b st₀ n) st := by
  unfold loG
  by_cases g : c.2.2.2.2.1 > 1
  · rw [if_pos g]
    exact wp_lo2 W hk hl h.1 h.2.1 h.2.2.1 h.2.2.2
  · rw [if_neg g]
    exact wp_lo2 W hk hl h.1 h.2.1 h.2.2.1 h.2.2.2
theorem wp_lo1 (W : Two a b) {st : SortSt} {mg n : Nat} {c : T1} (hk : kindOf st₀ = oneType') (hl : Like st₀ st) (h : Go a b n c.2.1 c.2.2.1 c.2.2.2.1) : wpS (model prog w) A E s (lo1 a b mg c) (E1 a b st₀ (n + 1)) st := by
  obtain ⟨r, O, ia, ib, ac, bc⟩ := c
  obtain ⟨m, hi, hj, hn⟩ := h
  dsimp only at m hi hj hn
  obtain ⟨t, v, e⟩ := intAt_of W.kb hj
  obtain ⟨t', v', e'⟩ := intAt_of W.ka (show ia < a.size by omega)
  refine wpS_bind (wp_elem e (wpS_bind (wp_elem e' (wpS_bind (wp_lt (hl.1.trans hk) ?_)))))
  dsimp only
  by_cases l : K b ib < K a ia
  · simp only [l, decide_true, if_true]
    refine wpS_bind (wp_elem e ?_)
    have m' := m.oneB W.sb e hj fun i i1 i2 => Int.le_trans (Int.le_of_lt l) (W.sa ia i i1 i2)
    by_cases z : ib + 1 = b.size
    · rw [if_pos (by simpa using z)]
      exact wpS_pure ⟨hl, .inl ⟨_, rfl, end_b W m' (by omega)⟩⟩
    · rw [if_neg (by simpa using z)]
      have g : Go a b (n + 1) (O.push (.int (K b ib) t, v)) ia (ib + 1) := ⟨m', hi, by omega, by omega⟩
      by_cases d : bc + 1 ≥ mg
      · rw [if_pos d]
        exact wpS_pure ⟨hl, .inr ⟨rfl, g⟩⟩
      · rw [if_neg d]
        exact wpS_pure ⟨hl, rfl, g⟩
  · simp only [l, decide_false, Bool.false_eq_true, if_false]
    refine wpS_bind (wp_elem e' ?_)
    have m' := m.one W.sa e' (by omega) fun i i1 i2 => Int.le_trans (Int.not_lt.mp l) (W.sb ib i i1 i2)
    by_cases z : ia + 1 + 1 = a.size
    · rw [if_pos (by simpa using z)]
      exact wpS_pure ⟨hl, .inl ⟨_, rfl, end_a W m' (by omega)⟩⟩
    · rw [if_neg (by simpa using z)]
      have g : Go a b (n + 1) (O.push (.int (K a ia) t', v')) (ia + 1) ib := ⟨m', by omega, hj, by omega⟩
      by_cases d : ac + 1 ≥ mg
      · rw [if_pos d]
        exact wpS_pure ⟨hl, .inr ⟨rfl, g⟩⟩
      · rw [if_neg d]
        exact wpS_pure ⟨hl, rfl, g⟩
theorem Go.mono {n m : Nat} {O : AK} {ia ib : Nat} (h : Go a b n O ia ib) (e : m ≤ n) : Go a b m O ia ib := ⟨h.1, h.2.1, h.2.2.1, Nat.le_trans e h.2.2.2⟩
theorem wp_lo0 (W : Two a b) {st : SortSt} {n : Nat} {c : T0} (hk : kindOf st₀ = oneType') (hl : Like st₀ st) (h : Go a b n c.2.1 c.2.2.1 c.2.2.2.1) :
    wpS (model prog w) A E s (lo0 a b c) (fun r st' => Like st₀ st' ∧ match r with
      | .done c => ∃ x, c.1 = some x ∧ Res a b x
      | .yield c => c.1 = none ∧ Go a b (n + 1) c.2.1 c.2.2.1 c.2.2.2.1) st := by
  refine wpS_bind (wpS_mono (wpS_forRange (I := fun x (d : T1) st' => Like st₀ st' ∧ d.1 = none ∧ Go a b (n + min x 1) d.2.1 d.2.2.1 d.2.2.2.1)
    (Q := fun (d : T1) st' => Like st₀ st' ∧ ((∃ x, d.1 = some x ∧ Res a b x) ∨ (d.1 = none ∧ Go a b (n + 1) d.2.1 d.2.2.1 d.2.2.2.1))) ?turn ?over ⟨hl, rfl, h⟩) ?aft)
  case turn =>
    rintro x d st' _ hx ⟨l, e, g⟩
    refine wpS_mono (wp_lo1 W hk l g) fun r st2 q => ?_
    obtain ⟨l2, q⟩ := q
    cases r with
    | done d =>
      rcases q with q | ⟨q, g⟩
      · exact ⟨l2, .inl q⟩
      · exact ⟨l2, .inr ⟨q, g.mono (by omega)⟩⟩
    | yield d => exact ⟨l2, q.1, q.2.mono (by omega)⟩
  case over =>
    rintro d st' ⟨l, e, g⟩
    have := W.a1
    exact ⟨l, .inr ⟨e, g.mono (by omega)⟩⟩
  case aft =>
    rintro d st' ⟨l, q⟩
    rcases q with ⟨x, e, q⟩ | ⟨e, g⟩
    · rw [e]
      exact wpS_pure ⟨l, x, rfl, q⟩
    · rw [e]
      dsimp only
      refine wpS_bind (wpS_lift (wpAny_rule ⟨rfl, ?_⟩))
      refine wpS_bind (wpS_mono (wpS_forRange (I := fun _ (d : T2) st' => Like st₀ st' ∧ d.1 = none ∧ Go a b (n + 1) d.2.1 d.2.2.1 d.2.2.2.1)
        (Q := fun (d : T2) st' => Like st₀ st' ∧ ((∃ x, d.1 = some x ∧ Res a b x) ∨ (d.1 = none ∧ Go a b (n + 1) d.2.1 d.2.2.1 d.2.2.2.1))) ?turn2 ?over2 ⟨l, rfl, g⟩) ?aft2)
      case turn2 =>
        rintro x d st' _ hx ⟨l, e, g⟩
        refine wpS_mono (wp_loG W hk l g) fun r st2 q => ?_
        obtain ⟨l2, q⟩ := q
        cases r with
        | done d => exact ⟨l2, q⟩
        | yield d => exact ⟨l2, q⟩
      case over2 =>
        rintro d st' ⟨l, e, g⟩
        exact ⟨l, .inr ⟨e, g⟩⟩
      case aft2 =>
        rintro d st' ⟨l, q⟩
        rcases q with ⟨x, e, q⟩ | ⟨e, g⟩
        · rw [e]
          exact wpS_pure ⟨l, x, rfl, q⟩
        · rw [e]
          dsimp only
          exact wpS_bind (wp_gal_set fun st2 l2 => wpS_pure ⟨l.trans l2, rfl, g⟩)
theorem MI.start (a b : AK) : MI a b [] 0 0 := ⟨by simp, List.Pairwise.nil, fun p hp => by simp at hp, fun p hp => by simp at hp⟩
theorem wp_lo (W : Two a b) {st : SortSt} {Q : AK → SortSt → Prop} (hk : kindOf st = oneType') (h : ∀ r st', Like st st' → Res a b r → Q r st') : wpS (model prog w) A E s (mergeLoP a b) Q st := by
  rw [lo_is]
  refine wpS_bind (wpS_lift (wpAny_rule ⟨rfl, ?_⟩))
  obtain ⟨t, v, e⟩ := intAt_of W.kb (show 0 < b.size from W.b1)
  refine wpS_bind (wp_elem e ?_)
  have m : MI a b (#[(Value.int (K b 0) t, v)] : AK).toList 0 1 := MI.oneB (O := #[]) (MI.start a b) W.sb e W.b1 fun i _ hi => W.first i hi
  by_cases z : 1 = b.size
  · rw [if_pos (by simpa using z)]
    exact wpS_pure (h _ _ (Like.refl _) (end_b W m (by omega)))
  · rw [if_neg (by simpa using z)]
    by_cases y : 0 + 1 = a.size
    · rw [if_pos (by simpa using y)]
      exact wpS_pure (h _ _ (Like.refl _) (end_a W m (by omega)))
    · rw [if_neg (by simpa using y)]
      have a1 := W.a1
      have b1 := W.b1
      refine wpS_bind (wpS_get ?_)
      refine wpS_bind (wpS_mono (wpS_forRange (I := fun x (d : T0) st' => Like st st' ∧ d.1 = none ∧ Go a b (x + 1) d.2.1 d.2.2.1 d.2.2.2.1) (Q := fun (d : T0) st' => Like st st' ∧ ∃ x, d.1 = some x ∧ Res a b x) ?turn ?over ⟨Like.refl _, rfl, m, (by show 0 + 1 < a.size; omega), (by show 1 < b.size; omega), (by show 0 + 1 ≤ 0 + 1; omega)⟩) ?aft)
      case turn =>
        rintro x d st' _ hx ⟨l, e, g⟩
        refine wpS_mono (wp_lo0 W hk l g) fun r st2 q => ?_
        obtain ⟨l2, q⟩ := q
        cases r with
        | done d => exact ⟨l2, q⟩
        | yield d => exact ⟨l2, q⟩
      case over =>
        rintro d st' ⟨l, e, g⟩
        have := g.2.1
        have := g.2.2.1
        have := g.2.2.2
        omega
      case aft =>
        rintro d st' ⟨l, x, e, q⟩
        rw [e]
        exact wpS_pure (h x st' l q)
end
end So

set_option Elab.async false
set_option linter.all false
set_option maxRecDepth 100000
set_option maxHeartbeats 4000000
namespace So
open PySem PyProof.Rows
structure MH (a b : AK) (O : List Keyed) (na nb : Nat) : Prop where
  perm : (a.toList.take na ++ (b.toList.take nb ++ O)).Perm (a.toList ++ b.toList)
  srt : O.Pairwise fun p q => key q ≤ key p
  la : ∀ p ∈ O, ∀ i, i < na → i < a.size → K a i ≤ key p
  lb : ∀ p ∈ O, ∀ i, i < nb → i < b.size → K b i ≤ key p
theorem MH.swap {a b : AK} {O : List Keyed} {na nb : Nat} (h : MH a b O na nb) : MH b a O nb na :=
  ⟨(List.perm_append_comm_assoc _ _ _).trans (h.perm.trans List.perm_append_comm), h.srt, h.lb, h.la⟩
theorem MH.app {a b : AK} {O : AK} {na nb m : Nat} (h : MH a b O.toList na nb) (sa : SortedTo a a.size) (hm : m ≤ na) (hn : na ≤ a.size) (le : ∀ i j, m ≤ i → i < na → j < nb → j < b.size → K b j ≤ K a i) :
    MH a b (O ++ (a.extract m na).reverse).toList m nb := by
  have es : (a.extract m na).toList = (a.toList.drop m).take (na - m) := by rw [Array.toList_extract, List.extract_eq_drop_take]
  have el : (O ++ (a.extract m na).reverse).toList = O.toList ++ ((a.toList.drop m).take (na - m)).reverse := by rw [Array.toList_append, Array.toList_reverse, es]
  have spl : a.toList.take na = a.toList.take m ++ (a.toList.drop m).take (na - m) := by
    rw [show na = m + (na - m) by omega, List.take_add, show m + (na - m) - m = na - m by omega]
  have mem : ∀ {p}, p ∈ ((a.toList.drop m).take (na - m)).reverse → ∃ n, m ≤ n ∧ n < na ∧ n < a.size ∧ key p = K a n := fun hp => ext_mem (List.mem_reverse.mp hp)
  rw [el]
  refine ⟨?_, ?_, ?_, ?_⟩
  · have := h.perm
    rw [spl, List.append_assoc] at this
    refine List.Perm.trans ?_ this
    refine (List.Perm.refl _).append ?_
    refine List.Perm.trans ((List.Perm.refl _).append ?_) (List.perm_append_comm_assoc _ _ _)
    exact List.perm_append_comm.trans ((List.reverse_perm _).append (List.Perm.refl _))
  · rw [List.pairwise_append]
    refine ⟨h.srt, List.pairwise_reverse.mpr (((srt_of sa).sublist (List.drop_sublist _ _)).sublist (List.take_sublist _ _)), fun p hp q hq => ?_⟩
    obtain ⟨n, n1, n2, n3, e⟩ := mem hq
    rw [e]
    exact h.la p hp n n2 n3
  · intro p hp i i1 i2
    rcases List.mem_append.mp hp with hp | hp
    · exact h.la p hp i (by omega) i2
    · obtain ⟨n, n1, n2, n3, e⟩ := mem hp
      rw [e]
      exact sa i n (by omega) n3
  · intro p hp i i1 i2
    rcases List.mem_append.mp hp with hp | hp
    · exact h.lb p hp i i1 i2
    · obtain ⟨n, n1, n2, n3, e⟩ := mem hp
      rw [e]
      exact le n i n1 n2 i1 i2
theorem MH.appB {a b : AK} {O : AK} {na nb m : Nat} (h : MH a b O.toList na nb) (sb : SortedTo b b.size) (hm : m ≤ nb) (hn : nb ≤ b.size) (le : ∀ j i, m ≤ j → j < nb → i < na → i < a.size → K a i ≤ K b j) :
    MH a b (O ++ (b.extract m nb).reverse).toList na m := (h.swap.app sb hm hn le).swap
theorem MH.one {a b : AK} {O : AK} {na nb : Nat} {p : Keyed} (h : MH a b O.toList na nb) (sa : SortedTo a a.size) (h0 : 0 < na) (hn : na ≤ a.size) (hp : a[na - 1]? = some p) (le : ∀ j, j < nb → j < b.size → K b j ≤ K a (na - 1)) :
    MH a b (O.push p).toList (na - 1) nb := by
  have := h.app (m := na - 1) sa (by omega) hn fun i j i1 i2 j1 j2 => by rw [show i = na - 1 by omega]; exact le j j1 j2
  have e : (O ++ (a.extract (na - 1) na).reverse).toList = (O.push p).toList := by
    rw [Array.toList_append, Array.toList_reverse, Array.toList_extract, List.extract_eq_drop_take, show na - (na - 1) = 1 by omega, take_one hp, Array.toList_push]
    rfl
  rw [e] at this
  exact this
theorem MH.oneB {a b : AK} {O : AK} {na nb : Nat} {p : Keyed} (h : MH a b O.toList na nb) (sb : SortedTo b b.size) (h0 : 0 < nb) (hn : nb ≤ b.size) (hp : b[nb - 1]? = some p) (le : ∀ j, j < na → j < a.size → K a j ≤ K b (nb - 1)) :
    MH a b (O.push p).toList na (nb - 1) := (h.swap.one sb h0 hn hp le).swap
theorem MH.end {a b : AK} {O : AK} {na nb : Nat} (h : MH a b O.toList na nb) (sa : SortedTo a a.size) (sb : SortedTo b b.size) (le : ∀ i j, i < na → i < a.size → j < nb → j < b.size → K a i ≤ K b j) :
    Res a b (a.extract 0 na ++ b.extract 0 nb ++ O.reverse) := by
  have ex : ∀ (x : AK) (n : Nat), (x.extract 0 n).toList = x.toList.take n := fun x n => by rw [Array.toList_extract, List.extract_eq_drop_take]; simp
  have mem : ∀ {x : AK} {n : Nat} {p : Keyed}, p ∈ x.toList.take n → ∃ i, i < n ∧ i < x.size ∧ key p = K x i := fun {x n p} hp => by
    obtain ⟨i, _, i2, i3, e⟩ := ext_mem (a := x) (i := 0) (j := n) (by simpa using hp)
    exact ⟨i, i2, i3, e⟩
  unfold Res
  rw [Array.toList_append, Array.toList_append, ex, ex, Array.toList_reverse, List.append_assoc]
  refine ⟨((List.Perm.refl _).append ((List.Perm.refl _).append (List.reverse_perm _))).trans h.perm, ?_⟩
  rw [List.pairwise_append, List.pairwise_append]
  refine ⟨(srt_of sa).sublist (List.take_sublist _ _), ⟨(srt_of sb).sublist (List.take_sublist _ _), List.pairwise_reverse.mpr h.srt, fun p hp q hq => ?_⟩, fun p hp q hq => ?_⟩
  · obtain ⟨j, j1, j2, e⟩ := mem hp
    rw [e]
    exact h.lb q (List.mem_reverse.mp hq) j j1 j2
  · obtain ⟨i, i1, i2, e⟩ := mem hp
    rw [e]
    rcases List.mem_append.mp hq with hq | hq
    · obtain ⟨j, j1, j2, e'⟩ := mem hq
      rw [e']
      exact le i j i1 i2 j1 j2
    · exact h.la q (List.mem_reverse.mp hq) i i1 i2
theorem MH.endB {a b : AK} {O : AK} {na nb : Nat} (h : MH a b O.toList na nb) (sa : SortedTo a a.size) (sb : SortedTo b b.size) (le : ∀ j i, j < nb → j < b.size → i < na → i < a.size → K b j ≤ K a i) :
    Res a b (b.extract 0 nb ++ a.extract 0 na ++ O.reverse) := (h.swap.end sb sa le).swap
theorem MH.start (a b : AK) : MH a b [] a.size b.size := ⟨by simp [← Array.length_toList], List.Pairwise.nil, fun p hp => by simp at hp, fun p hp => by simp at hp⟩

noncomputable def mergeHiP : AK → AK → StateT SortSt Sem AK := sortPriv% PySem.Builtin.mergeHi
noncomputable abbrev H0 := Option AK × Nat × Nat × AK × Nat
noncomputable abbrev H1 := Option AK × Nat × Nat × AK × Nat × Nat
noncomputable abbrev H2 := Option AK × Nat × Nat × AK × Nat × Nat × Nat
noncomputable abbrev aFirst (a b out : AK) (na nb : Nat) : AK := a.extract 0 na ++ b.extract 0 nb ++ out.reverse
noncomputable abbrev bFirst (a b out : AK) (na nb : Nat) : AK := b.extract 0 nb ++ a.extract 0 na ++ out.reverse
noncomputable def hi1 (a b : AK) (mg : Nat) (c : H1) : StateT SortSt Sem (ForInStep H1) :=
  elem' b (c.2.2.1 - 1) >>= fun y => elem' a (c.2.1 - 1) >>= fun x => lt' y x >>= fun o => match o with
  | some w => if w = true then elem' a (c.2.1 - 1) >>= fun x =>
        if (c.2.1 - 1 == 0) = true then pure (.done (some (aFirst a b (c.2.2.2.1.push x) (c.2.1 - 1) c.2.2.1), c.2.1 - 1, c.2.2.1, c.2.2.2.1.push x, c.2.2.2.2.1 + 1, 0))
        else if c.2.2.2.2.1 + 1 ≥ mg then pure (.done (none, c.2.1 - 1, c.2.2.1, c.2.2.2.1.push x, c.2.2.2.2.1 + 1, 0)) else pure (.yield (none, c.2.1 - 1, c.2.2.1, c.2.2.2.1.push x, c.2.2.2.2.1 + 1, 0))
      else elem' b (c.2.2.1 - 1) >>= fun y =>
        if (c.2.2.1 - 1 == 1) = true then pure (.done (some (bFirst a b (c.2.2.2.1.push y) c.2.1 (c.2.2.1 - 1)), c.2.1, c.2.2.1 - 1, c.2.2.2.1.push y, 0, c.2.2.2.2.2 + 1))
        else if c.2.2.2.2.2 + 1 ≥ mg then pure (.done (none, c.2.1, c.2.2.1 - 1, c.2.2.2.1.push y, 0, c.2.2.2.2.2 + 1)) else pure (.yield (none, c.2.1, c.2.2.1 - 1, c.2.2.2.1.push y, 0, c.2.2.2.2.2 + 1))
  | _ => pure (.done (some (aFirst a b c.2.2.2.1 c.2.1 c.2.2.1), c.2.1, c.2.2.1, c.2.2.2.1, c.2.2.2.2.1, c.2.2.2.2.2))
noncomputable def hi5 (a b : AK) (mg k q na nb : Nat) (out : AK) : StateT SortSt Sem (ForInStep H2) := elem' a (na - 1) >>= fun x =>
  if (na - 1 == 0) = true then pure (.done (some (aFirst a b (out.push x) (na - 1) nb), na - 1, nb, out.push x, mg, k, q))
  else if (decide (k < 7) && decide (q < 7)) = true then pure (.done (none, na - 1, nb, out.push x, mg, k, q)) else pure (.yield (none, na - 1, nb, out.push x, mg, k, q))
noncomputable def hi4 (a b : AK) (mg k bc na nb : Nat) (out : AK) : StateT SortSt Sem (ForInStep H2) := elem' a (na - 1) >>= fun x => gallopP true x b 0 nb (nb - 1) >>= fun o => match o with
  | some m => if nb - m > 0 then (if (m == 1) = true then pure (.done (some (bFirst a b (out ++ (b.extract m nb).reverse) na m), na, m, out ++ (b.extract m nb).reverse, mg, k, nb - m))
      else if (m == 0) = true then pure (.done (some (aFirst a b (out ++ (b.extract m nb).reverse) na m), na, m, out ++ (b.extract m nb).reverse, mg, k, nb - m)) else hi5 a b mg k (nb - m) na m (out ++ (b.extract m nb).reverse))
    else hi5 a b mg k (nb - m) na nb out
  | _ => pure (.done (some (aFirst a b out na nb), na, nb, out, mg, k, bc))
noncomputable def hi3 (a b : AK) (mg k bc na nb : Nat) (out : AK) : StateT SortSt Sem (ForInStep H2) := elem' b (nb - 1) >>= fun y =>
  if (nb - 1 == 1) = true then pure (.done (some (bFirst a b (out.push y) na (nb - 1)), na, nb - 1, out.push y, mg, k, bc)) else hi4 a b mg k bc na (nb - 1) (out.push y)
noncomputable def hi2 (a b : AK) (mg ac bc na nb : Nat) (out : AK) : StateT SortSt Sem (ForInStep H2) := setGalP mg >>= fun _ => elem' b (nb - 1) >>= fun y => gallopP false y a 0 na (na - 1) >>= fun o => match o with
  | some m => if na - m > 0 then (if (m == 0) = true then pure (.done (some (aFirst a b (out ++ (a.extract m na).reverse) m nb), m, nb, out ++ (a.extract m na).reverse, mg, na - m, bc)) else hi3 a b mg (na - m) bc m nb (out ++ (a.extract m na).reverse))
    else hi3 a b mg (na - m) bc na nb out
  | _ => pure (.done (some (aFirst a b out na nb), na, nb, out, mg, ac, bc))
noncomputable def hiG (a b : AK) (c : H2) : StateT SortSt Sem (ForInStep H2) := if c.2.2.2.2.1 > 1 then hi2 a b (c.2.2.2.2.1 - 1) c.2.2.2.2.2.1 c.2.2.2.2.2.2 c.2.1 c.2.2.1 c.2.2.2.1 else hi2 a b c.2.2.2.2.1 c.2.2.2.2.2.1 c.2.2.2.2.2.2 c.2.1 c.2.2.1 c.2.2.2.1
noncomputable def hi0 (a b : AK) (c : H0) : StateT SortSt Sem (ForInStep H0) :=
  forIn [0:a.size + b.size] ((none, c.2.1, c.2.2.1, c.2.2.2.1, 0, 0) : H1) (fun _ d => hi1 a b c.2.2.2.2 d) >>= fun d => match d.1 with
  | some r => pure (.done (some r, d.2.1, d.2.2.1, d.2.2.2.1, c.2.2.2.2))
  | none => liftM (rule "list.sort.gallop") >>= fun _ => forIn [0:a.size + b.size] ((none, d.2.1, d.2.2.1, d.2.2.2.1, c.2.2.2.2 + 1, d.2.2.2.2.1, d.2.2.2.2.2) : H2) (fun _ e => hiG a b e) >>= fun e => match e.1 with
    | some r => pure (.done (some r, e.2.1, e.2.2.1, e.2.2.2.1, e.2.2.2.2.1))
    | none => setGalP (e.2.2.2.2.1 + 1) >>= fun _ => pure (.yield (none, e.2.1, e.2.2.1, e.2.2.2.1, e.2.2.2.2.1 + 1))
noncomputable def hi (a b : AK) : StateT SortSt Sem AK := liftM (rule "list.sort.merge-hi") >>= fun _ => elem' a (a.size - 1) >>= fun x =>
  if (a.size - 1 == 0) = true then pure (aFirst a b #[x] (a.size - 1) b.size) else if (b.size == 1) = true then pure (bFirst a b #[x] (a.size - 1) b.size) else get >>= fun st =>
  forIn [0:a.size + b.size] ((none, a.size - 1, b.size, #[x], gallopOf st) : H0) (fun _ c => hi0 a b c) >>= fun c => match c.1 with
  | some r => pure r
  | none => liftM (unsupported (α := AK) "internal:list.sort.merge-bound")
theorem hi_is (a b : AK) : mergeHiP a b = hi a b := by kernel_rfl
section
variable {prog : Program} {w : World} {A : Around} {E : Value → Shared → Prop} {s : Shared} {a b : AK} {st₀ : SortSt}
noncomputable def GoH (a b : AK) (n na nb : Nat) (out : AK) : Prop := MH a b out.toList na nb ∧ 0 < na ∧ 1 < nb ∧ na ≤ a.size ∧ nb ≤ b.size ∧ n + na + nb ≤ a.size + b.size
noncomputable def F2 (a b : AK) (st₀ : SortSt) (n : Nat) (r : ForInStep H2) (st' : SortSt) : Prop := Like st₀ st' ∧ match r with
  | .done c => (∃ x, c.1 = some x ∧ Res a b x) ∨ (c.1 = none ∧ GoH a b n c.2.1 c.2.2.1 c.2.2.2.1)
  | .yield c => c.1 = none ∧ GoH a b n c.2.1 c.2.2.1 c.2.2.2.1
noncomputable def F1 (a b : AK) (st₀ : SortSt) (n : Nat) (r : ForInStep H1) (st' : SortSt) : Prop := Like st₀ st' ∧ match r with
  | .done c => (∃ x, c.1 = some x ∧ Res a b x) ∨ (c.1 = none ∧ GoH a b n c.2.1 c.2.2.1 c.2.2.2.1)
  | .yield c => c.1 = none ∧ GoH a b n c.2.1 c.2.2.1 c.2.2.2.1
theorem GoH.mono {n m na nb : Nat} {O : AK} (h : GoH a b n na nb O) (e : m ≤ n) : GoH a b m na nb O := ⟨h.1, h.2.1, h.2.2.1, h.2.2.2.1, h.2.2.2.2.1, Nat.le_trans (by omega) h.2.2.2.2.2⟩
theorem fin_a (W : Two a b) {O : AK} {na nb : Nat} (h : MH a b O.toList na nb) (e : na = 0) : Res a b (aFirst a b O na nb) := h.end W.sa W.sb fun i j i1 _ _ _ => by omega
theorem fin_b (W : Two a b) {O : AK} {na nb : Nat} (h : MH a b O.toList na nb) (e : nb ≤ 1) : Res a b (bFirst a b O na nb) := h.endB W.sa W.sb fun j i j1 j2 i1 i2 => by
  rw [show j = 0 by omega]
  exact W.first i i2
theorem wp_hi5 (W : Two a b) {st : SortSt} {mg k q n na nb : Nat} {O : AK} (hl : Like st₀ st) (h : GoH a b n na nb O) (le : ∀ j, j < nb → K b j ≤ K a (na - 1)) : wpS (model prog w) A E s (hi5 a b mg k q na nb O) (F2 a b st₀ n) st := by
  obtain ⟨m, h1, h2, h3, h4, h5⟩ := h
  obtain ⟨t, v, e⟩ := intAt_of W.ka (show na - 1 < a.size by omega)
  refine wpS_bind (wp_elem e ?_)
  have m' := m.one W.sa h1 h3 e fun j j1 _ => le j j1
  by_cases c : na - 1 = 0
  · rw [if_pos (by simpa using c)]
    exact wpS_pure ⟨hl, .inl ⟨_, rfl, fin_a W m' c⟩⟩
  · rw [if_neg (by simpa using c)]
    have g : GoH a b n (na - 1) nb (O.push (.int (K a (na - 1)) t, v)) := ⟨m', by omega, h2, by omega, h4, by omega⟩
    by_cases d : (decide (k < 7) && decide (q < 7)) = true
    · rw [if_pos d]
      exact wpS_pure ⟨hl, .inr ⟨rfl, g⟩⟩
    · rw [if_neg d]
      exact wpS_pure ⟨hl, rfl, g⟩
theorem wp_hi4 (W : Two a b) {st : SortSt} {mg k bc n na nb : Nat} {O : AK} (hk : kindOf st₀ = oneType') (hl : Like st₀ st) (h : GoH a b n na nb O) : wpS (model prog w) A E s (hi4 a b mg k bc na nb O) (F2 a b st₀ n) st := by
  obtain ⟨m, h1, h2, h3, h4, h5⟩ := h
  obtain ⟨t, v, e⟩ := intAt_of W.ka (show na - 1 < a.size by omega)
  refine wpS_bind (wp_elem e ?_)
  refine wpS_bind (wp_gal (hl.1.trans hk) (fun i hi => intAt_of W.kb (by omega)) (fun i j hij hj => W.sb _ _ (by omega) (by omega)) (by omega) fun q cut => ?_)
  obtain ⟨q1, q2, q3⟩ := cut
  have q2 : ∀ i, i < q → K b i < K a (na - 1) := fun i hi => by simpa [beyB] using q2 i hi
  have q3 : ∀ i, q ≤ i → i < nb → K a (na - 1) ≤ K b i := fun i i1 i2 => by simpa [beyB] using q3 i i1 i2
  dsimp only
  by_cases z : nb - q > 0
  · rw [if_pos z]
    have m' := m.appB (m := q) W.sb (by omega) h4 fun j i j1 j2 i1 i2 => Int.le_trans (W.sa i (na - 1) (by omega) (by omega)) (q3 j j1 j2)
    by_cases c : q = 1
    · rw [if_pos (by simpa using c)]
      exact wpS_pure ⟨hl, .inl ⟨_, rfl, fin_b W m' (by omega)⟩⟩
    · rw [if_neg (by simpa using c)]
      by_cases d : q = 0
      · rw [if_pos (by simpa using d)]
        exact wpS_pure ⟨hl, .inl ⟨_, rfl, m'.end W.sa W.sb fun i j _ _ j1 _ => by omega⟩⟩
      · rw [if_neg (by simpa using d)]
        exact wp_hi5 W hl ⟨m', h1, by omega, h3, by omega, by omega⟩ fun j j1 => Int.le_of_lt (q2 j j1)
  · rw [if_neg z]
    exact wp_hi5 W hl ⟨m, h1, h2, h3, h4, h5⟩ fun j j1 => Int.le_of_lt (q2 j (by omega))
theorem wp_hi3 (W : Two a b) {st : SortSt} {mg k bc n na nb : Nat} {O : AK} (hk : kindOf st₀ = oneType') (hl : Like st₀ st) (h : GoH a b n na nb O) (le : ∀ i, i < na → K a i ≤ K b (nb - 1)) : wpS (model prog w) A E s (hi3 a b mg k bc na nb O) (F2 a b st₀ n) st := by
  obtain ⟨m, h1, h2, h3, h4, h5⟩ := h
  obtain ⟨t, v, e⟩ := intAt_of W.kb (show nb - 1 < b.size by omega)
  refine wpS_bind (wp_elem e ?_)
  have m' := m.oneB W.sb (by omega) h4 e fun j j1 _ => le j j1
  by_cases c : nb - 1 = 1
  · rw [if_pos (by simpa using c)]
    exact wpS_pure ⟨hl, .inl ⟨_, rfl, fin_b W m' (by omega)⟩⟩
  · rw [if_neg (by simpa using c)]
    exact wp_hi4 W hk hl ⟨m', h1, by omega, h3, by omega, by omega⟩
theorem wp_hi2 (W : Two a b) {st : SortSt} {mg ac bc n na nb : Nat} {O : AK} (hk : kindOf st₀ = oneType') (hl : Like st₀ st) (h : GoH a b n na nb O) : wpS (model prog w) A E s (hi2 a b mg ac bc na nb O) (F2 a b st₀ n) st := by
  obtain ⟨m, h1, h2, h3, h4, h5⟩ := h
  refine wpS_bind (wp_gal_set fun st' hl' => ?_)
  have hl := hl.trans hl'
  obtain ⟨t, v, e⟩ := intAt_of W.kb (show nb - 1 < b.size by omega)
  refine wpS_bind (wp_elem e ?_)
  refine wpS_bind (wp_gal (hl.1.trans hk) (fun i hi => intAt_of W.ka (by omega)) (fun i j hij hj => W.sa _ _ (by omega) (by omega)) (by omega) fun q cut => ?_)
  obtain ⟨q1, q2, q3⟩ := cut
  have q2 : ∀ i, i < q → K a i ≤ K b (nb - 1) := fun i hi => by simpa [beyB] using q2 i hi
  have q3 : ∀ i, q ≤ i → i < na → K b (nb - 1) < K a i := fun i i1 i2 => by simpa [beyB] using q3 i i1 i2
  dsimp only
  by_cases z : na - q > 0
  · rw [if_pos z]
    have m' := m.app (m := q) W.sa (by omega) h3 fun i j i1 i2 j1 j2 => Int.le_trans (W.sb j (nb - 1) (by omega) (by omega)) (Int.le_of_lt (q3 i i1 i2))
    by_cases c : q = 0
    · rw [if_pos (by simpa using c)]
      exact wpS_pure ⟨hl, .inl ⟨_, rfl, fin_a W m' c⟩⟩
    · rw [if_neg (by simpa using c)]
      exact wp_hi3 W hk hl ⟨m', by omega, h2, by omega, h4, by omega⟩ q2
  · rw [if_neg z]
    exact wp_hi3 W hk hl ⟨m, h1, h2, h3, h4, h5⟩ fun i i1 => q2 i (by omega)
theorem wp_hiG (W : Two a b) {st : SortSt} {n : Nat} {c : H2} (hk : kindOf st₀ = oneType') (hl : Like st₀ st) (h : GoH a b n c.2.1 c.2.2.1 c.2.2.2.1) : wpS (model prog w) A E s (hiG a b c) (F2 a b st₀ n) st := by
  unfold hiG
  by_cases g : c.2.2.2.2.1 > 1
  · rw [if_pos g]
    exact wp_hi2 W hk hl h
  · rw [if_neg g]
    exact wp_hi2 W hk hl h
theorem wp_hi1 (W : Two a b) {st : SortSt} {mg n : Nat} {c : H1} (hk : kindOf st₀ = oneType') (hl : Like st₀ st) (h : GoH a b n c.2.1 c.2.2.1 c.2.2.2.1) : wpS (model prog w) A E s (hi1 a b mg c) (F1 a b st₀ (n + 1)) st := by
  obtain ⟨r, na, nb, O, ac, bc⟩ := c
  obtain ⟨m, h1, h2, h3, h4, h5⟩ := h
  dsimp only at m h1 h2 h3 h4 h5
  obtain ⟨t, v, e⟩ := intAt_of W.kb (show nb - 1 < b.size by omega)
  obtain ⟨t', v', e'⟩ := intAt_of W.ka (show na - 1 < a.size by omega)
  refine wpS_bind (wp_elem e (wpS_bind (wp_elem e' (wpS_bind (wp_lt (hl.1.trans hk) ?_)))))
  dsimp only
  by_cases l : K b (nb - 1) < K a (na - 1)
  · simp only [l, decide_true, if_true]
    refine wpS_bind (wp_elem e' ?_)
    have m' := m.one W.sa h1 h3 e' fun j j1 j2 => Int.le_trans (W.sb j (nb - 1) (by omega) (by omega)) (Int.le_of_lt l)
    by_cases z : na - 1 = 0
    · rw [if_pos (by simpa using z)]
      exact wpS_pure ⟨hl, .inl ⟨_, rfl, fin_a W m' z⟩⟩
    · rw [if_neg (by simpa using z)]
      have g : GoH a b (n + 1) (na - 1) nb (O.push (.int (K a (na - 1)) t', v')) := ⟨m', by omega, h2, by omega, h4, by omega⟩
      by_cases d : ac + 1 ≥ mg
      · rw [if_pos d]
        exact wpS_pure ⟨hl, .inr ⟨rfl, g⟩⟩
      · rw [if_neg d]
        exact wpS_pure ⟨hl, rfl, g⟩
  · simp only [l, decide_false, Bool.false_eq_true, if_false]
    refine wpS_bind (wp_elem e ?_)
    have m' := m.oneB W.sb (by omega) h4 e fun j j1 j2 => Int.le_trans (W.sa j (na - 1) (by omega) (by omega)) (Int.not_lt.mp l)
    by_cases z : nb - 1 = 1
    · rw [if_pos (by simpa using z)]
      exact wpS_pure ⟨hl, .inl ⟨_, rfl, fin_b W m' (by omega)⟩⟩
    · rw [if_neg (by simpa using z)]
      have g : GoH a b (n + 1) na (nb - 1) (O.push (.int (K b (nb - 1)) t, v)) := ⟨m', h1, by omega, h3, by omega, by omega⟩
      by_cases d : bc + 1 ≥ mg
      · rw [if_pos d]
        exact wpS_pure ⟨hl, .inr ⟨rfl, g⟩⟩
      · rw [if_neg d]
        exact wpS_pure ⟨hl, rfl, g⟩
theorem wp_hi0 (W : Two a b) {st : SortSt} {n : Nat} {c : H0} (hk : kindOf st₀ = oneType') (hl : Like st₀ st) (h : GoH a b n c.2.1 c.2.2.1 c.2.2.2.1) :
    wpS (model prog w) A E s (hi0 a b c) (fun r st' => Like st₀ st' ∧ match r with
      | .done c => ∃ x, c.1 = some x ∧ Res a b x
      | .yield c => c.1 = none ∧ GoH a b (n + 1) c.2.1 c.2.2.1 c.2.2.2.1) st := by
  refine wpS_bind (wpS_mono (wpS_forRange (I := fun x (d : H1) st' => Like st₀ st' ∧ d.1 = none ∧ GoH a b (n + min x 1) d.2.1 d.2.2.1 d.2.2.2.1)
    (Q := fun (d : H1) st' => Like st₀ st' ∧ ((∃ x, d.1 = some x ∧ Res a b x) ∨ (d.1 = none ∧ GoH a b (n + 1) d.2.1 d.2.2.1 d.2.2.2.1))) ?turn ?over ⟨hl, rfl, h⟩) ?aft)
  case turn =>
    rintro x d st' _ hx ⟨l, e, g⟩
    refine wpS_mono (wp_hi1 W hk l g) fun r st2 q => ?_
    obtain ⟨l2, q⟩ := q
    cases r with
    | done d =>
      rcases q with q | ⟨q, g⟩
      · exact ⟨l2, .inl q⟩
      · exact ⟨l2, .inr ⟨q, g.mono (by omega)⟩⟩
    | yield d => exact ⟨l2, q.1, q.2.mono (by omega)⟩
  case over =>
    rintro d st' ⟨l, e, g⟩
    have := W.a1
    exact ⟨l, .inr ⟨e, g.mono (by omega)⟩⟩
  case aft =>
    rintro d st' ⟨l, q⟩
    rcases q with ⟨x, e, q⟩ | ⟨e, g⟩
    · rw [e]
      exact wpS_pure ⟨l, x, rfl, q⟩
    · rw [e]
      dsimp only
      refine wpS_bind (wpS_lift (wpAny_rule ⟨rfl, ?_⟩))
      refine wpS_bind (wpS_mono (wpS_forRange (I := fun _ (d : H2) st' => Like st₀ st' ∧ d.1 = none ∧ GoH a b (n + 1) d.2.1 d.2.2.1 d.2.2.2.1)
        (Q := fun (d : H2) st' => Like st₀ st' ∧ ((∃ x, d.1 = some x ∧ Res a b x) ∨ (d.1 = none ∧ GoH a b (n + 1) d.2.1 d.2.2.1 d.2.2.2.1))) ?turn2 ?over2 ⟨l, rfl, g⟩) ?aft2)
      case turn2 =>
        rintro x d st' _ hx ⟨l, e, g⟩
        refine wpS_mono (wp_hiG W hk l g) fun r st2 q => ?_
        obtain ⟨l2, q⟩ := q
        cases r with
        | done d => exact ⟨l2, q⟩
        | yield d => exact ⟨l2, q⟩
      case over2 =>
        rintro d st' ⟨l, e, g⟩
        exact ⟨l, .inr ⟨e, g⟩⟩
      case aft2 =>
        rintro d st' ⟨l, q⟩
        rcases q with ⟨x, e, q⟩ | ⟨e, g⟩
        · rw [e]
          exact wpS_pure ⟨l, x, rfl, q⟩
        · rw [e]
          dsimp only
          exact wpS_bind (wp_gal_set fun st2 l2 => wpS_pure ⟨l.trans l2, rfl, g⟩)
theorem wp_hi (W : Two a b) {st : SortSt} {Q : AK → SortSt → Prop} (hk : kindOf st = oneType') (h : ∀ r st', Like st st' → Res a b r → Q r st') : wpS (model prog w) A E s (mergeHiP a b) Q st := by
  rw [hi_is]
  have a1 := W.a1
  have b1 := W.b1
  refine wpS_bind (wpS_lift (wpAny_rule ⟨rfl, ?_⟩))
  obtain ⟨t, v, e⟩ := intAt_of W.ka (show a.size - 1 < a.size by omega)
  refine wpS_bind (wp_elem e ?_)
  have m : MH a b (#[(Value.int (K a (a.size - 1)) t, v)] : AK).toList (a.size - 1) b.size := MH.one (O := #[]) (MH.start a b) W.sa W.a1 (Nat.le_refl _) e fun j j1 _ => W.last j j1
  by_cases z : a.size - 1 = 0
  · rw [if_pos (by simpa using z)]
    exact wpS_pure (h _ _ (Like.refl _) (fin_a W m z))
  · rw [if_neg (by simpa using z)]
    by_cases y : b.size = 1
    · rw [if_pos (by simpa using y)]
      exact wpS_pure (h _ _ (Like.refl _) (fin_b W m (by omega)))
    · rw [if_neg (by simpa using y)]
      refine wpS_bind (wpS_get ?_)
      refine wpS_bind (wpS_mono (wpS_forRange (I := fun x (d : H0) st' => Like st st' ∧ d.1 = none ∧ GoH a b (x + 1) d.2.1 d.2.2.1 d.2.2.2.1) (Q := fun (d : H0) st' => Like st st' ∧ ∃ x, d.1 = some x ∧ Res a b x) ?turn ?over
        ⟨Like.refl _, rfl, m, (by show 0 < a.size - 1; omega), (by show 1 < b.size; omega), Nat.sub_le _ _, Nat.le_refl _, (by show 0 + 1 + (a.size - 1) + b.size ≤ a.size + b.size; omega)⟩) ?aft)
      case turn =>
        rintro x d st' _ hx ⟨l, e, g⟩
        refine wpS_mono (wp_hi0 W hk l g) fun r st2 q => ?_
        obtain ⟨l2, q⟩ := q
        cases r with
        | done d => exact ⟨l2, q⟩
        | yield d => exact ⟨l2, q⟩
      case over =>
        rintro d st' ⟨l, e, g⟩
        have := g.2.1
        have := g.2.2.2.2.2
        omega
      case aft =>
        rintro d st' ⟨l, x, e, q⟩
        rw [e]
        exact wpS_pure (h x st' l q)
end
end So

set_option Elab.async false
set_option linter.all false
set_option maxRecDepth 100000
set_option maxHeartbeats 4000000
namespace So
open PySem PyProof.Rows
noncomputable def lay (x : AK) (at_ : Nat) (r : AK) : AK := r.toList.zipIdx.foldl (fun a p => a.setIfInBounds (at_ + p.2) p.1) x
noncomputable def mF (at_ : Nat) (r : AK) : StateT SortSt Sem Bool := modify (fun s => setArr s (lay (arrOf s) at_ r)) >>= fun _ => get >>= fun s => pure (failedOf s).isNone
noncomputable def mA (i : Nat) : StateT SortSt Sem Bool := get >>= fun s => match ((pendingOf s)[i]?, (pendingOf s)[i + 1]?) with
  | (some (sa, na, pw), some (sb, nb, _)) => set (setPending s (((pendingOf s).setIfInBounds i (sa, na + nb, pw)).eraseIdxIfInBounds (i + 1))) >>= fun _ =>
    elem' (arrOf s) sb >>= fun y => gallopP false y (arrOf s) sa na 0 >>= fun o => match o with
    | some k => if (na - k == 0) = true then pure true else elem' (arrOf s) (sa + k + (na - k) - 1) >>= fun x => gallopP true x (arrOf s) sb nb (nb - 1) >>= fun o => match o with
      | some m => if (m == 0) = true then pure true else if na - k ≤ m then mergeLoP ((arrOf s).extract (sa + k) sb) ((arrOf s).extract sb (sb + m)) >>= fun r => mF (sa + k) r
        else mergeHiP ((arrOf s).extract (sa + k) sb) ((arrOf s).extract sb (sb + m)) >>= fun r => mF (sa + k) r
      | _ => pure false
    | _ => pure false
  | _ => liftM (unsupported (α := Bool) "internal:list.sort.pending")
theorem mA_is (i : Nat) : mergeAt' i = mA i := by kernel_rfl
theorem lay_go : ∀ (l : List Keyed) (x : AK) (at_ n : Nat) (i : Nat), ((l.zipIdx n).foldl (fun a p => a.setIfInBounds (at_ + p.2) p.1) x).size = x.size ∧
    ((l.zipIdx n).foldl (fun a p => a.setIfInBounds (at_ + p.2) p.1) x)[i]? = if at_ + n ≤ i ∧ i < at_ + n + l.length ∧ i < x.size then l[i - (at_ + n)]? else x[i]?
  | [], x, at_, n, i => by
    refine ⟨rfl, ?_⟩
    rw [if_neg (by simp; omega)]
    rfl
  | p :: l, x, at_, n, i => by
    rw [List.zipIdx_cons, List.foldl_cons]
    obtain ⟨h1, h2⟩ := lay_go l (x.setIfInBounds (at_ + n) p) at_ (n + 1) i
    refine ⟨by rw [h1, Array.size_setIfInBounds], ?_⟩
    rw [h2, Array.size_setIfInBounds, Array.getElem?_setIfInBounds]
    by_cases c : at_ + (n + 1) ≤ i ∧ i < at_ + (n + 1) + l.length ∧ i < x.size
    · rw [if_pos c, if_pos (by simp; omega), show i - (at_ + n) = (i - (at_ + (n + 1))) + 1 by omega, List.getElem?_cons_succ]
    · rw [if_neg c]
      by_cases e : at_ + n = i
      · rw [if_pos e]
        by_cases z : at_ + n < x.size
        · rw [if_pos z, if_pos (by simp; omega), show i - (at_ + n) = 0 by omega]
          rfl
        · rw [if_neg z, if_neg (by omega), Array.getElem?_eq_none (by omega)]
      · rw [if_neg e, if_neg (by simp only [List.length_cons]; omega)]
theorem lay_size (x : AK) (at_ : Nat) (r : AK) : (lay x at_ r).size = x.size := (lay_go r.toList x at_ 0 0).1
theorem lay_list {x r : AK} {at_ : Nat} (h : at_ + r.size ≤ x.size) : (lay x at_ r).toList = x.toList.take at_ ++ (r.toList ++ x.toList.drop (at_ + r.size)) := by
  refine List.ext_getElem? fun i => ?_
  have e := (lay_go r.toList x at_ 0 i).2
  rw [Array.getElem?_toList, show (lay x at_ r)[i]? = _ from e, Array.length_toList]
  by_cases c : i < at_
  · rw [if_neg (by omega), List.getElem?_append_left (by simp; omega), List.getElem?_take_of_lt c, Array.getElem?_toList]
  · rw [List.getElem?_append_right (by simp; omega)]
    have e1 : i - (x.toList.take at_).length = i - at_ := by simp; omega
    rw [e1]
    by_cases d : i < at_ + r.size
    · rw [if_pos (by omega), List.getElem?_append_left (by simp; omega)]
      rfl
    · rw [if_neg (by omega), List.getElem?_append_right (by simp; omega), List.getElem?_drop, Array.getElem?_toList]
      congr 1
      rw [Array.length_toList]
      omega
section
variable {prog : Program} {w : World} {A : Around} {E : Value → Shared → Prop} {s : Shared} {a₀ : AK}
theorem wp_set {st st' : SortSt} {Q : PUnit → SortSt → Prop} (h : Q ⟨⟩ st') : wpS (model prog w) A E s (set st' : StateT SortSt Sem PUnit) Q st := by
  unfold wpS
  rw [StateT.run_set]
  exact wpAny_pure ⟨rfl, h⟩
theorem ext_key {x : AK} {i j n : Nat} (h : n < (x.extract i j).size) : K (x.extract i j) n = K x (i + n) := by
  have e : (x.extract i j)[n]? = x[i + n]? := by
    rw [Array.size_extract] at h
    rw [Array.getElem?_extract, if_pos (by omega)]
  unfold K
  rw [e]
theorem keys_ext {x : AK} (h : IntKeys x) (i j : Nat) : IntKeys (x.extract i j) := fun p hp => h p (by
  rw [Array.toList_extract, List.extract_eq_drop_take] at hp
  exact List.mem_of_mem_drop (List.mem_of_mem_take hp))
theorem wp_mA {st : SortSt} {n1 pw : Nat} {Q : Bool → SortSt → Prop} (h0 : IntKeys a₀) (h1 : 1 ≤ n1) (h2 : n1 < a₀.size) (hB : SB a₀ #[(0, n1, pw), (n1, a₀.size - n1, 0)] st) (s1 : Sec (arrOf st) 0 n1) (s2 : Sec (arrOf st) n1 (a₀.size - n1))
    (h : ∀ st', SB a₀ #[(0, n1 + (a₀.size - n1), pw)] st' → SortedTo (arrOf st') a₀.size → Q true st') : wpS (model prog w) A E s (mergeAt' 0) Q st := by
  rw [mA_is]
  refine wpS_bind (wpS_get ?_)
  rw [hB.wait]
  have e0 : (#[(0, n1, pw), (n1, a₀.size - n1, 0)] : Array (Nat × Nat × Nat))[0]? = some (0, n1, pw) := rfl
  have e1 : (#[(0, n1, pw), (n1, a₀.size - n1, 0)] : Array (Nat × Nat × Nat))[0 + 1]? = some (n1, a₀.size - n1, 0) := rfl
  have e2 : ((#[(0, n1, pw), (n1, a₀.size - n1, 0)] : Array (Nat × Nat × Nat)).setIfInBounds 0 (0, n1 + (a₀.size - n1), pw)).eraseIdxIfInBounds (0 + 1) = #[(0, n1 + (a₀.size - n1), pw)] := by
    simp [Array.setIfInBounds, Array.eraseIdxIfInBounds, Array.eraseIdx]
  rw [e0, e1]
  dsimp only
  rw [e2]
  refine wpS_bind (wp_set ?_)
  have sz := hB.size
  have ki := keys_perm hB.perm h0
  generalize ex : arrOf st = x at *
  have B' : ∀ {st'}, Like (setPending st (#[(0, n1 + (a₀.size - n1), pw)] : Array (Nat × Nat × Nat))) st' → SB a₀ #[(0, n1 + (a₀.size - n1), pw)] st' := fun l => ⟨by rw [l.2.1]; show (arrOf st).Perm a₀; rw [ex]; exact ex ▸ hB.perm, l.1.trans hB.kind, l.2.2.2.trans hB.ok, l.2.2.1⟩
  have hk : kindOf (setPending st (#[(0, n1 + (a₀.size - n1), pw)] : Array (Nat × Nat × Nat))) = oneType' := hB.kind
  have ar : arrOf (setPending st (#[(0, n1 + (a₀.size - n1), pw)] : Array (Nat × Nat × Nat))) = x := ex
  generalize setPending st (#[(0, n1 + (a₀.size - n1), pw)] : Array (Nat × Nat × Nat)) = st1 at *
  obtain ⟨t, v, e⟩ := intAt_of ki (show n1 < x.size by omega)
  refine wpS_bind (wp_elem e ?_)
  refine wpS_bind (wp_gal hk (fun i hi => intAt_of ki (by omega)) s1 (by omega) fun k cut => ?_)
  obtain ⟨k1, k2, k3⟩ := cut
  have k2 : ∀ i, i < k → K x i ≤ K x n1 := fun i hi => by simpa [beyB] using k2 i hi
  have k3 : ∀ i, k ≤ i → i < n1 → K x n1 < K x i := fun i i1 i2 => by simpa [beyB] using k3 i i1 i2
  have r1 : ∀ i j, i ≤ j → j < n1 → K x i ≤ K x j := fun i j ij jn => by simpa using s1 i j ij jn
  have r2 : ∀ i j, n1 ≤ i → i ≤ j → j < a₀.size → K x i ≤ K x j := fun i j i1 ij jn => by
    have := s2 (i - n1) (j - n1) (by omega) (by omega)
    rwa [show n1 + (i - n1) = i by omega, show n1 + (j - n1) = j by omega] at this
  -- where the two runs meet in order, nothing is to be done
  have meet : K x (n1 - 1) ≤ K x n1 → SortedTo x a₀.size := fun le i j ij jn => by
    by_cases c : j < n1
    · exact r1 i j ij c
    · by_cases d : n1 ≤ i
      · exact r2 i j d ij jn
      · exact Int.le_trans (r1 i (n1 - 1) (by omega) (by omega)) (Int.le_trans le (r2 n1 j (Nat.le_refl _) (by omega) jn))
  dsimp only
  by_cases c : n1 - k = 0
  · rw [if_pos (by simpa using c)]
    exact wpS_pure (h _ (B' (Like.refl _)) (by rw [ar]; exact meet (k2 (n1 - 1) (by omega))))
  · rw [if_neg (by simpa using c)]
    obtain ⟨t', v', e'⟩ := intAt_of ki (show 0 + k + (n1 - k) - 1 < x.size by omega)
    refine wpS_bind (wp_elem e' ?_)
    refine wpS_bind (wp_gal hk (fun i hi => intAt_of ki (by omega)) s2 (by omega) fun m cut => ?_)
    have el : 0 + k + (n1 - k) - 1 = n1 - 1 := by omega
    obtain ⟨m1, m2, m3⟩ := cut
    have m2 : ∀ i, i < m → K x (n1 + i) < K x (n1 - 1) := fun i hi => by
      have := m2 i hi
      rw [el] at this
      simpa [beyB] using this
    have m3 : ∀ i, m ≤ i → i < a₀.size - n1 → K x (n1 - 1) ≤ K x (n1 + i) := fun i i1 i2 => by
      have := m3 i i1 i2
      rw [el] at this
      simpa [beyB] using this
    dsimp only
    by_cases d : m = 0
    · rw [if_pos (by simpa using d)]
      exact wpS_pure (h _ (B' (Like.refl _)) (by rw [ar]; exact meet (by simpa using m3 0 (by omega) (by omega))))
    · rw [if_neg (by simpa using d)]
      have zx : (x.extract (0 + k) n1).size = n1 - k := by rw [Array.size_extract]; omega
      have zy : (x.extract n1 (n1 + m)).size = m := by rw [Array.size_extract]; omega
      have W : Two (x.extract (0 + k) n1) (x.extract n1 (n1 + m)) := by
        refine ⟨keys_ext ki _ _, keys_ext ki _ _, fun i j ij jn => ?_, fun i j ij jn => ?_, by omega, by omega, fun i hi => ?_, fun j hj => ?_⟩
        · rw [ext_key (by omega), ext_key (by omega)]
          exact r1 _ _ (by omega) (by omega)
        · rw [ext_key (by omega), ext_key (by omega)]
          exact r2 _ _ (by omega) (by omega) (by omega)
        · rw [ext_key (by omega), ext_key (by omega)]
          exact Int.le_of_lt (k3 _ (by omega) (by omega))
        · rw [ext_key (by omega), ext_key (by omega), zx, show 0 + k + (n1 - k - 1) = n1 - 1 by omega]
          exact Int.le_of_lt (m2 j (by omega))
      have fin : ∀ r st2, Like st1 st2 → Res (x.extract (0 + k) n1) (x.extract n1 (n1 + m)) r → wpS (model prog w) A E s (mF (0 + k) r) Q st2 := by
        intro r st2 l res
        refine wpS_bind (wpS_modify (wpS_bind (wpS_get ?_)))
        have er : r.size = n1 - k + m := by
          have := res.1.length_eq
          rw [List.length_append, Array.length_toList, Array.length_toList, Array.length_toList, zx, zy] at this
          exact this
        have ll : (lay x (0 + k) r).toList = x.toList.take k ++ (r.toList ++ x.toList.drop (n1 + m)) := by
          rw [lay_list (by omega), show 0 + k + r.size = n1 + m by omega, Nat.zero_add]
        have b2 := B' l
        have pm : (lay x (0 + k) r).Perm x := by
          rw [Array.perm_iff_toList_perm, ll]
          have spl : x.toList = x.toList.take k ++ ((x.extract (0 + k) n1).toList ++ (x.extract n1 (n1 + m)).toList ++ x.toList.drop (n1 + m)) := by
            rw [Array.toList_extract, Array.toList_extract, List.extract_eq_drop_take, List.extract_eq_drop_take, Nat.zero_add, show n1 + m - n1 = m by omega]
            have e1 : x.toList.drop n1 = (x.toList.drop n1).take m ++ x.toList.drop (n1 + m) := by rw [← List.drop_drop, List.take_append_drop]
            have e2 : x.toList.drop k = (x.toList.drop k).take (n1 - k) ++ x.toList.drop n1 := by
              have := List.take_append_drop (n1 - k) (x.toList.drop k)
              rw [List.drop_drop, show k + (n1 - k) = n1 by omega] at this
              exact this.symm
            rw [List.append_assoc, ← e1, ← e2, List.take_append_drop]
          refine List.Perm.trans ?_ (List.Perm.of_eq spl.symm)
          exact (List.Perm.refl _).append (res.1.append (List.Perm.refl _))
        have at2 : arrOf st2 = x := l.2.1.trans ar
        have eA : arrOf (setArr st2 (lay (arrOf st2) (0 + k) r)) = lay x (0 + k) r := by
          show lay (arrOf st2) (0 + k) r = _
          rw [at2]
        have fl : failedOf (setArr st2 (lay (arrOf st2) (0 + k) r)) = none := b2.ok
        rw [fl]
        refine wpS_pure (h _ (b2.arr (by rw [at2]; exact pm)) ?_)
        rw [eA]
        have := srt_to (r := lay x (0 + k) r) (by
          rw [ll]
          have inR : ∀ {p}, p ∈ r.toList → ∃ i, k ≤ i ∧ i < n1 + m ∧ key p = K x i := fun {p} hp => by
            have := res.1.mem_iff.mp hp
            rw [Array.toList_extract, Array.toList_extract, List.extract_eq_drop_take, List.extract_eq_drop_take, Nat.zero_add] at this
            rcases List.mem_append.mp this with q | q
            · obtain ⟨i, i1, i2, i3, e⟩ := ext_mem q
              exact ⟨i, i1, by omega, e⟩
            · obtain ⟨i, i1, i2, i3, e⟩ := ext_mem q
              exact ⟨i, by omega, i2, e⟩
          have inP : ∀ {p}, p ∈ x.toList.take k → ∃ i, i < k ∧ key p = K x i := fun {p} hp => by
            obtain ⟨i, _, i2, _, e⟩ := ext_mem (a := x) (i := 0) (j := k) (by simpa using hp)
            exact ⟨i, i2, e⟩
          have inS : ∀ {p}, p ∈ x.toList.drop (n1 + m) → ∃ i, n1 + m ≤ i ∧ i < a₀.size ∧ key p = K x i := fun {p} hp => by
            obtain ⟨i, i1, i2, e⟩ := drop_mem hp
            exact ⟨i, i1, by omega, e⟩
          rw [List.pairwise_append, List.pairwise_append]
          refine ⟨?_, ⟨res.2, ?_, fun p hp q hq => ?_⟩, fun p hp q hq => ?_⟩
          · rw [List.pairwise_iff_getElem]
            intro i j hi hj ij
            have l1 : j < k := by rw [List.length_take] at hj; omega
            have l2 : j < x.size := by omega
            have := r1 i j (Nat.le_of_lt ij) (by omega)
            rw [K_eq (by omega), K_eq l2] at this
            simpa using this
          · rw [List.pairwise_iff_getElem]
            intro i j hi hj ij
            have l1 : n1 + m + j < x.size := by rw [List.length_drop, Array.length_toList] at hj; omega
            have := r2 (n1 + m + i) (n1 + m + j) (by omega) (by omega) (by omega)
            rw [K_eq (by omega), K_eq l1] at this
            simpa using this
          · obtain ⟨i, i1, i2, e⟩ := inR hp
            obtain ⟨j, j1, j2, e'⟩ := inS hq
            rw [e, e']
            by_cases g : i < n1
            · have := m3 (j - n1) (by omega) (by omega)
              rw [show n1 + (j - n1) = j by omega] at this
              exact Int.le_trans (r1 i (n1 - 1) (by omega) (by omega)) this
            · exact r2 i j (by omega) (by omega) j2
          · obtain ⟨i, i1, e⟩ := inP hp
            rw [e]
            have up : ∀ j, k ≤ j → j < a₀.size → K x i ≤ K x j := fun j j1 j2 => by
              by_cases g : j < n1
              · exact r1 i j (by omega) g
              · exact Int.le_trans (k2 i i1) (r2 n1 j (Nat.le_refl _) (by omega) j2)
            rcases List.mem_append.mp hq with hq | hq
            · obtain ⟨j, j1, j2, e'⟩ := inR hq
              rw [e']
              exact up j j1 (by omega)
            · obtain ⟨j, j1, j2, e'⟩ := inS hq
              rw [e']
              exact up j (by omega) j2)
        rw [lay_size, sz] at this
        exact this
      by_cases g : n1 - k ≤ m
      · rw [if_pos g]
        exact wpS_bind (wp_lo W hk fin)
      · rw [if_neg g]
        exact wpS_bind (wp_hi W hk fin)
end
end So

set_option Elab.async false
set_option linter.all false
set_option maxRecDepth 100000
set_option maxHeartbeats 4000000
namespace So
open PySem PyProof.Rows
section
variable {prog : Program} {w : World} {A : Around} {E : Value → Shared → Prop} {s : Shared} {a₀ : AK}
theorem sec_ahead {lo n : Nat} {x y : AK} (h : Ahead lo x y) (hn : n ≤ lo) (sc : Sec x 0 n) : Sec y 0 n := fun i j ij jn => by
  rw [Nat.zero_add, Nat.zero_add, K_congr (h i (by omega)), K_congr (h j (by omega))]
  simpa using sc i j ij jn
theorem mr64 : minRun' 64 64 0 = 32 := by decide
noncomputable def Jn (a₀ : AK) (x : Nat) (c : Option Unit × Nat) (st : SortSt) : Prop :=
  (x = 0 ∧ c = (none, 0) ∧ SB a₀ #[] st) ∨ (∃ n, 1 ≤ x ∧ (n = 64 ∨ x = 1) ∧ c = (none, n) ∧ 32 ≤ n ∧ n ≤ 64 ∧ SB a₀ #[(0, n, 0)] st ∧ Sec (arrOf st) 0 n) ∨
  (∃ n pw, 2 ≤ x ∧ c = (none, 64) ∧ 32 ≤ n ∧ n < 64 ∧ SB a₀ #[(0, n, pw), (n, 64 - n, 0)] st ∧ Sec (arrOf st) 0 n ∧ Sec (arrOf st) n (64 - n))
noncomputable def Jz (a₀ : AK) (c : Option Unit × Nat) (st : SortSt) : Prop :=
  c = (none, 64) ∧ ((SB a₀ #[(0, 64, 0)] st ∧ Sec (arrOf st) 0 64) ∨ ∃ n pw, 32 ≤ n ∧ n < 64 ∧ SB a₀ #[(0, n, pw), (n, 64 - n, 0)] st ∧ Sec (arrOf st) 0 n ∧ Sec (arrOf st) n (64 - n))
theorem SB.push0 {st : SortSt} (hB : SB a₀ #[] st) (n : Nat) : SB a₀ #[(0, n, 0)] (setPending st ((pendingOf st).push (0, n, 0))) :=
  ⟨hB.perm, hB.kind, hB.ok, by show (pendingOf st).push _ = _; rw [hB.wait]; rfl⟩
theorem SB.push1 {st : SortSt} {n m pw : Nat} (hB : SB a₀ #[(0, n, 0)] st) {f : Nat × Nat × Nat → Nat × Nat × Nat} (hf : f (0, n, 0) = (0, n, pw)) :
    SB a₀ #[(0, n, pw), (n, m, 0)] (setPending (setPending st ((pendingOf st).modify ((pendingOf st).size - 1) f)) ((pendingOf (setPending st ((pendingOf st).modify ((pendingOf st).size - 1) f))).push (n, m, 0))) := by
  refine ⟨hB.perm, hB.kind, hB.ok, ?_⟩
  show ((pendingOf st).modify ((pendingOf st).size - 1) f).push (n, m, 0) = _
  rw [hB.wait]
  show ((#[(0, n, 0)] : Array (Nat × Nat × Nat)).modify 0 f).push (n, m, 0) = _
  have : ((#[(0, n, 0)] : Array (Nat × Nat × Nat)).modify 0 f) = #[f (0, n, 0)] := by
    simp [Array.modify, Array.modifyM, Id.run]
    rfl
  rw [this, hf]
  rfl
theorem wp_sort64 {st : SortSt} {Q : Unit → SortSt → Prop} (h0 : IntKeys a₀) (hB : SB a₀ #[] st) (h64 : a₀.size = 64)
    (h : ∀ st', (arrOf st').Perm a₀ → failedOf st' = none → SortedTo (arrOf st') a₀.size → Q () st') : wpS (model prog w) A E s sortRuns' Q st := by
  rw [sortRuns'_eq]
  refine wpS_bind (wpS_get ?_)
  dsimp only
  have sz : (arrOf st).size = 64 := hB.size.trans h64
  simp only [sz, mr64]
  refine wpS_bind (wpS_mono (wpS_forRange (I := Jn a₀) (Q := Jz a₀) ?turn ?over (.inl ⟨rfl, rfl, hB⟩)) ?aft)
  case over =>
    rintro c st' (⟨x, _⟩ | ⟨n, x1, x2, rfl, n1, n2, b, sc⟩ | ⟨n, pw, x1, rfl, r⟩)
    · exact absurd x (by decide)
    · rcases x2 with rfl | x2
      · exact ⟨rfl, .inl ⟨b, sc⟩⟩
      · exact absurd x2 (by decide)
    · exact ⟨rfl, .inr ⟨n, pw, r⟩⟩
  case turn =>
    rintro x c st' _ hx (⟨rfl, rfl, b⟩ | ⟨n, x1, x2, rfl, n1, n2, b, sc⟩ | ⟨n, pw, x1, rfl, r⟩)
    · dsimp only
      rw [if_neg (by decide)]
      refine wpS_bind (run_at h0 (by omega) (by decide) b fun m st2 b2 _ m1 m2 s2 => ?_)
      dsimp only
      by_cases lt : m < 32
      · rw [if_pos lt]
        refine wpS_bind (wpS_lift (wpAny_rule ⟨rfl, ?_⟩))
        refine wpS_bind (bin_at h0 (by omega) (by omega) b2 s2 fun st3 b3 _ s3 => ?_)
        rw [if_neg (by decide)]
        refine wpS_bind (wpS_get ?_)
        have hb : (pendingOf st3).back? = none := by rw [b3.wait]; rfl
        rw [hb]
        dsimp only
        exact wpS_bind (wpS_modify (wpS_pure (.inr (.inl ⟨32, by omega, .inr rfl, rfl, by omega, by omega, b3.push0 32, s3⟩))))
      · rw [if_neg lt]
        refine wpS_bind (wpS_get ?_)
        have hb : (pendingOf st2).back? = none := by rw [b2.wait]; rfl
        rw [hb]
        dsimp only
        rw [Nat.zero_add]
        exact wpS_bind (wpS_modify (wpS_pure (.inr (.inl ⟨m, by omega, .inr rfl, rfl, by omega, by omega, b2.push0 m, s2⟩))))
    · dsimp only
      by_cases full : n = 64
      · subst full
        rw [if_pos (Nat.le_refl _)]
        exact wpS_pure ⟨rfl, .inl ⟨b, sc⟩⟩
      · obtain rfl : x = 1 := by omega
        rw [if_neg (by omega)]
        refine wpS_bind (run_at h0 (by omega) (by omega) b fun m st2 b2 ah m1 m2 s2 => ?_)
        dsimp only
        have tail : ∀ (k : Nat) (st3 : SortSt), SB a₀ #[(0, n, 0)] st3 → k = 64 - n → Sec (arrOf st3) 0 n → Sec (arrOf st3) n (64 - n) → ∀ (pw : Nat) (f : Nat × Nat × Nat → Nat × Nat × Nat), (∀ a b c, f (a, b, c) = (a, b, pw)) →
            Jn a₀ (1 + 1) (none, n + k) (setPending (setPending st3 ((pendingOf st3).modify ((pendingOf st3).size - 1) f)) ((pendingOf (setPending st3 ((pendingOf st3).modify ((pendingOf st3).size - 1) f))).push (n, k, 0))) := by
          intro k st3 b3 hk sa sb pw f hf
          subst hk
          exact .inr (.inr ⟨n, pw, Nat.le_refl _, by rw [show n + (64 - n) = 64 by omega], n1, by omega, b3.push1 (hf _ _ _), sa, sb⟩)
        by_cases lt : m < 32
        · rw [if_pos lt]
          refine wpS_bind (wpS_lift (wpAny_rule ⟨rfl, ?_⟩))
          rw [show min (64 - n) 32 = 64 - n by omega]
          refine wpS_bind (bin_at h0 (by omega) (by omega) b2 s2 fun st3 b3 ah3 s3 => ?_)
          rw [if_neg (by decide)]
          refine wpS_bind (wpS_get ?_)
          have hb : (pendingOf st3).back? = some (0, n, 0) := by rw [b3.wait]; rfl
          rw [hb]
          dsimp only
          refine wpS_bind (wpS_mono (wpS_forRange (I := fun _ c st' => st' = st3 ∧ c = (none, ())) (Q := fun c st' => st' = st3 ∧ c = (none, ())) ?t1 (fun _ _ q => q) ⟨rfl, rfl⟩) ?a1)
          case t1 =>
            rintro x c st' _ _ ⟨rfl, rfl⟩
            refine wpS_bind (wpS_get ?_)
            rw [if_neg (by rw [b3.wait]; exact Nat.lt_irrefl 1)]
            exact wpS_pure ⟨rfl, rfl⟩
          case a1 =>
            rintro c st' ⟨rfl, rfl⟩
            dsimp only
            exact wpS_bind (wpS_modify (wpS_bind (wpS_modify (wpS_pure (tail _ _ b3 rfl (sec_ahead (ah.trans ah3) (Nat.le_refl _) sc) s3 _ _ fun _ _ _ => rfl)))))
        · rw [if_neg lt]
          have em : m = 64 - n := by omega
          refine wpS_bind (wpS_get ?_)
          have hb : (pendingOf st2).back? = some (0, n, 0) := by rw [b2.wait]; rfl
          rw [hb]
          dsimp only
          refine wpS_bind (wpS_mono (wpS_forRange (I := fun _ c st' => st' = st2 ∧ c = (none, ())) (Q := fun c st' => st' = st2 ∧ c = (none, ())) ?t2 (fun _ _ q => q) ⟨rfl, rfl⟩) ?a2)
          case t2 =>
            rintro x c st' _ _ ⟨rfl, rfl⟩
            refine wpS_bind (wpS_get ?_)
            rw [if_neg (by rw [b2.wait]; exact Nat.lt_irrefl 1)]
            exact wpS_pure ⟨rfl, rfl⟩
          case a2 =>
            rintro c st' ⟨rfl, rfl⟩
            dsimp only
            exact wpS_bind (wpS_modify (wpS_bind (wpS_modify (wpS_pure (tail _ _ b2 em (sec_ahead ah (Nat.le_refl _) sc) (em ▸ s2) _ _ fun _ _ _ => rfl)))))
    · dsimp only
      rw [if_pos (Nat.le_refl _)]
      exact wpS_pure ⟨rfl, .inr ⟨n, pw, r⟩⟩
  case aft =>
    rintro _ st' ⟨rfl, r⟩
    dsimp only
    rcases r with ⟨b, sc⟩ | ⟨n, pw, n1, n2, b, sa, sb⟩
    · refine wpS_bind (wpS_mono (wpS_forRange (I := fun _ c st2 => st2 = st' ∧ c = (none, ())) (Q := fun c st2 => st2 = st' ∧ c = (none, ())) ?t3 (fun _ _ q => q) ⟨rfl, rfl⟩) ?a3)
      case t3 =>
        rintro x c st2 _ _ ⟨rfl, rfl⟩
        refine wpS_bind (wpS_get ?_)
        rw [if_pos (by rw [b.wait]; exact Nat.le_refl 1)]
        exact wpS_pure ⟨rfl, rfl⟩
      case a3 =>
        rintro c st2 ⟨rfl, rfl⟩
        exact wpS_pure (h _ b.perm b.ok fun i j ij jn => by simpa using sc i j ij (by omega))
    · refine wpS_bind (wpS_mono (wpS_forRange (I := fun x c st2 => c = (none, ()) ∧ ((x = 0 ∧ st2 = st') ∨ (1 ≤ x ∧ SB a₀ #[(0, n + (64 - n), pw)] st2 ∧ SortedTo (arrOf st2) a₀.size)))
        (Q := fun c st2 => c = (none, ()) ∧ SB a₀ #[(0, n + (64 - n), pw)] st2 ∧ SortedTo (arrOf st2) a₀.size) ?t4 ?o4 ⟨rfl, .inl ⟨rfl, rfl⟩⟩) ?a4)
      case o4 =>
        rintro c st2 ⟨rfl, q⟩
        rcases q with ⟨z, _⟩ | ⟨_, q⟩
        · exact absurd z (by decide)
        · exact ⟨rfl, q⟩
      case t4 =>
        rintro x c st2 _ _ ⟨rfl, q⟩
        refine wpS_bind (wpS_get ?_)
        rcases q with ⟨rfl, rfl⟩ | ⟨x1, b2, q⟩
        · have p2 : (pendingOf st2).size = 2 := by rw [b.wait]; rfl
          rw [p2, if_neg (by decide)]
          have ei : (if Option.any (fun x => decide (x < (pendingOf st2)[2 - 2 + 1]?.elim 0 fun x => x.snd.fst)) (if 2 - 2 > 0 then Option.map (fun x => x.snd.fst) (pendingOf st2)[2 - 2 - 1]? else none) = true then 2 - 2 - 1 else 2 - 2) = 0 := by
            rw [if_neg (by decide : ¬ 2 - 2 > 0)]
            rfl
          rw [ei]
          have hz : 64 - n = a₀.size - n := by omega
          rw [hz] at b sb ⊢
          refine wpS_bind (wp_mA h0 (by omega) (by omega) b sa sb fun st3 b3 q3 => ?_)
          rw [if_neg (by decide)]
          exact wpS_pure ⟨rfl, .inr ⟨by omega, b3, q3⟩⟩
        · rw [if_pos (by rw [b2.wait]; exact Nat.le_refl 1)]
          exact wpS_pure ⟨rfl, b2, q⟩
      case a4 =>
        rintro c st2 ⟨rfl, b2, q⟩
        exact wpS_pure (h _ b2.perm b2.ok q)
theorem sort_ints64 {a : Addr} {vs : List Value} {ns : List Int} {n : Nat} {P : Fin → Shared → Prop} (ho : s.heap.get? a = some (seqObj "list" vs.toArray n)) (hI : IntsAre vs ns) (h64 : vs.length ≤ 64)
    (h : ∀ (out : Array Value) (ns' : List Int), IntsAre out.toList ns' → ns'.Perm ns → ns'.Pairwise (· ≤ ·) → P (.done (.ret .none)) { s with heap := sortedHeap s.heap a vs out }) :
    wpAny (model prog w) A (Builtin.«list.sort» ⟨[.ref a], []⟩) P E s := by
  by_cases lt : vs.length < 64
  · exact list_sort_tree ho hI lt h
  · have e64 : vs.length = 64 := by omega
    rw [list_sort_plain]
    have ha : a < s.heap.objs.size := Heap.lt_size ho
    refine wpAny_bind (listItems_at ho rfl (wpAny_bind (listUpdate_at ho rfl ?_ (by simp [e64, sizeLine_eq]) (by simp))))
    obtain ⟨e1, g1⟩ : ∃ e1, (s.heap.update a (Obj.mapSeq fun _ => #[])).get? a = some (seqObj "list" #[] e1) := ⟨_, get?_update_seq ho (fun _ => #[])⟩
    refine wpAny_bind (seqEpoch_at g1 rfl (wpAny_bind (wpAny_newTuple (wpAny_bind (wpAny_newList (wpAny_holding ?_))))))
    have g6 : (((s.heap.update a (Obj.mapSeq fun _ => #[])).push (seqObj "tuple" vs.toArray 0)).push (seqObj "list" #[] 0)).get? a = some (seqObj "list" #[] e1) := by
      have q1 : a ≠ (s.heap.update a (Obj.mapSeq fun _ => #[])).objs.size := by rw [Heap.size_update]; exact Nat.ne_of_lt ha
      have q2 : a ≠ ((s.heap.update a (Obj.mapSeq fun _ => #[])).push (seqObj "tuple" vs.toArray 0)).objs.size := by rw [size_push', Heap.size_update]; exact Nat.ne_of_lt (Nat.lt_succ_of_lt ha)
      rw [Heap.get?_push_ne _ _ _ q2, Heap.get?_push_ne _ _ _ q1, g1]
    show wpAny (model prog w) A _ P E { s with heap := ((s.heap.update a (Obj.mapSeq fun _ => #[])).push (seqObj "tuple" vs.toArray 0)).push (seqObj "list" #[] 0) }
    dsimp only
    have big : ¬ vs.toArray.size < 2 := by simp; omega
    rw [if_neg big, if_neg big]
    have ek : keyKind' vs.toArray = pure oneType' := by
      match vs, e64, hI with
      | v :: u :: r, _, hI => exact keyKind_ints hI
    rw [ek]
    refine wpAny_bind (wpAny_pure ?_)
    refine wpAny_bind (wpAny_mono (wp_sort64 (a₀ := pairsOf vs) (st := SortSt.mk' oneType' (vs.toArray.zip vs.toArray) #[] 7 none)
      (Q := fun _ st' => (arrOf st').Perm (pairsOf vs) ∧ failedOf st' = none ∧ SortedTo (arrOf st') (pairsOf vs).size) hI.intKeys ⟨Array.Perm.refl _, rfl, rfl, rfl⟩ ((pairsOf_size vs).trans e64) fun st' p f q => ⟨p, f, q⟩) ?_ fun _ _ e => e)
    rintro ⟨⟨⟩, st'⟩ s' ⟨rfl, hp, hf, hs⟩
    dsimp only
    have hz : ((arrOf st').map (·.2)).size ≤ sizeLine + 1 := by rw [Array.size_map, hp.size_eq, pairsOf_size, e64, sizeLine_eq]; decide
    refine wpAny_bind (seqEpoch_at g6 rfl (wpAny_bind (listUpdate_at g6 rfl ?_ (by simp) hz)))
    rw [hf]
    simp only [bne_self_eq_false, Bool.false_eq_true, if_false]
    obtain ⟨ns', r1, r2, r3⟩ := sorted_out hI hp hs
    exact wpAny_pure (h _ ns' r1 r2 r3)
end
end So

set_option Elab.async false
set_option linter.all false
set_option maxRecDepth 100000
namespace L2
open PySem PySem.Spec PyProof.Rows
theorem key_rel {P : Program} {w : World} {k : Key} {u : Value} (h : (mixKind P w).is k u = true) : RelV (kV k) u := by
  rcases keyIs_shape (show keyIs k u = true from h) with ⟨i, t, rfl, rfl⟩ | ⟨x, t, rfl, rfl⟩
  · exact ⟨t, rfl⟩
  · exact ⟨t, rfl⟩
theorem KV.at {κ : Type} {kvs : List (κ × V)} {vs : List (κ × Value)} (r : KV kvs vs) : ∀ {i : Nat} {q : κ × Value}, vs[i]? = some q → ∃ p, kvs[i]? = some p ∧ p.1 = q.1 := by
  unfold KV at r
  induction r with
  | nil => intro i q h; simp at h
  | cons h t ih =>
    intro i q e
    cases i with
    | zero =>
      simp only [List.getElem?_cons_zero, Option.some.injEq] at e
      subst e
      exact ⟨_, rfl, h.1⟩
    | succ j =>
      simp only [List.getElem?_cons_succ] at e ⊢
      exact ih e
section
variable {P : Program} {w : World} {κ : Type} [DecidableEq κ] {knd : KeyKind P w κ} {A : Around} {E : Value → Shared → Prop} {s : Shared}
theorem wp_dsd {d : Addr} {kvs : List (κ × Value)} {k : κ} {key dv : Value} {Q : Value → Shared → Prop} (hkey : knd.is k key = true) (hm : s.heap.DictOf knd d kvs) (hz : kvs.length ≤ sizeLine)
    (h1 : ∀ v, valueAt kvs k = some v → Q v { s with toks := s.toks + 1 })
    (h2 : valueAt kvs k = none → ∀ h', h'.DictOf knd d (stored kvs k dv) → Heap.SameBut d s.heap h' → Q dv { s with heap := h', toks := s.toks + 1 }) : wpAny (model P w) A (dictSetDefault d key dv) Q E s := by
  obtain ⟨o, es, ep, ho, hc, hd, hk, hp, hn⟩ := hm
  have hes : es.size ≤ sizeLine := by
    have e1 := hp.length
    have e2 : es.toList.length = es.size := by simp
    omega
  have hf : findBy knd.is es k = valueAt kvs k := by
    rw [← hp.find k]; obtain ⟨l⟩ := es; simp [findBy]
  have hx : (es.findIdx? fun e => knd.is k e.key) = kvs.findIdx? fun kv => decide (kv.1 = k) := by
    rw [← hp.findIdx k]; obtain ⟨l⟩ := es; simp
  unfold dictSetDefault
  try with_reducible refine wpAny_holding ?_
  refine wpAny_bind (knd.pyHash hkey (wpAny_bind (wpAny_dictFind_of (s := { s with toks := s.toks + 1 }) hkey ho hd hk ?_)))
  cases hi : es.findIdx? fun e => knd.is k e.key with
  | some i =>
    have hv : valueAt kvs k = (es[i]?).map (·.val) := by rw [← hf, findBy_of_findIdx?, hi]
    refine wpAny_bind (wpAny_dictEntries (s := { s with toks := s.toks + 1 }) ho hd ?_)
    have hlt : i < es.size := (Array.findIdx?_eq_some_iff_findIdx_eq.mp hi).1
    have he : es[i]? = some es[i] := Array.getElem?_eq_getElem hlt
    rw [he] at hv ⊢
    exact wpAny_bind (wpAny_rule (wpAny_pure (h1 _ hv)))
  | none =>
    have hv : valueAt kvs k = none := by rw [← hf, findBy_of_findIdx?, hi]
    have hno : k ∉ kvs.map (·.1) := not_mem_of_findIdx_none (hx ▸ hi)
    have han : ¬ (kvs.any fun kv => decide (kv.1 = k)) = true := by
      rw [List.any_eq_true]
      rintro ⟨kv, m, e⟩
      exact hno (List.mem_map.mpr ⟨kv, m, of_decide_eq_true e⟩)
    refine wpAny_bind (wpAny_rule (wpAny_bind (wpAny_updateDictKeys (hz := hes) (s := { s with toks := s.toks + 1 }) ho hd (wpAny_pure (h2 hv _ ⟨_, _, ep + 1, Heap.get?_update_self _ ho (Obj.isFreed_of_dict (Obj.data_mapDictKeys hd _)), hc.mapDictKeys _, Obj.data_mapDictKeys hd _, hk.push hkey _, ?_, ?_⟩ (Heap.SameBut.update ..))))))
    · rw [stored, if_neg han]
      have := hp.append hkey (knd.hash k) dv
      obtain ⟨l⟩ := es
      simpa using this
    · rw [stored, if_neg han, List.map_append]
      exact nd_snoc hn hno
theorem meets_dsd (hs : ∀ {d : Addr}, (d == sysModules) = false → True) (d : Addr) {k : κ} {key : Value} (hkey : knd.is k key = true) (hd : (d == sysModules) = false) (dv : Value) :
    MeetsIn P w (Builtin.«dict.setdefault» ⟨[.ref d, key, dv], []⟩) (fun _ R s => ∃ kvs, s.heap.DictOf knd d kvs ∧ kvs.length ≤ sizeLine ∧ (∀ v, valueAt kvs k = some v → R (.ok (.ret v)) { s with toks := s.toks + 1 }) ∧
      (valueAt kvs k = none → ∀ h', h'.DictOf knd d (stored kvs k dv) → Heap.SameBut d s.heap h' → R (.ok (.ret dv)) { s with heap := h', toks := s.toks + 1 })) :=
  .of_wp fun A R s ⟨kvs, hm, hz, h1, h2⟩ => by
    unfold Builtin.«dict.setdefault»
    refine wpAny_bind ?_
    unfold Builtin.Dict.keyAndDefault
    refine wpAny_bind (wpAny_notOrdered_dict hm.typeIs ?_)
    show wpAny _ _ (pure (d, key, some dv)) _ _ s
    refine wpAny_pure ?_
    show wpAny _ _ (if (d == sysModules) = true then _ else dictSetDefault d key dv >>= _) _ _ s
    rw [if_neg (by rw [hd]; exact Bool.false_ne_true)]
    exact wpAny_bind (wp_dsd hkey hm hz (fun v hv => wpAny_pure ⟨v, rfl, h1 v hv⟩) fun hn h' hm' hs' => wpAny_pure ⟨dv, rfl, h2 hn h' hm' hs'⟩)
end
section
variable {X : Cx} {pins : List (Addr × Obj)} {σ : St} {H : Hp} {s : Shared} {a : Addr} {y z : V} {u r : Value} {A : Around} {E : Value → Shared → Prop}
theorem d_setdefault {kvs : List (Key × V)} {k : Key} {Q : Value → Shared → Prop} (I : Inv X pins σ H s) (e : H a = some (.dK kvs)) (ry : RelV (kV k) u) (rz : RelV z r) (hl : kvs.length < sizeLine)
    (h1 : ∀ v w' s', valV kvs k = some v → Inv X pins σ H s' → RelV v w' → Q w' s') (h2 : ∀ s', valV kvs k = none → Inv X pins σ (upd H a (.dK (putK kvs k z))) s' → Q r s') :
    wpAny (model X.prog X.w) A (call (.builtin "dict.setdefault") [.ref a, u, r]) Q E s := by
  obtain ⟨zz, hd, vs, rel, dd⟩ := dk_of I.hok e
  have rk := rel.val k
  refine call_meetsIn PySem.F.slot_dict_setdefault dd.typeIs PySem.F.entry_dict_setdefault (PySem.F.args_dict_setdefault_3 _ _ _) (meets_dsd (fun _ => trivial) a (kV_is ry) hd r) ⟨vs, dd, by rw [← rel.length]; exact zz, fun v hv => ?_, fun hv h' dd' hs => ?_⟩
  · cases q : valV kvs k with
    | none => rw [q, hv] at rk; exact (show False from rk).elim
    | some x => rw [q, hv] at rk; exact h1 x v _ q (I.tok _) rk
  · cases q : valV kvs k with
    | some x => rw [q, hv] at rk; exact (show False from rk).elim
    | none =>
      have hl2 : (putK kvs k z).length ≤ sizeLine := by have := length_putK kvs k z; omega
      exact h2 _ q (d_write I (by rw [e]; exact True.intro) hs (let ⟨q, _, _, hq, _⟩ := dd'; ⟨q, hq⟩) (dk_new hl2 hd (rel.put k rz) dd'))
end
noncomputable def tDSet (td ty tx : TE) : TE := fun σ H Q => td σ H fun x H1 => ∃ a, x = .ref a ∧ IsD H1 a ∧ ty σ H1 fun y H2 => tx σ H2 fun z H3 => ∃ kvs k, H3 a = some (.dK kvs) ∧ y = kV k ∧ kvs.length < sizeLine ∧
  (∀ v, valV kvs k = some v → Q v H3) ∧ (valV kvs k = none → Q z (upd H3 a (.dK (putK kvs k z))))
section
variable {X : Cx} {o e f : Expr} {apos cpos : Pos} {td ty tx : TE}
theorem pe_dset (ho : PE X o td) (he : PE X e ty) (hf : PE X f tx) (m : M2 X o "setdefault" apos e f cpos) : PE X (.Call (.Attribute o "setdefault" apos) [e, f] [] cpos) (tDSet td ty tx) := by
  intro pins s σ H Q I h
  refine wpAny_Call_method m.base m.few m.line PySem.F.plainAttrs_dict PySem.F.slot_dict_setdefault PySem.F.type_dict_setdefault (thn (ho pins s σ H _ I h) fun u s1 ⟨x, H1, I1, rx, a, ex, d, q1⟩ => ?_)
  subst ex
  obtain rfl : u = Value.ref a := rx
  obtain ⟨t1, t2, _⟩ := isD_at I1 d
  refine ⟨t1, t2, ?_⟩
  rw [m.trees]
  refine Calls.callWith_builtin rfl (Calls.evalArgs_plain (Calls.spliced_cons (thn (he pins s1 σ H1 _ I1 q1) fun iv s2 ⟨y, H2, I2, ry, q2⟩ => Calls.spliced_cons (thn (hf pins s2 σ H2 _ I2 q2) fun fv s3 ⟨z, H3, I3, rz, kvs, k, ea, ey, hl, q3, q4⟩ => Calls.spliced_nil ?_))))
  subst ey
  exact d_setdefault I3 ea ry rz hl (fun v w' s4 hv I4 rw' => ⟨v, H3, I4, rw', q3 v hv⟩) fun s4 hv I4 => ⟨z, _, I4, rz, q4 hv⟩
end
section
variable {prog : Program} {w : World} {A : Around} {E : Value → Shared → Prop} {s : Shared} {T : String} {r d : Addr} {n : Nat} {P : Nat → Value → Prop} {OK : Heap → Prop}
theorem collect_src {R : List Value → Shared → Prop} (K : PySem.W.KdlSrc prog w T r d n P OK) (hh : A.handled = none) (hok : OK s.heap) (hn : n ≤ sizeLine)
    (h : ∀ (h' : Heap) (tk : Nat) (acc : Array Value), (∀ b o, s.heap.get? b = some o → h'.get? b = some o) → s.heap.objs.size < h'.objs.size → ItemsOf P acc n → R acc.toList { s with heap := h', toks := tk }) :
    wpAny (model prog w) A (collect (.ref r)) R E s := by
  have hlt := K.there _ hok
  have hb : s.heap.objs.size ≠ r ∧ s.heap.objs.size ≠ d := ⟨Nat.ne_of_gt hlt.1, Nat.ne_of_gt hlt.2⟩
  unfold collect
  refine wpAny_bind (wpAny_runValue (codeAny_builtin entry_proto_collect' ?_))
  rw [Around.under_plainId PySem.F.plain_proto_collect _]
  show wpAny _ A.in1 (newList [] >>= fun l => again (.builtin "list.__iadd__" ⟨[l, .ref r], []⟩)) _ _ s
  refine wpAny_bind (wpAny_newObj_type (wpAny_pure ⟨plainId_quiet PySem.F.plain_list_iadd _, codeAny_builtin entry_list_iadd' ?_⟩))
  rw [Around.under_plainId PySem.F.plain_list_iadd _]
  have hS : (s.heap.push { cls := .type "list", data := .seq ([] : List Value).toArray }).get? s.heap.objs.size = some { cls := .type "list", data := .seq #[] } := Heap.get?_push_size _ rfl
  show wpAny _ A.in1 (Builtin.List.listExtendWith (.ref s.heap.objs.size) (.ref r) (.ref s.heap.objs.size)) _ _ _
  have done : ∀ (h' : Heap) (tk : Nat) (acc : Array Value) (c : Nat), (∀ b o, s.heap.get? b = some o → h'.get? b = some o) → h'.get? s.heap.objs.size = some { cls := .type "list", dict := none, data := .seq acc c, slots := #[] } → ItemsOf P acc n →
      wpAny (model prog w) A (load s.heap.objs.size >>= fun o => match o.data with | .seq xs _ => pure xs.toList | _ => unsupported "internal:collect") R E { s with heap := h', toks := tk } := fun h' tk acc c hk hS' hacc =>
    wpAny_bind (wpAny_load hS' (wpAny_pure (h h' tk acc hk (Heap.lt_size hS') hacc)))
  refine wpAny_mono (PySem.W.kdl_extend (A := A) (s := { s with heap := s.heap.push { cls := .type "list", data := .seq ([] : List Value).toArray } })
    (R := fun (q : Result) (s' : Shared) => ∃ (h' : Heap) (tk : Nat) (acc : Array Value) (c : Nat), q = .ok (.ret (.ref s.heap.objs.size)) ∧ s' = { s with heap := h', toks := tk } ∧ (∀ b o, s.heap.get? b = some o → h'.get? b = some o) ∧
      h'.get? s.heap.objs.size = some { cls := .type "list", dict := none, data := .seq acc c, slots := #[] } ∧ ItemsOf P acc n)
    K hh (K.keep _ _ hok fun b _ o e => Heap.get?_push_of_some _ e) s.heap.objs.size hb.1 hb.2 (.ref s.heap.objs.size) 0 hS
    (fun h' tk acc c hk hS' hacc => ⟨h', tk, acc, c, rfl, rfl, fun b o e => hk b o (Nat.ne_of_lt (Heap.lt_size e)) (Heap.get?_push_of_some _ e), hS', hacc⟩) hn) (fun fin s' x => ?_) fun e s' x => ?_
  · cases fin with
    | done f =>
      obtain ⟨h', tk, acc, c, e, rfl, hk, hS', hacc⟩ := x
      cases e
      exact done h' tk acc c hk hS' hacc
    | again c₁ =>
      refine ⟨x.1, codeAny_mono x.2 fun q s₂ y => ?_⟩
      obtain ⟨h', tk, acc, c, rfl, rfl, hk, hS', hacc⟩ := y
      exact done h' tk acc c hk hS' hacc
  · obtain ⟨_, _, _, _, e', _⟩ := x
    cases e'
end
theorem ints_are_of : ∀ {vs : List Value} {ns : List Int}, vs.length = ns.length → (∀ (j : Nat) (v : Value), vs[j]? = some v → ∃ (z : Int) (t : Tok), ns[j]? = some z ∧ v = Value.int z t) → IntsAre vs ns
  | [], [], _, _ => .nil
  | [], _ :: _, h, _ => by simp at h
  | _ :: _, [], h, _ => by simp at h
  | v :: vs, z :: ns, h, k => by
    obtain ⟨z', t, e, rfl⟩ := k 0 v rfl
    have e : z = z' := by simpa using e
    subst e
    exact .cons z t (ints_are_of (by simpa using h) fun j u hu => by
      obtain ⟨y, t, e, q⟩ := k (j + 1) u (by simpa using hu)
      exact ⟨y, t, by simpa using e, q⟩)
theorem strict_of : ∀ {l : List Int}, l.Pairwise (· ≤ ·) → l.Nodup → l.Pairwise (· < ·)
  | [], _, _ => .nil
  | a :: r, h, n => by
    obtain ⟨h1, h2⟩ := List.pairwise_cons.mp h
    obtain ⟨n1, n2⟩ := List.nodup_cons.mp n
    refine List.pairwise_cons.mpr ⟨fun b hb => ?_, strict_of h2 n2⟩
    have := h1 b hb
    have : a ≠ b := fun e => n1 (e ▸ hb)
    omega
theorem nodup_of_map {α β : Type} {f : α → β} : ∀ {l : List α}, (l.map f).Nodup → l.Nodup
  | [], _ => List.nodup_nil
  | a :: r, h => by
    obtain ⟨h1, h2⟩ := List.nodup_cons.mp (show (f a :: r.map f).Nodup from h)
    exact List.nodup_cons.mpr ⟨fun m => h1 (List.mem_map.mpr ⟨a, m, rfl⟩), nodup_of_map h2⟩
noncomputable def rSortD (xs : List V) (H : Hp) (Q : VK) : Prop := ∃ (a : Addr) (kvs : List (Key × V)) (ns : List Int), xs = [.ref a] ∧ H a = some (.dK kvs) ∧ kvs.map (·.1) = ns.map Sum.inl ∧ ns.length ≤ 64 ∧
  ∀ (l : Addr) (ns' : List Int), H l = none → ns'.Perm ns → ns'.Pairwise (· < ·) → Q (.ref l) (upd H l (.lst (ns'.map V.int)))
theorem call_sortD {X : Cx} (hc : X.calm = true) : CallR X (.builtin "sorted") rSortD := by
  intro pins s σ H xs us Q I r h
  obtain ⟨a, kvs, ns, rfl, ha, hk, hl, q⟩ := h
  obtain ⟨u, rfl, ru⟩ := vals1 r
  cases ru
  obtain ⟨z, hs, vs, rel, dd⟩ := dk_of I.hok ha
  obtain ⟨ep, hat⟩ := dd.dictAt
  have hlen : vs.length = ns.length := by
    have e := congrArg List.length hk
    rw [List.length_map, List.length_map] at e
    rw [← rel.length]
    exact e
  have hnd : ns.Nodup := by
    have e := hat.nodup
    rw [← rel.keys, hk] at e
    exact nodup_of_map e
  have hline : vs.length ≤ sizeLine := by rw [← rel.length]; exact z
  refine Calls.call_function_entry kind_sorted plain_sorted entry_sorted (args_sorted1 _) ?_
  unfold Builtin.«sorted»
  refine wpAny_bind (m := checkCount "sorted" 1 1 _) (wpAny_pure ?_)
  refine wpAny_bind (collect_src (A := X.A.in1) (PySem.W.kdl_dict (knd := mixKind X.prog X.w) (kvs := vs) (ep := ep) hs) (I.ok.hd hc) hat hline fun h' tk acc hkp hgr hacc => ?_)
  have hl2 : acc.toList.length = vs.length := by rw [Array.length_toList]; exact hacc.1
  have hI : IntsAre acc.toList ns := ints_are_of (by rw [hl2, hlen]) fun j v hv => by
    obtain ⟨k, x, e1, e2⟩ := hacc.2 j v (by rw [← Array.getElem?_toList]; exact hv)
    obtain ⟨p, hp, ek⟩ := rel.at e1
    have e3 : (kvs.map (·.1))[j]? = some k := by rw [List.getElem?_map, hp]; exact congrArg some ek
    rw [hk, List.getElem?_map] at e3
    cases e4 : ns[j]? with
    | none => rw [e4] at e3; cases e3
    | some y =>
      rw [e4] at e3
      have e5 : (Sum.inl y : Key) = k := Option.some.inj e3
      subst e5
      obtain ⟨t, rfl⟩ := (show ∃ t, v = Value.int y t from key_rel e2)
      exact ⟨y, t, rfl, rfl⟩
  refine wpAny_bind (wpAny_newList ?_ (by rw [hl2]; exact hline))
  have hoL : (h'.push (seqObj "list" acc.toList.toArray 0)).get? h'.objs.size = some (seqObj "list" acc.toList.toArray 0) := Heap.get?_push_size _ rfl
  show wpAny _ _ _ _ _ { s with heap := h'.push (seqObj "list" acc.toList.toArray 0), toks := tk }
  refine wpAny_bind (wpAny_holding (wpAny_call_entry slot_list_sort ⟨_, hoL, rfl⟩ entry_list_sort (So.sort_ints64 hoL hI (by rw [hl2, hlen]; exact hl) fun out ns' a1 a2 a3 => ⟨_, rfl, ?_⟩) (args_list_sort _)))
  refine wpAny_pure ⟨_, rfl, ?_⟩
  obtain ⟨c, hat2⟩ := sortedHeap_at (out := out) hoL
  have hlo : ns'.length ≤ sizeLine := Nat.le_trans (Nat.le_of_eq a2.length_eq) (Nat.le_trans hl (by decide))
  refine ⟨.ref h'.objs.size, _, I.laid (a := h'.objs.size) (o := .lst (ns'.map V.int)) (fun b o e => ?_) (Nat.le_of_lt hgr) ?_, rfl, q _ ns' (I.hok.fresh (Nat.le_of_lt hgr)) a2 (strict_of a3 (a2.nodup_iff.mpr hnd))⟩
  · have e2 := hkp b o e
    have hb := Heap.lt_size e2
    rw [sortedHeap_old (Nat.ne_of_lt hb) (by rw [size_push']; exact Nat.lt_succ_of_lt hb), Heap.get?_push_ne _ _ _ (Nat.ne_of_lt hb)]
    exact e2
  · exact ⟨by rw [List.length_map]; exact hlo, out.toList, c, vals_ints a1, by rw [hat2]⟩
end L2

set_option Elab.async false
set_option linter.all false
set_option maxRecDepth 100000
namespace L2
open PySem PySem.Spec PyProof.Rows
theorem ObjOk.there {P : Program} {w : World} {H : Hp} {h : Heap} {a : Addr} {o : HO} (x : ObjOk P w H h a o) : ∃ ob, h.get? a = some ob := by
  cases o with
  | lst xs => obtain ⟨_, _, _, _, e⟩ := x; exact ⟨_, e⟩
  | tup xs => obtain ⟨_, _, _, o, e, _⟩ := x; exact ⟨_, e⟩
  | dK kvs => obtain ⟨_, _, _, _, o, _, _, e, _⟩ := x; exact ⟨_, e⟩
  | dT kvs => obtain ⟨_, _, _, _, o, _, _, e, _⟩ := x; exact ⟨_, e⟩
  | set S n => obtain ⟨o, _, _, _, e, _⟩ := x; exact ⟨_, e⟩
  | ins C dx fs => obtain ⟨_, _, _, e, _⟩ := x; exact ⟨_, e⟩
  | own y => exact x
  | xd fs => obtain ⟨_, ⟨_, _, _, e, _⟩, _⟩ := x; exact ⟨_, e⟩
  | rng lo hi => obtain ⟨_, _, _, e⟩ := x; exact ⟨_, e⟩
  | frz ob u => obtain ⟨e, _⟩ := x; exact ⟨_, e⟩
  | tbl ps => exact ⟨_, show h.get? a = some _ from x⟩
  | met f y => exact ⟨_, show h.get? a = some _ from x⟩
  | ext φ => obtain ⟨_, e, _⟩ := x; exact e
section
variable {P : Program} {w : World} {H : Hp} {h h' B : Heap}
theorem hok_stay (hok : HOk P w H h) (tr : ∀ b o, h.get? b = some o → H b ≠ none → B.get? b = some o) (st : ∀ b o, B.get? b = some o → h'.get? b = some o) : HOk P w H h' := fun b u e =>
  (hok b u e).stay (fun c v hc q => st c v (tr c v q (by
    rcases hc with hc | hc
    · rw [hc, e]; simp
    · rw [hc]; simp))) (fun _ q => q) fun _ _ q => q
theorem tr_stay (hok : HOk P w H h) (tr : ∀ b o, h.get? b = some o → H b ≠ none → B.get? b = some o) (st : ∀ b o, B.get? b = some o → h'.get? b = some o) : ∀ b o, h'.get? b = some o → H b ≠ none → B.get? b = some o := fun b o e n => by
  cases q : H b with
  | none => exact absurd q n
  | some u =>
    obtain ⟨ob, e1⟩ := (hok b u q).there
    have e2 := tr b ob e1 n
    have e3 := st b ob e2
    rw [e] at e3
    cases e3
    exact e2
end
noncomputable def CX1 (P : Program) (w : World) : CXT := fun outer H s E ev s' => ∃ (a C t : Addr) (B : Heap) (H' : Hp), ev = .ref a ∧ s'.os = s.os ∧ AllBare s'.gens ∧ Un (frs outer) [] H H' s.heap s'.heap ∧ HOk P w H' s'.heap ∧
  (∀ b o, s'.heap.get? b = some o → H' b ≠ none → B.get? b = some o) ∧ (∀ b o, s.heap.get? b = some o → H b = none → b ∉ frs outer → B.get? b = some o) ∧ (∀ b o, s.heap.get? b = some o → b ∉ frs outer → ∃ o', B.get? b = some o') ∧
  Heap.FlyingW B outer a (.ref C) (.ref t) s'.heap ∧ E (.ref C) none H'
section
variable {P : Program} {w : World} {K : PySem.W.Frag} {mg : Str → Option Value} {base : Heap} {N : List Str} {qual : Str} {scope : Scope} {f : Addr} {cd : Value} {A : Around} {outer : List Env} {s : Shared} {H : Hp} {E : XK}
theorem frs_cons (s : Shared) : frs (envOfC qual scope s.heap.objs.size f cd :: outer) = s.heap.objs.size :: frs outer := rfl
theorem left_of {pins : List (Addr × Obj)} {σ : St} {H1 H' : Hp} {s1 s' : Shared} {a C t : Addr} {B h'' : Heap} (I : Inv (cxOf (CX1 P w) P w K mg base N qual scope f cd A outer s H E) pins σ H1 s1) (os : s'.os = s1.os) (bare : AllBare s'.gens)
    (un : Un (frs (envOfC qual scope s.heap.objs.size f cd :: outer)) [] H1 H' s1.heap s'.heap) (hok : HOk P w H' s'.heap) (tr : ∀ b o, s'.heap.get? b = some o → H' b ≠ none → B.get? b = some o)
    (ut : ∀ b o, s1.heap.get? b = some o → H1 b = none → b ∉ frs (envOfC qual scope s.heap.objs.size f cd :: outer) → B.get? b = some o)
    (al : ∀ b o, s1.heap.get? b = some o → b ∉ frs (envOfC qual scope s.heap.objs.size f cd :: outer) → ∃ o', B.get? b = some o') (ff : s'.heap.FunFrames B (envOfC qual scope s.heap.objs.size f cd :: outer))
    (fl : Heap.FlyingW B outer a (.ref C) (.ref t) h'') (up : s'.heap.UpToSlots h'') (q : E (.ref C) none H') : CX1 P w outer H s E (.ref a) { s' with heap := h'' } := by
  have I' : Inv (cxOf (CX1 P w) P w K mg base N qual scope f cd A outer s H E) pins σ H' s' := I.call' os un hok bare fun b z => absurd z (by simp)
  have st := fl.1
  have nx : ∀ b : Addr, b ∉ (cxOf (CX1 P w) P w K mg base N qual scope f cd A outer s H E).ex := fun b z => absurd (show b ∈ ([] : List Addr) from z) (by simp)
  have nf : ∀ b o, s.heap.get? b = some o → b ∉ frs outer → b ∉ frs (envOfC qual scope s.heap.objs.size f cd :: outer) := fun b o e hb hm => by
    rw [frs_cons] at hm
    rcases List.mem_cons.mp hm with z | z
    · exact absurd (Heap.lt_size e) (by rw [z]; exact Nat.lt_irrefl _)
    · exact hb z
  have ut' : ∀ b o, s.heap.get? b = some o → H b = none → b ∉ frs outer → B.get? b = some o := fun b o e n hb =>
    ut b o (I.base.keep b o e n hb (nx b)) (I.base.free b o e n (nx b)) (nf b o e hb)
  have al' : ∀ b o, s.heap.get? b = some o → b ∉ frs outer → ∃ o', B.get? b = some o' := fun b o e hb => by
    obtain ⟨o1, e1⟩ := I.base.there b o e (nx b)
    exact al b o1 e1 (nf b o e hb)
  have sl : ∀ b o, s'.heap.get? b = some o → b ∈ frs outer → ∃ sl, h''.get? b = some { o with slots := sl } := fun b o e hb => by
    obtain ⟨_, o1, e1, nd⟩ := ff.mem (b := b) (by rw [← show frs _ = List.filterMap _ _ from rfl, frs_cons]; exact List.mem_cons_of_mem _ hb)
    rw [e] at e1
    cases e1
    exact up b o e nd
  refine ⟨a, C, t, B, H', rfl, I'.os, bare, ⟨fun b o e n hb _ => st b o (ut' b o e n hb), fun b o e n hb _ => ?_, I'.base.free, fun b o e hx => ?_, I'.base.tups, I'.base.frzs, I'.base.tbls⟩, hok_stay hok tr st, tr_stay hok tr st, ut', al', fl, q⟩
  · obtain ⟨sl1, e1⟩ := I'.base.slot b o e n hb (nx b)
    obtain ⟨sl2, e2⟩ := sl b _ e1 hb
    exact ⟨sl2, e2⟩
  · by_cases hb : b ∈ frs outer
    · obtain ⟨o1, e1⟩ := I'.base.there b o e (nx b)
      obtain ⟨sl2, e2⟩ := sl b _ e1 hb
      exact ⟨_, e2⟩
    · obtain ⟨o', e'⟩ := al' b o e hb
      exact ⟨o', st b o' e'⟩
theorem pass1 : Passes (CX1 P w) (cxOf (CX1 P w) P w K mg base N qual scope f cd A outer s H E) E := by
  intro pins σ H1 s1 e s' I h
  obtain ⟨a, C, t, B, H', rfl, os, bare, un, hok, tr, ut, al, fl, q⟩ := h
  show wpAny (model P w) (A.deeper (envOfC qual scope s.heap.objs.size f cd)) (leaving (envOfC qual scope s.heap.objs.size f cd) (.ref a)) _ _ s'
  refine wpAny_leaves_onW (L := s.heap.objs.size) (outer := outer) (base := B) (cls := .ref C) (a0 := .ref t) I.ok.frames rfl fl fun h'' fl2 up => ?_
  exact left_of I os bare un hok tr ut al fl.2.2.1 fl2 up q
noncomputable def Raises (X : Cx) (E : XK) : Prop := ∀ (pins : List (Addr × Obj)) (σ : St) (H : Hp) (s : Shared) (h' : Heap) (a C : Addr) (vs : List Value), Inv X pins σ H s → Heap.MadeExcOf s.heap h' a (.ref C) vs → E (.ref C) none H → X.xe (.ref a) { s with heap := h' }
theorem raises1 : Raises (cxOf (CX1 P w) P w K mg base N qual scope f cd A outer s H E) E := by
  intro pins σ H1 s1 h' a C vs I hx q
  show wpAny (model P w) (A.deeper (envOfC qual scope s.heap.objs.size f cd)) (leaving (envOfC qual scope s.heap.objs.size f cd) (.ref a)) _ _ { s1 with heap := h' }
  have st0 : Heap.StaysIn (PySem.W.hideAll s1.heap (frs (envOfC qual scope s.heap.objs.size f cd :: outer))) s1.heap := fun b o e => PySem.W.of_hideAll _ e
  have ff : s1.heap.FunFrames (PySem.W.hideAll s1.heap (frs (envOfC qual scope s.heap.objs.size f cd :: outer))) (envOfC qual scope s.heap.objs.size f cd :: outer) :=
    PySem.W.funFrames_hide I.stack fun env he b hb => List.mem_filterMap.mpr ⟨env, he, hb⟩
  refine wpAny_leaves_madeW (L := s.heap.objs.size) (s := { s1 with heap := h' }) (outer := outer) I.ok.frames rfl st0 ff hx fun h'' t fl _ _ up => ?_
  have up2 : s1.heap.UpToSlots h'' := (Heap.UpToSlots.of_keeps hx.keeps).trans up
  refine left_of (s' := s1) I rfl I.bare Un.refl I.hok (fun b o e n => PySem.W.hideAll_get _ e fun hm => n (I.stkFree b hm)) (fun b o e _ hb => PySem.W.hideAll_get _ e hb) (fun b o e hb => ⟨o, PySem.W.hideAll_get _ e hb⟩) ff fl up2 q
end

noncomputable def notStar : Expr → Bool
  | .Starred .. => false
  | _ => true
theorem star_c {e : Expr} {es : List Expr} {env : Env} (h : notStar e = true) : starEach (e :: es) env = (false, eval e env) :: starEach es env := by
  cases e <;> first | rfl | cases h
theorem pa_con {X : Cx} {e : Expr} {es : List Expr} {te : TE} {t : TA} (h : notStar e = true) (ha : PE X e te) (hr : PA X es t) : PA X (e :: es) (tCons te t) := pa_cons ha hr (star_c h)
theorem exc_obj {K : PySem.W.Frag} {h : Heap} {C : Addr} {bmB : List Value} {newId : String} (X : K.In h) (q : PySem.W.excIn K C bmB newId = true) :
    ∃ (tl : List Value) (N : Addr) (nm qn : Str) (bs : List Value) (hd : Bool) (sn : List Str) (sub : List Value) (ab : Bool) (col : Option Bool) (dd : Option Addr) (k0 k1 k2 k3 k5 : Option Value) (mN : Str → Option Value),
      h.get? C = some (excClassObj nm qn C N bs tl hd sn sub ab col dd k0 k1 k2 k3 k5 newId) ∧ h.Ns N mN ∧ mN "__init__" = none ∧ OwnTail h bmB tl := by
  unfold PySem.W.excIn at q
  split at q
  · rename_i dd cd sl ho
    split at q
    · rename_i C' bm k0 k1 k2 k3 n k5 hm hs
      simp only [beq_iff_eq, Bool.not_eq_true', Bool.and_eq_true] at q
      obtain ⟨⟨⟨⟨⟨e1, e2⟩, hdel⟩, ht⟩, hok⟩, hni⟩ := q
      subst e1 e2
      obtain ⟨nm, bs, mr, ns, qn, hd, sn, sub, ab, col, de⟩ := cd
      dsimp only at hm hdel hok hni
      subst hm hdel
      obtain ⟨l⟩ := sl
      have hs : l = [k0, k1, k2, k3, some (.builtin n), k5] := hs
      subst hs
      exact ⟨bm, ns, nm, qn, bs, hd, sn, sub, ab, col, dd, k0, k1, k2, k3, k5, _, X _ _ ho, .of_isNs (PySem.W.isNs_of_in X hok), PySem.W.nsMap_none_of_in X hok hni, PySem.W.tail_of_in X ht⟩
    · cases q
  · cases q
noncomputable def tRaise (C : Addr) (E : XK) (ta : TA) : TS := fun _ σ H => ta σ H fun vs H1 => vs.length ≤ sizeLine ∧ E (.ref C) none H1
section
variable {X : Cx} {C : Addr} {x : Str} {bmB : List Value} {B newId initId : String} {e : Expr} {es : List Expr} {ta : TA} {np cpos pos : Pos} {E : XK}
theorem ps_raise (hr : Raises X E) (hc : X.calm = true) (hm : X.mg x = some (.ref C)) (hq : PySem.W.excIn X.K C bmB newId = true) (FB : ExcBaseFacts B newId initId bmB) (ha : PA X (e :: es) ta) (hg : Gl X x := by rfl) (hdb : (x == ("__debug__" : Str)) = false := by decide)
    (hpl : (backTo cpos (starEach (e :: es) X.env)).any (·.1) = false := by rfl) (he : starEach (e :: es) X.env = (false, eval e X.env) :: starEach es X.env := by rfl) : PS X (.Raise (some (.Call (.Name x np) (e :: es) [] cpos)) none pos) (tRaise C E ta) := by
  intro pins s σ H D I h
  obtain ⟨tl, N, nm, qn, bs, hd, sn, sub, ab, col, dd, k0, k1, k2, k3, k5, mN, hC, hN, hni, T⟩ := exc_obj I.mod.kin hq
  refine wpAny_Raise_call_subT (C := C) (nm := nm) (q := qn) (N := N) (bs := bs) (bm := tl) (hdct := hd) (sn := sn) (sub := sub) (ab := ab) (col := col) (dd := dd) (k0 := k0) (k1 := k1) (k2 := k2) (k3 := k3) (k5 := k5) FB (mN := mN) (T.hasType FB.hasBase) (I.ok.hd hc) hpl hni (ld_glob I hg hm ⟨rfl, ?_⟩ hdb)
  have hh := ha cpos pins s σ H _ I h
  rw [he] at hh ⊢
  refine Calls.evalArgs_plain (thn hh fun us s1 ⟨vs, H1, I1, r, z, q⟩ => ?_)
  exact ⟨rfl, by rw [← r.length]; exact z, I1.bk _ _ hC, hN.keeps I1.bk, T.keeps I1.bk, fun h' e hx => hr pins σ H1 s1 h' e C us I1 hx q⟩
end
noncomputable def OkFnX (P : Program) (w : World) (K : PySem.W.Frag) (mg : Str → Option Value) (base : Heap) (k : Nat) (f : Addr) (ps : List Str) (sp : Sp) : Prop := ∃ fd, Binds K fd ps [] ∧ FnOk P w K mg base (CX1 P w) k f fd ps sp
theorem OkFnX.mono {P : Program} {w : World} {K : PySem.W.Frag} {mg : Str → Option Value} {base : Heap} {j k : Nat} {f : Addr} {ps : List Str} {sp : Sp} (G : OkFnX P w K mg base j f ps sp) (h : j ≤ k) : OkFnX P w K mg base k f ps sp :=
  let ⟨fd, b, F⟩ := G; ⟨fd, b, F.mono h⟩
theorem okfnX {P : Program} {w : World} {K : PySem.W.Frag} {mg : Str → Option Value} {base : Heap} {x qual : Str} {st : Stmt} {f : Addr} {N ps : List Str} {k : Nat} {sp : Sp} (F : FunAt K x qual st ps f) (S : FnScope N ps (defScope st)) (len : ∀ vs H Q E, sp vs H Q E → vs.length = ps.length)
    (hbody : ∀ (cdv : Value) (A : Around) (outer : List Env) (s : Shared) (H : Hp) (vs : List V) (Q : VK) (E : XK), Room k (A.deeper (envOfC qual (defScope st) s.heap.objs.size f cdv)) → sp vs H Q E →
      ∃ t, PSs (cxOf (CX1 P w) P w K mg base N qual (defScope st) f cdv A outer s H E) (defBody st) t ∧ t { nx := fun _ H' => Q .non H', rt := Q } (start N vs) H) : OkFnX P w K mg base (k + 1) f ps sp := by
  obtain ⟨fd, F, b⟩ := F
  obtain ⟨oc, od, kV, doc, pm, an, cdv, ct, osl, rfl, lk, hcd⟩ := F.ex
  exact ⟨_, b, fn_of lk hcd S len fun A outer s H vs Q E hr hsp => hbody cdv A outer s H vs Q E hr hsp⟩
section
variable {X : Cx} {k : Nat} {f : Addr} {ps : List Str} {sp : Sp} {x : Str} {p pos : Pos} {e g : Expr} {es : List Expr} {t : TA} {tg : TE} {E : XK}
theorem pe_callX (G : OkFnX X.prog X.w X.K X.mg X.base k f ps sp) (hx : Passes (CX1 X.prog X.w) X E) (hr : Room k X.A) (hm : X.mg x = some (.ref f)) (hk : PySem.W.keepIn X.K (.ref f) = true) (ha : PA X (e :: es) t)
    (hg : Gl X x := by rfl) (hdb : (x == ("__debug__" : Str)) = false := by decide) (he : starEach (e :: es) X.env = (false, eval e X.env) :: starEach es X.env := by rfl) (hpl : (backTo pos (starEach es X.env)).any (·.1) = false := by rfl) :
    PE X (.Call (.Name x p) (e :: es) [] pos) (tCall sp [] E t) := by
  obtain ⟨fd, b, F⟩ := G
  exact pe_call F hr hg hm hk b .nil hx ha hdb he hpl
noncomputable def tCallA (P : Program) (w : World) (K : PySem.W.Frag) (mg : Str → Option Value) (base : Heap) (k : Nat) (E : XK) (tg : TE) (t : TA) : TE := fun σ H Q => tg σ H fun x H1 => ∃ (f : Addr) (ps : List Str) (sp : Sp), x = .ref f ∧ PySem.W.keepIn K (.ref f) = true ∧ OkFnX P w K mg base k f ps sp ∧ t σ H1 fun vs H2 => sp vs H2 Q E
theorem arm_call_sub (o i : Expr) (sp pos : Pos) (args : List Expr) (kws : List Keyword) (env : Env) : eval (.Call (.Subscript o i sp) args kws pos) env = (do
      let f ← eval (.Subscript o i sp) env
      callWith pos f [] (backTo pos (starEach args env)) (backToKw pos (keywordEach kws env))) := by rfl
theorem pe_callA {o i : Expr} {sp : Pos} (k : Nat) (hg : PE X (.Subscript o i sp) tg) (hx : Passes (CX1 X.prog X.w) X E) (hr : Room k X.A) (ha : PA X (e :: es) t) (he : starEach (e :: es) X.env = (false, eval e X.env) :: starEach es X.env := by rfl) (hpl : (backTo pos (starEach es X.env)).any (·.1) = false := by rfl) :
    PE X (.Call (.Subscript o i sp) (e :: es) [] pos) (tCallA X.prog X.w X.K X.mg X.base k E tg t) := by
  intro pins s σ H Q I h
  rw [arm_call_sub]
  refine wpAny_bind (thn (hg pins s σ H _ I h) fun u s1 ⟨x, H1, I1, rx, f, ps, sp, ex, hk, G, q⟩ => ?_)
  subst ex
  obtain rfl : u = Value.ref f := rx
  obtain ⟨fd, b, F⟩ := G
  refine PySem.W.callWith_K (h₀ := X.base) I.ok.mod.kin hk (thn (ha pos pins s1 σ H1 _ I1 q) fun us s2 ⟨vs, H2, I2, r, q2⟩ => ⟨I2.kIn, ?_⟩) he hpl
  exact run_fn (us := us) (vs := vs) F hr b .nil hx I2 r (by rw [List.append_nil]; exact q2)
end
theorem pe_callAK {X : Cx} {P : Program} {w : World} {K : PySem.W.Frag} {mg : Str → Option Value} {base : Heap} {pos : Pos} {e : Expr} {es : List Expr} {t : TA} {tg : TE} {E : XK} {o i : Expr} {sp : Pos} (hP : X.prog = P) (hw : X.w = w) (hK : X.K = K) (hmg : X.mg = mg) (hbs : X.base = base) (k : Nat)
    (hg : PE X (.Subscript o i sp) tg) (hx : Passes (CX1 X.prog X.w) X E) (hr : Room k X.A) (ha : PA X (e :: es) t) (he : starEach (e :: es) X.env = (false, eval e X.env) :: starEach es X.env) (hpl : (backTo pos (starEach es X.env)).any (·.1) = false) :
    PE X (.Call (.Subscript o i sp) (e :: es) [] pos) (tCallA P w K mg base k E tg t) := by
  subst hP hw hK hmg hbs
  exact pe_callA k hg hx hr ha he hpl
theorem pss_stop {X : Cx} {st : Stmt} {rest : List Stmt} {t : TS} (h : PS X st t) : PSs X (st :: rest) (fun D σ H => t { D with nx := fun _ _ => False } σ H) := by
  intro pins s σ H D I hq
  refine wpAny_execs_cons (thn (h pins s σ H { D with nx := fun _ _ => False } I hq) fun f s1 q => ?_)
  cases f with
  | next =>
    obtain ⟨_, _, _, q⟩ := q
    exact q.elim
  | ret v => exact q
  | brk => exact q
  | cont => exact q
noncomputable def ExcAt (e C : Addr) : Heap → Prop := fun h => ∃ o, h.get? e = some o ∧ o.cls = .ref C
theorem excAt_type {e C : Addr} {h : Heap} {M : Model} (x : ExcAt e C h) : PySem.W.Looks M h (typeOf (.ref e)) (.ref C) := by
  obtain ⟨o, h1, h2⟩ := x
  exact h2 ▸ (PySem.W.Looks.ld h1).andThen .now
theorem exc_ok {P : Program} {w : World} {H : Hp} {h : Heap} {e C : Addr} (x : ExcAt e C h) : ObjOk P w H h e (.ext (ExcAt e C)) :=
  ⟨x, let ⟨o, h1, _⟩ := x; ⟨o, h1⟩, fun h1 h2 ⟨o, a, b⟩ k => ⟨o, k o a, b⟩⟩
structure ExcCls (K : PySem.W.Frag) (D : Addr) : Prop where
  ga : PySem.W.findIn K (.ref D) "__getattribute__" = some (some (.builtin "BaseException.__getattribute__"))
  gn : PySem.W.findIn K (.ref D) "__getattr__" = some none
  bx : PySem.W.mroIn K D (.type "BaseException") = some true
  hd : PySem.W.hasDictIn K D = true
  ty1 : PySem.W.findIn K (.ref D) "__class__" = some (some (.builtin "object.__class__"))
  tk1 : PySem.W.specialIn K (.builtin "object.__class__") "__get__" = some (some (.builtin "getset_descriptor.__get__"))
  tk2 : PySem.W.takesIn K (.builtin "object.__class__") = some true
  ty2 : PySem.W.mroIn K D (.type "object") = some true
theorem exc_class {prog : Program} {w : World} {A : Around} {E : Value → Shared → Prop} {s : Shared} {K : PySem.W.Frag} {x D : Addr} {Q : Option Value → Shared → Prop} (c : ExcCls K D) (X : K.In s.heap) (p : ExcAt x D s.heap) (k : Q (some (.ref D)) { s with toks := s.toks + 1 }) :
    wpAny (model prog w) A (getAttr? (.ref x) "__class__") Q E s := by
  obtain ⟨hh, gg, dd, tt, os⟩ := s
  have t0 := excAt_type (M := model prog w) p
  have t1 := PySem.W.looks_findIn (M := model prog w) X c.ga
  have t2 := PySem.W.looks_findIn (M := model prog w) X c.gn
  have t3 := PySem.W.looks_findIn (M := model prog w) X c.ty1
  have t4 := PySem.W.looks_specialIn (M := model prog w) X c.tk1
  have t5 := PySem.W.looks_takesIn (M := model prog w) X c.tk2
  have t6 := PySem.W.looks_mroIn (M := model prog w) X c.ty2
  have t9 := PySem.W.looks_mroIn (M := model prog w) X c.bx
  have t8 : PySem.W.Looks (model prog w) hh (Builtin.ObjectAttr.dataDescriptor? (some (Value.builtin "object.__class__")) (some (Value.builtin "getset_descriptor.__get__"))) (some (Value.builtin "getset_descriptor.__get__", Value.builtin "object.__class__")) := t5.andThen .now
  have t7 : PySem.W.Looks (model prog w) hh (Builtin.ObjectAttr.find (.ref x) (.ref D) "__class__") (.bind (Value.builtin "getset_descriptor.__get__") (Value.builtin "object.__class__")) := by
    unfold Builtin.ObjectAttr.find
    refine t3.andThen ?_
    refine (show PySem.W.Looks (model prog w) hh (Builtin.ObjectAttr.getOf (some (Value.builtin "object.__class__"))) (some (Value.builtin "getset_descriptor.__get__")) from t4).andThen ?_
    exact t8.andThen (PySem.W.Looks.tag .now)
  unfold getAttr?
  unfold getAttrBy? getAttrBy
  refine wpAny_bind (wpAny_mkText (wpAny_bind (wpAny_attempt (wpAny_holding (wpAny_bind (t0.at (wpAny_bind (t1.at ?_))))))))
  show wpAny (model prog w) _ (getAttrByItsOwn _ _ _ _ _ _) _ _ _
  unfold getAttrByItsOwn
  refine wpAny_bind (show wpAny (model prog w) _ (typeLookup (.ref D) "__getattr__") _ _ _ from t2.at (wpAny_bind (wpAny_attempt (wpAny_holding ?_))))
  show wpAny (model prog w) _ (boundAndCalled _ _ _) _ _ _
  unfold boundAndCalled
  rw [PySem.F.attr_ValueError.ga.bind]
  refine wpAny_bind (wpAny_pure (wpAny_call ?_))
  refine codeAny_call_builtin PySem.F.attr_ValueError.ga.plain PySem.F.entry_bexc_ga ?_
  have hk : builtinKind "BaseException.__getattribute__" = some .slot := by decide +kernel
  have hsplit : splitId "BaseException.__getattribute__" = some ("BaseException", "__getattribute__") := by decide +kernel
  have ha := PySem.F.args_bexc_ga (.ref x) (.str "__class__" tt)
  simp only [checkBuiltinCall, hk, hsplit]
  unfold isInstance
  refine wpAny_bind (wpAny_bind (t0.at (t9.at ?_)))
  refine wpAny_of_eq (a := ()) ha ?_
  unfold Builtin.«object.__getattribute__»
  refine wpAny_bind (wpAny_of_eq (a := (Value.ref x, [Value.str "__class__" tt])) rfl ?_)
  refine wpAny_bind (wpAny_of_eq (a := ("__class__" : Str)) rfl ?_)
  refine wpAny_bind (t0.at (wpAny_bind (t7.at ?_)))
  show wpAny _ _ (holding [Value.builtin "object.__class__"] (call (.builtin "getset_descriptor.__get__") [.builtin "object.__class__", .ref x, .ref D]) >>= ret) _ _ _
  refine wpAny_bind (wpAny_holding (wpAny_call ?_))
  refine codeAny_call_builtin PySem.W.KF.slot_gs.plain PySem.W.KF.entry_gs (PySem.W.KF.slot_gs.check _ _ _ _ _ _ _ _ PySem.W.KF.type_class (PySem.W.KF.args_gs _ _ _) ?_)
  unfold Builtin.«getset_descriptor.__get__»
  unfold Builtin.Getset_descriptor.descrGet
  rw [PySem.W.dga_obj]
  refine wpAny_bind (wpAny_pure ?_)
  unfold Builtin.Getset_descriptor.descrGetter Builtin.Getset_descriptor.descrCheckInstance Builtin.Getset_descriptor.descrNameAndClass isInstance
  simp only [PySem.W.KF.owner_class]
  clear t1 t2 t3 t4 t5 t7 t8 t9
  repeat lk
  refine ⟨Code.quiet_builtin _ (by decide +kernel), codeAny_builtin PySem.W.KF.entry_class ?_⟩
  unfold Builtin.«object.__class__»
  unfold shownTypeOf
  repeat lk
  exact k
theorem kitx_exc {K : PySem.W.Frag} {x D : Addr} (c : ExcCls K D) : PySem.W.KitX K (.ref x) (.ref D) (ExcAt x D) where
  ty := fun _ _ _ p => excAt_type p
  it := fun _ _ X _ => by
    obtain ⟨cd, hc, _⟩ := PySem.W.any_some c.hd
    unfold PySem.W.clsIn at hc
    split at hc
    · rename_i ho
      intro A' Q' E' s' k q
      unfold isType loadHead
      refine wpAny_bind (wpAny_loadPart (k _ _ (X _ _ ho)) ?_)
      exact wpAny_pure q
    · cases hc
  ne := fun h tp dd its n sl X htp => by
    obtain ⟨cd, hc, _⟩ := PySem.W.any_some c.hd
    refine Bool.eq_false_iff.mpr fun q => ?_
    have e : D = tp := Value.ref.inj (beq_iff_eq.mp q)
    subst e
    unfold PySem.W.clsIn at hc
    split at hc
    · rename_i ho
      have := X _ _ ho
      rw [htp] at this
      cases this
    · cases hc
  ca := fun X p k => exc_class c X p k
theorem call_isinstE {X : Cx} : CallR X (.builtin "isinstance") (fun xs H Q => ∃ (e D : Addr) (c : V) (u : Value) (b : Bool), xs = [.ref e, c] ∧ H e = some (.ext (ExcAt e D)) ∧ ExcCls X.K D ∧ (∀ u', RelV c u' → u' = u) ∧ PySem.W.kitOne X.K (.ref D) u = some b ∧ Q (.bl b) H) := by
  intro pins s σ H xs us Q I r h
  obtain ⟨e, D, c, u, b, rfl, he, ec, hc, hk, q⟩ := h
  obtain ⟨v, w', rfl, rv, rw'⟩ := vals2 r
  cases hc _ rw'
  cases rv
  obtain ⟨p, _⟩ := (show ObjOk X.prog X.w H s.heap e (.ext (ExcAt e D)) from I.hok e _ he)
  exact PySem.W.kia_one (kitx_exc ec) I.kIn p hk (fun z => nomatch z) fun tk => ⟨.bl b, H, I.tok tk, rfl, q⟩
theorem call_isinstEK {X : Cx} {K : PySem.W.Frag} (hK : X.K = K) : CallR X (.builtin "isinstance") (fun xs H Q => ∃ (e D : Addr) (c : V) (u : Value) (b : Bool), xs = [.ref e, c] ∧ H e = some (.ext (ExcAt e D)) ∧ ExcCls K D ∧ (∀ u', RelV c u' → u' = u) ∧ PySem.W.kitOne K (.ref D) u = some b ∧ Q (.bl b) H) := by
  subst hK
  exact call_isinstE
theorem kit_ty {K : PySem.W.Frag} {C : Addr} {T : String} {b : Bool} (hm : PySem.W.kitMeta T = true) (m : PySem.W.mroIn K C (.type T) = some b) : PySem.W.kitOne K (.ref C) (.type T) = some b := by
  unfold PySem.W.kitOne
  rw [if_neg (by intro z; have := beq_iff_eq.mp z; cases this)]
  unfold PySem.W.kitCls
  show (if PySem.W.kitMeta T = true then PySem.W.subIn K (.ref C) (.type T) else none) = some b
  rw [if_pos hm]
  exact m
theorem exm_of {K : PySem.W.Frag} {C D : Addr} (mB : PySem.W.mroIn K D (.type "BaseException") = some true) (mD : PySem.W.mroIn K D (.ref D) = some true) (tD : PySem.W.typeIn K (.ref D) = some (.type "type")) (m : PySem.W.mroIn K C (.ref D) = some true) :
    PySem.W.exmOne K (.ref C) (.ref D) = some true := by
  unfold PySem.W.exmOne
  have e : PySem.W.subIn K (.ref D) (.type "BaseException") = some true := mB
  rw [e, if_pos (by decide)]
  unfold PySem.W.kitCls
  have hs : (PySem.W.clsIn K D).isSome = true := by
    unfold PySem.W.mroIn at mD
    cases q : PySem.W.clsIn K D with
    | none => rw [q] at mD; cases mD
    | some _ => rfl
  show (if ((PySem.W.clsIn K D).isSome && PySem.W.typeIn K (.ref D) == some (.type "type")) = true then PySem.W.subIn K (.ref C) (.ref D) else none) = some true
  rw [hs, tD, if_pos (by simp)]
  exact m
end L2

set_option Elab.async false
set_option linter.all false
set_option maxRecDepth 100000
namespace L2
open PySem PySem.Spec PyProof.Rows
noncomputable abbrev Cx.tr (X : Cx) (pn : List (Addr × Obj)) (xe : Value → Shared → Prop) : Cx := { X with pn := pn, xe := xe }
noncomputable abbrev Cx.hand (X : Cx) (pn : List (Addr × Obj)) (e : Addr) : Cx := { X with A := X.A.mark (some (.ref e)), calm := false, pn := pn, xe := fun _ _ => False }
section
variable {X : Cx} {pins pins' : List (Addr × Obj)} {σ : St} {H H' : Hp} {s : Shared} {xe : Value → Shared → Prop}
theorem Inv.tr (I : Inv X pins σ H s) (xe : Value → Shared → Prop) : Inv (X.tr (X.pn ++ pins) xe) [] σ H s :=
  ⟨⟨I.ok.mod, I.ok.kind, I.ok.glob, I.ok.blt, I.ok.above, I.ok.inj, I.ok.has, I.ok.cab, I.ok.hd, I.ok.frames, I.ok.stk, I.ok.exf, I.ok.bs, I.ok.bsz, I.ok.noex, I.ok.exfs, I.ok.funs, I.ok.frf⟩, I.os, I.bare, I.base, I.loc, I.cell, I.free, I.freeC,
    fun p hp => I.pin p (by rw [List.append_nil] at hp; exact hp), I.hok, I.len⟩
theorem Inv.untr (I : Inv (X.tr (X.pn ++ pins) xe) pins' σ H s) : Inv X pins σ H s :=
  ⟨⟨I.ok.mod, I.ok.kind, I.ok.glob, I.ok.blt, I.ok.above, I.ok.inj, I.ok.has, I.ok.cab, I.ok.hd, I.ok.frames, I.ok.stk, I.ok.exf, I.ok.bs, I.ok.bsz, I.ok.noex, I.ok.exfs, I.ok.funs, I.ok.frf⟩, I.os, I.bare, I.base, I.loc, I.cell, I.free, I.freeC,
    fun p hp => I.pin p (List.mem_append_left _ hp), I.hok, I.len⟩
theorem Inv.hand (I : Inv X pins σ H s) (e : Addr) : Inv (X.hand (X.pn ++ pins) e) [] σ H s :=
  ⟨⟨I.ok.mod, I.ok.kind, I.ok.glob, I.ok.blt, I.ok.above, I.ok.inj, I.ok.has, I.ok.cab, fun z => absurd (show false = true from z) Bool.false_ne_true, I.ok.frames, I.ok.stk, I.ok.exf, I.ok.bs, I.ok.bsz, I.ok.noex, I.ok.exfs, I.ok.funs, I.ok.frf⟩, I.os, I.bare, I.base, I.loc, I.cell, I.free, I.freeC,
    fun p hp => I.pin p (by rw [List.append_nil] at hp; exact hp), I.hok, I.len⟩
theorem Inv.unhand {e : Addr} (ok : X.Ok) (I : Inv (X.hand (X.pn ++ pins) e) [] σ H s) : Inv X pins σ H s :=
  ⟨ok, I.os, I.bare, I.base, I.loc, I.cell, I.free, I.freeC, fun p hp => I.pin p (by rw [List.append_nil]; exact hp), I.hok, I.len⟩
theorem Inv.track {e : Addr} {o : HO} (I : Inv X pins σ H s) (hn : H e = none) (h0 : X.s₀.heap.get? e = none) (hL : e ≠ X.env.locals) (hC : ∀ x c, X.env.cells.lookup x = some c → c ≠ e) (hp : ∀ p ∈ X.pn ++ pins, p.1 ≠ e) (new : ObjOk X.prog X.w (upd H e o) s.heap e o) :
    Inv X pins σ (upd H e o) s := by
  have ne : ∀ b u, H b = some u → b ≠ e := fun b u q z => by rw [z, hn] at q; cases q
  refine ⟨I.ok, I.os, I.bare, ⟨I.base.keep, I.base.slot, fun b ob q n hx => ?_, I.base.there, fun b xs q => ?_, fun b ob u q => ?_, fun b ps q => ?_⟩, I.loc, I.cell, ?_, fun x c q => ?_, fun p q => ?_, fun b u q => ?_, I.len⟩
  · have hb : b ≠ e := fun z => by rw [z, h0] at q; cases q
    rw [upd_ne hb]
    exact I.base.free b ob q n hx
  · have z := I.base.tups b xs q
    rw [upd_ne (ne b _ z)]
    exact z
  · have z := I.base.frzs b ob u q
    rw [upd_ne (ne b _ z)]
    exact z
  · obtain ⟨more, z⟩ := I.base.tbls b ps q
    exact ⟨more, by rw [upd_ne (ne b _ z)]; exact z⟩
  · rw [upd_ne hL.symm]
    exact I.free
  · rw [upd_ne (hC x c q)]
    exact I.freeC x c q
  · obtain ⟨a, b, c⟩ := I.pin p q
    exact ⟨a, by rw [upd_ne (hp p q)]; exact b, c⟩
  · by_cases hb : b = e
    · subst hb
      rw [upd_same] at q
      cases q
      exact new
    · rw [upd_ne hb] at q
      exact (I.hok b u q).stay (fun _ _ _ z => z) (fun c z => by rw [upd_ne (ne c _ z)]; exact z) fun c xs z => by rw [upd_ne (ne c _ z)]; exact z
theorem Inv.lost {m : Str → Option Value} {h' : Heap} {t' : Nat} (I : Inv X pins σ H s) (hn : h'.Ns X.env.locals m) (hs : Heap.SameBut X.env.locals s.heap h') : Inv X pins (List.replicate X.N.length none) H { s with heap := h', toks := t' } := by
  have k : ∀ b o, b ≠ X.env.locals → s.heap.get? b = some o → h'.get? b = some o := fun b o hb e => (hs.2 b hb).trans e
  have old : ∀ b o, X.s₀.heap.get? b = some o → b ≠ X.env.locals := fun b o e z => absurd (Heap.lt_size e) (by rw [z]; exact Nat.not_lt.mpr I.ok.above)
  refine ⟨I.ok, I.os, I.bare, ⟨fun b o e n hb hx => k b o (old b o e) (I.base.keep b o e n hb hx), fun b o e n hb hx => ?_, I.base.free, fun b o e hx => ?_, I.base.tups, I.base.frzs, I.base.tbls⟩, ⟨m, hn, fun i x v _ e _ => ?_⟩, fun x c e => ?_, I.free, I.freeC, fun p hp => ?_, fun b u e => ?_, by simp⟩
  · obtain ⟨sl, q⟩ := I.base.slot b o e n hb hx
    exact ⟨sl, k b _ (old b o e) q⟩
  · obtain ⟨o', q⟩ := I.base.there b o e hx
    exact ⟨o', k b _ (old b o e) q⟩
  · rw [List.getElem?_replicate] at e
    split at e <;> cases e
  · obtain ⟨v, o, ho, hd⟩ := I.cell x c e
    exact ⟨v, o, k c o (I.cne x c e) ho, hd⟩
  · obtain ⟨a, b, c, d⟩ := I.pin p hp
    exact ⟨k _ _ c a, b, c, d⟩
  · have hb : ∀ c u, H c = some u → c ≠ X.env.locals := fun c u q z => by rw [z, I.free] at q; cases q
    exact (I.hok b u e).stay (fun c v hc q => k c v (by
      rcases hc with hc | hc
      · rw [hc]; exact hb b u e
      · exact hb c _ hc) q) (fun _ q => q) fun _ _ q => q
end
theorem un_stay {fs : List Addr} {H H' : Hp} {h h1 h2 B : Heap} (un : Un fs [] H H' h h1) (ut : ∀ b o, h.get? b = some o → H b = none → b ∉ fs → B.get? b = some o) (al : ∀ b o, h.get? b = some o → b ∉ fs → ∃ o', B.get? b = some o')
    (st : ∀ b o, B.get? b = some o → h2.get? b = some o) (fr : ∀ b o, h1.get? b = some o → b ∈ fs → ∃ sl, h2.get? b = some { o with slots := sl }) : Un fs [] H H' h h2 where
  keep := fun b o e n hb _ => st b o (ut b o e n hb)
  slot := fun b o e n hb hx => by
    obtain ⟨_, e1⟩ := un.slot b o e n hb hx
    obtain ⟨sl, e2⟩ := fr b _ e1 hb
    exact ⟨sl, e2⟩
  free := un.free
  there := fun b o e hx => by
    by_cases hb : b ∈ fs
    · obtain ⟨o1, e1⟩ := un.there b o e hx
      obtain ⟨sl, e2⟩ := fr b o1 e1 hb
      exact ⟨_, e2⟩
    · obtain ⟨o', e'⟩ := al b o e hb
      exact ⟨o', st b o' e'⟩
  tups := un.tups
  frzs := un.frzs
  tbls := un.tbls
noncomputable def EH (K : PySem.W.Frag) (C0 : Addr) (i len : Nat) (ts : TS) (D : Ends) : XK := fun c _ H' => ∃ C, c = .ref C ∧ PySem.W.exmOne K (.ref C) (.ref C0) = some true ∧
  ∀ (e : Addr) (σ' : St), σ'.length = len → H' e = none → ts { nx := fun _ _ => False, rt := D.rt } (σ'.set i (some (.ref e))) (upd H' e (.ext (ExcAt e C)))
noncomputable def tTry (K : PySem.W.Frag) (C0 : Addr) (i len : Nat) (tb : XK → TS) (ts : TS) : TS := fun D σ H => tb (EH K C0 i len ts D) D σ H
section
variable {X : Cx} {body : List Stmt} {x n : Str} {np hpos pos : Pos} {b₀ : Stmt} {suite : List Stmt} {i : Nat} {C0 : Addr} {tb : XK → TS} {ts : TS}
theorem ps_try (hex : X.ex = []) (hstk : X.stack = X.env :: X.outer) (hfr : X.env.frame = some X.env.locals) (hN : X.N.Nodup) (hiN : X.N[i]? = some n) (hloc : X.env.scope.names.lookup n = some .local) (hm : X.mg x = some (.ref C0))
    (hb : ∀ (E : XK) (pn : List (Addr × Obj)) (xe : Value → Shared → Prop), Passes (CX1 X.prog X.w) (X.tr pn xe) E → PSs (X.tr pn xe) body (tb E)) (hs : ∀ (pn : List (Addr × Obj)) (e : Addr), PSs (X.hand pn e) (b₀ :: suite) ts)
    (hg : Gl X x := by rfl) (hdb : (x == ("__debug__" : Str)) = false := by decide) : PS X (.Try body [.ExceptHandler (some (.Name x np)) (some n) (b₀ :: suite) hpos] [] [] pos) (tTry X.K C0 i X.N.length tb ts) := by
  intro pins s σ H D I h
  refine wpAny_Try_except ?_
  have pass : Passes (CX1 X.prog X.w) (X.tr (X.pn ++ pins) fun e s₁ => wpAny (model X.prog X.w) X.A (noteFrame e X.env) (fun _ s₂ => wpAny (model X.prog X.w) X.A (setFlight e none) (fun _ s₃ =>
      wpAny (model X.prog X.w) X.A (handleBy e X.env [.ExceptHandler (some (.Name x np)) (some n) (b₀ :: suite) hpos]) (SP X pins D) X.xe s₃) X.xe s₂) X.xe s₁) (EH X.K C0 i X.N.length ts D) := by
    intro pins' σ1 H1 s1 ev s' I1 hx
    have I0 : Inv X pins σ1 H1 s1 := I1.untr
    obtain ⟨a, C, t, B, H', rfl, os, bare, un, hok, tr, ut, al, fl, C', eC, hexm, q⟩ := hx
    cases eC
    have un : Un (frs X.stack) [] H1 H' s1.heap s'.heap := un
    have ut : ∀ b o, s1.heap.get? b = some o → H1 b = none → b ∉ frs X.stack → B.get? b = some o := ut
    have al : ∀ b o, s1.heap.get? b = some o → b ∉ frs X.stack → ∃ o', B.get? b = some o' := al
    have fl : Heap.FlyingW B X.stack a (.ref C) (.ref t) s'.heap := fl
    -- a is new
    have na : s1.heap.get? a = none := by
      cases z : s1.heap.get? a with
      | none => rfl
      | some o =>
        by_cases hm : a ∈ frs X.stack
        · obtain ⟨_, o1, e1, nd⟩ := fl.2.2.1.mem hm
          obtain ⟨oe, vs, e2, _, hd, _⟩ := fl.first
          rw [e1] at e2
          cases e2
          exact absurd hd (nd vs)
        · obtain ⟨o', e'⟩ := al a o z hm
          rw [fl.2.1] at e'
          cases e'
    have nH : H' a = none := by
      cases z : H' a with
      | none => rfl
      | some u =>
        obtain ⟨ob, e1⟩ := (hok a u z).there
        have e2 := tr a ob e1 (by rw [z]; simp)
        rw [fl.2.1] at e2
        cases e2
    have at_ : ∀ h : Heap, Heap.FlyingW B X.stack a (.ref C) (.ref t) h → s'.heap.UpToSlots h → Inv X pins σ1 H' { s' with heap := h } := fun h f u => by
      refine I0.call' (ch := []) os (un_stay un ut al f.1 fun b o e hb => ?_) (hok_stay hok tr f.1) bare fun b z => absurd z (by simp)
      obtain ⟨_, o1, e1, nd⟩ := fl.2.2.1.mem hb
      rw [e] at e1
      cases e1
      exact u b o e nd
    rw [hstk] at fl at_
    refine wpAny_looks_onW (L := X.env.locals) (outer := X.outer) (by rw [I0.ok.frames, hstk]) hfr fl fun h4 held4 up4 => ?_
    refine wpAny_landsW held4 fun h5 fl5 up5 => ?_
    have u5 : s'.heap.UpToSlots h5 := up4.trans up5
    have I5 := at_ h5 fl5 u5
    refine wpAny_handleBy_cons (codeAny_handlers_test ?_) (by intro q; cases q)
    refine ld_glob (X := X.hand (X.pn ++ pins) a) (I5.hand a) hg hm ?_ hdb
    obtain ⟨ob, hob, hobc⟩ := fl5.there
    refine PySem.W.Looks.here (PySem.W.exm_one (I5.kIn) (excAt_type ⟨ob, hob, hobc⟩) hexm) ?_
    refine codeAny_handlers_suite_as ?_
    refine lands_againW fl5 fun h6 fl6 up6 => ?_
    have I6 := at_ h6 fl6 (u5.trans up6)
    obtain ⟨ob6, hob6, hobc6⟩ := fl6.there
    have n0 : X.s₀.heap.get? a = none := by
      cases z : X.s₀.heap.get? a with
      | none => rfl
      | some o =>
        obtain ⟨o', e'⟩ := I0.base.there a o z (by rw [hex]; simp)
        rw [na] at e'
        cases e'
    have I7 : Inv X pins σ1 (upd H' a (.ext (ExcAt a C))) { s' with heap := h6 } := I6.track nH n0 (fun z => by
        obtain ⟨m, ⟨o, _, _, ho, _⟩, _⟩ := I0.loc
        rw [← z, na] at ho
        cases ho) (fun y c e z => by
        obtain ⟨v, o, ho, _⟩ := I0.cell y c e
        rw [z, na] at ho
        cases ho) (fun p hp z => by
        have e := (I0.pin p hp).1
        rw [z, na] at e
        cases e) (exc_ok ⟨ob6, hob6, hobc6⟩)
    have I7h := I7.hand a
    refine store_ok2 (X := X.hand (X.pn ++ pins) a) I7h hN hiN (.inl hloc) (show RelV (.ref a) (.ref a) from rfl) (fun s8 I8 _ => ?_) (.inr hloc)
    refine wpAny_mono (hs (X.pn ++ pins) a [] s8 _ _ _ I8 (q a σ1 I0.len nH)) (fun f s9 q9 => ?_) fun _ _ z => z.elim
    cases f with
    | next => obtain ⟨_, _, _, z⟩ := q9; exact z.elim
    | brk => obtain ⟨_, _, _, z⟩ := q9; exact z.elim
    | cont => obtain ⟨_, _, _, z⟩ := q9; exact z.elim
    | ret u =>
      obtain ⟨v, σ9, H9, I9, r9, q9⟩ := q9
      obtain ⟨m, hns, _⟩ := I9.loc
      refine wpAny_nameGoes hloc hns (by rw [I0.ok.kind]; rfl) fun h' m' hn' hs' => ?_
      exact ⟨v, _, H9, (I9.unhand I0.ok).lost hn' hs', r9, q9⟩
  refine wpAny_mono (hb (EH X.K C0 i X.N.length ts D) (X.pn ++ pins) _ pass [] s σ H D (I.tr _) h) (fun f s1 q => ?_) fun e s1 q => q
  cases f with
  | next => obtain ⟨σ', H', I', q⟩ := q; exact wpAny_execs_nil ⟨σ', H', I'.untr, q⟩
  | brk => obtain ⟨σ', H', I', q⟩ := q; exact ⟨σ', H', I'.untr, q⟩
  | cont => obtain ⟨σ', H', I', q⟩ := q; exact ⟨σ', H', I'.untr, q⟩
  | ret u => obtain ⟨v, σ', H', I', r, q⟩ := q; exact ⟨v, σ', H', I'.untr, r, q⟩
end
end L2

set_option Elab.async false
set_option linter.all false
set_option maxRecDepth 100000
set_option maxHeartbeats 4000000
namespace Pr
open PySem PySem.Spec PyProof.Rows L2 BS
noncomputable def top (i : Nat) : Stmt := PySem.Challenge.pw_beststretch_k08_refused.main.body.getD i (.Pass ⟨0, 0, 0, 0⟩)
noncomputable abbrev s_is_whole : Stmt := top 9
theorem sc_is_whole : FnScope ["value"] ["value"] (defScope s_is_whole) := ⟨rfl, rfl, rfl, by decide +kernel, rfl, by decide +kernel, by decide +kernel⟩
noncomputable abbrev s_check_row : Stmt := top 10
theorem sc_check_row : FnScope ["row", "number"] ["row"] (defScope s_check_row) := ⟨rfl, rfl, rfl, by decide +kernel, rfl, by decide +kernel, by decide +kernel⟩
noncomputable abbrev s_running_sums : Stmt := top 11
theorem sc_running_sums : FnScope ["row", "found", "number"] ["row"] (defScope s_running_sums) := ⟨rfl, rfl, rfl, by decide +kernel, rfl, by decide +kernel, by decide +kernel⟩
noncomputable abbrev s_sums : Stmt := top 12
theorem sc_sums : FnScope ["row"] ["row"] (defScope s_sums) := ⟨rfl, rfl, rfl, by decide +kernel, rfl, by decide +kernel, by decide +kernel⟩
noncomputable abbrev s_stretch_sum : Stmt := top 13
theorem sc_stretch_sum : FnScope ["row", "first", "many"] ["row", "first", "many"] (defScope s_stretch_sum) := ⟨rfl, rfl, rfl, by decide +kernel, rfl, by decide +kernel, by decide +kernel⟩
noncomputable abbrev s_turned_inner : Stmt := top 15
theorem sc_turned_inner : FnScope ["row"] ["row"] (defScope s_turned_inner) := ⟨rfl, rfl, rfl, by decide +kernel, rfl, by decide +kernel, by decide +kernel⟩
noncomputable abbrev s_Best___init__ : Stmt := inClass (top 18) 0
theorem sc_Best___init__ : FnScope ["self", "first", "many", "lows"] ["self", "first", "many", "lows"] (defScope s_Best___init__) := ⟨rfl, rfl, rfl, by decide +kernel, rfl, by decide +kernel, by decide +kernel⟩
noncomputable abbrev s_Around___init__ : Stmt := inClass (top 20) 0
theorem sc_Around___init__ : FnScope ["self", "first", "many", "lows", "tops"] ["self", "first", "many", "lows", "tops"] (defScope s_Around___init__) := ⟨rfl, rfl, rfl, by decide +kernel, rfl, by decide +kernel, by decide +kernel⟩
noncomputable abbrev s_Exact___init__ : Stmt := inClass (top 21) 0
theorem sc_Exact___init__ : FnScope ["self", "first", "many"] ["self", "first", "many"] (defScope s_Exact___init__) := ⟨rfl, rfl, rfl, by decide +kernel, rfl, by decide +kernel, by decide +kernel⟩
noncomputable abbrev s_Never___init__ : Stmt := inClass (top 22) 0
theorem sc_Never___init__ : FnScope ["self", "table"] ["self", "table"] (defScope s_Never___init__) := ⟨rfl, rfl, rfl, by decide +kernel, rfl, by decide +kernel, by decide +kernel⟩
noncomputable abbrev s_check_least : Stmt := top 25
theorem sc_check_least : FnScope ["row", "least"] ["row", "least"] (defScope s_check_least) := ⟨rfl, rfl, rfl, by decide +kernel, rfl, by decide +kernel, by decide +kernel⟩
noncomputable abbrev s_best_of : Stmt := top 26
theorem sc_best_of : FnScope ["row", "least", "found", "lows", "lowest", "first", "many", "place", "end"] ["row", "least"] (defScope s_best_of) := ⟨rfl, rfl, rfl, by decide +kernel, rfl, by decide +kernel, by decide +kernel⟩
noncomputable abbrev s_best : Stmt := top 27
theorem sc_best : FnScope ["row", "least"] ["row", "least"] (defScope s_best) := ⟨rfl, rfl, rfl, by decide +kernel, rfl, by decide +kernel, by decide +kernel⟩
noncomputable abbrev s_steepest : Stmt := top 28
theorem sc_steepest : FnScope ["row", "least", "first", "many", "other", "rival"] ["row", "least"] (defScope s_steepest) := ⟨rfl, rfl, rfl, by decide +kernel, rfl, by decide +kernel, by decide +kernel⟩
noncomputable abbrev s_around : Stmt := top 29
theorem sc_around : FnScope ["row", "straight", "turned", "gap", "across", "behind"] ["row"] (defScope s_around) := ⟨rfl, rfl, rfl, by decide +kernel, rfl, by decide +kernel, by decide +kernel⟩
noncomputable abbrev s_check_total : Stmt := top 31
theorem sc_check_total : FnScope ["total"] ["total"] (defScope s_check_total) := ⟨rfl, rfl, rfl, by decide +kernel, rfl, by decide +kernel, by decide +kernel⟩
noncomputable abbrev s_exact : Stmt := top 32
theorem sc_exact : FnScope ["row", "total", "firsts", "lasts", "place", "found", "first"] ["row", "total"] (defScope s_exact) := ⟨rfl, rfl, rfl, by decide +kernel, rfl, by decide +kernel, by decide +kernel⟩
noncomputable abbrev s_how_many : Stmt := top 33
theorem sc_how_many : FnScope ["row", "total", "ahead", "stretches", "found"] ["row", "total"] (defScope s_how_many) := ⟨rfl, rfl, rfl, by decide +kernel, rfl, by decide +kernel, by decide +kernel⟩
noncomputable abbrev s_check_many : Stmt := top 35
theorem sc_check_many : FnScope ["many"] ["many"] (defScope s_check_many) := ⟨rfl, rfl, rfl, by decide +kernel, rfl, by decide +kernel, by decide +kernel⟩
noncomputable abbrev s_several : Stmt := top 41
theorem sc_several : FnScope ["row", "many", "price", "walk", "stretches", "outs", "ins"] ["row", "many"] (defScope s_several) := ⟨rfl, rfl, rfl, by decide +kernel, rfl, by decide +kernel, by decide +kernel⟩
noncomputable abbrev s__law_rows_asked : Stmt := top 43
theorem sc__law_rows_asked : FnScope ["_law_which", "_law_more", "_law_bad", "_law_door"] ["_law_which", "_law_more"] (defScope s__law_rows_asked) := ⟨rfl, rfl, rfl, by decide +kernel, rfl, by decide +kernel, by decide +kernel⟩
noncomputable abbrev s__law_told : Stmt := top 44
theorem sc__law_told : FnScope ["_law_kind", "_law_which", "_law_more", "_law_bad", "error", "_law_found"] ["_law_kind", "_law_which", "_law_more"] (defScope s__law_told) := ⟨rfl, rfl, rfl, by decide +kernel, rfl, by decide +kernel, by decide +kernel⟩
noncomputable abbrev s_law : Stmt := top 45
theorem sc_law : FnScope ["_law_script", "_law_cell", "_law_kind", "_law_due"] ["_law_script"] (defScope s_law) := ⟨rfl, rfl, rfl, by decide +kernel, rfl, by decide +kernel, by decide +kernel⟩
theorem lk_hd {f : Str} {v : V} {r : List (Str × V)} : ((f, v) :: r).lookup f = some v := by simp [List.lookup_cons]
theorem lk_tl {f g : Str} {v : V} {r : List (Str × V)} (h : (f == g) = false) : ((g, v) :: r).lookup f = r.lookup f := by rw [List.lookup_cons, h]
theorem pf_tl {f g : Str} {v x : V} {r : List (Str × V)} (h : ¬ g = f) : putF f v ((g, x) :: r) = (g, x) :: putF f v r := if_neg h
noncomputable def fl_Best (x0 x1 x2 : V) : List (Str × V) := [("first", x0), ("many", x1), ("lows", x2)]
theorem fl_Best_first (x0 x1 x2 : V) : (fl_Best x0 x1 x2).lookup ("first" : Str) = some x0 := lk_hd
theorem fl_Best_many (x0 x1 x2 : V) : (fl_Best x0 x1 x2).lookup ("many" : Str) = some x1 := (lk_tl (by decide +kernel)).trans (lk_hd)
theorem fl_Best_lows (x0 x1 x2 : V) : (fl_Best x0 x1 x2).lookup ("lows" : Str) = some x2 := (lk_tl (by decide +kernel)).trans ((lk_tl (by decide +kernel)).trans (lk_hd))
theorem fl_Best_p1 (x0 x1 x2 : V) : putF "many" x1 [(("first" : Str), x0)] = [(("first" : Str), x0), (("many" : Str), x1)] := (pf_tl (by decide +kernel)).trans (congrArg _ (rfl))
theorem fl_Best_p2 (x0 x1 x2 : V) : putF "lows" x2 [(("first" : Str), x0), (("many" : Str), x1)] = [(("first" : Str), x0), (("many" : Str), x1), (("lows" : Str), x2)] := (pf_tl (by decide +kernel)).trans (congrArg _ ((pf_tl (by decide +kernel)).trans (congrArg _ (rfl))))
theorem fl_Best_made (x0 x1 x2 : V) : putF "lows" x2 (putF "many" x1 ([(("first" : Str), x0)])) = fl_Best x0 x1 x2 := by rw [fl_Best_p1 x0 x1 x2]; rw [fl_Best_p2 x0 x1 x2]; rfl
noncomputable def fl_Around (x0 x1 x2 x3 : V) : List (Str × V) := [("first", x0), ("many", x1), ("lows", x2), ("tops", x3)]
theorem fl_Around_many (x0 x1 x2 x3 : V) : (fl_Around x0 x1 x2 x3).lookup ("many" : Str) = some x1 := (lk_tl (by decide +kernel)).trans (lk_hd)
theorem fl_Around_p1 (x0 x1 x2 x3 : V) : putF "many" x1 [(("first" : Str), x0)] = [(("first" : Str), x0), (("many" : Str), x1)] := (pf_tl (by decide +kernel)).trans (congrArg _ (rfl))
theorem fl_Around_p2 (x0 x1 x2 x3 : V) : putF "lows" x2 [(("first" : Str), x0), (("many" : Str), x1)] = [(("first" : Str), x0), (("many" : Str), x1), (("lows" : Str), x2)] := (pf_tl (by decide +kernel)).trans (congrArg _ ((pf_tl (by decide +kernel)).trans (congrArg _ (rfl))))
theorem fl_Around_p3 (x0 x1 x2 x3 : V) : putF "tops" x3 [(("first" : Str), x0), (("many" : Str), x1), (("lows" : Str), x2)] = [(("first" : Str), x0), (("many" : Str), x1), (("lows" : Str), x2), (("tops" : Str), x3)] := (pf_tl (by decide +kernel)).trans (congrArg _ ((pf_tl (by decide +kernel)).trans (congrArg _ ((pf_tl (by decide +kernel)).trans (congrArg _ (rfl))))))
theorem fl_Around_made (x0 x1 x2 x3 : V) : putF "tops" x3 (putF "lows" x2 (putF "many" x1 ([(("first" : Str), x0)]))) = fl_Around x0 x1 x2 x3 := by rw [fl_Around_p1 x0 x1 x2 x3]; rw [fl_Around_p2 x0 x1 x2 x3]; rw [fl_Around_p3 x0 x1 x2 x3]; rfl
noncomputable def fl_Exact (x0 x1 : V) : List (Str × V) := [("first", x0), ("many", x1)]
theorem fl_Exact_p1 (x0 x1 : V) : putF "many" x1 [(("first" : Str), x0)] = [(("first" : Str), x0), (("many" : Str), x1)] := (pf_tl (by decide +kernel)).trans (congrArg _ (rfl))
theorem fl_Exact_made (x0 x1 : V) : putF "many" x1 ([(("first" : Str), x0)]) = fl_Exact x0 x1 := by rw [fl_Exact_p1 x0 x1]; rfl
noncomputable def fl_Never (x0 : V) : List (Str × V) := [("table", x0)]
theorem fl_Never_made (x0 : V) : [(("table" : Str), x0)] = fl_Never x0 := rfl
structure Adr where
  f_is_whole : Addr
  f_check_row : Addr
  f_running_sums : Addr
  f_sums : Addr
  f_stretch_sum : Addr
  f_turned_inner : Addr
  f_Best___init__ : Addr
  f_Around___init__ : Addr
  f_Exact___init__ : Addr
  f_Never___init__ : Addr
  f_check_least : Addr
  f_best_of : Addr
  f_best : Addr
  f_steepest : Addr
  f_around : Addr
  f_check_total : Addr
  f_exact : Addr
  f_how_many : Addr
  f_check_many : Addr
  f_several : Addr
  f__law_rows_asked : Addr
  f__law_told : Addr
  f_law : Addr
  C_StretchError : Addr
  C_BadRow : Addr
  C_BadLeast : Addr
  C_BadTotal : Addr
  C_BadMany : Addr
  C_Answer : Addr
  C_Best : Addr
  C_Steep : Addr
  C_Around : Addr
  C_Exact : Addr
  C_Never : Addr
  C_Several : Addr
  C_Worth : Addr
  C_Walk : Addr
  k_GREATEST : Tok
structure Txt (K : PySem.W.Frag) (mg : Str → Option Value) (t : Adr) : Prop where
  fn_is_whole : FunAt K "is_whole" "is_whole" s_is_whole ["value"] t.f_is_whole
  mg_is_whole : mg "is_whole" = some (.ref t.f_is_whole)
  fn_check_row : FunAt K "check_row" "check_row" s_check_row ["row"] t.f_check_row
  mg_check_row : mg "check_row" = some (.ref t.f_check_row)
  fn_running_sums : FunAt K "running_sums" "running_sums" s_running_sums ["row"] t.f_running_sums
  mg_running_sums : mg "running_sums" = some (.ref t.f_running_sums)
  fn_sums : FunAt K "sums" "sums" s_sums ["row"] t.f_sums
  mg_sums : mg "sums" = some (.ref t.f_sums)
  fn_stretch_sum : FunAt K "stretch_sum" "stretch_sum" s_stretch_sum ["row", "first", "many"] t.f_stretch_sum
  mg_stretch_sum : mg "stretch_sum" = some (.ref t.f_stretch_sum)
  fn_turned_inner : FunAt K "turned_inner" "turned_inner" s_turned_inner ["row"] t.f_turned_inner
  mg_turned_inner : mg "turned_inner" = some (.ref t.f_turned_inner)
  fn_Best___init__ : FunAt K "__init__" "Best.__init__" s_Best___init__ ["self", "first", "many", "lows"] t.f_Best___init__
  fn_Around___init__ : FunAt K "__init__" "Around.__init__" s_Around___init__ ["self", "first", "many", "lows", "tops"] t.f_Around___init__
  fn_Exact___init__ : FunAt K "__init__" "Exact.__init__" s_Exact___init__ ["self", "first", "many"] t.f_Exact___init__
  fn_Never___init__ : FunAt K "__init__" "Never.__init__" s_Never___init__ ["self", "table"] t.f_Never___init__
  fn_check_least : FunAt K "check_least" "check_least" s_check_least ["row", "least"] t.f_check_least
  mg_check_least : mg "check_least" = some (.ref t.f_check_least)
  fn_best_of : FunAt K "best_of" "best_of" s_best_of ["row", "least"] t.f_best_of
  mg_best_of : mg "best_of" = some (.ref t.f_best_of)
  fn_best : FunAt K "best" "best" s_best ["row", "least"] t.f_best
  mg_best : mg "best" = some (.ref t.f_best)
  fn_steepest : FunAt K "steepest" "steepest" s_steepest ["row", "least"] t.f_steepest
  mg_steepest : mg "steepest" = some (.ref t.f_steepest)
  fn_around : FunAt K "around" "around" s_around ["row"] t.f_around
  mg_around : mg "around" = some (.ref t.f_around)
  fn_check_total : FunAt K "check_total" "check_total" s_check_total ["total"] t.f_check_total
  mg_check_total : mg "check_total" = some (.ref t.f_check_total)
  fn_exact : FunAt K "exact" "exact" s_exact ["row", "total"] t.f_exact
  mg_exact : mg "exact" = some (.ref t.f_exact)
  fn_how_many : FunAt K "how_many" "how_many" s_how_many ["row", "total"] t.f_how_many
  mg_how_many : mg "how_many" = some (.ref t.f_how_many)
  fn_check_many : FunAt K "check_many" "check_many" s_check_many ["many"] t.f_check_many
  mg_check_many : mg "check_many" = some (.ref t.f_check_many)
  fn_several : FunAt K "several" "several" s_several ["row", "many"] t.f_several
  mg_several : mg "several" = some (.ref t.f_several)
  fn__law_rows_asked : FunAt K "_law_rows_asked" "_law_rows_asked" s__law_rows_asked ["_law_which", "_law_more"] t.f__law_rows_asked
  mg__law_rows_asked : mg "_law_rows_asked" = some (.ref t.f__law_rows_asked)
  fn__law_told : FunAt K "_law_told" "_law_told" s__law_told ["_law_kind", "_law_which", "_law_more"] t.f__law_told
  mg__law_told : mg "_law_told" = some (.ref t.f__law_told)
  fn_law : FunAt K "law" "law" s_law ["_law_script"] t.f_law
  mg_law : mg "law" = some (.ref t.f_law)
  mg_StretchError : mg "StretchError" = some (.ref t.C_StretchError)
  mg_BadRow : mg "BadRow" = some (.ref t.C_BadRow)
  mg_BadLeast : mg "BadLeast" = some (.ref t.C_BadLeast)
  mg_BadTotal : mg "BadTotal" = some (.ref t.C_BadTotal)
  mg_BadMany : mg "BadMany" = some (.ref t.C_BadMany)
  mg_Answer : mg "Answer" = some (.ref t.C_Answer)
  mg_Best : mg "Best" = some (.ref t.C_Best)
  cl_Best : Cls K t.C_Best
  mk_Best : Mk K t.C_Best t.f_Best___init__
  no_Best_first : NoAttr K t.C_Best "first"
  no_Best_many : NoAttr K t.C_Best "many"
  no_Best_lows : NoAttr K t.C_Best "lows"
  ty1_Best : PySem.W.findIn K (.ref t.C_Best) "__class__" = some (some (.builtin "object.__class__"))
  ty2_Best : PySem.W.mroIn K t.C_Best (.type "object") = some true
  is_Best_BadRow : PySem.W.kitOne K (.ref t.C_Best) (.ref t.C_BadRow) = some false
  is_Best_BadLeast : PySem.W.kitOne K (.ref t.C_Best) (.ref t.C_BadLeast) = some false
  is_Best_BadTotal : PySem.W.kitOne K (.ref t.C_Best) (.ref t.C_BadTotal) = some false
  is_Best_BadMany : PySem.W.kitOne K (.ref t.C_Best) (.ref t.C_BadMany) = some false
  is_Best_Never : PySem.W.kitOne K (.ref t.C_Best) (.ref t.C_Never) = some false
  mg_Steep : mg "Steep" = some (.ref t.C_Steep)
  mg_Around : mg "Around" = some (.ref t.C_Around)
  cl_Around : Cls K t.C_Around
  mk_Around : Mk K t.C_Around t.f_Around___init__
  no_Around_first : NoAttr K t.C_Around "first"
  no_Around_many : NoAttr K t.C_Around "many"
  no_Around_lows : NoAttr K t.C_Around "lows"
  no_Around_tops : NoAttr K t.C_Around "tops"
  ty1_Around : PySem.W.findIn K (.ref t.C_Around) "__class__" = some (some (.builtin "object.__class__"))
  ty2_Around : PySem.W.mroIn K t.C_Around (.type "object") = some true
  is_Around_BadRow : PySem.W.kitOne K (.ref t.C_Around) (.ref t.C_BadRow) = some false
  is_Around_BadLeast : PySem.W.kitOne K (.ref t.C_Around) (.ref t.C_BadLeast) = some false
  is_Around_BadTotal : PySem.W.kitOne K (.ref t.C_Around) (.ref t.C_BadTotal) = some false
  is_Around_BadMany : PySem.W.kitOne K (.ref t.C_Around) (.ref t.C_BadMany) = some false
  is_Around_Never : PySem.W.kitOne K (.ref t.C_Around) (.ref t.C_Never) = some false
  mg_Exact : mg "Exact" = some (.ref t.C_Exact)
  cl_Exact : Cls K t.C_Exact
  mk_Exact : Mk K t.C_Exact t.f_Exact___init__
  no_Exact_first : NoAttr K t.C_Exact "first"
  no_Exact_many : NoAttr K t.C_Exact "many"
  ty1_Exact : PySem.W.findIn K (.ref t.C_Exact) "__class__" = some (some (.builtin "object.__class__"))
  ty2_Exact : PySem.W.mroIn K t.C_Exact (.type "object") = some true
  is_Exact_BadRow : PySem.W.kitOne K (.ref t.C_Exact) (.ref t.C_BadRow) = some false
  is_Exact_BadLeast : PySem.W.kitOne K (.ref t.C_Exact) (.ref t.C_BadLeast) = some false
  is_Exact_BadTotal : PySem.W.kitOne K (.ref t.C_Exact) (.ref t.C_BadTotal) = some false
  is_Exact_BadMany : PySem.W.kitOne K (.ref t.C_Exact) (.ref t.C_BadMany) = some false
  is_Exact_Never : PySem.W.kitOne K (.ref t.C_Exact) (.ref t.C_Never) = some false
  mg_Never : mg "Never" = some (.ref t.C_Never)
  cl_Never : Cls K t.C_Never
  mk_Never : Mk K t.C_Never t.f_Never___init__
  no_Never_table : NoAttr K t.C_Never "table"
  ty1_Never : PySem.W.findIn K (.ref t.C_Never) "__class__" = some (some (.builtin "object.__class__"))
  ty2_Never : PySem.W.mroIn K t.C_Never (.type "object") = some true
  is_Never_BadRow : PySem.W.kitOne K (.ref t.C_Never) (.ref t.C_BadRow) = some false
  is_Never_BadLeast : PySem.W.kitOne K (.ref t.C_Never) (.ref t.C_BadLeast) = some false
  is_Never_BadTotal : PySem.W.kitOne K (.ref t.C_Never) (.ref t.C_BadTotal) = some false
  is_Never_BadMany : PySem.W.kitOne K (.ref t.C_Never) (.ref t.C_BadMany) = some false
  is_Never_Never : PySem.W.kitOne K (.ref t.C_Never) (.ref t.C_Never) = some true
  mg_Several : mg "Several" = some (.ref t.C_Several)
  mg_Worth : mg "Worth" = some (.ref t.C_Worth)
  mg_Walk : mg "Walk" = some (.ref t.C_Walk)
  ex_BadRow : PySem.W.excIn K t.C_BadRow [.type "ValueError", .type "Exception", .type "BaseException", .type "object"] "ValueError.__new__" = true
  ec_BadRow : ExcCls K t.C_BadRow
  em_BadRow : PySem.W.exmOne K (.ref t.C_BadRow) (.ref t.C_StretchError) = some true
  ei_BadRow_BadRow : PySem.W.kitOne K (.ref t.C_BadRow) (.ref t.C_BadRow) = some true
  ei_BadRow_BadLeast : PySem.W.kitOne K (.ref t.C_BadRow) (.ref t.C_BadLeast) = some false
  ei_BadRow_BadTotal : PySem.W.kitOne K (.ref t.C_BadRow) (.ref t.C_BadTotal) = some false
  ei_BadRow_BadMany : PySem.W.kitOne K (.ref t.C_BadRow) (.ref t.C_BadMany) = some false
  ev_BadRow : PySem.W.kitOne K (.ref t.C_BadRow) (.type "ValueError") = some true
  ex_BadLeast : PySem.W.excIn K t.C_BadLeast [.type "ValueError", .type "Exception", .type "BaseException", .type "object"] "ValueError.__new__" = true
  ec_BadLeast : ExcCls K t.C_BadLeast
  em_BadLeast : PySem.W.exmOne K (.ref t.C_BadLeast) (.ref t.C_StretchError) = some true
  ei_BadLeast_BadRow : PySem.W.kitOne K (.ref t.C_BadLeast) (.ref t.C_BadRow) = some false
  ei_BadLeast_BadLeast : PySem.W.kitOne K (.ref t.C_BadLeast) (.ref t.C_BadLeast) = some true
  ei_BadLeast_BadTotal : PySem.W.kitOne K (.ref t.C_BadLeast) (.ref t.C_BadTotal) = some false
  ei_BadLeast_BadMany : PySem.W.kitOne K (.ref t.C_BadLeast) (.ref t.C_BadMany) = some false
  ev_BadLeast : PySem.W.kitOne K (.ref t.C_BadLeast) (.type "ValueError") = some true
  ex_BadTotal : PySem.W.excIn K t.C_BadTotal [.type "ValueError", .type "Exception", .type "BaseException", .type "object"] "ValueError.__new__" = true
  ec_BadTotal : ExcCls K t.C_BadTotal
  em_BadTotal : PySem.W.exmOne K (.ref t.C_BadTotal) (.ref t.C_StretchError) = some true
  ei_BadTotal_BadRow : PySem.W.kitOne K (.ref t.C_BadTotal) (.ref t.C_BadRow) = some false
  ei_BadTotal_BadLeast : PySem.W.kitOne K (.ref t.C_BadTotal) (.ref t.C_BadLeast) = some false
  ei_BadTotal_BadTotal : PySem.W.kitOne K (.ref t.C_BadTotal) (.ref t.C_BadTotal) = some true
  ei_BadTotal_BadMany : PySem.W.kitOne K (.ref t.C_BadTotal) (.ref t.C_BadMany) = some false
  ev_BadTotal : PySem.W.kitOne K (.ref t.C_BadTotal) (.type "ValueError") = some true
  ex_BadMany : PySem.W.excIn K t.C_BadMany [.type "ValueError", .type "Exception", .type "BaseException", .type "object"] "ValueError.__new__" = true
  ec_BadMany : ExcCls K t.C_BadMany
  em_BadMany : PySem.W.exmOne K (.ref t.C_BadMany) (.ref t.C_StretchError) = some true
  ei_BadMany_BadRow : PySem.W.kitOne K (.ref t.C_BadMany) (.ref t.C_BadRow) = some false
  ei_BadMany_BadLeast : PySem.W.kitOne K (.ref t.C_BadMany) (.ref t.C_BadLeast) = some false
  ei_BadMany_BadTotal : PySem.W.kitOne K (.ref t.C_BadMany) (.ref t.C_BadTotal) = some false
  ei_BadMany_BadMany : PySem.W.kitOne K (.ref t.C_BadMany) (.ref t.C_BadMany) = some true
  ev_BadMany : PySem.W.kitOne K (.ref t.C_BadMany) (.type "ValueError") = some true
  b_ValueError : mg "ValueError" = none
  g_GREATEST : mg "GREATEST" = some (.int 1000000 t.k_GREATEST)
  b_len : mg "len" = none
  b_sum : mg "sum" = none
  b_max : mg "max" = none
  b_min : mg "min" = none
  b_abs : mg "abs" = none
  b_isinstance : mg "isinstance" = none
  b_list : mg "list" = none
  b_range : mg "range" = none
  b_enumerate : mg "enumerate" = none
  b_sorted : mg "sorted" = none
  b_reversed : mg "reversed" = none
  b_int : mg "int" = none
  b_bool : mg "bool" = none
  tk1 : PySem.W.specialIn K (.builtin "object.__class__") "__get__" = some (some (.builtin "getset_descriptor.__get__"))
  tk2 : PySem.W.takesIn K (.builtin "object.__class__") = some true
noncomputable abbrev iL (ns : List Int) : List V := ns.map V.int
theorem ints_get {ns : List Int} {i : Nat} {x : V} (h : (iL ns)[i]? = some x) : ∃ z, x = .int z ∧ ns[i]? = some z := by
  rw [List.getElem?_map] at h
  cases e : ns[i]? with
  | none => rw [e] at h; cases h
  | some z => rw [e] at h; exact ⟨z, (Option.some.inj h).symm, rfl⟩
theorem ints_at {ns : List Int} {i : Nat} {z : Int} (h : ns[i]? = some z) : atI (iL ns) (i : Int) = some (.int z) := atI_nat (by rw [List.getElem?_map, h]; rfl)
theorem ints_len (ns : List Int) : (iL ns).length = ns.length := List.length_map _
theorem getD_of {ls : List Int} {i : Nat} {z : Int} (h : ls[i]? = some z) : ls.getD i 0 = z := by
  rw [List.getD_eq_getElem?_getD, h]
  rfl
theorem get_D {ls : List Int} {i : Nat} (h : i < ls.length) : ls[i]? = some (ls.getD i 0) := by
  rw [List.getD_eq_getElem?_getD, List.getElem?_eq_getElem h]
  rfl
theorem sums_atI {ns : List Int} {j : Int} (h0 : 0 ≤ j) (h1 : j ≤ ns.length) : atI (iL (sumsZ ns)) j = some (.int (S ns j.toNat)) := by
  obtain ⟨n, rfl⟩ := Int.eq_ofNat_of_zero_le h0
  exact ints_at (sumsZ_get (by omega))
theorem cut_ints {ns : List Int} {a b : Nat} (hab : a ≤ b) (hb : b ≤ ns.length) : cutV (iL ns) (some (a : Int)) (some (b : Int)) = iL ((ns.drop a).take (b - a)) := by
  unfold cutV
  rw [HT.sIx_nat, HT.sIx_nat, List.length_map, Nat.min_eq_left hb, Nat.min_eq_left (Nat.le_trans hab hb), iL, iL, List.map_take, List.map_drop]
noncomputable def OkRow (ns : List Int) : Prop := ∀ x ∈ ns, -1000000 ≤ x ∧ x ≤ 1000000
noncomputable def TellsL (H : Hp) (ns : List Int) (Q : VK) : Prop := ∀ l H', H l = none → Same H H' → H' l = some (.lst (iL ns)) → Q (.ref l) H'
noncomputable def Tells (H : Hp) (v : V) (Q : VK) : Prop := ∀ H', Same H H' → Q v H'
noncomputable def sp_law (K : PySem.W.Frag) : Sp := fun vs H Q _ => ∃ (a : Addr) (ns : List Int), vs = [.ref a] ∧ SqL K H a (ns.map V.int) ∧ ns.length ≤ 63 ∧ ∀ H', Q (.bl true) H'
noncomputable def cutZ (ns : List Int) (f m : Int) : List Int := (ns.drop f.toNat).take m.toNat
theorem cutZ_sum (ns : List Int) (f m : Nat) : (cutZ ns (f : Int) (m : Int)).sum = S ns ((f : Int) + (m : Int)).toNat - S ns ((f : Int)).toNat := by
  unfold cutZ
  rw [cut_sum]
  congr 2
theorem cut_int {ns : List Int} {f m : Int} (h0 : 0 ≤ f) (h1 : 0 ≤ m) (h2 : f + m ≤ ns.length) : cutV (iL ns) (some f) (some (f + m)) = iL (cutZ ns f m) := by
  obtain ⟨f, rfl⟩ := Int.eq_ofNat_of_zero_le h0
  obtain ⟨m, rfl⟩ := Int.eq_ofNat_of_zero_le h1
  have e : ((f : Int) + (m : Int)) = ((f + m : Nat) : Int) := by omega
  rw [e, cut_ints (by omega) (by omega), show f + m - f = m by omega]
  rfl
theorem cut_inner (ns : List Int) : cutV (iL ns) (some 1) (some (-1)) = iL ((ns.drop 1).take (ns.length - 2)) := by
  have e1 : HT.sIx (iL ns).length 0 (some 1) = min 1 ns.length := by rw [ints_len]; exact HT.sIx_nat _ _ 1
  have e2 : HT.sIx (iL ns).length (iL ns).length (some (-1)) = ns.length - 1 := by
    rw [ints_len]
    have q : HT.sIx ns.length ns.length (some (-1)) = (-1 + (ns.length : Int)).toNat := rfl
    rw [q]
    omega
  unfold cutV
  rw [e1, e2, iL, iL, List.map_take, List.map_drop]
  by_cases h : ns.length = 0
  · have : ns = [] := List.eq_nil_of_length_eq_zero h
    subst this
    rfl
  · rw [show min 1 ns.length = 1 by omega, show ns.length - 1 - 1 = ns.length - 2 by omega]
theorem range_map {α : Type} (xs : List Int) (f : Int → α) : (List.range xs.length).map (fun i => f (xs.getD i 0)) = xs.map f := by
  apply List.ext_getElem?
  intro i
  rw [List.getElem?_map, List.getElem?_map]
  by_cases h : i < xs.length
  · rw [List.getElem?_range h, get_D h]
    rfl
  · rw [List.getElem?_eq_none (by simpa using h), List.getElem?_eq_none (by simpa using h)]
    rfl
theorem of1 {p : List Value → Prop} (h : ∀ a0, p [a0]) (us : List Value) (hl : us.length = 1) : p us := by
  obtain ⟨a0, us, rfl⟩ := List.exists_cons_of_length_eq_add_one hl
  rw [List.length_cons] at hl
  have hl := Nat.succ.inj hl
  have e := List.eq_nil_of_length_eq_zero hl
  subst e
  exact h _
theorem of2 {p : List Value → Prop} (h : ∀ a0 a1, p [a0, a1]) (us : List Value) (hl : us.length = 2) : p us := by
  obtain ⟨a0, us, rfl⟩ := List.exists_cons_of_length_eq_add_one hl
  rw [List.length_cons] at hl
  have hl := Nat.succ.inj hl
  obtain ⟨a1, us, rfl⟩ := List.exists_cons_of_length_eq_add_one hl
  rw [List.length_cons] at hl
  have hl := Nat.succ.inj hl
  have e := List.eq_nil_of_length_eq_zero hl
  subst e
  exact h _ _
theorem of3 {p : List Value → Prop} (h : ∀ a0 a1 a2, p [a0, a1, a2]) (us : List Value) (hl : us.length = 3) : p us := by
  obtain ⟨a0, us, rfl⟩ := List.exists_cons_of_length_eq_add_one hl
  rw [List.length_cons] at hl
  have hl := Nat.succ.inj hl
  obtain ⟨a1, us, rfl⟩ := List.exists_cons_of_length_eq_add_one hl
  rw [List.length_cons] at hl
  have hl := Nat.succ.inj hl
  obtain ⟨a2, us, rfl⟩ := List.exists_cons_of_length_eq_add_one hl
  rw [List.length_cons] at hl
  have hl := Nat.succ.inj hl
  have e := List.eq_nil_of_length_eq_zero hl
  subst e
  exact h _ _ _
theorem of4 {p : List Value → Prop} (h : ∀ a0 a1 a2 a3, p [a0, a1, a2, a3]) (us : List Value) (hl : us.length = 4) : p us := by
  obtain ⟨a0, us, rfl⟩ := List.exists_cons_of_length_eq_add_one hl
  rw [List.length_cons] at hl
  have hl := Nat.succ.inj hl
  obtain ⟨a1, us, rfl⟩ := List.exists_cons_of_length_eq_add_one hl
  rw [List.length_cons] at hl
  have hl := Nat.succ.inj hl
  obtain ⟨a2, us, rfl⟩ := List.exists_cons_of_length_eq_add_one hl
  rw [List.length_cons] at hl
  have hl := Nat.succ.inj hl
  obtain ⟨a3, us, rfl⟩ := List.exists_cons_of_length_eq_add_one hl
  rw [List.length_cons] at hl
  have hl := Nat.succ.inj hl
  have e := List.eq_nil_of_length_eq_zero hl
  subst e
  exact h _ _ _ _
theorem of5 {p : List Value → Prop} (h : ∀ a0 a1 a2 a3 a4, p [a0, a1, a2, a3, a4]) (us : List Value) (hl : us.length = 5) : p us := by
  obtain ⟨a0, us, rfl⟩ := List.exists_cons_of_length_eq_add_one hl
  rw [List.length_cons] at hl
  have hl := Nat.succ.inj hl
  obtain ⟨a1, us, rfl⟩ := List.exists_cons_of_length_eq_add_one hl
  rw [List.length_cons] at hl
  have hl := Nat.succ.inj hl
  obtain ⟨a2, us, rfl⟩ := List.exists_cons_of_length_eq_add_one hl
  rw [List.length_cons] at hl
  have hl := Nat.succ.inj hl
  obtain ⟨a3, us, rfl⟩ := List.exists_cons_of_length_eq_add_one hl
  rw [List.length_cons] at hl
  have hl := Nat.succ.inj hl
  obtain ⟨a4, us, rfl⟩ := List.exists_cons_of_length_eq_add_one hl
  rw [List.length_cons] at hl
  have hl := Nat.succ.inj hl
  have e := List.eq_nil_of_length_eq_zero hl
  subst e
  exact h _ _ _ _ _
theorem iteS {c A B : Prop} [Decidable c] {Good Pq : L2.St → Prop} (hB : ¬ c → (∀ σ, Good σ → Pq σ) → B) (hA : c → (∀ σ, Good σ → Pq σ) → A) (r : ∀ σ, Good σ → Pq σ) : if c then A else B := by
  by_cases h : c
  · rw [if_pos h]
    exact hA h r
  · rw [if_neg h]
    exact hB h r
noncomputable def atBody (l : List Stmt) (i : Nat) : List Stmt := match l.getD i (.Pass ⟨0, 0, 0, 0⟩) with
  | .For _ _ b _ _ => b
  | .If _ b _ _ => b
  | .While _ b _ _ => b
  | _ => []
noncomputable def atElse (l : List Stmt) (i : Nat) : List Stmt := match l.getD i (.Pass ⟨0, 0, 0, 0⟩) with
  | .If _ _ b _ => b
  | _ => []
theorem cutting {X : Cx} {st : List Stmt} {G : TS → Prop} (tl : List Stmt) {t2 : TS} (h2 : PSs X tl t2) (k : ∀ u : TS, PSs X tl u → (∀ D σ H, t2 D σ H → u D σ H) → ∃ t, PSs X st t ∧ G t) : ∃ t, PSs X st t ∧ G t := k t2 h2 fun _ _ _ z => z
theorem fldR {K : PySem.W.Frag} {H : Hp} {a C dx : Addr} {fs : List (Str × V)} {f : Str} {v : V} {Q : V → Prop} (h : H a = some (.ins C dx fs)) (c : Cls K C) (n : NoAttr K C f) (l : fs.lookup f = some v) (q : Q v) :
    ∃ a' C' dx' fs' v', V.ref a = .ref a' ∧ H a' = some (.ins C' dx' fs') ∧ Cls K C' ∧ NoAttr K C' f ∧ fs'.lookup f = some v' ∧ Q v' := ⟨a, C, dx, fs, v, rfl, h, c, n, l, q⟩
noncomputable def scalS : V → V → Bool
  | .int _, .int _ => true
  | .bl _, .bl _ => true
  | _, _ => false
noncomputable def rNeS : R2 := fun x y H Q => scalS x y = true ∧ Q (.bl (!decide (x = y))) H
theorem op_neS {X : Cx} : OpR X (compareOp .NotEq) rNeS := by
  intro pins s σ H x y v u Q I rx ry h
  obtain ⟨hs, q⟩ := h
  cases x with
  | bl i =>
    cases rx
    cases y with
    | bl j => cases ry; exact ne_bool (fin_bl I q (congrArg not dec_bl))
    | _ => exact absurd (show false = true from hs) Bool.false_ne_true
  | int i =>
    obtain ⟨t, rfl⟩ := rx
    cases y with
    | int j => obtain ⟨t', rfl⟩ := ry; exact ne_int (fin_bl I q (congrArg not dec_int))
    | _ => exact absurd (show false = true from hs) Bool.false_ne_true
  | _ => exact absurd (show false = true from hs) Bool.false_ne_true
theorem ixR {K : PySem.W.Frag} {H : Hp} {a : Addr} {xs : List V} {i : Int} {v : V} {Q : V → Prop} (h : SqL K H a xs) (l : atI xs i = some v) (q : Q v) :
    ∃ p xs' i' v', V.ref a = .ref p ∧ V.int i = .int i' ∧ SqL K H p xs' ∧ atI xs' i' = some v' ∧ Q v' := ⟨a, xs, i, v, rfl, rfl, h, l, q⟩
section
variable {P : Program} {w : World} {K : PySem.W.Frag} {mg : Str → Option Value} {base : Heap} {t : Adr}
noncomputable def sp_is_whole (K : PySem.W.Frag) : Sp := fun vs H Q _ => ∃ v t b1 b2, vs = [v] ∧ TyOf K H v t ∧ PySem.W.kitOne K t (.type "int") = some b1 ∧ PySem.W.kitOne K t (.type "bool") = some b2 ∧ Q (.bl (b1 && !b2)) H
theorem ok_is_whole (T : Txt K mg t) : OkFn P w K mg base 1 t.f_is_whole ["value"] (sp_is_whole K) := by
  refine okfn T.fn_is_whole sc_is_whole (fun vs H Q E h => ?_) (fun cdv A outer s H vs Q E hr h => ?_)
  · obtain ⟨v, t, b1, b2, rfl, _⟩ := h
    rfl
  · obtain ⟨v, ty, b1, b2, rfl, hT, k1, k2, k⟩ := h
    refine ⟨_, (@pss_one _ _ _ (@ps_ret _ _ _ _ (pe_and (pe_callB call_isinst rfl T.b_isinstance boot_isinstance (@pa_con _ _ _ _ _ rfl (pv 0) (@pa_con _ _ _ _ _ rfl (pe_bltn (v := .ty "int") rfl T.b_int boot_int rfl) pa_nil))) (pe_one (pe_not (pe_callB call_isinst rfl T.b_isinstance boot_isinstance (@pa_con _ _ _ _ _ rfl (pv 0) (@pa_con _ _ _ _ _ rfl (pe_bltn (v := .ty "bool") rfl T.b_bool boot_bool rfl) pa_nil)))))))), ?_⟩
    refine ⟨_, rfl, _, _, _, _, _, rfl, (fun _ r => r), hT, k1, _, rfl, ?_⟩
    cases b1 with
    | false => exact iteF k
    | true => exact iteT ⟨_, rfl, _, _, _, _, _, rfl, (fun _ r => r), hT, k2, _, rfl, k⟩
noncomputable def sp_check_row (K : PySem.W.Frag) : Sp := fun vs H Q _ => ∃ a ns, vs = [.ref a] ∧ H a = some (.lst (iL ns)) ∧ OkRow ns ∧ Q .non H
theorem ok_check_row (T : Txt K mg t) : OkFn P w K mg base 2 t.f_check_row ["row"] (sp_check_row K) := by
  refine okfn T.fn_check_row sc_check_row (fun vs H Q E h => ?_) (fun cdv A outer s H vs Q E hr h => ?_)
  · obtain ⟨a, ns, rfl, _⟩ := h
    rfl
  · obtain ⟨a, ns, rfl, hA, hok, k⟩ := h
    refine ⟨_, (@pss_cons _ _ _ _ _ (@ps_if _ _ _ _ _ _ _ _ (pt_not (pt_val (pe_callB call_isinst rfl T.b_isinstance boot_isinstance (@pa_con _ _ _ _ _ rfl (pv 0) (@pa_con _ _ _ _ _ rfl (pe_bltn (v := .ty "list") rfl T.b_list boot_list rfl) pa_nil))))) (@pss_one _ _ _ ps_never) pss_nil) (@pss_one _ _ _ (ps_for PassesOwn.never rfl (pi_list (pv 0)) (pg_name (i := 1) sc_check_row.nd rfl (Or.inl rfl)) (@pss_one _ _ _ (@ps_if _ _ _ _ _ _ _ _ (PW.pt (pw_or (pt_not (pt_val (pe_callO (ok_is_whole T) (hr.mono (by decide)) T.mg_is_whole T.fn_is_whole.kp (@pa_con _ _ _ _ _ rfl (pv 1) pa_nil)))) (pw_or1 (pt_cmpR op_gt (pe_callB call_abs rfl T.b_abs boot_abs (@pa_con _ _ _ _ _ rfl (pv 1) pa_nil)) (pe_glob (v := .int 1000000) rfl T.g_GREATEST ⟨_, rfl⟩) (nomark _))))) (@pss_one _ _ _ ps_never) pss_nil))))), ?_⟩
    refine ⟨_, rfl, _, _, _, _, _, rfl, (fun _ r => r), .lst hA, kit_ll, _, rfl, ?_⟩
    refine iteF ?_
    refine ⟨_, rfl, a, rfl, ⟨_, SqL.of hA⟩, for_list (K := K) (a := a) (xs := iL ns) (fun i σ H2 => ∃ v, σ = [some (.ref a), v] ∧ H2 = H) ⟨none, rfl, rfl⟩ (fun i σ H2 _ ⟨_, _, e⟩ => e ▸ SqL.of hA) ?_ ?_⟩
    · rintro i x σ H2 hi ⟨v, rfl, rfl⟩
      obtain ⟨z, rfl, hz⟩ := ints_get hi
      have hb := hok z (List.mem_of_getElem? hz)
      refine ⟨_, rfl, _, _, _, _, rfl, .int z, kit_ii, kit_ib, _, rfl, ?_⟩
      refine iteF ?_
      refine ⟨_, rfl, _, rfl, _, _, rfl, rfl, _, rfl, ?_⟩
      refine iteQ (by simp; split <;> omega) ?_
      exact ⟨_, rfl, rfl⟩
    · rintro σ H2 ⟨v, rfl, rfl⟩
      exact k
noncomputable def sp_running_sums (K : PySem.W.Frag) : Sp := fun vs H Q _ => ∃ a ns, vs = [.ref a] ∧ H a = some (.lst (iL ns)) ∧ ns.length ≤ 500 ∧ TellsL H (sumsZ ns) Q
theorem ok_running_sums (T : Txt K mg t) : OkFn P w K mg base 1 t.f_running_sums ["row"] (sp_running_sums K) := by
  refine okfn T.fn_running_sums sc_running_sums (fun vs H Q E h => ?_) (fun cdv A outer s H vs Q E hr h => ?_)
  · obtain ⟨a, ns, rfl, _⟩ := h
    rfl
  · obtain ⟨a, ns, rfl, hA, hlen, k⟩ := h
    refine ⟨_, (@pss_cons _ _ _ _ _ (@ps_set _ _ 1 _ _ _ _ sc_running_sums.nd rfl (Or.inl rfl) (@pe_lst _ _ _ _ (@pa_con _ _ _ _ _ rfl pe_int pa_nil)) rfl (Or.inl rfl)) (@pss_cons _ _ _ _ _ (ps_for PassesOwn.never rfl (pi_list (pv 0)) (pg_name (i := 2) sc_running_sums.nd rfl (Or.inl rfl)) (@pss_one _ _ _ (@ps_expr _ _ _ _ (pe_bm PySem.F.plainAttrs_list PySem.F.slot_list_append PySem.F.type_list_append mt_append (pv 1) (@pa_con _ _ _ _ _ rfl (@pe_op _ _ _ _ _ _ _ _ op_add (@pe_ix _ _ _ _ _ _ _ ix_list (pv 1) (pe_un un_neg pe_int) (fun _ _ => rfl)) (pv 2)) pa_nil)) rfl))) (@pss_one _ _ _ (@ps_ret _ _ _ _ (pv 1))))), ?_⟩
    refine ⟨by show 1 ≤ sizeLine; decide, fun l hl => ?_⟩
    refine ⟨_, rfl, a, rfl, ⟨_, SqL.of (Same.new hl _ _ hA)⟩, for_list (K := K) (a := a) (xs := iL ns) (fun i σ H2 => ∃ v, σ = [some (.ref a), some (.ref l), v] ∧ Same H H2 ∧ H2 l = some (.lst (iL ((List.range (i + 1)).map (S ns)))))
      ⟨none, rfl, Same.new hl, by rw [upd_same]; simp [S_zero]⟩ (fun i σ H2 _ ⟨_, _, s2, _⟩ => SqL.of (s2 _ _ hA)) ?_ ?_⟩
    · rintro i x σ H2 hi ⟨v, rfl, s2, h2⟩
      obtain ⟨z, rfl, hz⟩ := ints_get hi
      have hil : i < ns.length := (List.getElem?_eq_some_iff.mp hz).1
      have hf : iL ((List.range (i + 1)).map (S ns)) = iL ((List.range i).map (S ns)) ++ [V.int (S ns i)] := by simp [List.range_succ]
      have hat : atI (iL ((List.range (i + 1)).map (S ns))) (-1) = some (.int (S ns i)) := by rw [hf]; exact atI_last _ _
      refine ⟨_, rfl, .inl ⟨rfl, _, SqL.of h2⟩, _, rfl, _, rfl, _, _, _, _, rfl, rfl, SqL.of h2, hat, _, rfl, _, _, rfl, rfl, _, _, _, rfl, rfl, h2, small1000 (by simp; omega), ?_⟩
      refine ⟨_, rfl, s2.step hl, ?_⟩
      rw [upd_same, List.range_succ (n := i + 1), List.map_append, List.map_cons, List.map_nil, S_succ hz]
      simp [iL]
    · rintro σ H2 ⟨v, rfl, s2, h2⟩
      refine ⟨_, rfl, k l H2 hl s2 ?_⟩
      rw [h2]
      simp [sumsZ, iL]
noncomputable def sp_sums (K : PySem.W.Frag) : Sp := fun vs H Q _ => ∃ a ns, vs = [.ref a] ∧ H a = some (.lst (iL ns)) ∧ OkRow ns ∧ ns.length ≤ 500 ∧ TellsL H (sumsZ ns) Q
theorem ok_sums (T : Txt K mg t) : OkFn P w K mg base 3 t.f_sums ["row"] (sp_sums K) := by
  refine okfn T.fn_sums sc_sums (fun vs H Q E h => ?_) (fun cdv A outer s H vs Q E hr h => ?_)
  · obtain ⟨a, ns, rfl, _⟩ := h
    rfl
  · obtain ⟨a, ns, rfl, hA, hok, hlen, k⟩ := h
    refine ⟨_, (@pss_cons _ _ _ _ _ (@ps_expr _ _ _ _ (pe_callO (ok_check_row T) (hr.mono (by decide)) T.mg_check_row T.fn_check_row.kp (@pa_con _ _ _ _ _ rfl (pv 0) pa_nil)) rfl) (@pss_one _ _ _ (@ps_ret _ _ _ _ (pe_callO (ok_running_sums T) (hr.mono (by decide)) T.mg_running_sums T.fn_running_sums.kp (@pa_con _ _ _ _ _ rfl (pv 0) pa_nil))))), ?_⟩
    refine ⟨_, rfl, _, _, rfl, hA, hok, ?_⟩
    exact ⟨_, rfl, _, _, rfl, hA, hlen, k⟩
noncomputable def sp_stretch_sum (K : PySem.W.Frag) : Sp := fun vs H Q _ => ∃ a ns first many, vs = [.ref a, .int first, .int many] ∧ H a = some (.lst (iL ns)) ∧ 0 ≤ first ∧ 0 ≤ many ∧ first + many ≤ ns.length ∧ Tells H (.int (S ns (first + many).toNat - S ns first.toNat)) Q
theorem ok_stretch_sum (T : Txt K mg t) : OkFn P w K mg base 1 t.f_stretch_sum ["row", "first", "many"] (sp_stretch_sum K) := by
  refine okfn T.fn_stretch_sum sc_stretch_sum (fun vs H Q E h => ?_) (fun cdv A outer s H vs Q E hr h => ?_)
  · obtain ⟨a, ns, f, m, rfl, _⟩ := h
    rfl
  · obtain ⟨a, ns, f, m, rfl, hA, h0, h1, h2, k⟩ := h
    refine ⟨_, (@pss_one _ _ _ (@ps_ret _ _ _ _ (pe_callB (call_sum rfl) rfl T.b_sum boot_sum (@pa_con _ _ _ _ _ rfl (pe_slice sl_list (pv 0) (po_some (pv 1)) (po_some (@pe_op _ _ _ _ _ _ _ _ op_add (pv 1) (pv 2)))) pa_nil)))), ?_⟩
    obtain ⟨f, rfl⟩ := Int.eq_ofNat_of_zero_le h0
    obtain ⟨m, rfl⟩ := Int.eq_ofNat_of_zero_le h1
    refine ⟨_, rfl, _, rfl, _, rfl, _, rfl, _, rfl, _, _, rfl, rfl, _, rfl, a, _, rfl, SqL.of hA, fun p hp => ?_⟩
    rw [cut_int (f := (f : Int)) (m := (m : Int)) h0 h1 h2]
    refine ⟨p, _, rfl, SqL.of upd_same, ?_⟩
    rw [cutZ_sum]
    exact k _ (Same.new hp)
noncomputable def sp_check_least (K : PySem.W.Frag) : Sp := fun vs H Q _ => ∃ a ns z, vs = [.ref a, .int z] ∧ H a = some (.lst (iL ns)) ∧ 1 ≤ z ∧ z ≤ ns.length ∧ Q .non H
theorem ok_check_least (T : Txt K mg t) : OkFn P w K mg base 2 t.f_check_least ["row", "least"] (sp_check_least K) := by
  refine okfn T.fn_check_least sc_check_least (fun vs H Q E h => ?_) (fun cdv A outer s H vs Q E hr h => ?_)
  · obtain ⟨a, ns, z, rfl, _⟩ := h
    rfl
  · obtain ⟨a, ns, z, rfl, hA, h1, h2, k⟩ := h
    refine ⟨_, (@pss_one _ _ _ (@ps_if _ _ _ _ _ _ _ _ (PW.pt (pw_or (pt_not (pt_val (pe_callO (ok_is_whole T) (hr.mono (by decide)) T.mg_is_whole T.fn_is_whole.kp (@pa_con _ _ _ _ _ rfl (pv 1) pa_nil)))) (pw_or (pt_cmpR op_lt (pv 1) pe_int (nomark _)) (pw_or1 (pt_cmpR op_gt (pv 1) (pe_callB call_len_seq rfl T.b_len PySem.boot_len (@pa_con _ _ _ _ _ rfl (pv 0) pa_nil)) (nomark _)))))) (@pss_one _ _ _ ps_never) pss_nil)), ?_⟩
    refine ⟨_, rfl, _, _, _, _, rfl, .int z, kit_ii, kit_ib, _, rfl, ?_⟩
    refine iteF ?_
    refine ⟨_, rfl, _, _, rfl, rfl, _, rfl, ?_⟩
    refine iteQ (by simp; omega) ?_
    refine ⟨_, rfl, _, rfl, _, _, rfl, .inl (SqL.of hA), _, _, rfl, rfl, _, rfl, ?_⟩
    refine iteQ (by simp; omega) ?_
    exact k
noncomputable def sp_Best___init__ (t : Adr) : Sp := fun vs H Q _ => ∃ x dx f m a ls, vs = [.ref x, .int f, .int m, .ref a] ∧ H x = some (.ins t.C_Best dx []) ∧ H a = some (.lst (iL ls)) ∧
  ∀ l H', H l = none → (∀ b o, b ≠ x → H b = some o → H' b = some o) → H' x = some (.ins t.C_Best dx (fl_Best (.int f) (.int m) (.ref l))) → H' l = some (.lst (iL ls)) → Q .non H'
theorem ok_Best___init__ (T : Txt K mg t) : OkFn P w K mg base 1 t.f_Best___init__ ["self", "first", "many", "lows"] (sp_Best___init__ t) := by
  refine okfn T.fn_Best___init__ sc_Best___init__ (fun vs H Q E h => ?_) (fun cdv A outer s H vs Q E hr h => ?_)
  · obtain ⟨x, dx, f, m, a, ls, rfl, _⟩ := h
    rfl
  · obtain ⟨x, dx, f, m, a, ls, rfl, hx, hA, k⟩ := h
    have hax : a ≠ x := ne_of hA hx (by intro z; cases z)
    refine ⟨_, (@pss_cons _ _ _ _ _ (ps_fld (pv 0) (pv 1) rfl) (@pss_cons _ _ _ _ _ (ps_fld (pv 0) (pv 2) rfl) (@pss_one _ _ _ (ps_fld (pv 0) (pe_callTy call_list_of rfl T.b_list boot_list (@pa_con _ _ _ _ _ rfl (pv 3) pa_nil)) rfl)))), ?_⟩
    refine ⟨_, rfl, _, rfl, x, _, _, _, rfl, hx, T.cl_Best, T.no_Best_first, (by show 0 < 1000; decide), ?_⟩
    refine ⟨_, rfl, _, rfl, x, _, _, _, rfl, upd_same, T.cl_Best, T.no_Best_many, (by show 1 < 1000; decide), ?_⟩
    refine ⟨_, rfl, _, _, rfl, .inl (SqL.of (by rw [upd_ne hax, upd_ne hax]; exact hA)), fun l hl => ?_⟩
    have hlx : x ≠ l := ne_of_none upd_same hl
    refine ⟨_, rfl, x, _, _, _, rfl, (by rw [upd_ne hlx]; exact upd_same), T.cl_Best, T.no_Best_lows, ?_, ?_⟩
    · rw [show putF "first" (V.int f) [] = [(("first" : Str), V.int f)] from rfl, fl_Best_p1 (.int f) (.int m) (.ref l)]
      show 2 < 1000
      decide
    · refine k l _ ?_ (fun b o hb e => ?_) ?_ ?_
      · rw [upd_ne hlx.symm, upd_ne hlx.symm] at hl
        exact hl
      · have hbl : b ≠ l := by
          rw [upd_ne hlx.symm, upd_ne hlx.symm] at hl
          exact ne_of_none e hl
        rw [upd_ne hb, upd_ne hbl, upd_ne hb, upd_ne hb]
        exact e
      · rw [upd_same]
        exact congrArg (fun l => some (HO.ins t.C_Best dx l)) (fl_Best_made (.int f) (.int m) (.ref l))
      · rw [upd_ne hlx.symm, upd_same]
noncomputable def TellsBest (t : Adr) (H : Hp) (f m : Int) (ls : List Int) (Q : VK) : Prop := ∀ x dx l H', H x = none → H l = none → Same H H' → H' x = some (.ins t.C_Best dx (fl_Best (.int f) (.int m) (.ref l))) → H' l = some (.lst (iL ls)) → Q (.ref x) H'
theorem make_Best {t : Adr} {H : Hp} {f m : Int} {a : Addr} {ls : List Int} {Q : VK} (hA : H a = some (.lst (iL ls))) (k : TellsBest t H f m ls Q) : ∀ x dx, H x = none → H dx = none → dx ≠ x →
    sp_Best___init__ t (.ref x :: ([.int f, .int m, .ref a] ++ [])) (upd (upd H dx (.own x)) x (.ins t.C_Best dx [])) (fun v H2 => v = .non ∧ Q (.ref x) H2) E0 := by
  intro x dx nx ndx nex
  have s0 : Same H (upd (upd H dx (.own x)) x (.ins t.C_Best dx [])) := (Same.new ndx).step nx
  refine ⟨x, dx, f, m, a, ls, rfl, upd_same, s0 _ _ hA, fun l H' hl kp h1 h2 => ⟨rfl, k x dx l H' nx (s0.free hl) (fun b o e => kp b o (ne_of_none e nx) (s0 b o e)) h1 h2⟩⟩
noncomputable def sp_best_of (t : Adr) : Sp := fun vs H Q _ => ∃ a ns z, vs = [.ref a, .int z] ∧ H a = some (.lst (iL ns)) ∧ 1 ≤ z ∧ z ≤ ns.length ∧ ns.length ≤ 500 ∧ ∀ f m ls, IsBest ns z f m ls → TellsBest t H f m ls Q
theorem ok_best_of (T : Txt K mg t) : OkFn P w K mg base 3 t.f_best_of ["row", "least"] (sp_best_of t) := by
  refine okfn T.fn_best_of sc_best_of (fun vs H Q E h => ?_) (fun cdv A outer s H vs Q E hr h => ?_)
  · obtain ⟨a, ns, z, rfl, _⟩ := h
    rfl
  · obtain ⟨a, ns, z, rfl, hA, h1, h2, hlen, k⟩ := h
    obtain ⟨le, rfl⟩ := Int.eq_ofNat_of_zero_le (show 0 ≤ z by omega)
    refine ⟨_, (@pss_cons _ _ _ _ _ (@ps_set _ _ 2 _ _ _ _ sc_best_of.nd rfl (Or.inl rfl) (pe_callO (ok_running_sums T) (hr.mono (by decide)) T.mg_running_sums T.fn_running_sums.kp (@pa_con _ _ _ _ _ rfl (pv 0) pa_nil)) rfl (Or.inl rfl)) (@pss_cons _ _ _ _ _ (@ps_set _ _ 3 _ _ _ _ sc_best_of.nd rfl (Or.inl rfl) (@pe_lst _ _ _ _ pa_nil) rfl (Or.inl rfl)) (@pss_cons _ _ _ _ _ (@ps_set _ _ 4 _ _ _ _ sc_best_of.nd rfl (Or.inl rfl) pe_int rfl (Or.inl rfl)) (@pss_cons _ _ _ _ _ (@ps_set _ _ 5 _ _ _ _ sc_best_of.nd rfl (Or.inl rfl) pe_int rfl (Or.inl rfl)) (@pss_cons _ _ _ _ _ (@ps_set _ _ 6 _ _ _ _ sc_best_of.nd rfl (Or.inl rfl) (pv 1) rfl (Or.inl rfl)) (@pss_cons _ _ _ _ _ (ps_for PassesOwn.never rfl (pi_range1 rfl T.b_range (@pa_con _ _ _ _ _ rfl (@pe_op _ _ _ _ _ _ _ _ op_sub (pe_callB call_len_seq rfl T.b_len PySem.boot_len (@pa_con _ _ _ _ _ rfl (pv 2) pa_nil)) (pv 1)) pa_nil)) (pg_name (i := 7) sc_best_of.nd rfl (Or.inl rfl)) (@pss_cons _ _ _ _ _ (@ps_if _ _ _ _ _ _ _ _ (pt_cmpR op_lt (@pe_ix _ _ _ _ _ _ _ ix_list (pv 2) (pv 7) (fun _ _ => rfl)) (@pe_ix _ _ _ _ _ _ _ ix_list (pv 2) (pv 4) (fun _ _ => rfl)) (nomark _)) (@pss_one _ _ _ (@ps_set _ _ 4 _ _ _ _ sc_best_of.nd rfl (Or.inl rfl) (pv 7) rfl (Or.inl rfl))) pss_nil) (@pss_cons _ _ _ _ _ (@ps_expr _ _ _ _ (pe_bm PySem.F.plainAttrs_list PySem.F.slot_list_append PySem.F.type_list_append mt_append (pv 3) (@pa_con _ _ _ _ _ rfl (@pe_ix _ _ _ _ _ _ _ ix_list (pv 2) (pv 4) (fun _ _ => rfl)) pa_nil)) rfl) (@pss_cons _ _ _ _ _ (@ps_set _ _ 8 _ _ _ _ sc_best_of.nd rfl (Or.inl rfl) (@pe_op _ _ _ _ _ _ _ _ op_add (pv 7) (pv 1)) rfl (Or.inl rfl)) (@pss_one _ _ _ (@ps_if _ _ _ _ _ _ _ _ (pt_cmpR op_gt (@pe_op _ _ _ _ _ _ _ _ op_sub (@pe_ix _ _ _ _ _ _ _ ix_list (pv 2) (pv 8) (fun _ _ => rfl)) (@pe_ix _ _ _ _ _ _ _ ix_list (pv 2) (pv 4) (fun _ _ => rfl))) (@pe_op _ _ _ _ _ _ _ _ op_sub (@pe_ix _ _ _ _ _ _ _ ix_list (pv 2) (@pe_op _ _ _ _ _ _ _ _ op_add (pv 5) (pv 6)) (fun _ _ => rfl)) (@pe_ix _ _ _ _ _ _ _ ix_list (pv 2) (pv 5) (fun _ _ => rfl))) (nomark _)) (@pss_cons _ _ _ _ _ (@ps_set _ _ 5 _ _ _ _ sc_best_of.nd rfl (Or.inl rfl) (pv 4) rfl (Or.inl rfl)) (@pss_one _ _ _ (@ps_set _ _ 6 _ _ _ _ sc_best_of.nd rfl (Or.inl rfl) (@pe_op _ _ _ _ _ _ _ _ op_sub (pv 8) (pv 4)) rfl (Or.inl rfl)))) pss_nil)))))) (@pss_one _ _ _ (@ps_ret _ _ _ _ (pe_makeO T.mk_Best (ok_Best___init__ T) (hr.mono (by decide)) T.mg_Best (@pa_con _ _ _ _ _ rfl (pv 5) (@pa_con _ _ _ _ _ rfl (pv 6) (@pa_con _ _ _ _ _ rfl (pv 3) pa_nil)))))))))))), ?_⟩
    refine ⟨_, rfl, _, _, rfl, hA, hlen, fun l H1 hl s1 hL => ?_⟩
    refine ⟨(by show 0 ≤ sizeLine; decide), fun p hp => ?_⟩
    have s2 : Same H1 (upd H1 p (.lst [])) := Same.new hp
    refine ⟨_, rfl, ?_⟩
    refine ⟨_, rfl, _, _, rfl, .inl (SqL.of (s2 _ _ hL)), _, rfl, _, _, rfl, rfl, _, rfl, (by rw [ints_len, sumsZ_length]; omega), (by rw [ints_len, sumsZ_length]; omega), ?_⟩
    have en : (((iL (sumsZ ns)).length : Nat) : Int) - (le : Int) = ((ns.length + 1 - le : Nat) : Int) := by rw [ints_len, sumsZ_length]; omega
    rw [en]
    refine for_range (n := ns.length + 1 - le) (fun i σ H2 => ∃ v u lo f m, σ = [some (.ref a), some (.int le), some (.ref l), some (.ref p), some (.int ((lo : Nat) : Int)), some (.int ((f : Nat) : Int)), some (.int ((m : Nat) : Int)), v, u] ∧ Same H1 H2 ∧ H2 p = some (.lst (iL (lowsZ ns i))) ∧ BInv ns le i lo f m)
      ⟨none, none, 0, 0, le, rfl, s2, upd_same, BInv.start (by omega)⟩ ?_ ?_
    · rintro i σ H2 hi ⟨v, u, lo, f, m, rfl, s3, h3, hb⟩
      have hL3 := s3 _ _ hL
      have hlo := hb.li
      have hfm := hb.fm
      have e0 : (0 : Int) + (i : Int) = (i : Int) := by omega
      rw [e0]
      refine ⟨_, rfl, _, rfl, _, _, _, _, rfl, rfl, SqL.of hL3, ints_at (sumsZ_get (by omega)), _, rfl, _, rfl, _, _, _, _, rfl, rfl, SqL.of hL3, ints_at (sumsZ_get (by omega)), _, _, rfl, rfl, _, rfl, ?_⟩
      have hlw := hb.lowest
      obtain ⟨σ0, hσ⟩ : ∃ σ0, List.set [some (V.ref a), some (V.int le), some (V.ref l), some (V.ref p), some (V.int (lo : Int)), some (V.int (f : Int)), some (V.int (m : Int)), v, u] 7 (some (V.int (i : Int))) = σ0 := ⟨_, rfl⟩
      rw [hσ]
      refine iteS (Pq := fun σ => tNext _ σ H2) (Good := fun σ => ∃ l' : Nat, l' ≤ i ∧ S ns l' = low ns i ∧ σ = [some (V.ref a), some (V.int le), some (V.ref l), some (V.ref p), some (V.int (l' : Int)), some (V.int (f : Int)), some (V.int (m : Int)), some (V.int (i : Int)), u]) (fun c2 r => r σ0 ⟨lo, hlo, ?_, hσ.symm⟩) (fun c2 r => ?_) ?_
      · have c2 : ¬ S ns i < S ns lo := by simpa using c2
        rw [if_neg c2] at hlw
        exact hlw
      · have c2 : S ns i < S ns lo := by simpa using c2
        rw [if_pos c2] at hlw
        subst hσ
        exact ⟨_, rfl, r _ ⟨i, Nat.le_refl _, hlw, rfl⟩⟩
      · rintro σ' ⟨l', hl', el', rfl⟩
        refine ⟨_, rfl, .inl ⟨rfl, _, SqL.of h3⟩, _, rfl, _, rfl, _, _, _, _, rfl, rfl, SqL.of hL3, ints_at (sumsZ_get (by omega)), _, _, _, rfl, rfl, h3, small1000 (by rw [ints_len, lowsZ_len]; omega), ?_⟩
        have s4 : Same H1 (upd H2 p (.lst (iL (lowsZ ns i) ++ [.int (S ns l')]))) := s3.step hp
        have hL4 := s4 _ _ hL
        have h4 : upd H2 p (.lst (iL (lowsZ ns i) ++ [.int (S ns l')])) p = some (.lst (iL (lowsZ ns (i + 1)))) := by rw [upd_same, lowsZ_succ, el']; simp [iL]
        refine ⟨_, rfl, _, rfl, _, _, rfl, rfl, ?_⟩
        refine ⟨_, rfl, _, rfl, _, _, _, _, rfl, rfl, SqL.of hL4, sums_atI (by omega) (by omega), _, rfl, _, rfl, _, _, _, _, rfl, rfl, SqL.of hL4, ints_at (sumsZ_get (by omega)), _, _, rfl, rfl, _, rfl, _, rfl, _, rfl, _, _, rfl, rfl, _, _, _, _, rfl, rfl, SqL.of hL4, sums_atI (by omega) (by omega), _, rfl, _, rfl, _, _, _, _, rfl, rfl, SqL.of hL4, ints_at (sumsZ_get (by omega)), _, _, rfl, rfl, _, _, rfl, rfl, _, rfl, ?_⟩
        rw [show ((i : Int) + (le : Int)).toNat = i + le by omega, show ((f : Int) + (m : Int)).toNat = f + m by omega]
        refine ite2 (fun c3 => ?_) (fun c3 => ?_)
        · have c3 : S ns (f + m) - S ns f < S ns (i + le) - S ns l' := by simpa using c3
          refine ⟨_, rfl, ?_⟩
          refine ⟨_, rfl, _, rfl, _, _, rfl, rfl, ?_⟩
          refine ⟨some (.int (i : Int)), some (.int ((i : Int) + (le : Int))), l', l', i + le - l', ?_, s4, h4, hb.turn hl' el' (.inl ⟨c3, rfl, rfl⟩) (by omega)⟩
          rw [show ((i + le - l' : Nat) : Int) = ((i : Int) + (le : Int) - (l' : Int)) by omega]
          rfl
        · have c3 : S ns (i + le) - S ns l' ≤ S ns (f + m) - S ns f := by simpa using c3
          exact ⟨_, _, l', f, m, rfl, s4, h4, hb.turn hl' el' (.inr ⟨c3, rfl, rfl⟩) (by omega)⟩
    · rintro σ H2 ⟨v, u, lo, f, m, rfl, s3, h3, hb⟩
      refine ⟨_, rfl, _, rfl, _, rfl, ?_⟩
      refine make_Best h3 fun x dx y H3 nx ny s4 hx hy => ?_
      exact k _ _ _ (hb.done (by omega)) x dx y H3 ((s1.trans s3).free nx) ((s1.trans s3).free ny) ((s1.trans s3).trans s4) hx hy
noncomputable def sp_best (t : Adr) : Sp := fun vs H Q _ => ∃ a ns z, vs = [.ref a, .int z] ∧ H a = some (.lst (iL ns)) ∧ OkRow ns ∧ 1 ≤ z ∧ z ≤ ns.length ∧ ns.length ≤ 500 ∧ ∀ f m ls, IsBest ns z f m ls → TellsBest t H f m ls Q
theorem ok_best (T : Txt K mg t) : OkFn P w K mg base 4 t.f_best ["row", "least"] (sp_best t) := by
  refine okfn T.fn_best sc_best (fun vs H Q E h => ?_) (fun cdv A outer s H vs Q E hr h => ?_)
  · obtain ⟨a, ns, z, rfl, _⟩ := h
    rfl
  · obtain ⟨a, ns, z, rfl, hA, hok, h1, h2, hlen, k⟩ := h
    refine ⟨_, (@pss_cons _ _ _ _ _ (@ps_expr _ _ _ _ (pe_callO (ok_check_row T) (hr.mono (by decide)) T.mg_check_row T.fn_check_row.kp (@pa_con _ _ _ _ _ rfl (pv 0) pa_nil)) rfl) (@pss_cons _ _ _ _ _ (@ps_expr _ _ _ _ (pe_callO (ok_check_least T) (hr.mono (by decide)) T.mg_check_least T.fn_check_least.kp (@pa_con _ _ _ _ _ rfl (pv 0) (@pa_con _ _ _ _ _ rfl (pv 1) pa_nil))) rfl) (@pss_one _ _ _ (@ps_ret _ _ _ _ (pe_callO (ok_best_of T) (hr.mono (by decide)) T.mg_best_of T.fn_best_of.kp (@pa_con _ _ _ _ _ rfl (pv 0) (@pa_con _ _ _ _ _ rfl (pv 1) pa_nil))))))), ?_⟩
    refine ⟨_, rfl, _, _, rfl, hA, hok, ?_⟩
    refine ⟨_, rfl, _, rfl, _, _, _, rfl, hA, h1, h2, ?_⟩
    exact ⟨_, rfl, _, rfl, _, _, _, rfl, hA, h1, h2, hlen, k⟩
noncomputable def sp_turned_inner (K : PySem.W.Frag) : Sp := fun vs H Q _ => ∃ a ns, vs = [.ref a] ∧ H a = some (.lst (iL ns)) ∧ ns.length ≤ 500 ∧ TellsL H (inner ns) Q
theorem ok_turned_inner (T : Txt K mg t) : OkFn P w K mg base 1 t.f_turned_inner ["row"] (sp_turned_inner K) := by
  refine okfn T.fn_turned_inner sc_turned_inner (fun vs H Q E h => ?_) (fun cdv A outer s H vs Q E hr h => ?_)
  · obtain ⟨a, ns, rfl, _⟩ := h
    rfl
  · obtain ⟨a, ns, rfl, hA, hlen, k⟩ := h
    refine ⟨_, (@pss_one _ _ _ (@ps_ret _ _ _ _ (pe_comp (N := ["number"]) (js := [none]) rfl ⟨rfl, rfl, rfl, rfl, rfl, rfl⟩ (pi_list (pe_slice sl_list (pv 0) (po_some pe_int) (po_some (pe_un un_neg pe_int)))) (fun _ _ _ _ _ => (pg_name (i := 0) (show (["number"] : List Str).Nodup from by decide +kernel) rfl (Or.inl rfl))) (fun _ _ _ _ _ => pts_nil) (fun _ _ _ _ _ => (pe_un un_neg (pv 0)))))), ?_⟩
    refine ⟨_, rfl, _, rfl, _, rfl, _, rfl, _, _, rfl, SqL.of hA, fun p hp => ?_⟩
    rw [cut_inner]
    have s1 : Same H (upd H p (.lst (iL ((ns.drop 1).take (ns.length - 2))))) := Same.new hp
    have hP : upd H p (.lst (iL ((ns.drop 1).take (ns.length - 2)))) p = some (.lst (iL ((ns.drop 1).take (ns.length - 2)))) := upd_same
    have hlc : ((ns.drop 1).take (ns.length - 2)).length ≤ 500 := by rw [List.length_take, List.length_drop]; omega
    have ei : inner ns = ((ns.drop 1).take (ns.length - 2)).map fun x => -x := rfl
    rw [ei] at k
    generalize (ns.drop 1).take (ns.length - 2) = cut at *
    refine ⟨p, rfl, ⟨_, SqL.of hP⟩, fun D hD => ?_⟩
    refine comp_mapL (K := K) (a := p) (xs := iL cut) (fun σ => ∃ v, σ = [v]) (fun i => .int (-(cut.getD i 0))) (SqL.of hP) hD (by rw [ints_len]; omega) ⟨none, rfl⟩ ?_ ?_
    · rintro i x σ' H' hi s' ⟨v, rfl⟩ R hR
      obtain ⟨z, rfl, hz⟩ := ints_get hi
      refine ⟨_, rfl, _, rfl, ?_⟩
      have := hR [some (.int z)] H' ⟨_, rfl⟩ (Same.refl _)
      rw [getD_of hz] at this
      exact this
    · intro H' s' hl'
      refine k D H' (s1.free hD) (s1.trans s') ?_
      rw [hl', ints_len, range_map cut (fun c => V.int (-c))]
      simp [iL]
noncomputable def sp_Around___init__ (t : Adr) : Sp := fun vs H Q _ => ∃ x dx f m a b ls us, vs = [.ref x, .int f, .int m, .ref a, .ref b] ∧ H x = some (.ins t.C_Around dx []) ∧ H a = some (.lst (iL ls)) ∧ H b = some (.lst (iL us)) ∧
  ∀ l u H', H l = none → H u = none → l ≠ u → (∀ b o, b ≠ x → H b = some o → H' b = some o) → H' x = some (.ins t.C_Around dx (fl_Around (.int f) (.int m) (.ref l) (.ref u))) → H' l = some (.lst (iL ls)) → H' u = some (.lst (iL us)) → Q .non H'
theorem ok_Around___init__ (T : Txt K mg t) : OkFn P w K mg base 1 t.f_Around___init__ ["self", "first", "many", "lows", "tops"] (sp_Around___init__ t) := by
  refine okfn T.fn_Around___init__ sc_Around___init__ (fun vs H Q E h => ?_) (fun cdv A outer s H vs Q E hr h => ?_)
  · obtain ⟨x, dx, f, m, a, b, ls, us, rfl, _⟩ := h
    rfl
  · obtain ⟨x, dx, f, m, a, b, ls, us, rfl, hx, hA, hB, k⟩ := h
    have hax : a ≠ x := ne_of hA hx (by intro z; cases z)
    have hbx : b ≠ x := ne_of hB hx (by intro z; cases z)
    refine ⟨_, (@pss_cons _ _ _ _ _ (ps_fld (pv 0) (pv 1) rfl) (@pss_cons _ _ _ _ _ (ps_fld (pv 0) (pv 2) rfl) (@pss_cons _ _ _ _ _ (ps_fld (pv 0) (pe_callTy call_list_of rfl T.b_list boot_list (@pa_con _ _ _ _ _ rfl (pv 3) pa_nil)) rfl) (@pss_one _ _ _ (ps_fld (pv 0) (pe_callTy call_list_of rfl T.b_list boot_list (@pa_con _ _ _ _ _ rfl (pv 4) pa_nil)) rfl))))), ?_⟩
    refine ⟨_, rfl, _, rfl, x, _, _, _, rfl, hx, T.cl_Around, T.no_Around_first, (by show 0 < 1000; decide), ?_⟩
    refine ⟨_, rfl, _, rfl, x, _, _, _, rfl, upd_same, T.cl_Around, T.no_Around_many, (by show 1 < 1000; decide), ?_⟩
    refine ⟨_, rfl, _, _, rfl, .inl (SqL.of (by rw [upd_ne hax, upd_ne hax]; exact hA)), fun l hl => ?_⟩
    have hlx : x ≠ l := ne_of_none upd_same hl
    have hl0 : H l = none := by
      rw [upd_ne hlx.symm, upd_ne hlx.symm] at hl
      exact hl
    refine ⟨_, rfl, x, _, _, _, rfl, (by rw [upd_ne hlx]; exact upd_same), T.cl_Around, T.no_Around_lows, ?_, ?_⟩
    · rw [show putF "first" (V.int f) [] = [(("first" : Str), V.int f)] from rfl, fl_Around_p1 (.int f) (.int m) (.ref l) .non]
      show 2 < 1000
      decide
    · have hbl : b ≠ l := ne_of_none hB hl0
      refine ⟨_, rfl, _, _, rfl, .inl (SqL.of (by rw [upd_ne hbx, upd_ne hbl, upd_ne hbx, upd_ne hbx]; exact hB)), fun u hu => ?_⟩
      have hux : x ≠ u := ne_of_none upd_same hu
      have hul : l ≠ u := ne_of_none (by rw [upd_ne hlx.symm]; exact upd_same) hu
      have hu0 : H u = none := by
        rw [upd_ne hux.symm, upd_ne hul.symm, upd_ne hux.symm, upd_ne hux.symm] at hu
        exact hu
      refine ⟨_, rfl, x, _, _, _, rfl, (by rw [upd_ne hux]; exact upd_same), T.cl_Around, T.no_Around_tops, ?_, ?_⟩
      · rw [show putF "first" (V.int f) [] = [(("first" : Str), V.int f)] from rfl, fl_Around_p1 (.int f) (.int m) (.ref l) .non, fl_Around_p2 (.int f) (.int m) (.ref l) .non]
        show 3 < 1000
        decide
      · refine k l u _ hl0 hu0 hul (fun c o hc e => ?_) ?_ ?_ ?_
        · rw [upd_ne hc, upd_ne (ne_of_none e hu0), upd_ne hc, upd_ne (ne_of_none e hl0), upd_ne hc, upd_ne hc]
          exact e
        · rw [upd_same]
          exact congrArg (fun l => some (HO.ins t.C_Around dx l)) (fl_Around_made (.int f) (.int m) (.ref l) (.ref u))
        · rw [upd_ne hlx.symm, upd_ne hul, upd_ne hlx.symm, upd_same]
        · rw [upd_ne hux.symm, upd_same]
noncomputable def TellsAround (t : Adr) (H : Hp) (f m : Int) (ls us : List Int) (Q : VK) : Prop := ∀ x dx l u H', H x = none → H l = none → H u = none → l ≠ u → Same H H' → H' x = some (.ins t.C_Around dx (fl_Around (.int f) (.int m) (.ref l) (.ref u))) → H' l = some (.lst (iL ls)) → H' u = some (.lst (iL us)) → Q (.ref x) H'
theorem make_Around {t : Adr} {H : Hp} {f m : Int} {a b : Addr} {ls us : List Int} {Q : VK} (hA : H a = some (.lst (iL ls))) (hB : H b = some (.lst (iL us))) (k : TellsAround t H f m ls us Q) : ∀ x dx, H x = none → H dx = none → dx ≠ x →
    sp_Around___init__ t (.ref x :: ([.int f, .int m, .ref a, .ref b] ++ [])) (upd (upd H dx (.own x)) x (.ins t.C_Around dx [])) (fun v H2 => v = .non ∧ Q (.ref x) H2) E0 := by
  intro x dx nx ndx nex
  have s0 : Same H (upd (upd H dx (.own x)) x (.ins t.C_Around dx [])) := (Same.new ndx).step nx
  exact ⟨x, dx, f, m, a, b, ls, us, rfl, upd_same, s0 _ _ hA, s0 _ _ hB, fun l u H' hl hu hlu kp h1 h2 h3 => ⟨rfl, k x dx l u H' nx (s0.free hl) (s0.free hu) hlu (fun b o e => kp b o (ne_of_none e nx) (s0 b o e)) h1 h2 h3⟩⟩
noncomputable def sp_around (t : Adr) : Sp := fun vs H Q _ => ∃ a ns, vs = [.ref a] ∧ H a = some (.lst (iL ns)) ∧ OkRow ns ∧ 1 ≤ ns.length ∧ ns.length ≤ 200 ∧ ∀ f m ls us, IsAround ns f m ls us → TellsAround t H f m ls us Q
theorem ok_around (T : Txt K mg t) : OkFn P w K mg base 4 t.f_around ["row"] (sp_around t) := by
  refine okfn T.fn_around sc_around (fun vs H Q E h => ?_) (fun cdv A outer s H vs Q E hr h => ?_)
  · obtain ⟨a, ns, rfl, _⟩ := h
    rfl
  · obtain ⟨a, ns, rfl, hA, hok, h1, hlen, k⟩ := h
    refine ⟨_, (@pss_cons _ _ _ _ _ (@ps_expr _ _ _ _ (pe_callO (ok_check_row T) (hr.mono (by decide)) T.mg_check_row T.fn_check_row.kp (@pa_con _ _ _ _ _ rfl (pv 0) pa_nil)) rfl) (@pss_cons _ _ _ _ _ (@ps_if _ _ _ _ _ _ _ _ (pt_cmpR op_eq (pe_callB call_len_seq rfl T.b_len PySem.boot_len (@pa_con _ _ _ _ _ rfl (pv 0) pa_nil)) pe_int (nomark _)) (@pss_one _ _ _ ps_never) pss_nil) (@pss_cons _ _ _ _ _ (@ps_set _ _ 1 _ _ _ _ sc_around.nd rfl (Or.inl rfl) (pe_callO (ok_best_of T) (hr.mono (by decide)) T.mg_best_of T.fn_best_of.kp (@pa_con _ _ _ _ _ rfl (pv 0) (@pa_con _ _ _ _ _ rfl pe_int pa_nil))) rfl (Or.inl rfl)) (@pss_cons _ _ _ _ _ (@ps_if _ _ _ _ _ _ _ _ (pt_cmpR op_lt (pe_callB call_len_seq rfl T.b_len PySem.boot_len (@pa_con _ _ _ _ _ rfl (pv 0) pa_nil)) pe_int (nomark _)) (@pss_one _ _ _ (@ps_ret _ _ _ _ (pe_makeO T.mk_Around (ok_Around___init__ T) (hr.mono (by decide)) T.mg_Around (@pa_con _ _ _ _ _ rfl (pe_fld (pv 1) rfl) (@pa_con _ _ _ _ _ rfl (pe_fld (pv 1) rfl) (@pa_con _ _ _ _ _ rfl (pe_fld (pv 1) rfl) (@pa_con _ _ _ _ _ rfl (@pe_lst _ _ _ _ pa_nil) pa_nil))))))) pss_nil) (@pss_cons _ _ _ _ _ (@ps_set _ _ 2 _ _ _ _ sc_around.nd rfl (Or.inl rfl) (pe_callO (ok_turned_inner T) (hr.mono (by decide)) T.mg_turned_inner T.fn_turned_inner.kp (@pa_con _ _ _ _ _ rfl (pv 0) pa_nil)) rfl (Or.inl rfl)) (@pss_cons _ _ _ _ _ (@ps_set _ _ 3 _ _ _ _ sc_around.nd rfl (Or.inl rfl) (pe_callO (ok_best_of T) (hr.mono (by decide)) T.mg_best_of T.fn_best_of.kp (@pa_con _ _ _ _ _ rfl (pv 2) (@pa_con _ _ _ _ _ rfl pe_int pa_nil))) rfl (Or.inl rfl)) (@pss_cons _ _ _ _ _ (@ps_set _ _ 4 _ _ _ _ sc_around.nd rfl (Or.inl rfl) (@pe_op _ _ _ _ _ _ _ _ op_add (pe_callB (call_sum rfl) rfl T.b_sum boot_sum (@pa_con _ _ _ _ _ rfl (pv 0) pa_nil)) (pe_callO (ok_stretch_sum T) (hr.mono (by decide)) T.mg_stretch_sum T.fn_stretch_sum.kp (@pa_con _ _ _ _ _ rfl (pv 2) (@pa_con _ _ _ _ _ rfl (pe_fld (pv 3) rfl) (@pa_con _ _ _ _ _ rfl (pe_fld (pv 3) rfl) pa_nil))))) rfl (Or.inl rfl)) (@pss_cons _ _ _ _ _ (@ps_if _ _ _ _ _ _ _ _ (pt_cmpR op_le (pv 4) (pe_callO (ok_stretch_sum T) (hr.mono (by decide)) T.mg_stretch_sum T.fn_stretch_sum.kp (@pa_con _ _ _ _ _ rfl (pv 0) (@pa_con _ _ _ _ _ rfl (pe_fld (pv 1) rfl) (@pa_con _ _ _ _ _ rfl (pe_fld (pv 1) rfl) pa_nil)))) (nomark _)) (@pss_one _ _ _ (@ps_ret _ _ _ _ (pe_makeO T.mk_Around (ok_Around___init__ T) (hr.mono (by decide)) T.mg_Around (@pa_con _ _ _ _ _ rfl (pe_fld (pv 1) rfl) (@pa_con _ _ _ _ _ rfl (pe_fld (pv 1) rfl) (@pa_con _ _ _ _ _ rfl (pe_fld (pv 1) rfl) (@pa_con _ _ _ _ _ rfl (pe_fld (pv 3) rfl) pa_nil))))))) pss_nil) (@pss_cons _ _ _ _ _ (@ps_set _ _ 5 _ _ _ _ sc_around.nd rfl (Or.inl rfl) (@pe_op _ _ _ _ _ _ _ _ op_add (@pe_op _ _ _ _ _ _ _ _ op_add pe_int (pe_fld (pv 3) rfl)) (pe_fld (pv 3) rfl)) rfl (Or.inl rfl)) (@pss_one _ _ _ (@ps_ret _ _ _ _ (pe_makeO T.mk_Around (ok_Around___init__ T) (hr.mono (by decide)) T.mg_Around (@pa_con _ _ _ _ _ rfl (pv 5) (@pa_con _ _ _ _ _ rfl (@pe_op _ _ _ _ _ _ _ _ op_sub (pe_callB call_len_seq rfl T.b_len PySem.boot_len (@pa_con _ _ _ _ _ rfl (pv 0) pa_nil)) (pe_fld (pv 3) rfl)) (@pa_con _ _ _ _ _ rfl (pe_fld (pv 1) rfl) (@pa_con _ _ _ _ _ rfl (pe_fld (pv 3) rfl) pa_nil)))))))))))))))), ?_⟩
    refine ⟨_, rfl, _, _, rfl, hA, hok, ?_⟩
    refine ⟨_, rfl, _, _, rfl, .inl (SqL.of hA), rfl, _, rfl, iteQ (by rw [ints_len]; simp; intro e; rw [e] at h1; simp at h1) ?_⟩
    refine ⟨_, rfl, _, _, _, rfl, hA, by decide, by omega, by omega, fun f m ls hb x dx y H1 nx ny s1 hx hy => ?_⟩
    refine ⟨_, rfl, _, _, rfl, .inl (SqL.of (s1 _ _ hA)), _, _, rfl, rfl, _, rfl, ?_⟩
    refine ite2 (fun c => ?_) (fun c => ?_)
    · have c : ns.length < 3 := by rw [ints_len] at c; simp at c; omega
      refine ⟨_, rfl, x, _, dx, _, _, rfl, hx, T.cl_Best, T.no_Best_first, fl_Best_first _ _ _, _, rfl, x, _, dx, _, _, rfl, hx, T.cl_Best, T.no_Best_many, fl_Best_many _ _ _, _, rfl, x, _, dx, _, _, rfl, hx, T.cl_Best, T.no_Best_lows, fl_Best_lows _ _ _, (by show 0 ≤ sizeLine; decide), fun p hp => ?_⟩
      have s2 : Same H (upd H1 p (.lst [])) := s1.trans (Same.new hp)
      refine make_Around (us := []) (Same.new hp _ _ hy) upd_same fun x' dx' y' u' H2 nx' ny' nu' hne s3 hx' hy' hu' => ?_
      exact k _ _ _ _ (around_small hb c) x' dx' y' u' H2 (s2.free nx') (s2.free ny') (s2.free nu') hne (s2.trans s3) hx' hy' hu'
    · have c : 3 ≤ ns.length := by rw [ints_len] at c; simp at c; omega
      refine ⟨_, rfl, _, _, rfl, s1 _ _ hA, by omega, fun p H2 hp s2 h2 => ?_⟩
      refine ⟨_, rfl, _, _, _, rfl, h2, by decide, by rw [inner_length]; omega, by rw [inner_length]; omega, fun g n us hg x2 dx2 y2 H3 nx2 ny2 s3 hx2 hy2 => ?_⟩
      have b1 := hb.f0
      have b2 := hb.lm
      have b3 := hb.fm
      have g1 := hg.f0
      have g2 := hg.lm
      have g3 := hg.fm
      have s13 : Same H1 H3 := s2.trans s3
      have sH3 := s1.trans s13
      refine ⟨_, rfl, _, _, rfl, SqL.of (sH3 _ _ hA), _, rfl, _, rfl, x2, _, dx2, _, _, rfl, hx2, T.cl_Best, T.no_Best_first, fl_Best_first _ _ _, _, rfl, x2, _, dx2, _, _, rfl, hx2, T.cl_Best, T.no_Best_many, fl_Best_many _ _ _, _, _, _, _, rfl, s3 _ _ h2, g1, by omega, g3, fun H4 s4 => ?_⟩
      refine ⟨_, _, rfl, rfl, ?_⟩
      have s14 := s13.trans s4
      have sH4 := s1.trans s14
      have hx4 := s14 _ _ hx
      refine ⟨_, rfl, _, rfl, _, rfl, x, _, dx, _, _, rfl, hx4, T.cl_Best, T.no_Best_first, fl_Best_first _ _ _, _, rfl, x, _, dx, _, _, rfl, hx4, T.cl_Best, T.no_Best_many, fl_Best_many _ _ _, _, _, _, _, rfl, sH4 _ _ hA, b1, by omega, b3, fun H5 s5 => ?_⟩
      refine ⟨_, _, rfl, rfl, _, rfl, ?_⟩
      have s15 := s14.trans s5
      have sH5 := s1.trans s15
      have hx5 := s15 _ _ hx
      have hy5 := s15 _ _ hy
      have s35 := s4.trans s5
      have hx25 := s35 _ _ hx2
      have hy25 := s35 _ _ hy2
      refine ite2 (fun c4 => ?_) (fun c4 => ?_)
      · have c4 := of_decide_eq_true c4
        refine ⟨_, rfl, x, _, dx, _, _, rfl, hx5, T.cl_Best, T.no_Best_first, fl_Best_first _ _ _, _, rfl, x, _, dx, _, _, rfl, hx5, T.cl_Best, T.no_Best_many, fl_Best_many _ _ _, _, rfl, x, _, dx, _, _, rfl, hx5, T.cl_Best, T.no_Best_lows, fl_Best_lows _ _ _, _, rfl, x2, _, dx2, _, _, rfl, hx25, T.cl_Best, T.no_Best_lows, fl_Best_lows _ _ _, ?_⟩
        refine make_Around hy5 hy25 fun x' dx' y' u' H6 nx' ny' nu' hne s6 hx' hy' hu' => ?_
        exact k _ _ _ _ (around_in hb hg c4 c) x' dx' y' u' H6 (sH5.free nx') (sH5.free ny') (sH5.free nu') hne (sH5.trans s6) hx' hy' hu'
      · have c4 := of_decide_eq_false (Bool.eq_false_iff.mpr c4)
        refine ⟨_, rfl, x2, _, dx2, _, _, rfl, hx25, T.cl_Best, T.no_Best_first, fl_Best_first _ _ _, _, _, rfl, rfl, _, rfl, x2, _, dx2, _, _, rfl, hx25, T.cl_Best, T.no_Best_many, fl_Best_many _ _ _, _, _, rfl, rfl, ?_⟩
        refine ⟨_, rfl, _, rfl, _, _, rfl, .inl (SqL.of (sH5 _ _ hA)), _, rfl, x2, _, dx2, _, _, rfl, hx25, T.cl_Best, T.no_Best_many, fl_Best_many _ _ _, _, _, rfl, rfl, _, rfl, x, _, dx, _, _, rfl, hx5, T.cl_Best, T.no_Best_lows, fl_Best_lows _ _ _, _, rfl, x2, _, dx2, _, _, rfl, hx25, T.cl_Best, T.no_Best_lows, fl_Best_lows _ _ _, ?_⟩
        refine make_Around hy5 hy25 fun x' dx' y' u' H6 nx' ny' nu' hne s6 hx' hy' hu' => ?_
        refine k _ _ _ _ (around_out hb hg (by omega) c) x' dx' y' u' H6 (sH5.free nx') (sH5.free ny') (sH5.free nu') hne (sH5.trans s6) ?_ hy' hu'
        rw [ints_len] at hx'
        exact hx'
structure TriAt (H : Hp) (l : Addr) (as : List Addr) (ts : List Tri) : Prop where
  ls : H l = some (.lst (as.map V.ref))
  len : as.length = ts.length
  tp : ∀ (i : Nat) (a : Addr), as[i]? = some a → ∃ p : Tri, ts[i]? = some p ∧ H a = some (.tup [.int p.1, .int p.2.1, .int p.2.2])
theorem take_snoc {α : Type} {l : List α} {i : Nat} {x : α} (h : l[i]? = some x) : l.take (i + 1) = l.take i ++ [x] := by
  rw [List.take_add_one, h]
  rfl
noncomputable def isStr (n : Nat) (first many : Int) : Bool := decide (0 ≤ first) && (decide (1 ≤ many) && decide (first + many ≤ n))
theorem isStr_iff {n : Nat} {f m : Int} : isStr n f m = true ↔ 0 ≤ f ∧ 1 ≤ m ∧ f + m ≤ n := by
  unfold isStr
  simp
noncomputable def showsE (ns : List Int) (tot f m : Int) : Bool := isStr ns.length f m && decide (S ns (f + m).toNat - S ns f.toNat = tot)
noncomputable def sp_Exact___init__ (t : Adr) : Sp := fun vs H Q _ => ∃ x dx f m, vs = [.ref x, .int f, .int m] ∧ H x = some (.ins t.C_Exact dx []) ∧
  ∀ H', (∀ b o, b ≠ x → H b = some o → H' b = some o) → H' x = some (.ins t.C_Exact dx (fl_Exact (.int f) (.int m))) → Q .non H'
theorem ok_Exact___init__ (T : Txt K mg t) : OkFn P w K mg base 1 t.f_Exact___init__ ["self", "first", "many"] (sp_Exact___init__ t) := by
  refine okfn T.fn_Exact___init__ sc_Exact___init__ (fun vs H Q E h => ?_) (fun cdv A outer s H vs Q E hr h => ?_)
  · obtain ⟨x, dx, f, m, rfl, _⟩ := h
    rfl
  · obtain ⟨x, dx, f, m, rfl, hx, k⟩ := h
    refine ⟨_, (@pss_cons _ _ _ _ _ (ps_fld (pv 0) (pv 1) rfl) (@pss_one _ _ _ (ps_fld (pv 0) (pv 2) rfl))), ?_⟩
    refine ⟨_, rfl, _, rfl, x, _, _, _, rfl, hx, T.cl_Exact, T.no_Exact_first, (by show 0 < 1000; decide), ?_⟩
    refine ⟨_, rfl, _, rfl, x, _, _, _, rfl, upd_same, T.cl_Exact, T.no_Exact_many, (by show 1 < 1000; decide), ?_⟩
    refine k _ (fun b o hb e => ?_) ?_
    · rw [upd_ne hb, upd_ne hb]
      exact e
    · rw [upd_same]
      exact congrArg (fun l => some (HO.ins t.C_Exact dx l)) (fl_Exact_made (.int f) (.int m))
noncomputable def TellsExact (t : Adr) (H : Hp) (f m : Int) (Q : VK) : Prop := ∀ x dx H', H x = none → Same H H' → H' x = some (.ins t.C_Exact dx (fl_Exact (.int f) (.int m))) → Q (.ref x) H'
theorem make_Exact {t : Adr} {H : Hp} {f m : Int} {Q : VK} (k : TellsExact t H f m Q) : ∀ x dx, H x = none → H dx = none → dx ≠ x →
    sp_Exact___init__ t (.ref x :: ([.int f, .int m] ++ [])) (upd (upd H dx (.own x)) x (.ins t.C_Exact dx [])) (fun v H2 => v = .non ∧ Q (.ref x) H2) E0 := by
  intro x dx nx ndx nex
  have s0 : Same H (upd (upd H dx (.own x)) x (.ins t.C_Exact dx [])) := (Same.new ndx).step nx
  exact ⟨x, dx, f, m, rfl, upd_same, fun H' kp h1 => ⟨rfl, k x dx H' nx (fun b o e => kp b o (ne_of_none e nx) (s0 b o e)) h1⟩⟩
noncomputable def sp_Never___init__ (t : Adr) : Sp := fun vs H Q _ => ∃ x dx a, ∃ as : List Addr, vs = [.ref x, .ref a] ∧ H x = some (.ins t.C_Never dx []) ∧ H a = some (.lst (as.map V.ref)) ∧
  ∀ l H', H l = none → (∀ b o, b ≠ x → H b = some o → H' b = some o) → H' x = some (.ins t.C_Never dx (fl_Never (.ref l))) → H' l = some (.lst (as.map V.ref)) → Q .non H'
theorem ok_Never___init__ (T : Txt K mg t) : OkFn P w K mg base 1 t.f_Never___init__ ["self", "table"] (sp_Never___init__ t) := by
  refine okfn T.fn_Never___init__ sc_Never___init__ (fun vs H Q E h => ?_) (fun cdv A outer s H vs Q E hr h => ?_)
  · obtain ⟨x, dx, a, as, rfl, _⟩ := h
    rfl
  · obtain ⟨x, dx, a, as, rfl, hx, hA, k⟩ := h
    refine ⟨_, (@pss_one _ _ _ (ps_fld (pv 0) (pe_callTy call_list_of rfl T.b_list boot_list (@pa_con _ _ _ _ _ rfl (pv 1) pa_nil)) rfl)), ?_⟩
    refine ⟨_, rfl, _, _, rfl, .inl (SqL.of hA), fun l hl => ?_⟩
    have hlx : x ≠ l := ne_of_none hx hl
    refine ⟨_, rfl, x, _, _, _, rfl, (by rw [upd_ne hlx]; exact hx), T.cl_Never, T.no_Never_table, (by show 0 < 1000; decide), ?_⟩
    refine k l _ hl (fun b o hb e => ?_) ?_ ?_
    · rw [upd_ne hb, upd_ne (ne_of_none e hl)]
      exact e
    · rw [upd_same]
      exact congrArg (fun l => some (HO.ins t.C_Never dx l)) (fl_Never_made (.ref l))
    · rw [upd_ne hlx.symm, upd_same]
noncomputable def TellsNever (t : Adr) (H : Hp) (as : List Addr) (Q : VK) : Prop := ∀ x dx l H', H x = none → H l = none → Same H H' → H' x = some (.ins t.C_Never dx (fl_Never (.ref l))) → H' l = some (.lst (as.map V.ref)) → Q (.ref x) H'
theorem make_Never {t : Adr} {H : Hp} {a : Addr} {as : List Addr} {Q : VK} (hA : H a = some (.lst (as.map V.ref))) (k : TellsNever t H as Q) : ∀ x dx, H x = none → H dx = none → dx ≠ x →
    sp_Never___init__ t (.ref x :: ([.ref a] ++ [])) (upd (upd H dx (.own x)) x (.ins t.C_Never dx [])) (fun v H2 => v = .non ∧ Q (.ref x) H2) E0 := by
  intro x dx nx ndx nex
  have s0 : Same H (upd (upd H dx (.own x)) x (.ins t.C_Never dx [])) := (Same.new ndx).step nx
  exact ⟨x, dx, a, as, rfl, upd_same, s0 _ _ hA, fun l H' hl kp h1 h2 => ⟨rfl, k x dx l H' nx (s0.free hl) (fun b o e => kp b o (ne_of_none e nx) (s0 b o e)) h1 h2⟩⟩
noncomputable def sp_check_total (K : PySem.W.Frag) : Sp := fun vs H Q _ => ∃ z, vs = [.int z] ∧ Q .non H
theorem ok_check_total (T : Txt K mg t) : OkFn P w K mg base 2 t.f_check_total ["total"] (sp_check_total K) := by
  refine okfn T.fn_check_total sc_check_total (fun vs H Q E h => ?_) (fun cdv A outer s H vs Q E hr h => ?_)
  · obtain ⟨z, rfl, _⟩ := h
    rfl
  · obtain ⟨z, rfl, k⟩ := h
    refine ⟨_, (@pss_one _ _ _ (@ps_if _ _ _ _ _ _ _ _ (pt_not (pt_val (pe_callO (ok_is_whole T) (hr.mono (by decide)) T.mg_is_whole T.fn_is_whole.kp (@pa_con _ _ _ _ _ rfl (pv 0) pa_nil)))) (@pss_one _ _ _ ps_never) pss_nil)), ?_⟩
    refine ⟨_, rfl, _, _, _, _, rfl, .int z, kit_ii, kit_ib, _, rfl, ?_⟩
    exact iteF k
theorem snoc_get {L : List Int} {y : Int} {j : Nat} {z : Int} : (L ++ [y])[j]? = some z ↔ L[j]? = some z ∨ (j = L.length ∧ z = y) := by
  by_cases h : j < L.length
  · rw [List.getElem?_append_left h]
    exact ⟨.inl, fun e => e.elim id fun q => absurd q.1 (by omega)⟩
  · rw [List.getElem?_append_right (by omega)]
    by_cases e : j = L.length
    · subst e
      rw [Nat.sub_self]
      constructor
      · intro q
        exact .inr ⟨rfl, (Option.some.inj q).symm⟩
      · rintro (q | ⟨_, rfl⟩)
        · rw [List.getElem?_eq_none (Nat.le_refl _)] at q
          cases q
        · rfl
    · rw [List.getElem?_eq_none (by simp; omega)]
      constructor
      · intro q
        cases q
      · rintro (q | ⟨q, _⟩)
        · rw [List.getElem?_eq_none (by omega)] at q
          cases q
        · exact absurd q e
theorem get_lt {L : List Int} {j : Nat} {z : Int} (h : L[j]? = some z) : j < L.length := (List.getElem?_eq_some_iff.mp h).1
noncomputable def FirstD (kvs : List (Key × V)) (L : List Int) : Prop := ∀ z : Int, (z ∉ L ∧ valV kvs (Sum.inl z : Key) = none) ∨ ∃ j : Nat, valV kvs (Sum.inl z : Key) = some (.int j) ∧ L[j]? = some z ∧ ∀ j' : Nat, L[j']? = some z → j ≤ j'
noncomputable def LastD (kvs : List (Key × V)) (L : List Int) : Prop := ∀ z : Int, (z ∉ L ∧ valV kvs (Sum.inl z : Key) = none) ∨ ∃ j : Nat, valV kvs (Sum.inl z : Key) = some (.int j) ∧ L[j]? = some z ∧ ∀ j' : Nat, L[j']? = some z → j' ≤ j
theorem FirstD.keep {kvs : List (Key × V)} {L : List Int} {y : Int} (h : FirstD kvs L) (hy : y ∈ L) : FirstD kvs (L ++ [y]) := by
  intro z
  rcases h z with ⟨a, b⟩ | ⟨j, a, b, c⟩
  · refine .inl ⟨fun m => ?_, b⟩
    rcases List.mem_append.mp m with m | m
    · exact a m
    · rw [List.mem_singleton.mp m] at a
      exact a hy
  · refine .inr ⟨j, a, snoc_get.mpr (.inl b), fun j' hj' => ?_⟩
    rcases snoc_get.mp hj' with q | ⟨q, _⟩
    · exact c j' q
    · have := get_lt b
      omega
theorem FirstD.put {kvs : List (Key × V)} {L : List Int} {y : Int} {v : V} (h : FirstD kvs L) (hy : y ∉ L) (hv : v = .int (L.length : Int)) : FirstD (putK kvs (Sum.inl y : Key) v) (L ++ [y]) := by
  subst hv
  intro z
  rw [valV_put]
  by_cases e : z = y
  · subst e
    rw [if_pos rfl]
    refine .inr ⟨L.length, rfl, snoc_get.mpr (.inr ⟨rfl, rfl⟩), fun j' hj' => ?_⟩
    rcases snoc_get.mp hj' with q | ⟨q, _⟩
    · exact absurd (List.mem_of_getElem? q) hy
    · omega
  · rw [if_neg fun q => e (Sum.inl.inj q)]
    rcases h z with ⟨a, b⟩ | ⟨j, a, b, c⟩
    · refine .inl ⟨fun m => ?_, b⟩
      rcases List.mem_append.mp m with m | m
      · exact a m
      · exact e (List.mem_singleton.mp m)
    · refine .inr ⟨j, a, snoc_get.mpr (.inl b), fun j' hj' => ?_⟩
      rcases snoc_get.mp hj' with q | ⟨_, q⟩
      · exact c j' q
      · exact absurd q e
theorem LastD.put {kvs : List (Key × V)} {L : List Int} {y : Int} {v : V} (h : LastD kvs L) (hv : v = .int (L.length : Int)) : LastD (putK kvs (Sum.inl y : Key) v) (L ++ [y]) := by
  subst hv
  intro z
  rw [valV_put]
  by_cases e : z = y
  · subst e
    rw [if_pos rfl]
    refine .inr ⟨L.length, rfl, snoc_get.mpr (.inr ⟨rfl, rfl⟩), fun j' hj' => ?_⟩
    have := get_lt hj'
    rw [List.length_append, List.length_singleton] at this
    omega
  · rw [if_neg fun q => e (Sum.inl.inj q)]
    rcases h z with ⟨a, b⟩ | ⟨j, a, b, c⟩
    · refine .inl ⟨fun m => ?_, b⟩
      rcases List.mem_append.mp m with m | m
      · exact a m
      · exact e (List.mem_singleton.mp m)
    · refine .inr ⟨j, a, snoc_get.mpr (.inl b), fun j' hj' => ?_⟩
      rcases snoc_get.mp hj' with q | ⟨_, q⟩
      · exact c j' q
      · exact absurd q e
noncomputable def gotI (kvs : List (Key × V)) (z : Int) : Int := match valV kvs (Sum.inl z : Key) with
  | some (.int j) => j
  | _ => 0
theorem gotI_of {kvs : List (Key × V)} {z j : Int} (h : valV kvs (Sum.inl z : Key) = some (.int j)) : gotI kvs z = j := by
  unfold gotI
  rw [h]
theorem sums_mem {ns : List Int} {i : Nat} (h : i ≤ ns.length) : S ns i ∈ sumsZ ns := List.mem_of_getElem? (sumsZ_get h)
theorem never_made {ns : List Int} {tot : Int} {kvs1 kvs2 : List (Key × V)} {ds zs : List Int} (h1 : FirstD kvs1 (sumsZ ns)) (h2 : LastD kvs2 (sumsZ ns)) (hk : kvs1.map (·.1) = ds.map Sum.inl) (hp : zs.Perm ds) (hs : zs.Pairwise (· < ·))
    (no : ∀ i j : Nat, i < j → j ≤ ns.length → S ns j - S ns i ≠ tot) : never (zs.map fun z => (z, gotI kvs1 z, gotI kvs2 z)) ns tot = true ∧ ∀ z ∈ zs, valV kvs1 (Sum.inl z : Key) = some (.int (gotI kvs1 z)) ∧ valV kvs2 (Sum.inl z : Key) = some (.int (gotI kvs2 z)) := by
  have at_ : ∀ {j : Nat} {z : Int}, (sumsZ ns)[j]? = some z → j ≤ ns.length ∧ S ns j = z := fun {j z} e => by
    have hl := get_lt e
    rw [sumsZ_length] at hl
    rw [sumsZ_get (by omega)] at e
    exact ⟨by omega, Option.some.inj e⟩
  have mem : ∀ z, z ∈ zs → z ∈ sumsZ ns := fun z hz => by
    have m : (Sum.inl z : Key) ∈ kvs1.map (·.1) := by
      rw [hk]
      exact List.mem_map.mpr ⟨z, hp.mem_iff.mp hz, rfl⟩
    rcases h1 z with ⟨_, b⟩ | ⟨j, _, b, _⟩
    · exact absurd m (valV_not b)
    · exact List.mem_of_getElem? b
  have f1 : ∀ z, z ∈ sumsZ ns → ∃ j : Nat, valV kvs1 (Sum.inl z : Key) = some (.int j) ∧ (sumsZ ns)[j]? = some z ∧ ∀ j' : Nat, (sumsZ ns)[j']? = some z → j ≤ j' := fun z hz => (h1 z).resolve_left fun q => q.1 hz
  have f2 : ∀ z, z ∈ sumsZ ns → ∃ j : Nat, valV kvs2 (Sum.inl z : Key) = some (.int j) ∧ (sumsZ ns)[j]? = some z ∧ ∀ j' : Nat, (sumsZ ns)[j']? = some z → j' ≤ j := fun z hz => (h2 z).resolve_left fun q => q.1 hz
  refine ⟨never_of hs (fun i hi => ?_) (fun i hi => ?_) (fun i hi => ?_) (fun z hz => ?_) (fun z hz => ?_) no, fun z hz => ?_⟩
  · obtain ⟨j, a, _, _⟩ := f1 _ (sums_mem hi)
    have m := valV_in a
    rw [hk] at m
    obtain ⟨y, hy, e⟩ := List.mem_map.mp m
    have e : y = S ns i := Sum.inl.inj e
    subst e
    exact hp.mem_iff.mpr hy
  · obtain ⟨j, a, _, c⟩ := f1 _ (sums_mem hi)
    rw [gotI_of a]
    exact Int.ofNat_le.mpr (c i (sumsZ_get hi))
  · obtain ⟨j, a, _, c⟩ := f2 _ (sums_mem hi)
    rw [gotI_of a]
    exact Int.ofNat_le.mpr (c i (sumsZ_get hi))
  · obtain ⟨j, a, b, c⟩ := f1 _ (mem z hz)
    obtain ⟨q1, q2⟩ := at_ b
    exact ⟨j, q1, gotI_of a, q2⟩
  · obtain ⟨j, a, b, c⟩ := f2 _ (mem z hz)
    obtain ⟨q1, q2⟩ := at_ b
    exact ⟨j, q1, gotI_of a, q2⟩
  · obtain ⟨j, a, _, _⟩ := f1 _ (mem z hz)
    obtain ⟨j', a', _, _⟩ := f2 _ (mem z hz)
    exact ⟨by rw [gotI_of a]; exact a, by rw [gotI_of a']; exact a'⟩
noncomputable def AnsAt (t : Adr) (H0 H : Hp) (x : Addr) (ns : List Int) (tot : Int) (e : Bool) : Prop :=
  (e = true ∧ ∃ dx f m, H x = some (.ins t.C_Exact dx (fl_Exact (.int f) (.int m))) ∧ showsE ns tot f m = true) ∨
  (e = false ∧ ∃ dx l as ts, H x = some (.ins t.C_Never dx (fl_Never (.ref l))) ∧ H0 l = none ∧ TriAt H l as ts ∧ never ts ns tot = true ∧ ts.length ≤ 64)
noncomputable def sp_exact (t : Adr) : Sp := fun vs H Q _ => ∃ a ns tot, vs = [.ref a, .int tot] ∧ H a = some (.lst (iL ns)) ∧ OkRow ns ∧ ns.length ≤ 63 ∧ ∀ x H' e, H x = none → Same H H' → AnsAt t H H' x ns tot e → Q (.ref x) H'
theorem ok_exact (T : Txt K mg t) : OkFn P w K mg base 3 t.f_exact ["row", "total"] (sp_exact t) := by
  refine okfn T.fn_exact sc_exact (fun vs H Q E h => ?_) (fun cdv A outer s H vs Q E hr h => ?_)
  · obtain ⟨a, ns, tot, rfl, _⟩ := h
    rfl
  · obtain ⟨a, ns, tot, rfl, hA, hok, hlen, k⟩ := h
    have hu := hu_of hr
    refine ⟨_, (@pss_cons _ _ _ _ _ (@ps_expr _ _ _ _ (pe_callO (ok_check_row T) (hr.mono (by decide)) T.mg_check_row T.fn_check_row.kp (@pa_con _ _ _ _ _ rfl (pv 0) pa_nil)) rfl) (@pss_cons _ _ _ _ _ (@ps_expr _ _ _ _ (pe_callO (ok_check_total T) (hr.mono (by decide)) T.mg_check_total T.fn_check_total.kp (@pa_con _ _ _ _ _ rfl (pv 1) pa_nil)) rfl) (@pss_cons _ _ _ _ _ (@ps_set _ _ 2 _ _ _ _ sc_exact.nd rfl (Or.inr rfl) pe_dnewK rfl (Or.inl rfl)) (@pss_cons _ _ _ _ _ (@ps_set _ _ 3 _ _ _ _ sc_exact.nd rfl (Or.inr rfl) pe_dnewK rfl (Or.inl rfl)) (@pss_cons _ _ _ _ _ (ps_for PassesOwn.never rfl (pi_enum rfl T.b_enumerate (@pa_con _ _ _ _ _ rfl (pe_callO (ok_running_sums T) (hr.mono (by decide)) T.mg_running_sums T.fn_running_sums.kp (@pa_con _ _ _ _ _ rfl (pv 0) pa_nil)) pa_nil)) (pg_tup rfl (pgs_cons (pg_name (i := 4) sc_exact.nd rfl (Or.inl rfl)) (pgs_cons (pg_name (i := 5) sc_exact.nd rfl (Or.inl rfl)) pgs_nil))) (@pss_cons _ _ _ _ _ (@ps_if _ _ _ _ _ _ _ _ (pt_cmp (pc_din hu (@pe_op _ _ _ _ _ _ _ _ op_sub (pv 5) (pv 1)) (pv 2))) (@pss_cons _ _ _ _ _ (@ps_set _ _ 6 _ _ _ _ sc_exact.nd rfl (Or.inl rfl) (pe_dget hu (pv 2) (@pe_op _ _ _ _ _ _ _ _ op_sub (pv 5) (pv 1)) (fun _ _ => rfl)) rfl (Or.inl rfl)) (@pss_one _ _ _ (@ps_ret _ _ _ _ (pe_makeO T.mk_Exact (ok_Exact___init__ T) (hr.mono (by decide)) T.mg_Exact (@pa_con _ _ _ _ _ rfl (pv 6) (@pa_con _ _ _ _ _ rfl (@pe_op _ _ _ _ _ _ _ _ op_sub (pv 4) (pv 6)) pa_nil)))))) pss_nil) (@pss_cons _ _ _ _ _ (@ps_expr _ _ _ _ (pe_dset (pv 2) (pv 5) (pv 4) ⟨rfl, rfl, rfl, rfl⟩) rfl) (@pss_one _ _ _ (ps_dput hu (pv 3) (pv 5) (pv 4) rfl))))) (@pss_one _ _ _ (@ps_ret _ _ _ _ (pe_makeO T.mk_Never (ok_Never___init__ T) (hr.mono (by decide)) T.mg_Never (@pa_con _ _ _ _ _ rfl (pe_comp (N := ["number", "firsts", "lasts"]) (js := [none, some 2, some 3]) rfl ⟨rfl, rfl, rfl, rfl, rfl, rfl⟩ (pi_list (pe_callB (call_sortD rfl) rfl T.b_sorted boot_sorted (@pa_con _ _ _ _ _ rfl (pv 2) pa_nil))) (fun _ _ _ _ _ => (pg_name (i := 0) (show (["number", "firsts", "lasts"] : List Str).Nodup from by decide +kernel) rfl (Or.inl rfl))) (fun _ _ _ _ _ => pts_nil) (fun _ _ _ _ _ => (@pe_tup _ _ _ _ _ (@pa_con _ _ _ _ _ rfl (pv 0) (@pa_con _ _ _ _ _ rfl (pe_dget hu (pv 1) (pv 0) (fun _ _ => rfl)) (@pa_con _ _ _ _ _ rfl (pe_dget hu (pv 2) (pv 0) (fun _ _ => rfl)) pa_nil)))))) pa_nil))))))))), ?_⟩
    refine ⟨_, rfl, _, _, rfl, hA, hok, ?_⟩
    refine ⟨_, rfl, _, rfl, ?_⟩
    intro d1 hd1 d2 hd2
    have hd12 : d1 ≠ d2 := ne_of_none upd_same hd2
    have hd2H : H d2 = none := (Same.new hd1).free hd2
    have s0 : Same H (upd (upd H d1 (.dK [])) d2 (.dK [])) := (Same.new hd1).step hd2H
    refine ⟨_, rfl, _, _, rfl, s0 _ _ hA, by omega, fun p H1 hp s1 h1 => ?_⟩
    have s1' : Same H H1 := s0.trans s1
    have hpd1 : p ≠ d1 := fun e => by
      subst e
      rw [upd_ne hd12, upd_same] at hp
      cases hp
    have hpd2 : p ≠ d2 := fun e => by
      subst e
      rw [upd_same] at hp
      cases hp
    have hls := sumsZ_length ns
    refine ⟨p, rfl, ⟨_, SqL.of h1⟩, for_enum (K := K) (a := p) (xs := iL (sumsZ ns)) (fun i σ H2 => ∃ v1 v2 v3 kvs1 kvs2 ds, σ = [some (.ref a), some (.int tot), some (.ref d1), some (.ref d2), v1, v2, v3] ∧ Same H H2 ∧ H2 p = some (.lst (iL (sumsZ ns))) ∧ H2 d1 = some (.dK kvs1) ∧ H2 d2 = some (.dK kvs2) ∧
        FirstD kvs1 ((sumsZ ns).take i) ∧ LastD kvs2 ((sumsZ ns).take i) ∧ kvs1.map (·.1) = ds.map Sum.inl ∧ ds.length ≤ i ∧ kvs2.length ≤ i ∧ ∀ j' j : Nat, j' < j → j < i → S ns j - S ns j' ≠ tot)
      ⟨none, none, none, [], [], [], rfl, s1', h1, s1 _ _ (by rw [upd_ne hd12]; exact upd_same), s1 _ _ upd_same, fun z => .inl ⟨by simp, rfl⟩, fun z => .inl ⟨by simp, rfl⟩, rfl, Nat.le_refl _, Nat.le_refl _, fun j' j _ h => absurd h (Nat.not_lt_zero _)⟩
      (fun i σ H2 _ ⟨_, _, _, _, _, _, _, _, h2, _⟩ => SqL.of h2) ?_ ?_⟩
    · rintro i x σ H2 T0 hi ⟨v1, v2, v3, kvs1, kvs2, ds, rfl, s2, h2, hk1, hk2, f1, f2, hks, hdl, hkl, no⟩ hT0
      obtain ⟨y, rfl, hy⟩ := ints_get hi
      have hil : i < (sumsZ ns).length := get_lt hy
      have hLl : ((sumsZ ns).take i).length = i := by rw [List.length_take]; omega
      have eS : S ns i = y := by
        rw [sumsZ_get (by omega)] at hy
        exact Option.some.inj hy
      have atL : ∀ {j : Nat} {z : Int}, ((sumsZ ns).take i)[j]? = some z → j < i ∧ S ns j = z := fun {j z} e => by
        have q := get_lt e
        rw [hLl] at q
        rw [List.getElem?_take_of_lt q, sumsZ_get (by omega)] at e
        exact ⟨q, Option.some.inj e⟩
      have s3 : Same H2 (upd H2 T0 (.tup [.int i, .int y])) := Same.new hT0
      have hk13 := s3 _ _ hk1
      refine ⟨T0, _, rfl, SqT.of upd_same, rfl, _, _, rfl, _, _, rfl, rfl, ?_⟩
      refine ⟨_, rfl, _, rfl, _, _, rfl, rfl, _, rfl, _, _, rfl, DGet.k (k := Sum.inl (y - tot)) hk13, _, rfl, ?_⟩
      rcases f1 (y - tot) with ⟨e1, e2⟩ | ⟨j, e1, e2, e3⟩
      · rw [e2]
        refine iteF ?_
        have no2 : ∀ j' j : Nat, j' < j → j < i + 1 → S ns j - S ns j' ≠ tot := fun j' j h1 h2 => by
          by_cases c : j < i
          · exact no j' j h1 c
          · have e : j = i := by omega
            subst e
            intro q
            refine e1 (List.mem_of_getElem? (i := j') ?_)
            rw [List.getElem?_take_of_lt h1, sumsZ_get (by omega)]
            exact congrArg some (by omega)
        have et := take_snoc hy
        have hk1l : kvs1.length = ds.length := by
          have e := congrArg List.length hks
          rw [List.length_map, List.length_map] at e
          exact e
        have hT1 : T0 ≠ d1 := fun e => by rw [e, hk1] at hT0; cases hT0
        have hT2 : T0 ≠ d2 := fun e => by rw [e, hk2] at hT0; cases hT0
        have sH : Same H (upd H2 T0 (.tup [.int i, .int y])) := s2.trans s3
        refine ⟨_, rfl, d1, rfl, .inl ⟨_, .inl hk13⟩, _, rfl, _, rfl, kvs1, Sum.inl y, hk13, rfl, small1000 (by omega), fun v hv => ?_, fun hv => ?_⟩
        · have hyL : y ∈ (sumsZ ns).take i := by
            rcases f1 y with ⟨_, b⟩ | ⟨j, _, b, _⟩
            · rw [b] at hv
              cases hv
            · exact List.mem_of_getElem? b
          refine ⟨_, rfl, ?_⟩
          refine ⟨_, rfl, _, rfl, _, _, rfl, DPut.k (k := Sum.inl y) (s3 _ _ hk2) (small1000 (by omega)), ?_⟩
          refine ⟨_, _, _, kvs1, _, ds, rfl, sH.step hd2H, by rw [upd_ne hpd2]; exact s3 _ _ h2, by rw [upd_ne hd12]; exact hk13, upd_same, by rw [et]; exact f1.keep hyL, by rw [et]; exact f2.put (by rw [hLl]), hks, by omega, Nat.le_trans (length_putK _ _ _) (by omega), no2⟩
        · have hyL : y ∉ (sumsZ ns).take i := by
            rcases f1 y with ⟨a, _⟩ | ⟨j, b, _, _⟩
            · exact a
            · rw [b] at hv
              cases hv
          have hk2' : upd (upd H2 T0 (.tup [.int i, .int y])) d1 (.dK (putK kvs1 (Sum.inl y) (.int i))) d2 = some (.dK kvs2) := by rw [upd_ne hd12.symm]; exact s3 _ _ hk2
          refine ⟨_, rfl, ?_⟩
          refine ⟨_, rfl, _, rfl, _, _, rfl, DPut.k (k := Sum.inl y) hk2' (small1000 (by omega)), ?_⟩
          refine ⟨_, _, _, _, _, ds ++ [y], rfl, (sH.step hd1).step hd2H, by rw [upd_ne hpd2, upd_ne hpd1]; exact s3 _ _ h2, by rw [upd_ne hd12]; exact upd_same, upd_same, by rw [et]; exact f1.put hyL (by rw [hLl]), by rw [et]; exact f2.put (by rw [hLl]), ?_, by rw [List.length_append, List.length_singleton]; omega, Nat.le_trans (length_putK _ _ _) (by omega), no2⟩
          rw [putK_new _ hv, List.map_append, List.map_append, hks]
          rfl
      · rw [e1]
        refine iteT ?_
        obtain ⟨hji, eSj⟩ := atL e2
        have hg : DGet (upd H2 T0 (.tup [.int i, .int y])) d1 (.int (y - tot)) (some (.int (j : Int))) := by
          have := DGet.k (k := Sum.inl (y - tot)) hk13
          rw [e1] at this
          exact this
        refine ⟨_, rfl, _, rfl, _, rfl, _, _, rfl, rfl, _, _, rfl, hg, ?_⟩
        refine ⟨_, rfl, _, rfl, _, rfl, _, _, rfl, rfl, ?_⟩
        refine make_Exact fun x dx H' nx sx hx => ?_
        refine k x H' true ((s2.trans s3).free nx) ((s2.trans s3).trans sx) (.inl ⟨rfl, dx, j, i - j, hx, ?_⟩)
        unfold showsE
        rw [isStr_iff.mpr ⟨by omega, by omega, by omega⟩, show ((j : Int) + ((i : Int) - (j : Int))).toNat = i by omega, show ((j : Int)).toNat = j by omega]
        show decide (S ns i - S ns j = tot) = true
        exact decide_eq_true (by omega)
    · rintro σ H2 ⟨v1, v2, v3, kvs1, kvs2, ds, rfl, s2, h2, hk1, hk2, f1, f2, hks, hdl, hkl, no⟩
      rw [ints_len] at f1 f2 hdl no
      rw [List.take_length] at f1 f2
      rw [hls] at hdl no
      refine ⟨_, rfl, d1, kvs1, ds, rfl, hk1, hks, by omega, fun l zs hl hperm hpw => ?_⟩
      have s3 : Same H2 (upd H2 l (.lst (iL zs))) := Same.new hl
      obtain ⟨hnev, hgot⟩ := never_made (tot := tot) f1 f2 hks hperm hpw fun i j h1 h2 => no i j h1 (by omega)
      have hzl : zs.length ≤ 64 := by rw [hperm.length_eq]; omega
      refine ⟨l, rfl, ⟨_, SqL.of upd_same⟩, fun D hD => ?_⟩
      refine comp_list (K := K) (a := l) (xs := iL zs) (fun i ys σ' H' => ∃ v as, σ' = [v, some (.ref d1), some (.ref d2)] ∧ Same (upd H2 l (.lst (iL zs))) H' ∧ ys = as.map V.ref ∧ H' D = some (.lst ys) ∧ as.length = i ∧
          ∀ (j : Nat) (b : Addr), as[j]? = some b → H' b = some (.tup [.int (zs.getD j 0), .int (gotI kvs1 (zs.getD j 0)), .int (gotI kvs2 (zs.getD j 0))]))
        ⟨none, [], rfl, Same.new hD, rfl, upd_same, rfl, fun j b e => by simp at e⟩ (fun i ys σ' H' ⟨_, _, _, s', _⟩ => SqL.of (s' _ _ upd_same)) ?_ ?_
      · rintro i ys σ' H' x hi hx ⟨v, as, rfl, s', rfl, hD', hal, htp⟩
        obtain ⟨z, rfl, hz⟩ := ints_get hx
        obtain ⟨g1, g2⟩ := hgot z (List.mem_of_getElem? hz)
        have hg1 : DGet H' d1 (.int z) (some (.int (gotI kvs1 z))) := by
          have := DGet.k (k := Sum.inl z) (s' _ _ (s3 _ _ hk1))
          rw [g1] at this
          exact this
        have hg2 : DGet H' d2 (.int z) (some (.int (gotI kvs2 z))) := by
          have := DGet.k (k := Sum.inl z) (s' _ _ (s3 _ _ hk2))
          rw [g2] at this
          exact this
        refine ⟨_, rfl, _, rfl, _, rfl, _, _, rfl, hg1, _, rfl, _, rfl, _, _, rfl, hg2, (by show 3 ≤ sizeLine; decide), fun q hq => ?_⟩
        have hqD : D ≠ q := ne_of_none hD' hq
        have hil : i < zs.length := get_lt hz
        refine nextC hi (by rw [upd_ne hqD]; exact hD') (small1000 (by rw [List.length_map]; omega)) ⟨_, as ++ [q], rfl, (s'.trans (Same.new hq)).step hD, by rw [List.map_append]; rfl, upd_same, by rw [List.length_append, List.length_singleton, hal], fun j b e => ?_⟩
        by_cases c : j < as.length
        · rw [List.getElem?_append_left c] at e
          have hb := htp j b e
          rw [upd_ne (ne_of hb hD' (by intro z; cases z)), upd_ne (ne_of_none hb hq)]
          exact hb
        · rw [List.getElem?_append_right (by omega)] at e
          have c2 : j = as.length := by
            rcases Nat.lt_or_ge as.length j with h | h
            · rw [List.getElem?_eq_none (by simp; omega)] at e
              cases e
            · omega
          subst c2
          rw [Nat.sub_self] at e
          have e : q = b := Option.some.inj e
          subst e
          rw [upd_ne hqD.symm, upd_same, hal, getD_of hz]
      · rintro ys σ' H' ⟨v, as, rfl, s', rfl, hD', hal, htp⟩
        rw [ints_len] at hal
        refine make_Never hD' fun x dx l' H'' nx nl sx hx hl' => ?_
        have sHH : Same H H' := (s2.trans s3).trans s'
        refine k x H'' false (sHH.free nx) (sHH.trans sx) (.inr ⟨rfl, dx, l', as, _, hx, sHH.free nl, ⟨hl', by rw [List.length_map]; exact hal, fun i b e => ?_⟩, hnev, by rw [List.length_map]; exact hzl⟩)
        have hi : i < zs.length := by
          have := (List.getElem?_eq_some_iff.mp e).1
          omega
        refine ⟨(zs.getD i 0, gotI kvs1 (zs.getD i 0), gotI kvs2 (zs.getD i 0)), ?_, sx _ _ (htp i b e)⟩
        rw [List.getElem?_map, get_D hi]
        rfl
noncomputable def Counts (kvs : List (Key × V)) (L : List Int) : Prop := ∀ z : Int, (valV kvs (Sum.inl z : Key)).getD (.int 0) = .int (L.count z : Int)
theorem Counts.put {kvs : List (Key × V)} {L L' : List Int} {y : Int} (h : Counts kvs L) (e : ∀ z, L'.count z = L.count z + if z = y then 1 else 0) : Counts (putK kvs (Sum.inl y : Key) (.int ((L.count y : Int) + 1))) L' := by
  intro z
  rw [valV_put, e z]
  by_cases c : z = y
  · subst c
    rw [if_pos rfl, if_pos rfl]
    simp
  · rw [if_neg (by intro q; exact c (Sum.inl.inj q)), if_neg c, h z]
    simp
theorem count_snoc (L : List Int) (y z : Int) : (L ++ [y]).count z = L.count z + if z = y then 1 else 0 := by
  rw [List.count_append]
  congr 1
  by_cases c : z = y
  · subst c; simp
  · rw [if_neg c, List.count_eq_zero]
    simpa using c
theorem count_less (L : List Int) (y t : Int) : L.countP (fun x => decide (y - x = t)) = L.count (y - t) := by
  rw [List.count]
  apply List.countP_congr
  intro x _
  simp
  omega
noncomputable def sp_how_many (K : PySem.W.Frag) : Sp := fun vs H Q _ => ∃ a ns z, vs = [.ref a, .int z] ∧ H a = some (.lst (iL ns)) ∧ OkRow ns ∧ ns.length ≤ 500 ∧ Tells H (.int (many ns z)) Q
theorem ok_how_many (T : Txt K mg t) : OkFn P w K mg base 3 t.f_how_many ["row", "total"] (sp_how_many K) := by
  refine okfn T.fn_how_many sc_how_many (fun vs H Q E h => ?_) (fun cdv A outer s H vs Q E hr h => ?_)
  · obtain ⟨a, ns, z, rfl, _⟩ := h
    rfl
  · obtain ⟨a, ns, z, rfl, hA, hok, hlen, k⟩ := h
    have hu := hu_of hr
    refine ⟨_, (@pss_cons _ _ _ _ _ (@ps_expr _ _ _ _ (pe_callO (ok_check_row T) (hr.mono (by decide)) T.mg_check_row T.fn_check_row.kp (@pa_con _ _ _ _ _ rfl (pv 0) pa_nil)) rfl) (@pss_cons _ _ _ _ _ (@ps_expr _ _ _ _ (pe_callO (ok_check_total T) (hr.mono (by decide)) T.mg_check_total T.fn_check_total.kp (@pa_con _ _ _ _ _ rfl (pv 1) pa_nil)) rfl) (@pss_cons _ _ _ _ _ (@ps_set _ _ 2 _ _ _ _ sc_how_many.nd rfl (Or.inl rfl) pe_dnewK rfl (Or.inl rfl)) (@pss_cons _ _ _ _ _ (@ps_set _ _ 3 _ _ _ _ sc_how_many.nd rfl (Or.inl rfl) pe_int rfl (Or.inl rfl)) (@pss_cons _ _ _ _ _ (ps_for PassesOwn.never rfl (pi_list (pe_callO (ok_running_sums T) (hr.mono (by decide)) T.mg_running_sums T.fn_running_sums.kp (@pa_con _ _ _ _ _ rfl (pv 0) pa_nil))) (pg_name (i := 4) sc_how_many.nd rfl (Or.inl rfl)) (@pss_cons _ _ _ _ _ (@ps_set _ _ 3 _ _ _ _ sc_how_many.nd rfl (Or.inl rfl) (@pe_op _ _ _ _ _ _ _ _ op_add (pv 3) (pe_dget2 hu (pv 2) (@pe_op _ _ _ _ _ _ _ _ op_sub (pv 4) (pv 1)) pe_int ⟨rfl, rfl, rfl, rfl⟩)) rfl (Or.inl rfl)) (@pss_one _ _ _ (ps_dput hu (pv 2) (pv 4) (@pe_op _ _ _ _ _ _ _ _ op_add (pe_dget2 hu (pv 2) (pv 4) pe_int ⟨rfl, rfl, rfl, rfl⟩) pe_int) rfl)))) (@pss_one _ _ _ (@ps_ret _ _ _ _ (pv 3)))))))), ?_⟩
    refine ⟨_, rfl, _, _, rfl, hA, hok, ?_⟩
    refine ⟨_, rfl, _, rfl, ?_⟩
    intro d hd
    refine ⟨_, rfl, _, _, rfl, Same.new hd _ _ hA, hlen, fun l H1 hl s1 h1 => ?_⟩
    have sH1 : Same H H1 := (Same.new hd).trans s1
    have hdl : d ≠ l := ne_of_none upd_same hl
    have hld : H l = none := (Same.new hd).free hl
    refine ⟨_, rfl, ⟨_, SqL.of h1⟩, for_list (K := K) (a := l) (xs := iL (sumsZ ns)) (fun i σ H2 => ∃ v kvs, σ = [some (.ref a), some (.int z), some (.ref d), some (.int (cnt z ((sumsZ ns).take i))), v] ∧ Same H H2 ∧ H2 l = some (.lst (iL (sumsZ ns))) ∧ H2 d = some (.dK kvs) ∧ Counts kvs ((sumsZ ns).take i) ∧ kvs.length ≤ i)
      ⟨none, [], rfl, sH1, h1, s1 _ _ upd_same, fun z => by simp [valV_nil], Nat.le_refl _⟩ (fun i σ H2 _ ⟨_, _, _, _, h2, _⟩ => SqL.of h2) ?_ ?_⟩
    · rintro i x σ H2 hi ⟨v, kvs, rfl, s2, h2, hd2, hc, hk⟩
      obtain ⟨y, rfl, hy⟩ := ints_get hi
      have hil : i < (sumsZ ns).length := (List.getElem?_eq_some_iff.mp hy).1
      rw [sumsZ_length] at hil
      refine ⟨_, rfl, _, rfl, _, rfl, .inl ⟨_, .inl hd2⟩, _, rfl, _, rfl, _, _, rfl, rfl, _, DGet.k (k := Sum.inl (y - z)) hd2, ?_⟩
      rw [hc (y - z)]
      refine ⟨_, _, rfl, rfl, ?_⟩
      refine ⟨_, rfl, _, rfl, .inl ⟨_, .inl hd2⟩, _, rfl, _, DGet.k (k := Sum.inl y) hd2, ?_⟩
      rw [hc y]
      refine ⟨_, _, rfl, rfl, ?_⟩
      refine ⟨_, rfl, _, rfl, _, _, rfl, DPut.k (k := Sum.inl y) hd2 (small1000 (by omega)), ?_⟩
      have et : (sumsZ ns).take (i + 1) = (sumsZ ns).take i ++ [y] := by rw [List.take_add_one, hy]; rfl
      refine ⟨some (.int y), _, ?_, s2.step hd, by rw [upd_ne hdl.symm]; exact h2, upd_same, hc.put (y := y) (fun z => by rw [et]; exact count_snoc _ _ _), Nat.le_trans (length_putK _ _ _) (by omega)⟩
      rw [cnt_take hy, count_less]
      simp
    · rintro σ H2 ⟨v, kvs, rfl, s2, h2, hd2, hc, hk⟩
      refine ⟨_, rfl, ?_⟩
      have e : (sumsZ ns).take (iL (sumsZ ns)).length = sumsZ ns := by rw [ints_len]; exact List.take_length
      rw [e]
      exact k H2 s2
noncomputable def NoWhole (K : PySem.W.Frag) (H : Hp) (v : V) : Prop := ∃ ty b1 b2, TyOf K H v ty ∧ PySem.W.kitOne K ty (.type "int") = some b1 ∧ PySem.W.kitOne K ty (.type "bool") = some b2 ∧ (b1 && !b2) = false
noncomputable def BadItem (K : PySem.W.Frag) (H : Hp) (y : V) : Prop := NoWhole K H y ∨ ∃ z, y = .int z ∧ (z < -1000000 ∨ 1000000 < z)
noncomputable def BadRowV (K : PySem.W.Frag) (H : Hp) (v : V) : Prop := (∃ ty, TyOf K H v ty ∧ PySem.W.kitOne K ty (.type "list") = some false) ∨ ∃ a k y, v = .ref a ∧ H a = some (.lst (List.replicate k (.int 3) ++ [y])) ∧ BadItem K H y
noncomputable def BadLeastV (K : PySem.W.Frag) (H : Hp) (ns : List Int) (v : V) : Prop := NoWhole K H v ∨ ∃ z, v = .int z ∧ (z < 1 ∨ (ns.length : Int) < z)
noncomputable def BadManyV (K : PySem.W.Frag) (H : Hp) (v : V) : Prop := NoWhole K H v ∨ ∃ z, v = .int z ∧ z < 0
noncomputable def spx_check_row (K : PySem.W.Frag) (t : Adr) : Sp := fun vs H _ E => ∃ v, vs = [v] ∧ BadRowV K H v ∧ E (.ref t.C_BadRow) none H
theorem okx_check_row (T : Txt K mg t) : OkFnX P w K mg base 2 t.f_check_row ["row"] (spx_check_row K t) := by
  refine okfnX T.fn_check_row sc_check_row (fun vs H Q E h => ?_) (fun cdv A outer s H vs Q E hr h => ?_)
  · obtain ⟨v, rfl, _⟩ := h
    rfl
  · obtain ⟨v, rfl, hb, k⟩ := h
    refine ⟨_, (@pss_cons _ _ _ _ _ (@ps_if _ _ _ _ _ _ _ _ (pt_not (pt_val (pe_callB call_isinst rfl T.b_isinstance boot_isinstance (@pa_con _ _ _ _ _ rfl (pv 0) (@pa_con _ _ _ _ _ rfl (pe_bltn (v := .ty "list") rfl T.b_list boot_list rfl) pa_nil))))) (@pss_one _ _ _ (ps_raise raises1 rfl T.mg_BadRow T.ex_BadRow PySem.F.excBase_ValueError (@pa_con _ _ _ _ _ rfl pe_str pa_nil))) pss_nil) (@pss_one _ _ _ (ps_for PassesOwn.leaving rfl (pi_list (pv 0)) (pg_name (i := 1) sc_check_row.nd rfl (Or.inl rfl)) (@pss_one _ _ _ (@ps_if _ _ _ _ _ _ _ _ (PW.pt (pw_or (pt_not (pt_val (pe_callO (ok_is_whole T) (hr.mono (by decide)) T.mg_is_whole T.fn_is_whole.kp (@pa_con _ _ _ _ _ rfl (pv 1) pa_nil)))) (pw_or1 (pt_cmpR op_gt (pe_callB call_abs rfl T.b_abs boot_abs (@pa_con _ _ _ _ _ rfl (pv 1) pa_nil)) (pe_glob (v := .int 1000000) rfl T.g_GREATEST ⟨_, rfl⟩) (nomark _))))) (@pss_one _ _ _ (ps_raise raises1 rfl T.mg_BadRow T.ex_BadRow PySem.F.excBase_ValueError (@pa_con _ _ _ _ _ rfl pe_str pa_nil))) pss_nil))))), ?_⟩
    rcases hb with ⟨ty, hT, hk⟩ | ⟨a, n, y, rfl, hA, hb⟩
    · refine ⟨_, rfl, _, _, _, _, _, rfl, (fun _ r => r), hT, hk, _, rfl, iteT ?_⟩
      exact ⟨by show 1 ≤ sizeLine; decide, k⟩
    · refine ⟨_, rfl, _, _, _, _, _, rfl, (fun _ r => r), .lst hA, kit_ll, _, rfl, iteF ?_⟩
      refine ⟨_, rfl, a, rfl, ⟨_, SqL.of hA⟩, for_list (K := K) (a := a) (xs := List.replicate n (.int 3) ++ [y]) (fun i σ H2 => ∃ v, σ = [some (.ref a), v] ∧ H2 = H ∧ i ≤ n) ⟨none, rfl, rfl, Nat.zero_le _⟩ (fun i σ H2 _ ⟨_, _, e, _⟩ => e ▸ SqL.of hA) ?_ ?_⟩
      · rintro i x σ H2 hi ⟨v, rfl, rfl, hin⟩
        by_cases c : i < n
        · rw [List.getElem?_append_left (by simpa using c), List.getElem?_replicate, if_pos c] at hi
          have hi : V.int 3 = x := Option.some.inj hi
          subst hi
          refine ⟨_, rfl, _, _, _, _, rfl, .int 3, kit_ii, kit_ib, _, rfl, iteF ?_⟩
          refine ⟨_, rfl, _, rfl, _, _, rfl, rfl, _, rfl, iteQ (by decide) ?_⟩
          exact ⟨_, rfl, rfl, c⟩
        · have e : i = n := by omega
          subst e
          rw [List.getElem?_append_right (by simp), List.length_replicate, Nat.sub_self] at hi
          have hi : y = x := Option.some.inj hi
          subst hi
          rcases hb with ⟨ty, b1, b2, hT, k1, k2, hf⟩ | ⟨z, rfl, hz⟩
          · refine ⟨_, rfl, _, _, _, _, rfl, hT, k1, k2, _, rfl, ?_⟩
            rw [hf]
            exact iteT ⟨by show 1 ≤ sizeLine; decide, k⟩
          · refine ⟨_, rfl, _, _, _, _, rfl, .int z, kit_ii, kit_ib, _, rfl, iteF ?_⟩
            refine ⟨_, rfl, _, rfl, _, _, rfl, rfl, _, rfl, iteP (by simp; split <;> omega) ?_⟩
            exact ⟨by show 1 ≤ sizeLine; decide, k⟩
      · rintro σ H2 ⟨v, rfl, rfl, hin⟩
        simp at hin
        omega
noncomputable def spx_check_least (K : PySem.W.Frag) (t : Adr) : Sp := fun vs H _ E => ∃ a ns v, vs = [.ref a, v] ∧ H a = some (.lst (iL ns)) ∧ BadLeastV K H ns v ∧ E (.ref t.C_BadLeast) none H
theorem okx_check_least (T : Txt K mg t) : OkFnX P w K mg base 2 t.f_check_least ["row", "least"] (spx_check_least K t) := by
  refine okfnX T.fn_check_least sc_check_least (fun vs H Q E h => ?_) (fun cdv A outer s H vs Q E hr h => ?_)
  · obtain ⟨a, ns, v, rfl, _⟩ := h
    rfl
  · obtain ⟨a, ns, v, rfl, hA, hb, k⟩ := h
    refine ⟨_, (@pss_one _ _ _ (@ps_if _ _ _ _ _ _ _ _ (PW.pt (pw_or (pt_not (pt_val (pe_callO (ok_is_whole T) (hr.mono (by decide)) T.mg_is_whole T.fn_is_whole.kp (@pa_con _ _ _ _ _ rfl (pv 1) pa_nil)))) (pw_or (pt_cmpR op_lt (pv 1) pe_int (nomark _)) (pw_or1 (pt_cmpR op_gt (pv 1) (pe_callB call_len_seq rfl T.b_len PySem.boot_len (@pa_con _ _ _ _ _ rfl (pv 0) pa_nil)) (nomark _)))))) (@pss_one _ _ _ (ps_raise raises1 rfl T.mg_BadLeast T.ex_BadLeast PySem.F.excBase_ValueError (@pa_con _ _ _ _ _ rfl pe_str pa_nil))) pss_nil)), ?_⟩
    have fin : 1 ≤ sizeLine ∧ E (.ref t.C_BadLeast) none H := ⟨by decide, k⟩
    rcases hb with ⟨ty, b1, b2, hT, k1, k2, hf⟩ | ⟨z, rfl, hz⟩
    · refine ⟨_, rfl, _, _, _, _, rfl, hT, k1, k2, _, rfl, ?_⟩
      rw [hf]
      exact iteT fin
    · refine ⟨_, rfl, _, _, _, _, rfl, .int z, kit_ii, kit_ib, _, rfl, iteF ?_⟩
      refine ⟨_, rfl, _, _, rfl, rfl, _, rfl, ?_⟩
      refine ite2 (fun _ => fin) (fun c => ?_)
      have c : 1 ≤ z := by simpa using c
      refine ⟨_, rfl, _, rfl, _, _, rfl, .inl (SqL.of hA), _, _, rfl, rfl, _, rfl, iteP (by simp; omega) fin⟩
noncomputable def spx_check_total (K : PySem.W.Frag) (t : Adr) : Sp := fun vs H _ E => ∃ v, vs = [v] ∧ NoWhole K H v ∧ E (.ref t.C_BadTotal) none H
theorem okx_check_total (T : Txt K mg t) : OkFnX P w K mg base 2 t.f_check_total ["total"] (spx_check_total K t) := by
  refine okfnX T.fn_check_total sc_check_total (fun vs H Q E h => ?_) (fun cdv A outer s H vs Q E hr h => ?_)
  · obtain ⟨v, rfl, _⟩ := h
    rfl
  · obtain ⟨v, rfl, ⟨ty, b1, b2, hT, k1, k2, hf⟩, k⟩ := h
    refine ⟨_, (@pss_one _ _ _ (@ps_if _ _ _ _ _ _ _ _ (pt_not (pt_val (pe_callO (ok_is_whole T) (hr.mono (by decide)) T.mg_is_whole T.fn_is_whole.kp (@pa_con _ _ _ _ _ rfl (pv 0) pa_nil)))) (@pss_one _ _ _ (ps_raise raises1 rfl T.mg_BadTotal T.ex_BadTotal PySem.F.excBase_ValueError (@pa_con _ _ _ _ _ rfl pe_str pa_nil))) pss_nil)), ?_⟩
    refine ⟨_, rfl, _, _, _, _, rfl, hT, k1, k2, _, rfl, ?_⟩
    rw [hf]
    exact iteT ⟨by show 1 ≤ sizeLine; decide, k⟩
noncomputable def spx_check_many (K : PySem.W.Frag) (t : Adr) : Sp := fun vs H _ E => ∃ v, vs = [v] ∧ BadManyV K H v ∧ E (.ref t.C_BadMany) none H
theorem okx_check_many (T : Txt K mg t) : OkFnX P w K mg base 2 t.f_check_many ["many"] (spx_check_many K t) := by
  refine okfnX T.fn_check_many sc_check_many (fun vs H Q E h => ?_) (fun cdv A outer s H vs Q E hr h => ?_)
  · obtain ⟨v, rfl, _⟩ := h
    rfl
  · obtain ⟨v, rfl, hb, k⟩ := h
    refine ⟨_, (@pss_one _ _ _ (@ps_if _ _ _ _ _ _ _ _ (PW.pt (pw_or (pt_not (pt_val (pe_callO (ok_is_whole T) (hr.mono (by decide)) T.mg_is_whole T.fn_is_whole.kp (@pa_con _ _ _ _ _ rfl (pv 0) pa_nil)))) (pw_or1 (pt_cmpR op_lt (pv 0) pe_int (nomark _))))) (@pss_one _ _ _ (ps_raise raises1 rfl T.mg_BadMany T.ex_BadMany PySem.F.excBase_ValueError (@pa_con _ _ _ _ _ rfl pe_str pa_nil))) pss_nil)), ?_⟩
    have fin : 1 ≤ sizeLine ∧ E (.ref t.C_BadMany) none H := ⟨by decide, k⟩
    rcases hb with ⟨ty, b1, b2, hT, k1, k2, hf⟩ | ⟨z, rfl, hz⟩
    · refine ⟨_, rfl, _, _, _, _, rfl, hT, k1, k2, _, rfl, ?_⟩
      rw [hf]
      exact iteT fin
    · refine ⟨_, rfl, _, _, _, _, rfl, .int z, kit_ii, kit_ib, _, rfl, iteF ?_⟩
      exact ⟨_, rfl, _, _, rfl, rfl, _, rfl, iteP (by simp; omega) fin⟩
noncomputable def spx_sums (K : PySem.W.Frag) (t : Adr) : Sp := fun vs H _ E => ∃ v, vs = [v] ∧ BadRowV K H v ∧ E (.ref t.C_BadRow) none H
theorem okx_sums (T : Txt K mg t) : OkFnX P w K mg base 3 t.f_sums ["row"] (spx_sums K t) := by
  refine okfnX T.fn_sums sc_sums (fun vs H Q E h => ?_) (fun cdv A outer s H vs Q E hr h => ?_)
  · obtain ⟨v, rfl, _⟩ := h
    rfl
  · obtain ⟨v, rfl, hb, k⟩ := h
    refine ⟨_, (@pss_stop _ _ _ _ (@ps_expr _ _ _ _ (@pe_callX _ _ _ _ _ _ _ _ _ _ _ _ (okx_check_row T) pass1 (hr.mono (by decide)) T.mg_check_row T.fn_check_row.kp (@pa_con _ _ _ _ _ rfl (pv 0) pa_nil) rfl (by decide) (star_c rfl) rfl) rfl)), ?_⟩
    exact ⟨_, rfl, _, rfl, hb, k⟩
noncomputable def spx_around (K : PySem.W.Frag) (t : Adr) : Sp := fun vs H _ E => (∃ v, vs = [v] ∧ BadRowV K H v ∧ E (.ref t.C_BadRow) none H) ∨ ∃ a, vs = [.ref a] ∧ H a = some (.lst (iL [])) ∧ E (.ref t.C_BadLeast) none H
theorem okx_around (T : Txt K mg t) : OkFnX P w K mg base 4 t.f_around ["row"] (spx_around K t) := by
  refine okfnX T.fn_around sc_around (fun vs H Q E h => ?_) (fun cdv A outer s H vs Q E hr h => ?_)
  · rcases h with ⟨v, rfl, _⟩ | ⟨a, rfl, _⟩ <;> rfl
  · rcases h with ⟨v, rfl, hb, k⟩ | ⟨a, rfl, hA, k⟩
    · refine ⟨_, (@pss_stop _ _ _ _ (@ps_expr _ _ _ _ (@pe_callX _ _ _ _ _ _ _ _ _ _ _ _ (okx_check_row T) pass1 (hr.mono (by decide)) T.mg_check_row T.fn_check_row.kp (@pa_con _ _ _ _ _ rfl (pv 0) pa_nil) rfl (by decide) (star_c rfl) rfl) rfl)), ?_⟩
      exact ⟨_, rfl, _, rfl, hb, k⟩
    · refine ⟨_, (@pss_cons _ _ _ _ _ (@ps_expr _ _ _ _ (pe_callO (ok_check_row T) (hr.mono (by decide)) T.mg_check_row T.fn_check_row.kp (@pa_con _ _ _ _ _ rfl (pv 0) pa_nil)) rfl) (@pss_stop _ _ _ _ (@ps_if _ _ _ _ _ _ _ _ (pt_cmpR op_eq (pe_callB call_len_seq rfl T.b_len PySem.boot_len (@pa_con _ _ _ _ _ rfl (pv 0) pa_nil)) pe_int (nomark _)) (@pss_one _ _ _ (ps_raise raises1 rfl T.mg_BadLeast T.ex_BadLeast PySem.F.excBase_ValueError (@pa_con _ _ _ _ _ rfl pe_str pa_nil))) pss_nil))), ?_⟩
      refine ⟨_, rfl, _, _, rfl, hA, fun x hx => by simp at hx, ?_⟩
      refine ⟨_, rfl, _, _, rfl, .inl (SqL.of hA), rfl, _, rfl, iteP (by simp) ?_⟩
      exact ⟨by show 1 ≤ sizeLine; decide, k⟩
noncomputable def spx_best (K : PySem.W.Frag) (t : Adr) : Sp := fun vs H _ E => (∃ v u, vs = [v, u] ∧ BadRowV K H v ∧ E (.ref t.C_BadRow) none H) ∨ ∃ a ns u, vs = [.ref a, u] ∧ H a = some (.lst (iL ns)) ∧ OkRow ns ∧ BadLeastV K H ns u ∧ E (.ref t.C_BadLeast) none H
theorem okx_best (T : Txt K mg t) : OkFnX P w K mg base 4 t.f_best ["row", "least"] (spx_best K t) := by
  refine okfnX T.fn_best sc_best (fun vs H Q E h => ?_) (fun cdv A outer s H vs Q E hr h => ?_)
  · rcases h with ⟨v, u, rfl, _⟩ | ⟨a, ns, u, rfl, _⟩ <;> rfl
  · rcases h with ⟨v, u, rfl, hb, k⟩ | ⟨a, ns, u, rfl, hA, hok, hb, k⟩
    · refine ⟨_, (@pss_stop _ _ _ _ (@ps_expr _ _ _ _ (@pe_callX _ _ _ _ _ _ _ _ _ _ _ _ (okx_check_row T) pass1 (hr.mono (by decide)) T.mg_check_row T.fn_check_row.kp (@pa_con _ _ _ _ _ rfl (pv 0) pa_nil) rfl (by decide) (star_c rfl) rfl) rfl)), ?_⟩
      exact ⟨_, rfl, _, rfl, hb, k⟩
    · refine ⟨_, (@pss_cons _ _ _ _ _ (@ps_expr _ _ _ _ (pe_callO (ok_check_row T) (hr.mono (by decide)) T.mg_check_row T.fn_check_row.kp (@pa_con _ _ _ _ _ rfl (pv 0) pa_nil)) rfl) (@pss_stop _ _ _ _ (@ps_expr _ _ _ _ (@pe_callX _ _ _ _ _ _ _ _ _ _ _ _ (okx_check_least T) pass1 (hr.mono (by decide)) T.mg_check_least T.fn_check_least.kp (@pa_con _ _ _ _ _ rfl (pv 0) (@pa_con _ _ _ _ _ rfl (pv 1) pa_nil)) rfl (by decide) (star_c rfl) rfl) rfl))), ?_⟩
      refine ⟨_, rfl, _, _, rfl, hA, hok, ?_⟩
      exact ⟨_, rfl, _, rfl, _, _, _, rfl, hA, hb, k⟩
noncomputable def spx_steepest (K : PySem.W.Frag) (t : Adr) : Sp := fun vs H _ E => (∃ v u, vs = [v, u] ∧ BadRowV K H v ∧ E (.ref t.C_BadRow) none H) ∨ ∃ a ns u, vs = [.ref a, u] ∧ H a = some (.lst (iL ns)) ∧ OkRow ns ∧ BadLeastV K H ns u ∧ E (.ref t.C_BadLeast) none H
theorem okx_steepest (T : Txt K mg t) : OkFnX P w K mg base 4 t.f_steepest ["row", "least"] (spx_steepest K t) := by
  refine okfnX T.fn_steepest sc_steepest (fun vs H Q E h => ?_) (fun cdv A outer s H vs Q E hr h => ?_)
  · rcases h with ⟨v, u, rfl, _⟩ | ⟨a, ns, u, rfl, _⟩ <;> rfl
  · rcases h with ⟨v, u, rfl, hb, k⟩ | ⟨a, ns, u, rfl, hA, hok, hb, k⟩
    · refine ⟨_, (@pss_stop _ _ _ _ (@ps_expr _ _ _ _ (@pe_callX _ _ _ _ _ _ _ _ _ _ _ _ (okx_check_row T) pass1 (hr.mono (by decide)) T.mg_check_row T.fn_check_row.kp (@pa_con _ _ _ _ _ rfl (pv 0) pa_nil) rfl (by decide) (star_c rfl) rfl) rfl)), ?_⟩
      exact ⟨_, rfl, _, rfl, hb, k⟩
    · refine ⟨_, (@pss_cons _ _ _ _ _ (@ps_expr _ _ _ _ (pe_callO (ok_check_row T) (hr.mono (by decide)) T.mg_check_row T.fn_check_row.kp (@pa_con _ _ _ _ _ rfl (pv 0) pa_nil)) rfl) (@pss_stop _ _ _ _ (@ps_expr _ _ _ _ (@pe_callX _ _ _ _ _ _ _ _ _ _ _ _ (okx_check_least T) pass1 (hr.mono (by decide)) T.mg_check_least T.fn_check_least.kp (@pa_con _ _ _ _ _ rfl (pv 0) (@pa_con _ _ _ _ _ rfl (pv 1) pa_nil)) rfl (by decide) (star_c rfl) rfl) rfl))), ?_⟩
      refine ⟨_, rfl, _, _, rfl, hA, hok, ?_⟩
      exact ⟨_, rfl, _, rfl, _, _, _, rfl, hA, hb, k⟩
noncomputable def spx_exact (K : PySem.W.Frag) (t : Adr) : Sp := fun vs H _ E => (∃ v u, vs = [v, u] ∧ BadRowV K H v ∧ E (.ref t.C_BadRow) none H) ∨ ∃ a ns u, vs = [.ref a, u] ∧ H a = some (.lst (iL ns)) ∧ OkRow ns ∧ NoWhole K H u ∧ E (.ref t.C_BadTotal) none H
theorem okx_exact (T : Txt K mg t) : OkFnX P w K mg base 3 t.f_exact ["row", "total"] (spx_exact K t) := by
  refine okfnX T.fn_exact sc_exact (fun vs H Q E h => ?_) (fun cdv A outer s H vs Q E hr h => ?_)
  · rcases h with ⟨v, u, rfl, _⟩ | ⟨a, ns, u, rfl, _⟩ <;> rfl
  · rcases h with ⟨v, u, rfl, hb, k⟩ | ⟨a, ns, u, rfl, hA, hok, hb, k⟩
    · refine ⟨_, (@pss_stop _ _ _ _ (@ps_expr _ _ _ _ (@pe_callX _ _ _ _ _ _ _ _ _ _ _ _ (okx_check_row T) pass1 (hr.mono (by decide)) T.mg_check_row T.fn_check_row.kp (@pa_con _ _ _ _ _ rfl (pv 0) pa_nil) rfl (by decide) (star_c rfl) rfl) rfl)), ?_⟩
      exact ⟨_, rfl, _, rfl, hb, k⟩
    · refine ⟨_, (@pss_cons _ _ _ _ _ (@ps_expr _ _ _ _ (pe_callO (ok_check_row T) (hr.mono (by decide)) T.mg_check_row T.fn_check_row.kp (@pa_con _ _ _ _ _ rfl (pv 0) pa_nil)) rfl) (@pss_stop _ _ _ _ (@ps_expr _ _ _ _ (@pe_callX _ _ _ _ _ _ _ _ _ _ _ _ (okx_check_total T) pass1 (hr.mono (by decide)) T.mg_check_total T.fn_check_total.kp (@pa_con _ _ _ _ _ rfl (pv 1) pa_nil) rfl (by decide) (star_c rfl) rfl) rfl))), ?_⟩
      refine ⟨_, rfl, _, _, rfl, hA, hok, ?_⟩
      exact ⟨_, rfl, _, rfl, hb, k⟩
noncomputable def spx_how_many (K : PySem.W.Frag) (t : Adr) : Sp := fun vs H _ E => (∃ v u, vs = [v, u] ∧ BadRowV K H v ∧ E (.ref t.C_BadRow) none H) ∨ ∃ a ns u, vs = [.ref a, u] ∧ H a = some (.lst (iL ns)) ∧ OkRow ns ∧ NoWhole K H u ∧ E (.ref t.C_BadTotal) none H
theorem okx_how_many (T : Txt K mg t) : OkFnX P w K mg base 3 t.f_how_many ["row", "total"] (spx_how_many K t) := by
  refine okfnX T.fn_how_many sc_how_many (fun vs H Q E h => ?_) (fun cdv A outer s H vs Q E hr h => ?_)
  · rcases h with ⟨v, u, rfl, _⟩ | ⟨a, ns, u, rfl, _⟩ <;> rfl
  · rcases h with ⟨v, u, rfl, hb, k⟩ | ⟨a, ns, u, rfl, hA, hok, hb, k⟩
    · refine ⟨_, (@pss_stop _ _ _ _ (@ps_expr _ _ _ _ (@pe_callX _ _ _ _ _ _ _ _ _ _ _ _ (okx_check_row T) pass1 (hr.mono (by decide)) T.mg_check_row T.fn_check_row.kp (@pa_con _ _ _ _ _ rfl (pv 0) pa_nil) rfl (by decide) (star_c rfl) rfl) rfl)), ?_⟩
      exact ⟨_, rfl, _, rfl, hb, k⟩
    · refine ⟨_, (@pss_cons _ _ _ _ _ (@ps_expr _ _ _ _ (pe_callO (ok_check_row T) (hr.mono (by decide)) T.mg_check_row T.fn_check_row.kp (@pa_con _ _ _ _ _ rfl (pv 0) pa_nil)) rfl) (@pss_stop _ _ _ _ (@ps_expr _ _ _ _ (@pe_callX _ _ _ _ _ _ _ _ _ _ _ _ (okx_check_total T) pass1 (hr.mono (by decide)) T.mg_check_total T.fn_check_total.kp (@pa_con _ _ _ _ _ rfl (pv 1) pa_nil) rfl (by decide) (star_c rfl) rfl) rfl))), ?_⟩
      refine ⟨_, rfl, _, _, rfl, hA, hok, ?_⟩
      exact ⟨_, rfl, _, rfl, hb, k⟩
noncomputable def spx_several (K : PySem.W.Frag) (t : Adr) : Sp := fun vs H _ E => (∃ v u, vs = [v, u] ∧ BadRowV K H v ∧ E (.ref t.C_BadRow) none H) ∨ ∃ a ns u, vs = [.ref a, u] ∧ H a = some (.lst (iL ns)) ∧ OkRow ns ∧ BadManyV K H u ∧ E (.ref t.C_BadMany) none H
theorem okx_several (T : Txt K mg t) : OkFnX P w K mg base 3 t.f_several ["row", "many"] (spx_several K t) := by
  refine okfnX T.fn_several sc_several (fun vs H Q E h => ?_) (fun cdv A outer s H vs Q E hr h => ?_)
  · rcases h with ⟨v, u, rfl, _⟩ | ⟨a, ns, u, rfl, _⟩ <;> rfl
  · rcases h with ⟨v, u, rfl, hb, k⟩ | ⟨a, ns, u, rfl, hA, hok, hb, k⟩
    · refine ⟨_, (@pss_stop _ _ _ _ (@ps_expr _ _ _ _ (@pe_callX _ _ _ _ _ _ _ _ _ _ _ _ (okx_check_row T) pass1 (hr.mono (by decide)) T.mg_check_row T.fn_check_row.kp (@pa_con _ _ _ _ _ rfl (pv 0) pa_nil) rfl (by decide) (star_c rfl) rfl) rfl)), ?_⟩
      exact ⟨_, rfl, _, rfl, hb, k⟩
    · refine ⟨_, (@pss_cons _ _ _ _ _ (@ps_expr _ _ _ _ (pe_callO (ok_check_row T) (hr.mono (by decide)) T.mg_check_row T.fn_check_row.kp (@pa_con _ _ _ _ _ rfl (pv 0) pa_nil)) rfl) (@pss_stop _ _ _ _ (@ps_expr _ _ _ _ (@pe_callX _ _ _ _ _ _ _ _ _ _ _ _ (okx_check_many T) pass1 (hr.mono (by decide)) T.mg_check_many T.fn_check_many.kp (@pa_con _ _ _ _ _ rfl (pv 1) pa_nil) rfl (by decide) (star_c rfl) rfl) rfl))), ?_⟩
      refine ⟨_, rfl, _, _, rfl, hA, hok, ?_⟩
      exact ⟨_, rfl, _, rfl, hb, k⟩
theorem tyMono {H H' : Hp} {v : V} {ty : Value} (h : TyOf K H v ty) (s : Same H H') : TyOf K H' v ty := by
  cases h with
  | non => exact .non
  | bl x => exact .bl x
  | int i => exact .int i
  | str x => exact .str x
  | flt x => exact .flt x
  | lst e => exact .lst (s _ _ e)
  | frz e => exact .frz (s _ _ e)
  | tup e => exact .tup (s _ _ e)
  | dK e => exact .dK (s _ _ e)
  | dT e => exact .dT (s _ _ e)
  | ins e a b c d f => exact .ins (s _ _ e) a b c d f
theorem NoWhole.mono {H H' : Hp} {v : V} (h : NoWhole K H v) (s : Same H H') : NoWhole K H' v := let ⟨ty, b1, b2, a, r⟩ := h; ⟨ty, b1, b2, tyMono a s, r⟩
theorem BadItem.mono {H H' : Hp} {v : V} (h : BadItem K H v) (s : Same H H') : BadItem K H' v := h.imp (fun z => z.mono s) id
theorem BadRowV.mono {H H' : Hp} {v : V} (h : BadRowV K H v) (s : Same H H') : BadRowV K H' v :=
  h.imp (fun ⟨ty, a, b⟩ => ⟨ty, tyMono a s, b⟩) fun ⟨a, k, y, e, h1, h2⟩ => ⟨a, k, y, e, s _ _ h1, h2.mono s⟩
theorem kit_nl : PySem.W.kitOne K (.type "NoneType") (.type "list") = some false := by kernel_rfl
theorem kit_tl : PySem.W.kitOne K (.type "tuple") (.type "list") = some false := by kernel_rfl
theorem kit_sl : PySem.W.kitOne K (.type "str") (.type "list") = some false := by kernel_rfl
theorem kit_il : PySem.W.kitOne K (.type "int") (.type "list") = some false := by kernel_rfl
theorem no_non {H : Hp} : NoWhole K H .non := ⟨_, false, false, .non, by kernel_rfl, by kernel_rfl, rfl⟩
theorem no_str {H : Hp} (x : Str) : NoWhole K H (.str x) := ⟨_, false, false, .str x, by kernel_rfl, by kernel_rfl, rfl⟩
theorem no_bl {H : Hp} (x : Bool) : NoWhole K H (.bl x) := ⟨_, true, true, .bl x, kit_bi, kit_bb, rfl⟩
theorem no_lst {H : Hp} {a : Addr} {xs : List V} (e : H a = some (.lst xs)) : NoWhole K H (.ref a) := ⟨_, false, false, .lst e, by kernel_rfl, by kernel_rfl, rfl⟩
theorem no_tup {H : Hp} {a : Addr} {xs : List V} (e : H a = some (.tup xs)) : NoWhole K H (.ref a) := ⟨_, false, false, .tup e, by kernel_rfl, by kernel_rfl, rfl⟩
theorem no_dict {H : Hp} {a : Addr} {kvs : List (Key × V)} (e : H a = some (.dK kvs)) : NoWhole K H (.ref a) := ⟨_, false, false, .dK e, by kernel_rfl, by kernel_rfl, rfl⟩
theorem mod_nat (w : Int) {n : Nat} (hn : 0 < n) : ∃ k : Nat, w % (n : Int) = k ∧ k < n := by
  have h0 : 0 ≤ w % (n : Int) := Int.emod_nonneg _ (by omega)
  have h1 : w % (n : Int) < n := Int.emod_lt_of_pos _ (by omega)
  obtain ⟨k, hk⟩ := Int.eq_ofNat_of_zero_le h0
  exact ⟨k, hk, by omega⟩
theorem flat3 (k : Nat) : (List.replicate k [V.int 3]).flatten = List.replicate k (V.int 3) := by
  induction k with
  | zero => rfl
  | succ n ih => rw [List.replicate_succ, List.flatten_cons, ih, List.replicate_succ]; rfl
noncomputable def spx__law_rows_asked (t : Adr) : Sp := fun vs H _ E => ∃ wh mo : Int, vs = [.int wh, .int mo] ∧ 0 ≤ mo ∧ ∀ H', Same H H' → E (.ref t.C_BadRow) none H'
theorem okx__law_rows_asked (T : Txt K mg t) : OkFnX P w K mg base 5 t.f__law_rows_asked ["_law_which", "_law_more"] (spx__law_rows_asked t) := by
  refine okfnX T.fn__law_rows_asked sc__law_rows_asked (fun vs H Q E h => ?_) (fun cdv A outer s H vs Q E hr h => ?_)
  · obtain ⟨wh, mo, rfl, _⟩ := h
    rfl
  · obtain ⟨wh, mo, rfl, hmo, k⟩ := h
    refine cutting ((defBody s__law_rows_asked).drop 2) (@pss_cons _ _ _ _ _ (@ps_set _ _ 3 _ _ _ _ sc__law_rows_asked.nd rfl (Or.inl rfl) (@pe_op _ _ _ _ _ _ _ _ op_mod (@pe_op _ _ _ _ _ _ _ _ op_fdiv (pv 0) pe_int) pe_int) rfl (Or.inl rfl)) (@pss_cons _ _ _ _ _ (@ps_if _ _ _ _ _ _ _ _ (pt_cmpR op_lt (pv 3) pe_int (nomark _)) (@pss_one _ _ _ (@ps_ret _ _ _ _ (@pe_callA _ _ _ _ _ _ _ _ _ _ 4 (@pe_ix _ _ _ _ _ _ _ ix_list (@pe_lst _ _ _ _ (@pa_con _ _ _ _ _ rfl (pe_glob (v := .ref t.f_sums) rfl T.mg_sums rfl) (@pa_con _ _ _ _ _ rfl (pe_glob (v := .ref t.f_around) rfl T.mg_around rfl) pa_nil))) (pv 3) (fun _ _ => rfl)) pass1 (hr.mono (by decide)) (@pa_con _ _ _ _ _ rfl (pv 2) pa_nil) (star_c rfl) rfl))) pss_nil) (@pss_one _ _ _ (@ps_ret _ _ _ _ (@pe_callA _ _ _ _ _ _ _ _ _ _ 4 (@pe_ix _ _ _ _ _ _ _ ix_list (@pe_lst _ _ _ _ (@pa_con _ _ _ _ _ rfl (pe_glob (v := .ref t.f_best) rfl T.mg_best rfl) (@pa_con _ _ _ _ _ rfl (pe_glob (v := .ref t.f_steepest) rfl T.mg_steepest rfl) (@pa_con _ _ _ _ _ rfl (pe_glob (v := .ref t.f_exact) rfl T.mg_exact rfl) (@pa_con _ _ _ _ _ rfl (pe_glob (v := .ref t.f_how_many) rfl T.mg_how_many rfl) (@pa_con _ _ _ _ _ rfl (pe_glob (v := .ref t.f_several) rfl T.mg_several rfl) pa_nil)))))) (@pe_op _ _ _ _ _ _ _ _ op_sub (pv 3) pe_int) (fun _ _ => rfl)) pass1 (hr.mono (by decide)) (@pa_con _ _ _ _ _ rfl (pv 2) (@pa_con _ _ _ _ _ rfl pe_non pa_nil)) (star_c rfl) rfl))))) fun R2 hR2 i2 => ?_
    refine ⟨_, (@pss_cons _ _ _ _ _ (@ps_set _ _ 2 _ _ _ _ sc__law_rows_asked.nd rfl (Or.inl rfl) (@pe_ix _ _ _ _ _ _ _ ix_list (@pe_lst _ _ _ _ (@pa_con _ _ _ _ _ rfl pe_non (@pa_con _ _ _ _ _ rfl (@pe_tup _ _ _ _ _ (@pa_con _ _ _ _ _ rfl pe_int (@pa_con _ _ _ _ _ rfl pe_int pa_nil))) (@pa_con _ _ _ _ _ rfl pe_str (@pa_con _ _ _ _ _ rfl pe_int (@pa_con _ _ _ _ _ rfl (@pe_lst _ _ _ _ (@pa_con _ _ _ _ _ rfl (@pe_op _ _ _ _ _ _ _ _ op_add pe_int (pv 1)) pa_nil)) (@pa_con _ _ _ _ _ rfl (@pe_lst _ _ _ _ (@pa_con _ _ _ _ _ rfl (@pe_op _ _ _ _ _ _ _ _ op_sub (pe_un un_neg pe_int) (pv 1)) pa_nil)) (@pa_con _ _ _ _ _ rfl (@pe_lst _ _ _ _ (@pa_con _ _ _ _ _ rfl pe_bl pa_nil)) (@pa_con _ _ _ _ _ rfl (@pe_lst _ _ _ _ (@pa_con _ _ _ _ _ rfl pe_str pa_nil)) (@pa_con _ _ _ _ _ rfl (@pe_lst _ _ _ _ (@pa_con _ _ _ _ _ rfl pe_non pa_nil)) pa_nil)))))))))) (@pe_op _ _ _ _ _ _ _ _ op_mod (pv 0) pe_int) (fun _ _ => rfl)) rfl (Or.inl rfl)) (@pss_cons _ _ _ _ _ (@ps_if _ _ _ _ _ _ _ _ (pt_val (pe_callB call_isinst rfl T.b_isinstance boot_isinstance (@pa_con _ _ _ _ _ rfl (pv 2) (@pa_con _ _ _ _ _ rfl (pe_bltn (v := .ty "list") rfl T.b_list boot_list rfl) pa_nil)))) (@pss_one _ _ _ (@ps_set _ _ 2 _ _ _ _ sc__law_rows_asked.nd rfl (Or.inl rfl) (@pe_op _ _ _ _ _ _ _ _ op_cat (@pe_op _ _ _ _ _ _ _ _ op_rep (@pe_lst _ _ _ _ (@pa_con _ _ _ _ _ rfl pe_int pa_nil)) (@pe_op _ _ _ _ _ _ _ _ op_mod (pv 1) pe_int)) (pv 2)) rfl (Or.inl rfl))) pss_nil) hR2)), ?_⟩
    -- what is asked at the end
    have fin : ∀ (D : Ends) (v : V) (d : Option V) (H' : Hp), Same H H' → BadRowV K H' v → R2 D [some (.int wh), some (.int mo), some v, d] H' := fun D v d H' sH hb => by
      refine i2 _ _ _ ?_
      refine ⟨_, rfl, _, _, rfl, rfl, ⟨by decide, by decide⟩, _, _, rfl, rfl, (by show (0 : Int) < 7; decide), ?_⟩
      obtain ⟨j, hj, hjl⟩ := mod_nat (wh / 9) (n := 7) (by decide)
      have hj : wh / 9 % 7 = (j : Int) := hj
      refine ⟨_, rfl, _, _, rfl, rfl, _, rfl, ?_⟩
      dsimp only
      rw [hj]
      refine ite2 (fun c => ?_) (fun c => ?_)
      · have c : j < 2 := by simp at c; omega
        refine ⟨(by show 2 ≤ sizeLine; decide), fun q hq => ?_⟩
        have s2 : Same H' (upd H' q (.lst [.ref t.f_sums, .ref t.f_around])) := Same.new hq
        have ke := k _ (sH.trans s2)
        match j, c with
        | 0, _ => exact ⟨_, rfl, _, _, _, _, rfl, rfl, SqL.of upd_same, (show atI _ ((0 : Nat) : Int) = some _ from rfl), t.f_sums, _, _, rfl, T.fn_sums.kp, (okx_sums T).mono (by decide), _, rfl, v, rfl, hb.mono s2, ke⟩
        | 1, _ => exact ⟨_, rfl, _, _, _, _, rfl, rfl, SqL.of upd_same, (show atI _ ((1 : Nat) : Int) = some _ from rfl), t.f_around, _, _, rfl, T.fn_around.kp, (okx_around T).mono (by decide), _, rfl, .inl ⟨v, rfl, hb.mono s2, ke⟩⟩
      · have c : 2 ≤ j := by simp at c; omega
        refine ⟨(by show 5 ≤ sizeLine; decide), fun q hq => ?_⟩
        have s2 : Same H' (upd H' q (.lst [.ref t.f_best, .ref t.f_steepest, .ref t.f_exact, .ref t.f_how_many, .ref t.f_several])) := Same.new hq
        have ke := k _ (sH.trans s2)
        have hb2 := hb.mono s2
        match j, c, hjl with
        | 2, _, _ => exact ⟨_, rfl, _, _, rfl, rfl, _, _, _, _, rfl, rfl, SqL.of upd_same, (show atI _ (((2 : Nat) : Int) - 2) = some _ from rfl), t.f_best, _, _, rfl, T.fn_best.kp, (okx_best T).mono (by decide), _, rfl, .inl ⟨v, _, rfl, hb2, ke⟩⟩
        | 3, _, _ => exact ⟨_, rfl, _, _, rfl, rfl, _, _, _, _, rfl, rfl, SqL.of upd_same, (show atI _ (((3 : Nat) : Int) - 2) = some _ from rfl), t.f_steepest, _, _, rfl, T.fn_steepest.kp, (okx_steepest T).mono (by decide), _, rfl, .inl ⟨v, _, rfl, hb2, ke⟩⟩
        | 4, _, _ => exact ⟨_, rfl, _, _, rfl, rfl, _, _, _, _, rfl, rfl, SqL.of upd_same, (show atI _ (((4 : Nat) : Int) - 2) = some _ from rfl), t.f_exact, _, _, rfl, T.fn_exact.kp, (okx_exact T).mono (by decide), _, rfl, .inl ⟨v, _, rfl, hb2, ke⟩⟩
        | 5, _, _ => exact ⟨_, rfl, _, _, rfl, rfl, _, _, _, _, rfl, rfl, SqL.of upd_same, (show atI _ (((5 : Nat) : Int) - 2) = some _ from rfl), t.f_how_many, _, _, rfl, T.fn_how_many.kp, (okx_how_many T).mono (by decide), _, rfl, .inl ⟨v, _, rfl, hb2, ke⟩⟩
        | 6, _, _ => exact ⟨_, rfl, _, _, rfl, rfl, _, _, _, _, rfl, rfl, SqL.of upd_same, (show atI _ (((6 : Nat) : Int) - 2) = some _ from rfl), t.f_several, _, _, rfl, T.fn_several.kp, (okx_several T).mono (by decide), _, rfl, .inl ⟨v, _, rfl, hb2, ke⟩⟩
        | (j + 7), _, hjl => exact absurd hjl (by omega)
    refine ⟨(by show 2 ≤ sizeLine; decide), fun p1 hp1 => ?_⟩
    have t1 : Same H (upd H p1 (.tup [.int 1, .int 2])) := Same.new hp1
    have e1 : upd H p1 (.tup [.int 1, .int 2]) p1 = some (.tup [.int 1, .int 2]) := upd_same
    refine ⟨_, rfl, _, _, rfl, rfl, (by show 1 ≤ sizeLine; decide), fun p2 hp2 => ?_⟩
    have t2 := t1.trans (Same.new (o := .lst [.int (1000001 + mo)]) hp2)
    have e12 := Same.new (o := .lst [.int (1000001 + mo)]) hp2 _ _ e1
    have e2 : upd (upd H p1 (.tup [.int 1, .int 2])) p2 (.lst [.int (1000001 + mo)]) p2 = some (.lst [.int (1000001 + mo)]) := upd_same
    refine ⟨_, rfl, _, rfl, _, _, rfl, rfl, (by show 1 ≤ sizeLine; decide), fun p3 hp3 => ?_⟩
    obtain ⟨G2, eG2⟩ : ∃ G2, G2 = upd (upd H p1 (.tup [.int 1, .int 2])) p2 (.lst [.int (1000001 + mo)]) := ⟨_, rfl⟩
    rw [← eG2] at t2 e12 e2
    have hp3 : G2 p3 = none := by rw [eG2]; exact hp3
    have s3 : Same G2 (upd G2 p3 (.lst [.int (-1000001 - mo)])) := Same.new hp3
    have t3 := t2.trans s3
    have e13 := s3 _ _ e12
    have e23 := s3 _ _ e2
    have e3 : upd G2 p3 (.lst [.int (-1000001 - mo)]) p3 = some (.lst [.int (-1000001 - mo)]) := upd_same
    obtain ⟨G3, eG3⟩ : ∃ G3, G3 = upd G2 p3 (.lst [.int (-1000001 - mo)]) := ⟨_, rfl⟩
    rw [← eG3] at t3 e13 e23 e3
    refine ⟨(by show 1 ≤ sizeLine; decide), fun p4 hp4 => ?_⟩
    have hp4 : G3 p4 = none := by rw [eG3, eG2]; exact hp4
    have s4 : Same G3 (upd G3 p4 (.lst [.bl true])) := Same.new hp4
    have e4 : upd G3 p4 (.lst [.bl true]) p4 = some (.lst [.bl true]) := upd_same
    refine ⟨(by show 1 ≤ sizeLine; decide), fun p5 hp5 => ?_⟩
    have hp5 : upd G3 p4 (.lst [.bl true]) p5 = none := by rw [eG3, eG2]; exact hp5
    have s5 : Same (upd G3 p4 (.lst [.bl true])) (upd (upd G3 p4 (.lst [.bl true])) p5 (.lst [.str "1"])) := Same.new hp5
    have e45 := s5 _ _ e4
    have e5 : upd (upd G3 p4 (.lst [.bl true])) p5 (.lst [.str "1"]) p5 = some (.lst [.str "1"]) := upd_same
    obtain ⟨G5, eG5⟩ : ∃ G5, G5 = upd (upd G3 p4 (.lst [.bl true])) p5 (.lst [.str "1"]) := ⟨_, rfl⟩
    rw [← eG5] at s5 e45 e5
    refine ⟨(by show 1 ≤ sizeLine; decide), fun p6 hp6 => ?_⟩
    have hp6 : G5 p6 = none := by rw [eG5, eG3, eG2]; exact hp6
    have s6 : Same G5 (upd G5 p6 (.lst [.non])) := Same.new hp6
    have e6 : upd G5 p6 (.lst [.non]) p6 = some (.lst [.non]) := upd_same
    refine ⟨(by show 9 ≤ sizeLine; decide), fun p7 hp7 => ?_⟩
    have hp7 : upd G5 p6 (.lst [.non]) p7 = none := by rw [eG5, eG3, eG2]; exact hp7
    have s7 : Same (upd G5 p6 (.lst [.non])) (upd (upd G5 p6 (.lst [.non])) p7 (.lst [.non, .ref p1, .str "12", .int 5, .ref p2, .ref p3, .ref p4, .ref p5, .ref p6])) := Same.new hp7
    have e7 : upd (upd G5 p6 (.lst [.non])) p7 (.lst [.non, .ref p1, .str "12", .int 5, .ref p2, .ref p3, .ref p4, .ref p5, .ref p6]) p7 = some (.lst [.non, .ref p1, .str "12", .int 5, .ref p2, .ref p3, .ref p4, .ref p5, .ref p6]) := upd_same
    obtain ⟨G7, eG7⟩ : ∃ G7, G7 = upd (upd G5 p6 (.lst [.non])) p7 (.lst [.non, .ref p1, .str "12", .int 5, .ref p2, .ref p3, .ref p4, .ref p5, .ref p6]) := ⟨_, rfl⟩
    rw [← eG7] at s7 e7
    have s37 : Same G3 G7 := ((s4.trans s5).trans s6).trans s7
    have s57 : Same G5 G7 := s6.trans s7
    have sH7 : Same H G7 := t3.trans s37
    have pick : ∃ v, atI [V.non, .ref p1, .str "12", .int 5, .ref p2, .ref p3, .ref p4, .ref p5, .ref p6] (wh % 9) = some v ∧ ((∃ ty, TyOf K G7 v ty ∧ PySem.W.kitOne K ty (.type "list") = some false) ∨ ∃ b y, v = .ref b ∧ G7 b = some (.lst [y]) ∧ BadItem K G7 y) := by
      obtain ⟨j, hj, hjl⟩ := mod_nat wh (n := 9) (by decide)
      have hj : wh % 9 = (j : Int) := hj
      rw [hj]
      match j, hjl with
      | 0, _ => exact ⟨_, rfl, .inl ⟨_, .non, kit_nl⟩⟩
      | 1, _ => exact ⟨_, rfl, .inl ⟨_, .tup (s37 _ _ e13), kit_tl⟩⟩
      | 2, _ => exact ⟨_, rfl, .inl ⟨_, .str _, kit_sl⟩⟩
      | 3, _ => exact ⟨_, rfl, .inl ⟨_, .int _, kit_il⟩⟩
      | 4, _ => exact ⟨_, rfl, .inr ⟨_, _, rfl, s37 _ _ e23, .inr ⟨_, rfl, by omega⟩⟩⟩
      | 5, _ => exact ⟨_, rfl, .inr ⟨_, _, rfl, s37 _ _ e3, .inr ⟨_, rfl, by omega⟩⟩⟩
      | 6, _ => exact ⟨_, rfl, .inr ⟨_, _, rfl, s57 _ _ e45, .inl (no_bl _)⟩⟩
      | 7, _ => exact ⟨_, rfl, .inr ⟨_, _, rfl, s57 _ _ e5, .inl (no_str _)⟩⟩
      | 8, _ => exact ⟨_, rfl, .inr ⟨_, _, rfl, s7 _ _ e6, .inl no_non⟩⟩
      | (j + 9), hjl => exact absurd hjl (by omega)
    obtain ⟨v, hat, hcls⟩ := pick
    have e7' : SqL K (upd (upd G5 p6 (.lst [.non])) p7 (.lst [.non, .ref p1, .str "12", .int 5, .ref p2, .ref p3, .ref p4, .ref p5, .ref p6])) p7 [.non, .ref p1, .str "12", .int 5, .ref p2, .ref p3, .ref p4, .ref p5, .ref p6] := SqL.of upd_same
    rw [eG5, eG3, eG2] at e7'
    refine ⟨_, rfl, _, _, rfl, rfl, (by show (0 : Int) < 9; decide), _, _, _, _, rfl, rfl, e7', hat, ?_⟩
    subst eG7 eG5 eG3 eG2
    rcases hcls with ⟨ty, hT, hk⟩ | ⟨b, y, rfl, hb, hbad⟩
    · refine ⟨_, rfl, _, _, _, _, _, rfl, (fun _ r => r), hT, hk, _, rfl, iteF ?_⟩
      exact fin _ _ _ _ sH7 (.inl ⟨ty, hT, hk⟩)
    · refine ⟨_, rfl, _, _, _, _, _, rfl, (fun _ r => r), .lst hb, kit_ll, _, rfl, iteT ?_⟩
      refine ⟨(by show 1 ≤ sizeLine; decide), fun q1 hq1 => ?_⟩
      obtain ⟨j, hj, hjl⟩ := mod_nat mo (n := 6) (by decide)
      have hj : mo % 6 = (j : Int) := hj
      refine ⟨_, rfl, _, _, rfl, rfl, (by show (0 : Int) < 6; decide), _, _, _, rfl, rfl, upd_same, by omega, by omega, ?_, fun q2 hq2 => ?_⟩
      · rw [hj, Int.toNat_natCast]
        exact Nat.le_of_lt (small1000 (by show 1 * j ≤ 1000; omega))
      · have u1 := Same.new (o := .lst [.int 3]) hq1
        have u2 := Same.new (o := .lst (List.replicate (mo % 6).toNat [V.int 3]).flatten) hq2
        refine ⟨_, rfl, _, _, _, _, rfl, rfl, upd_same, u2 _ _ (u1 _ _ hb), ?_, fun q3 hq3 => ?_⟩
        · rw [flat3, List.length_replicate, hj, Int.toNat_natCast]
          exact Nat.le_of_lt (small1000 (by show j + 1 ≤ 1000; omega))
        · have u3 := Same.new (o := .lst ((List.replicate (mo % 6).toNat [V.int 3]).flatten ++ [y])) hq3
          exact fin _ _ _ _ (((sH7.trans u1).trans u2).trans u3) (.inr ⟨q3, j, y, rfl, by rw [upd_same, flat3, hj, Int.toNat_natCast], hbad.mono ((u1.trans u2).trans u3)⟩)
theorem try_by {C0 : Addr} {i len : Nat} {tb : XK → TS} {ts : TS} {D : Ends} {σ : L2.St} {H : Hp} (G : Addr → Hp → Prop) (hG : ∀ C H', G C H' → EH K C0 i len ts D (.ref C) none H') (hb : ∀ E : XK, (∀ C H', G C H' → E (.ref C) none H') → tb E D σ H) : tTry K C0 i len tb ts D σ H := hb _ hG
noncomputable def dueC (t : Adr) (kind : Nat) : Addr := match kind with
  | 0 => t.C_BadRow
  | 1 => t.C_BadLeast
  | 2 => t.C_BadTotal
  | _ => t.C_BadMany
noncomputable def dueL (kind : Nat) : List V := [.bl (kind == 0), .bl (kind == 1), .bl (kind == 2), .bl (kind == 3), .bl true]
theorem due_facts (T : Txt K mg t) {kind : Nat} (h : kind < 4) : PySem.W.exmOne K (.ref (dueC t kind)) (.ref t.C_StretchError) = some true ∧ ExcCls K (dueC t kind) ∧ PySem.W.kitOne K (.ref (dueC t kind)) (.ref t.C_BadRow) = some (kind == 0) ∧ PySem.W.kitOne K (.ref (dueC t kind)) (.ref t.C_BadLeast) = some (kind == 1) ∧
    PySem.W.kitOne K (.ref (dueC t kind)) (.ref t.C_BadTotal) = some (kind == 2) ∧ PySem.W.kitOne K (.ref (dueC t kind)) (.ref t.C_BadMany) = some (kind == 3) ∧ PySem.W.kitOne K (.ref (dueC t kind)) (.type "ValueError") = some true := by
  match kind, h with
  | 0, _ => exact ⟨T.em_BadRow, T.ec_BadRow, T.ei_BadRow_BadRow, T.ei_BadRow_BadLeast, T.ei_BadRow_BadTotal, T.ei_BadRow_BadMany, T.ev_BadRow⟩
  | 1, _ => exact ⟨T.em_BadLeast, T.ec_BadLeast, T.ei_BadLeast_BadRow, T.ei_BadLeast_BadLeast, T.ei_BadLeast_BadTotal, T.ei_BadLeast_BadMany, T.ev_BadLeast⟩
  | 2, _ => exact ⟨T.em_BadTotal, T.ec_BadTotal, T.ei_BadTotal_BadRow, T.ei_BadTotal_BadLeast, T.ei_BadTotal_BadTotal, T.ei_BadTotal_BadMany, T.ev_BadTotal⟩
  | 3, _ => exact ⟨T.em_BadMany, T.ec_BadMany, T.ei_BadMany_BadRow, T.ei_BadMany_BadLeast, T.ei_BadMany_BadTotal, T.ei_BadMany_BadMany, T.ev_BadMany⟩
theorem six {σ : L2.St} (h : σ.length = 6) : ∃ a b c d e f, σ = [a, b, c, d, e, f] := by
  match σ, h with
  | [a, b, c, d, e, f], _ => exact ⟨a, b, c, d, e, f, rfl⟩
theorem ok56 : OkRow [5, 6] := fun x hx => by
  simp at hx
  omega
theorem BadLeastV.mono {H H' : Hp} {ns : List Int} {v : V} (h : BadLeastV K H ns v) (s : Same H H') : BadLeastV K H' ns v := h.imp (fun z => z.mono s) id
noncomputable def sp__law_told : Sp := fun vs H Q _ => ∃ (kind : Nat) (wh mo : Int), vs = [.int kind, .int wh, .int mo] ∧ kind < 4 ∧ 0 ≤ mo ∧ ∀ l H', Same H H' → H' l = some (.lst (dueL kind)) → Q (.ref l) H'
theorem ok__law_told (T : Txt K mg t) : OkFn P w K mg base 6 t.f__law_told ["_law_kind", "_law_which", "_law_more"] sp__law_told := by
  refine okfn T.fn__law_told sc__law_told (fun vs H Q E h => ?_) (fun cdv A outer s H vs Q E hr h => ?_)
  · obtain ⟨kind, wh, mo, rfl, _⟩ := h
    rfl
  · obtain ⟨kind, wh, mo, rfl, hk, hmo, k⟩ := h
    obtain ⟨f0, f1, f2, f3, f4, f5, f6⟩ := due_facts T hk
    refine ⟨_, (@pss_cons _ _ _ _ _ (ps_try (i := 4) rfl rfl rfl sc__law_told.nd rfl rfl T.mg_StretchError (fun E pn xe hx => (@pss_one _ _ _ (@ps_if _ _ _ _ _ _ _ _ (pt_cmpR op_eq (pv 0) pe_int (nomark _)) (@pss_one _ _ _ (@ps_expr _ _ _ _ (@pe_callX _ _ _ _ _ _ _ _ _ _ _ _ (okx__law_rows_asked T) hx (hr.mono (by decide)) T.mg__law_rows_asked T.fn__law_rows_asked.kp (@pa_con _ _ _ _ _ rfl (pv 1) (@pa_con _ _ _ _ _ rfl (pv 2) pa_nil)) rfl (by decide) (star_c rfl) rfl) rfl)) (@pss_one _ _ _ (@ps_if _ _ _ _ _ _ _ _ (PW.pt (pw_and (pt_cmpR op_eq (pv 0) pe_int (nomark _)) (pw_and1 (pt_cmpR op_eq (@pe_op _ _ _ _ _ _ _ _ op_mod (pv 1) pe_int) pe_int (nomark _))))) (@pss_one _ _ _ (@ps_expr _ _ _ _ (@pe_callX _ _ _ _ _ _ _ _ _ _ _ _ (okx_around T) hx (hr.mono (by decide)) T.mg_around T.fn_around.kp (@pa_con _ _ _ _ _ rfl (@pe_lst _ _ _ _ pa_nil) pa_nil) rfl (by decide) (star_c rfl) rfl) rfl)) (@pss_one _ _ _ (@ps_if _ _ _ _ _ _ _ _ (pt_cmpR op_eq (pv 0) pe_int (nomark _)) (@pss_cons _ _ _ _ _ (@ps_set _ _ 3 _ _ _ _ sc__law_told.nd rfl (Or.inl rfl) (@pe_ix _ _ _ _ _ _ _ (ix_listK (K := K) rfl) (@pe_lst _ _ _ _ (@pa_con _ _ _ _ _ rfl pe_non (@pa_con _ _ _ _ _ rfl pe_str (@pa_con _ _ _ _ _ rfl pe_bl (@pa_con _ _ _ _ _ rfl (@pe_lst _ _ _ _ (@pa_con _ _ _ _ _ rfl pe_int pa_nil)) (@pa_con _ _ _ _ _ rfl pe_int (@pa_con _ _ _ _ _ rfl (@pe_op _ _ _ _ _ _ _ _ op_sub (pe_un un_neg pe_int) (pv 2)) (@pa_con _ _ _ _ _ rfl (@pe_op _ _ _ _ _ _ _ _ op_add pe_int (pv 2)) (@pa_con _ _ _ _ _ rfl (@pe_tup _ _ _ _ _ (@pa_con _ _ _ _ _ rfl pe_int pa_nil)) pa_nil))))))))) (@pe_op _ _ _ _ _ _ _ _ op_mod (@pe_op _ _ _ _ _ _ _ _ op_fdiv (pv 1) pe_int) pe_int) (fun _ _ => rfl)) rfl (Or.inl rfl)) (@pss_one _ _ _ (@ps_expr _ _ _ _ (@pe_callAK _ P w K mg base _ _ _ _ _ _ _ _ _ rfl rfl rfl rfl rfl 5 (@pe_ix _ _ _ _ _ _ _ (ix_listK (K := K) rfl) (@pe_lst _ _ _ _ (@pa_con _ _ _ _ _ rfl (pe_glob (v := .ref t.f_best) rfl T.mg_best rfl) (@pa_con _ _ _ _ _ rfl (pe_glob (v := .ref t.f_steepest) rfl T.mg_steepest rfl) pa_nil))) (@pe_op _ _ _ _ _ _ _ _ op_sub (@pe_op _ _ _ _ _ _ _ _ op_mod (pv 1) pe_int) pe_int) (fun _ _ => rfl)) hx (hr.mono (by decide)) (@pa_con _ _ _ _ _ rfl (@pe_lst _ _ _ _ (@pa_con _ _ _ _ _ rfl pe_int (@pa_con _ _ _ _ _ rfl pe_int pa_nil))) (@pa_con _ _ _ _ _ rfl (pv 3) pa_nil)) (star_c rfl) rfl) rfl))) (@pss_one _ _ _ (@ps_if _ _ _ _ _ _ _ _ (pt_cmpR op_eq (pv 0) pe_int (nomark _)) (@pss_one _ _ _ (@ps_expr _ _ _ _ (@pe_callAK _ P w K mg base _ _ _ _ _ _ _ _ _ rfl rfl rfl rfl rfl 5 (@pe_ix _ _ _ _ _ _ _ (ix_listK (K := K) rfl) (@pe_lst _ _ _ _ (@pa_con _ _ _ _ _ rfl (pe_glob (v := .ref t.f_exact) rfl T.mg_exact rfl) (@pa_con _ _ _ _ _ rfl (pe_glob (v := .ref t.f_how_many) rfl T.mg_how_many rfl) pa_nil))) (@pe_op _ _ _ _ _ _ _ _ op_mod (pv 1) pe_int) (fun _ _ => rfl)) hx (hr.mono (by decide)) (@pa_con _ _ _ _ _ rfl (@pe_lst _ _ _ _ (@pa_con _ _ _ _ _ rfl pe_int (@pa_con _ _ _ _ _ rfl pe_int pa_nil))) (@pa_con _ _ _ _ _ rfl (@pe_ix _ _ _ _ _ _ _ (ix_listK (K := K) rfl) (@pe_lst _ _ _ _ (@pa_con _ _ _ _ _ rfl pe_non (@pa_con _ _ _ _ _ rfl pe_str (@pa_con _ _ _ _ _ rfl pe_bl (@pa_con _ _ _ _ _ rfl (@pe_lst _ _ _ _ (@pa_con _ _ _ _ _ rfl pe_int pa_nil)) (@pa_con _ _ _ _ _ rfl (@pe_tup _ _ _ _ _ (@pa_con _ _ _ _ _ rfl pe_int pa_nil)) (@pa_con _ _ _ _ _ rfl pe_dnewK pa_nil))))))) (@pe_op _ _ _ _ _ _ _ _ op_mod (@pe_op _ _ _ _ _ _ _ _ op_fdiv (pv 1) pe_int) pe_int) (fun _ _ => rfl)) pa_nil)) (star_c rfl) rfl) rfl)) (@pss_one _ _ _ (@ps_expr _ _ _ _ (@pe_callX _ _ _ _ _ _ _ _ _ _ _ _ (okx_several T) hx (hr.mono (by decide)) T.mg_several T.fn_several.kp (@pa_con _ _ _ _ _ rfl (@pe_lst _ _ _ _ (@pa_con _ _ _ _ _ rfl pe_int (@pa_con _ _ _ _ _ rfl pe_int pa_nil))) (@pa_con _ _ _ _ _ rfl (@pe_ix _ _ _ _ _ _ _ (ix_listK (K := K) rfl) (@pe_lst _ _ _ _ (@pa_con _ _ _ _ _ rfl pe_non (@pa_con _ _ _ _ _ rfl pe_str (@pa_con _ _ _ _ _ rfl pe_bl (@pa_con _ _ _ _ _ rfl (@pe_lst _ _ _ _ (@pa_con _ _ _ _ _ rfl pe_int pa_nil)) (@pa_con _ _ _ _ _ rfl (@pe_tup _ _ _ _ _ (@pa_con _ _ _ _ _ rfl pe_int pa_nil)) (@pa_con _ _ _ _ _ rfl (pe_un un_neg pe_int) (@pa_con _ _ _ _ _ rfl (@pe_op _ _ _ _ _ _ _ _ op_sub (pe_un un_neg pe_int) (pv 2)) pa_nil)))))))) (@pe_op _ _ _ _ _ _ _ _ op_mod (pv 1) pe_int) (fun _ _ => rfl)) pa_nil)) rfl (by decide) (star_c rfl) rfl) rfl))))))))))) (fun pn e => (@pss_cons _ _ _ _ _ (@ps_set _ _ 5 _ _ _ _ sc__law_told.nd rfl (Or.inl rfl) (@pe_lst _ _ _ _ (@pa_con _ _ _ _ _ rfl (pe_callB (call_isinstEK (K := K) rfl) rfl T.b_isinstance boot_isinstance (@pa_con _ _ _ _ _ rfl (pv 4) (@pa_con _ _ _ _ _ rfl (pe_glob (v := .ref t.C_BadRow) rfl T.mg_BadRow rfl) pa_nil))) (@pa_con _ _ _ _ _ rfl (pe_callB (call_isinstEK (K := K) rfl) rfl T.b_isinstance boot_isinstance (@pa_con _ _ _ _ _ rfl (pv 4) (@pa_con _ _ _ _ _ rfl (pe_glob (v := .ref t.C_BadLeast) rfl T.mg_BadLeast rfl) pa_nil))) (@pa_con _ _ _ _ _ rfl (pe_callB (call_isinstEK (K := K) rfl) rfl T.b_isinstance boot_isinstance (@pa_con _ _ _ _ _ rfl (pv 4) (@pa_con _ _ _ _ _ rfl (pe_glob (v := .ref t.C_BadTotal) rfl T.mg_BadTotal rfl) pa_nil))) pa_nil)))) rfl (Or.inl rfl)) (@pss_one _ _ _ (@ps_ret _ _ _ _ (@pe_op _ _ _ _ _ _ _ _ op_cat (pv 5) (@pe_lst _ _ _ _ (@pa_con _ _ _ _ _ rfl (pe_callB (call_isinstEK (K := K) rfl) rfl T.b_isinstance boot_isinstance (@pa_con _ _ _ _ _ rfl (pv 4) (@pa_con _ _ _ _ _ rfl (pe_glob (v := .ref t.C_BadMany) rfl T.mg_BadMany rfl) pa_nil))) (@pa_con _ _ _ _ _ rfl (pe_callB (call_isinstEK (K := K) rfl) rfl T.b_isinstance boot_isinstance (@pa_con _ _ _ _ _ rfl (pv 4) (@pa_con _ _ _ _ _ rfl (pe_bltn (v := .ty "ValueError") rfl T.b_ValueError PyProof.Rows.Boot.«ValueError» rfl) pa_nil))) pa_nil))))))))) (@pss_one _ _ _ (@ps_ret _ _ _ _ (@pe_lst _ _ _ _ pa_nil)))), ?_⟩
    refine try_by (fun C H' => C = dueC t kind ∧ Same H H') ?_ ?_
    · rintro C H' ⟨rfl, sH⟩
      refine ⟨_, rfl, f0, fun e σ' hl hn => ?_⟩
      obtain ⟨a0, a1, a2, a3, a4, a5, rfl⟩ := six hl
      have s1 : Same H' (upd H' e (.ext (ExcAt e (dueC t kind)))) := Same.new hn
      have e1 : upd H' e (.ext (ExcAt e (dueC t kind))) e = some (.ext (ExcAt e (dueC t kind))) := upd_same
      refine ⟨_, rfl, _, _, _, _, _, rfl, e1, f1, (fun _ r => r), f2, _, rfl, _, _, _, _, _, rfl, e1, f1, (fun _ r => r), f3, _, rfl, _, _, _, _, _, rfl, e1, f1, (fun _ r => r), f4, (by show 3 ≤ sizeLine; decide), fun p hp => ?_⟩
      have s2 : Same (upd H' e (.ext (ExcAt e (dueC t kind)))) (upd (upd H' e (.ext (ExcAt e (dueC t kind)))) p (.lst [.bl (kind == 0), .bl (kind == 1), .bl (kind == 2)])) := Same.new hp
      have e2 := s2 _ _ e1
      refine ⟨_, rfl, _, rfl, _, _, _, _, _, rfl, e2, f1, (fun _ r => r), f5, _, rfl, _, _, _, _, _, rfl, e2, f1, (fun _ r => r), f6, (by show 2 ≤ sizeLine; decide), fun p2 hp2 => ?_⟩
      have s3 := Same.new (o := .lst [.bl (kind == 3), .bl true]) hp2
      refine ⟨_, _, _, _, rfl, rfl, s3 _ _ upd_same, upd_same, (by show 5 ≤ sizeLine; decide), fun p3 hp3 => ?_⟩
      exact k p3 _ ((((sH.trans s1).trans s2).trans s3).trans (Same.new hp3)) upd_same
    · intro E hE
      have ex : ∀ H', Same H H' → E (.ref (dueC t kind)) none H' := fun H' s => hE _ H' ⟨rfl, s⟩
      clear k hE f0 f1 f2 f3 f4 f5 f6
      match kind, hk with
      | 0, _ =>
        refine ⟨_, rfl, rfl, _, rfl, iteP (by simp) ?_⟩
        exact ⟨_, rfl, _, rfl, wh, mo, rfl, hmo, ex⟩
      | 1, _ =>
        refine ⟨_, rfl, rfl, _, rfl, iteQ (by simp) ?_⟩
        refine ⟨_, rfl, rfl, _, rfl, iteP (by simp) ?_⟩
        refine ⟨_, rfl, _, _, rfl, rfl, (by show (0 : Int) < 3; decide), rfl, _, rfl, ?_⟩
        refine ite2 (fun c => ?_) (fun c => ?_)
        · refine ⟨(by show 0 ≤ sizeLine; decide), fun p hp => ?_⟩
          exact .inr ⟨p, rfl, upd_same, ex _ (Same.new hp)⟩
        · have c : ¬ wh % 3 = 0 := by simpa using c
          refine ⟨_, rfl, rfl, _, rfl, iteP (by simp) ?_⟩
          refine ⟨(by show 1 ≤ sizeLine; decide), fun p1 hp1 => ?_⟩
          have s1 : Same H (upd H p1 (.lst [.int 1])) := Same.new hp1
          have e1 : upd H p1 (.lst [.int 1]) p1 = some (.lst [.int 1]) := upd_same
          refine ⟨_, rfl, _, rfl, _, _, rfl, rfl, _, rfl, _, _, rfl, rfl, (by show 1 ≤ sizeLine; decide), fun p2 hp2 => ?_⟩
          have s2 : Same (upd H p1 (.lst [.int 1])) (upd (upd H p1 (.lst [.int 1])) p2 (.tup [.int 1])) := Same.new hp2
          have e2 : upd (upd H p1 (.lst [.int 1])) p2 (.tup [.int 1]) p2 = some (.tup [.int 1]) := upd_same
          refine ⟨(by show 8 ≤ sizeLine; decide), fun p3 hp3 => ?_⟩
          have s3 := Same.new (o := .lst [.non, .str "1", .bl true, .ref p1, .int 0, .int (-1 - mo), .int (3 + mo), .ref p2]) hp3
          have pick : ∃ v, atI [V.non, .str "1", .bl true, .ref p1, .int 0, .int (-1 - mo), .int (3 + mo), .ref p2] (wh / 3 % 8) = some v ∧ BadLeastV K (upd (upd (upd H p1 (.lst [.int 1])) p2 (.tup [.int 1])) p3 (.lst [.non, .str "1", .bl true, .ref p1, .int 0, .int (-1 - mo), .int (3 + mo), .ref p2])) [5, 6] v := by
            obtain ⟨j, hj, hjl⟩ := mod_nat (wh / 3) (n := 8) (by decide)
            have hj : wh / 3 % 8 = (j : Int) := hj
            rw [hj]
            match j, hjl with
            | 0, _ => exact ⟨_, rfl, .inl no_non⟩
            | 1, _ => exact ⟨_, rfl, .inl (no_str _)⟩
            | 2, _ => exact ⟨_, rfl, .inl (no_bl _)⟩
            | 3, _ => exact ⟨_, rfl, .inl (no_lst (s3 _ _ (s2 _ _ e1)))⟩
            | 4, _ => exact ⟨_, rfl, .inr ⟨_, rfl, .inl (by decide)⟩⟩
            | 5, _ => exact ⟨_, rfl, .inr ⟨_, rfl, .inl (by omega)⟩⟩
            | 6, _ => exact ⟨_, rfl, .inr ⟨_, rfl, .inr (by show (2 : Int) < 3 + mo; omega)⟩⟩
            | 7, _ => exact ⟨_, rfl, .inl (no_tup (s3 _ _ e2))⟩
            | (j + 8), hjl => exact absurd hjl (by omega)
          obtain ⟨v, hat, hbad⟩ := pick
          obtain ⟨f, ps, sp, hat2, hkp, hokx, hsp⟩ : ∃ f ps sp, atI [V.ref t.f_best, .ref t.f_steepest] (wh % 3 - 1) = some (.ref f) ∧ PySem.W.keepIn K (.ref f) = true ∧ OkFnX P w K mg base 5 f ps sp ∧
              ∀ a u H' Q E, H' a = some (.lst (iL [5, 6])) → BadLeastV K H' [5, 6] u → E (.ref t.C_BadLeast) none H' → sp [.ref a, u] H' Q E := by
            obtain ⟨j, hj, hjl⟩ := mod_nat wh (n := 3) (by decide)
            have hj : wh % 3 = (j : Int) := hj
            rw [hj] at c ⊢
            match j, hjl, c with
            | 0, _, c => exact absurd rfl c
            | 1, _, _ => exact ⟨t.f_best, _, _, rfl, T.fn_best.kp, (okx_best T).mono (by decide), fun a u H' Q E h1 h2 h3 => .inr ⟨a, [5, 6], u, rfl, h1, ok56, h2, h3⟩⟩
            | 2, _, _ => exact ⟨t.f_steepest, _, _, rfl, T.fn_steepest.kp, (okx_steepest T).mono (by decide), fun a u H' Q E h1 h2 h3 => .inr ⟨a, [5, 6], u, rfl, h1, ok56, h2, h3⟩⟩
            | (j + 3), hjl, _ => exact absurd hjl (by omega)
          refine ⟨_, rfl, _, _, rfl, rfl, ⟨by decide, by decide⟩, _, _, rfl, rfl, (by show (0 : Int) < 8; decide), _, _, _, _, rfl, rfl, SqL.of upd_same, hat, ?_⟩
          refine ⟨(by show 2 ≤ sizeLine; decide), fun q hq => ?_⟩
          have s4 := Same.new (o := .lst [.ref t.f_best, .ref t.f_steepest]) hq
          refine ⟨_, rfl, _, _, rfl, rfl, (by show (0 : Int) < 3; decide), _, _, rfl, rfl, _, _, _, _, rfl, rfl, SqL.of upd_same, hat2, f, ps, sp, rfl, hkp, hokx, (by show 2 ≤ sizeLine; decide), fun q2 hq2 => ?_⟩
          have s5 := Same.new (o := .lst (iL [5, 6])) hq2
          exact ⟨_, rfl, hsp q2 v _ _ _ upd_same ((hbad.mono s4).mono s5) (ex _ ((((s1.trans s2).trans s3).trans s4).trans s5))⟩
      | 2, _ =>
        refine ⟨_, rfl, rfl, _, rfl, iteQ (by simp) ?_⟩
        refine ⟨_, rfl, rfl, _, rfl, iteQ (by simp) ?_⟩
        refine ⟨_, rfl, rfl, _, rfl, iteQ (by simp) ?_⟩
        refine ⟨_, rfl, rfl, _, rfl, iteP (by simp) ?_⟩
        obtain ⟨f, ps, sp, hat2, hkp, hokx, hsp⟩ : ∃ f ps sp, atI [V.ref t.f_exact, .ref t.f_how_many] (wh % 2) = some (.ref f) ∧ PySem.W.keepIn K (.ref f) = true ∧ OkFnX P w K mg base 5 f ps sp ∧
            ∀ a u H' Q E, H' a = some (.lst (iL [5, 6])) → NoWhole K H' u → E (.ref t.C_BadTotal) none H' → sp [.ref a, u] H' Q E := by
          obtain ⟨j, hj, hjl⟩ := mod_nat wh (n := 2) (by decide)
          have hj : wh % 2 = (j : Int) := hj
          rw [hj]
          match j, hjl with
          | 0, _ => exact ⟨t.f_exact, _, _, rfl, T.fn_exact.kp, (okx_exact T).mono (by decide), fun a u H' Q E h1 h2 h3 => .inr ⟨a, [5, 6], u, rfl, h1, ok56, h2, h3⟩⟩
          | 1, _ => exact ⟨t.f_how_many, _, _, rfl, T.fn_how_many.kp, (okx_how_many T).mono (by decide), fun a u H' Q E h1 h2 h3 => .inr ⟨a, [5, 6], u, rfl, h1, ok56, h2, h3⟩⟩
          | (j + 2), hjl => exact absurd hjl (by omega)
        refine ⟨(by show 2 ≤ sizeLine; decide), fun q hq => ?_⟩
        have s1 := Same.new (o := .lst [.ref t.f_exact, .ref t.f_how_many]) hq
        refine ⟨_, rfl, _, _, rfl, rfl, (by show (0 : Int) < 2; decide), _, _, _, _, rfl, rfl, SqL.of upd_same, hat2, f, ps, sp, rfl, hkp, hokx, (by show 2 ≤ sizeLine; decide), fun q2 hq2 => ?_⟩
        have s2 := Same.new (o := .lst (iL [5, 6])) hq2
        refine ⟨(by show 1 ≤ sizeLine; decide), fun p1 hp1 => ?_⟩
        have s3 := Same.new (o := .lst [.int 1]) hp1
        refine ⟨(by show 1 ≤ sizeLine; decide), fun p2 hp2 => ?_⟩
        have s4 := Same.new (o := .tup [.int 1]) hp2
        intro d hd
        have s5 := Same.new (o := .dK []) hd
        refine ⟨(by show 6 ≤ sizeLine; decide), fun p3 hp3 => ?_⟩
        have s6 := Same.new (o := .lst [.non, .str "1", .bl true, .ref p1, .ref p2, .ref d]) hp3
        have sA := (((s1.trans s2).trans s3).trans s4).trans s5
        obtain ⟨v, hat, hbad⟩ : ∃ v, atI [V.non, .str "1", .bl true, .ref p1, .ref p2, .ref d] (wh / 2 % 6) = some v ∧ NoWhole K _ v := by
          obtain ⟨j, hj, hjl⟩ := mod_nat (wh / 2) (n := 6) (by decide)
          have hj : wh / 2 % 6 = (j : Int) := hj
          rw [hj]
          match j, hjl with
          | 0, _ => exact ⟨_, rfl, no_non⟩
          | 1, _ => exact ⟨_, rfl, no_str _⟩
          | 2, _ => exact ⟨_, rfl, no_bl _⟩
          | 3, _ => exact ⟨_, rfl, no_lst (s6 _ _ (s5 _ _ (s4 _ _ upd_same)))⟩
          | 4, _ => exact ⟨_, rfl, no_tup (s6 _ _ (s5 _ _ upd_same))⟩
          | 5, _ => exact ⟨_, rfl, no_dict (s6 _ _ upd_same)⟩
          | (j + 6), hjl => exact absurd hjl (by omega)
        refine ⟨_, rfl, _, _, rfl, rfl, ⟨by decide, by decide⟩, _, _, rfl, rfl, (by show (0 : Int) < 6; decide), _, _, _, _, rfl, rfl, SqL.of upd_same, hat, ?_⟩
        exact hsp q2 v _ _ _ (s6 _ _ (s5 _ _ (s4 _ _ (s3 _ _ upd_same)))) hbad (ex _ (sA.trans s6))
      | 3, _ =>
        refine ⟨_, rfl, rfl, _, rfl, iteQ (by simp) ?_⟩
        refine ⟨_, rfl, rfl, _, rfl, iteQ (by simp) ?_⟩
        refine ⟨_, rfl, rfl, _, rfl, iteQ (by simp) ?_⟩
        refine ⟨_, rfl, rfl, _, rfl, iteQ (by simp) ?_⟩
        refine ⟨(by show 2 ≤ sizeLine; decide), fun q2 hq2 => ?_⟩
        have s2 := Same.new (o := .lst (iL [5, 6])) hq2
        refine ⟨(by show 1 ≤ sizeLine; decide), fun p1 hp1 => ?_⟩
        have s3 := Same.new (o := .lst [.int 1]) hp1
        refine ⟨(by show 1 ≤ sizeLine; decide), fun p2 hp2 => ?_⟩
        have s4 := Same.new (o := .tup [.int 1]) hp2
        refine ⟨_, rfl, _, rfl, _, rfl, _, _, rfl, rfl, (by show 7 ≤ sizeLine; decide), fun p3 hp3 => ?_⟩
        have s6 := Same.new (o := .lst [.non, .str "1", .bl true, .ref p1, .ref p2, .int (-1), .int (-1 - mo)]) hp3
        have sA := (s2.trans s3).trans s4
        obtain ⟨v, hat, hbad⟩ : ∃ v, atI [V.non, .str "1", .bl true, .ref p1, .ref p2, .int (-1), .int (-1 - mo)] (wh % 7) = some v ∧ BadManyV K _ v := by
          obtain ⟨j, hj, hjl⟩ := mod_nat wh (n := 7) (by decide)
          have hj : wh % 7 = (j : Int) := hj
          rw [hj]
          match j, hjl with
          | 0, _ => exact ⟨_, rfl, .inl no_non⟩
          | 1, _ => exact ⟨_, rfl, .inl (no_str _)⟩
          | 2, _ => exact ⟨_, rfl, .inl (no_bl _)⟩
          | 3, _ => exact ⟨_, rfl, .inl (no_lst (s6 _ _ (s4 _ _ upd_same)))⟩
          | 4, _ => exact ⟨_, rfl, .inl (no_tup (s6 _ _ upd_same))⟩
          | 5, _ => exact ⟨_, rfl, .inr ⟨_, rfl, by decide⟩⟩
          | 6, _ => exact ⟨_, rfl, .inr ⟨_, rfl, by omega⟩⟩
          | (j + 7), hjl => exact absurd hjl (by omega)
        refine ⟨_, rfl, _, _, rfl, rfl, (by show (0 : Int) < 7; decide), _, _, _, _, rfl, rfl, SqL.of upd_same, hat, ?_⟩
        exact .inr ⟨q2, [5, 6], v, rfl, s6 _ _ (s4 _ _ (s3 _ _ upd_same)), ok56, hbad, ex _ (sA.trans s6)⟩
end
end Pr

set_option Elab.async false
set_option linter.all false
set_option maxRecDepth 100000
set_option maxHeartbeats 4000000
namespace Pr
open PySem PySem.Spec PyProof.Rows L2 BS
section
variable {P : Program} {w : World} {K : PySem.W.Frag} {mg : Str → Option Value} {base : Heap} {t : Adr}
theorem eqv5 (a b c d e : Bool) : PyData.eqv (.list [.bool a, .bool b, .bool c, .bool d, .bool e]) (.list [.bool a, .bool b, .bool c, .bool d, .bool e]) = true := by
  simp [PyData.eqv, PyData.eqvAll]
theorem due_list {c : Int} {j : Nat} (hj : c % 4 = (j : Int)) (hl : j < 4) : [V.bl (decide (V.int (c % 4) = V.int 0)), .bl (decide (V.int (c % 4) = V.int 1)), .bl (decide (V.int (c % 4) = V.int 2)), .bl (decide (V.int (c % 4) = V.int 3)), .bl true] = dueL j := by
  rw [hj]
  match j, hl with
  | 0, _ => simp [dueL]
  | 1, _ => simp [dueL]
  | 2, _ => simp [dueL]
  | 3, _ => simp [dueL]
theorem due_dv {H : Hp} {a : Addr} {j : Nat} (h : H a = some (.lst (dueL j))) : DV K H (.ref a) (.list [.bool (j == 0), .bool (j == 1), .bool (j == 2), .bool (j == 3), .bool true]) :=
  .lst (SqL.of h) (.cons (.bl _) (.cons (.bl _) (.cons (.bl _) (.cons (.bl _) (.cons (.bl _) .nil)))))
theorem ok_nil : OkRow [] := fun x hx => by simp at hx
theorem many11 : many [1, 1] ((10 : Int) ^ (30 : Int).toNat) = 0 := by decide
theorem ok_law {fd : FuncData} (T : Txt K mg t) (F : Fun K "law" "law" s_law t.f_law fd) : FnOk P w K mg base CX0 7 t.f_law fd ["_law_script"] (sp_law K) := by
  refine F.ok sc_law (fun vs H Q E h => ?_) (fun cdv A outer s H vs Q E hr h => ?_)
  · obtain ⟨a, ns, rfl, _⟩ := h
    rfl
  · obtain ⟨a, ns, rfl, hS, hlen, k⟩ := h
    have hu := hu_of hr
    have hu64 := hr.units
    refine ⟨_, (@pss_cons _ _ _ _ _ (ps_for PassesOwn.never rfl (pi_list (pv 0)) (pg_name (i := 1) sc_law.nd rfl (Or.inl rfl)) (@pss_cons _ _ _ _ _ (@ps_set _ _ 2 _ _ _ _ sc_law.nd rfl (Or.inl rfl) (@pe_op _ _ _ _ _ _ _ _ op_mod (pv 1) pe_int) rfl (Or.inl rfl)) (@pss_cons _ _ _ _ _ (@ps_set _ _ 3 _ _ _ _ sc_law.nd rfl (Or.inl rfl) (@pe_lst _ _ _ _ (@pa_con _ _ _ _ _ rfl (pe_cmpR op_eq (pv 2) pe_int (nomark _)) (@pa_con _ _ _ _ _ rfl (pe_cmpR op_eq (pv 2) pe_int (nomark _)) (@pa_con _ _ _ _ _ rfl (pe_cmpR op_eq (pv 2) pe_int (nomark _)) (@pa_con _ _ _ _ _ rfl (pe_cmpR op_eq (pv 2) pe_int (nomark _)) (@pa_con _ _ _ _ _ rfl pe_bl pa_nil)))))) rfl (Or.inl rfl)) (@pss_one _ _ _ (@ps_if _ _ _ _ _ _ _ _ (pt_cmpR (op_neD hu64) (pe_callO (ok__law_told T) (hr.mono (by decide)) T.mg__law_told T.fn__law_told.kp (@pa_con _ _ _ _ _ rfl (pv 2) (@pa_con _ _ _ _ _ rfl (@pe_op _ _ _ _ _ _ _ _ op_mod (@pe_op _ _ _ _ _ _ _ _ op_fdiv (pv 1) pe_int) pe_int) (@pa_con _ _ _ _ _ rfl (@pe_op _ _ _ _ _ _ _ _ op_mod (@pe_op _ _ _ _ _ _ _ _ op_fdiv (pv 1) pe_int) pe_int) pa_nil)))) (pv 3) (nomark _)) (@pss_one _ _ _ (@ps_ret _ _ _ _ pe_bl)) pss_nil))))) (@pss_cons _ _ _ _ _ (@ps_if _ _ _ _ _ _ _ _ (PW.pt (pw_or (pt_cmpR (op_neL hu64) (pe_callO (ok_sums T) (hr.mono (by decide)) T.mg_sums T.fn_sums.kp (@pa_con _ _ _ _ _ rfl (@pe_lst _ _ _ _ pa_nil) pa_nil)) (@pe_lst _ _ _ _ (@pa_con _ _ _ _ _ rfl pe_int pa_nil)) (nomark _)) (pw_or (pt_cmpR op_neS (pe_callO (ok_how_many T) (hr.mono (by decide)) T.mg_how_many T.fn_how_many.kp (@pa_con _ _ _ _ _ rfl (@pe_lst _ _ _ _ pa_nil) (@pa_con _ _ _ _ _ rfl pe_int pa_nil))) pe_int (nomark _)) (pw_or1 (pt_cmpR op_neS (pe_fld (pe_callO (ok_best T) (hr.mono (by decide)) T.mg_best T.fn_best.kp (@pa_con _ _ _ _ _ rfl (@pe_lst _ _ _ _ (@pa_con _ _ _ _ _ rfl pe_int (@pa_con _ _ _ _ _ rfl (pe_un un_neg pe_int) pa_nil))) (@pa_con _ _ _ _ _ rfl pe_int pa_nil))) rfl) pe_int (nomark _)))))) (@pss_one _ _ _ (@ps_ret _ _ _ _ pe_bl)) pss_nil) (@pss_one _ _ _ (@ps_ret _ _ _ _ (pe_and (pe_callB call_isinst rfl T.b_isinstance boot_isinstance (@pa_con _ _ _ _ _ rfl (pe_callO (ok_exact T) (hr.mono (by decide)) T.mg_exact T.fn_exact.kp (@pa_con _ _ _ _ _ rfl (@pe_lst _ _ _ _ (@pa_con _ _ _ _ _ rfl pe_int (@pa_con _ _ _ _ _ rfl pe_int pa_nil))) (@pa_con _ _ _ _ _ rfl (@pe_op _ _ _ _ _ _ _ _ op_pow pe_int pe_int) pa_nil))) (@pa_con _ _ _ _ _ rfl (pe_glob (v := .ref t.C_Never) rfl T.mg_Never rfl) pa_nil))) (pe_one (pe_cmpR op_eq (pe_fld (pe_callO (ok_around T) (hr.mono (by decide)) T.mg_around T.fn_around.kp (@pa_con _ _ _ _ _ rfl (@pe_lst _ _ _ _ (@pa_con _ _ _ _ _ rfl (pe_un un_neg pe_int) pa_nil)) pa_nil)) rfl) pe_int (nomark _)))))))), ?_⟩
    refine ⟨_, rfl, a, rfl, ⟨_, hS⟩, for_list (K := K) (a := a) (xs := iL ns) (fun i σ H2 => ∃ v1 v2 v3, σ = [some (.ref a), v1, v2, v3] ∧ Same H H2) ⟨none, none, none, rfl, Same.refl _⟩ (fun i σ H2 _ ⟨_, _, _, _, s2⟩ => s2.seq hS) ?_ ?_⟩
    · rintro i x σ H2 hi ⟨v1, v2, v3, rfl, s2⟩
      obtain ⟨c, rfl, _⟩ := ints_get hi
      obtain ⟨j, hj, hjl⟩ := mod_nat c (n := 4) (by decide)
      have hj : c % 4 = (j : Int) := hj
      refine ⟨_, rfl, _, _, rfl, rfl, (by show (0 : Int) < 4; decide), ?_⟩
      refine ⟨_, rfl, rfl, _, rfl, rfl, _, rfl, rfl, _, rfl, rfl, (by show 5 ≤ sizeLine; decide), fun p hp => ?_⟩
      refine ⟨_, rfl, _, rfl, _, _, rfl, rfl, ⟨by decide, by decide⟩, _, _, rfl, rfl, (by show (0 : Int) < 100000; decide), _, rfl, _, _, rfl, rfl, ⟨by decide, by decide⟩, _, _, rfl, rfl, (by show (0 : Int) < 1000; decide), ?_⟩
      refine ⟨j, c / 4 % 100000, c / 400000 % 1000, by show [V.int (c % 4), V.int (c / 4 % 100000), V.int (c / 400000 % 1000)] = _; rw [hj], hjl, Int.emod_nonneg _ (by decide), fun l H3 s3 h3 => ?_⟩
      have e3 : H3 p = some (.lst (dueL j)) := by
        rw [← due_list hj hjl]
        exact s3 _ _ upd_same
      refine ⟨_, rfl, _, _, due_dv h3, due_dv e3, rfl, rfl, _, rfl, ?_⟩
      rw [eqv5]
      refine iteF ?_
      exact ⟨_, _, _, rfl, (s2.trans (Same.new hp)).trans s3⟩
    · rintro σ H2 ⟨v1, v2, v3, rfl, s2⟩
      refine ⟨(by show 0 ≤ sizeLine; decide), fun p1 hp1 => ?_⟩
      refine ⟨p1, [], rfl, upd_same, ok_nil, by decide, fun l H3 hl s3 h3 => ?_⟩
      refine ⟨(by show 1 ≤ sizeLine; decide), fun p2 hp2 => ?_⟩
      refine ⟨_, _, sumsZ [], [0], rfl, rfl, SqL.of (Same.new hp2 _ _ h3), SqL.of upd_same, _, rfl, iteNS (by decide) ?_⟩
      refine ⟨(by show 0 ≤ sizeLine; decide), fun p3 hp3 => ?_⟩
      refine ⟨p3, [], 0, rfl, upd_same, ok_nil, by decide, fun H4 s4 => ?_⟩
      refine ⟨rfl, _, rfl, iteNS (by decide) ?_⟩
      refine ⟨_, rfl, (by show 2 ≤ sizeLine; decide), fun p4 hp4 => ?_⟩
      refine ⟨p4, [1000000, -1000000], 2, rfl, upd_same, fun x hx => by simp at hx; omega, by decide, by decide, by decide, fun f m ls hb x dx y H5 nx ny s5 hx hy => ?_⟩
      have hm : m = 2 := by
        have h1 := hb.f0
        have h2 := hb.lm
        have h3 := hb.fm
        simp at h3
        omega
      refine ⟨x, _, dx, _, _, rfl, hx, T.cl_Best, T.no_Best_many, fl_Best_many _ _ _, rfl, _, rfl, iteNS (by rw [hm]) ?_⟩
      refine ⟨(by show 2 ≤ sizeLine; decide), fun p5 hp5 => ?_⟩
      refine ⟨_, _, rfl, rfl, ⟨by decide, by decide, by decide⟩, p5, [1, 1], _, rfl, upd_same, fun x hx => by simp at hx; omega, by decide, fun x2 H6 e nx2 s6 hans => ?_⟩
      rcases hans with ⟨rfl, dx2, f2, m2, hx2, hs2⟩ | ⟨rfl, dx2, l2, as, ts, hx2, _⟩
      · exfalso
        unfold showsE at hs2
        rw [Bool.and_eq_true, isStr_iff] at hs2
        obtain ⟨⟨g1, g2, g3⟩, g4⟩ := hs2
        have g4 := of_decide_eq_true g4
        have g3' : f2 + m2 ≤ 2 := by simpa using g3
        have hp : 0 < many [1, 1] ((10 : Int) ^ (30 : Int).toNat) := many_pos.mpr ⟨f2.toNat, (f2 + m2).toNat, by omega, by show (f2 + m2).toNat ≤ 2; omega, g4⟩
        rw [many11] at hp
        exact absurd hp (Nat.lt_irrefl _)
      · refine ⟨_, _, _, _, _, rfl, (fun _ r => r), .ins hx2 T.cl_Never T.ty1_Never T.tk1 T.tk2 T.ty2_Never, T.is_Never_Never, _, rfl, iteT ?_⟩
        refine ⟨_, rfl, (by show 1 ≤ sizeLine; decide), fun p6 hp6 => ?_⟩
        refine ⟨p6, [-5], rfl, upd_same, fun x hx => by simp at hx; omega, by decide, by decide, fun f m ls us hb x dx y u H7 nx ny nu hyu s7 hx hy hu' => ?_⟩
        have hm1 : m = 1 := by
          have h1 := hb.m1
          have h2 := hb.mn
          simp at h2
          omega
        refine ⟨x, _, dx, _, _, rfl, hx, T.cl_Around, T.no_Around_many, fl_Around_many _ _ _ _, rfl, ?_⟩
        rw [hm1, decide_eq_true rfl]
        exact k _
end
theorem txt_mk {K : PySem.W.Frag} {h : Heap} {mg : Str → Option Value} (X : K.In h) (G : h.Ns mainGlobals mg)
    {f_is_whole f_check_row f_running_sums f_sums f_stretch_sum f_turned_inner f_Best___init__ f_Around___init__ f_Exact___init__ f_Never___init__ f_check_least f_best_of f_best f_steepest f_around f_check_total f_exact f_how_many f_check_many f_several f__law_rows_asked f__law_told f_law C_StretchError C_BadRow C_BadLeast C_BadTotal C_BadMany C_Answer C_Best C_Steep C_Around C_Exact C_Never C_Several C_Worth C_Walk : Addr}
    {k_GREATEST : Tok}
    {od_is_whole an_is_whole : Option Addr} {sl_is_whole : Array (Option Value)} {oc_is_whole kV_is_whole dc_is_whole pm_is_whole cd_is_whole ct_is_whole : Value}
    {od_check_row an_check_row : Option Addr} {sl_check_row : Array (Option Value)} {oc_check_row kV_check_row dc_check_row pm_check_row cd_check_row ct_check_row : Value}
    {od_running_sums an_running_sums : Option Addr} {sl_running_sums : Array (Option Value)} {oc_running_sums kV_running_sums dc_running_sums pm_running_sums cd_running_sums ct_running_sums : Value}
    {od_sums an_sums : Option Addr} {sl_sums : Array (Option Value)} {oc_sums kV_sums dc_sums pm_sums cd_sums ct_sums : Value}
    {od_stretch_sum an_stretch_sum : Option Addr} {sl_stretch_sum : Array (Option Value)} {oc_stretch_sum kV_stretch_sum dc_stretch_sum pm_stretch_sum cd_stretch_sum ct_stretch_sum : Value}
    {od_turned_inner an_turned_inner : Option Addr} {sl_turned_inner : Array (Option Value)} {oc_turned_inner kV_turned_inner dc_turned_inner pm_turned_inner cd_turned_inner ct_turned_inner : Value}
    {od_Best___init__ an_Best___init__ : Option Addr} {sl_Best___init__ : Array (Option Value)} {oc_Best___init__ kV_Best___init__ dc_Best___init__ pm_Best___init__ cd_Best___init__ ct_Best___init__ : Value}
    {od_Around___init__ an_Around___init__ : Option Addr} {sl_Around___init__ : Array (Option Value)} {oc_Around___init__ kV_Around___init__ dc_Around___init__ pm_Around___init__ cd_Around___init__ ct_Around___init__ : Value}
    {od_Exact___init__ an_Exact___init__ : Option Addr} {sl_Exact___init__ : Array (Option Value)} {oc_Exact___init__ kV_Exact___init__ dc_Exact___init__ pm_Exact___init__ cd_Exact___init__ ct_Exact___init__ : Value}
    {od_Never___init__ an_Never___init__ : Option Addr} {sl_Never___init__ : Array (Option Value)} {oc_Never___init__ kV_Never___init__ dc_Never___init__ pm_Never___init__ cd_Never___init__ ct_Never___init__ : Value}
    {od_check_least an_check_least : Option Addr} {sl_check_least : Array (Option Value)} {oc_check_least kV_check_least dc_check_least pm_check_least cd_check_least ct_check_least : Value}
    {od_best_of an_best_of : Option Addr} {sl_best_of : Array (Option Value)} {oc_best_of kV_best_of dc_best_of pm_best_of cd_best_of ct_best_of : Value}
    {od_best an_best : Option Addr} {sl_best : Array (Option Value)} {oc_best kV_best dc_best pm_best cd_best ct_best : Value}
    {od_steepest an_steepest : Option Addr} {sl_steepest : Array (Option Value)} {oc_steepest kV_steepest dc_steepest pm_steepest cd_steepest ct_steepest : Value}
    {od_around an_around : Option Addr} {sl_around : Array (Option Value)} {oc_around kV_around dc_around pm_around cd_around ct_around : Value}
    {od_check_total an_check_total : Option Addr} {sl_check_total : Array (Option Value)} {oc_check_total kV_check_total dc_check_total pm_check_total cd_check_total ct_check_total : Value}
    {od_exact an_exact : Option Addr} {sl_exact : Array (Option Value)} {oc_exact kV_exact dc_exact pm_exact cd_exact ct_exact : Value}
    {od_how_many an_how_many : Option Addr} {sl_how_many : Array (Option Value)} {oc_how_many kV_how_many dc_how_many pm_how_many cd_how_many ct_how_many : Value}
    {od_check_many an_check_many : Option Addr} {sl_check_many : Array (Option Value)} {oc_check_many kV_check_many dc_check_many pm_check_many cd_check_many ct_check_many : Value}
    {od_several an_several : Option Addr} {sl_several : Array (Option Value)} {oc_several kV_several dc_several pm_several cd_several ct_several : Value}
    {od__law_rows_asked an__law_rows_asked : Option Addr} {sl__law_rows_asked : Array (Option Value)} {oc__law_rows_asked kV__law_rows_asked dc__law_rows_asked pm__law_rows_asked cd__law_rows_asked ct__law_rows_asked : Value}
    {od__law_told an__law_told : Option Addr} {sl__law_told : Array (Option Value)} {oc__law_told kV__law_told dc__law_told pm__law_told cd__law_told ct__law_told : Value}
    {od_law an_law : Option Addr} {sl_law : Array (Option Value)} {oc_law kV_law dc_law pm_law cd_law ct_law : Value}
    (aC_StretchError : PySem.W.nsIn K mainGlobals "StretchError" = some (some (.ref C_StretchError)))
    (aC_BadRow : PySem.W.nsIn K mainGlobals "BadRow" = some (some (.ref C_BadRow)))
    (aC_BadLeast : PySem.W.nsIn K mainGlobals "BadLeast" = some (some (.ref C_BadLeast)))
    (aC_BadTotal : PySem.W.nsIn K mainGlobals "BadTotal" = some (some (.ref C_BadTotal)))
    (aC_BadMany : PySem.W.nsIn K mainGlobals "BadMany" = some (some (.ref C_BadMany)))
    (aC_Answer : PySem.W.nsIn K mainGlobals "Answer" = some (some (.ref C_Answer)))
    (aC_Best : PySem.W.nsIn K mainGlobals "Best" = some (some (.ref C_Best)))
    (aC_Steep : PySem.W.nsIn K mainGlobals "Steep" = some (some (.ref C_Steep)))
    (aC_Around : PySem.W.nsIn K mainGlobals "Around" = some (some (.ref C_Around)))
    (aC_Exact : PySem.W.nsIn K mainGlobals "Exact" = some (some (.ref C_Exact)))
    (aC_Never : PySem.W.nsIn K mainGlobals "Never" = some (some (.ref C_Never)))
    (aC_Several : PySem.W.nsIn K mainGlobals "Several" = some (some (.ref C_Several)))
    (aC_Worth : PySem.W.nsIn K mainGlobals "Worth" = some (some (.ref C_Worth)))
    (aC_Walk : PySem.W.nsIn K mainGlobals "Walk" = some (some (.ref C_Walk)))
    (a_is_whole : PySem.W.nsIn K mainGlobals "is_whole" = some (some (.ref f_is_whole)))
    (l_is_whole : K.lookup f_is_whole = some ⟨oc_is_whole, od_is_whole, .func (PySem.W.fnOf "is_whole" "is_whole" (defArgs s_is_whole) (defBody s_is_whole) (defScope s_is_whole) .none kV_is_whole dc_is_whole pm_is_whole an_is_whole cd_is_whole ct_is_whole), sl_is_whole⟩)
    (c_is_whole : PySem.W.codeIn K cd_is_whole "is_whole" = true)
    (k_is_whole : PySem.W.keepIn K (.ref f_is_whole) = true)
    (a_check_row : PySem.W.nsIn K mainGlobals "check_row" = some (some (.ref f_check_row)))
    (l_check_row : K.lookup f_check_row = some ⟨oc_check_row, od_check_row, .func (PySem.W.fnOf "check_row" "check_row" (defArgs s_check_row) (defBody s_check_row) (defScope s_check_row) .none kV_check_row dc_check_row pm_check_row an_check_row cd_check_row ct_check_row), sl_check_row⟩)
    (c_check_row : PySem.W.codeIn K cd_check_row "check_row" = true)
    (k_check_row : PySem.W.keepIn K (.ref f_check_row) = true)
    (a_running_sums : PySem.W.nsIn K mainGlobals "running_sums" = some (some (.ref f_running_sums)))
    (l_running_sums : K.lookup f_running_sums = some ⟨oc_running_sums, od_running_sums, .func (PySem.W.fnOf "running_sums" "running_sums" (defArgs s_running_sums) (defBody s_running_sums) (defScope s_running_sums) .none kV_running_sums dc_running_sums pm_running_sums an_running_sums cd_running_sums ct_running_sums), sl_running_sums⟩)
    (c_running_sums : PySem.W.codeIn K cd_running_sums "running_sums" = true)
    (k_running_sums : PySem.W.keepIn K (.ref f_running_sums) = true)
    (a_sums : PySem.W.nsIn K mainGlobals "sums" = some (some (.ref f_sums)))
    (l_sums : K.lookup f_sums = some ⟨oc_sums, od_sums, .func (PySem.W.fnOf "sums" "sums" (defArgs s_sums) (defBody s_sums) (defScope s_sums) .none kV_sums dc_sums pm_sums an_sums cd_sums ct_sums), sl_sums⟩)
    (c_sums : PySem.W.codeIn K cd_sums "sums" = true)
    (k_sums : PySem.W.keepIn K (.ref f_sums) = true)
    (a_stretch_sum : PySem.W.nsIn K mainGlobals "stretch_sum" = some (some (.ref f_stretch_sum)))
    (l_stretch_sum : K.lookup f_stretch_sum = some ⟨oc_stretch_sum, od_stretch_sum, .func (PySem.W.fnOf "stretch_sum" "stretch_sum" (defArgs s_stretch_sum) (defBody s_stretch_sum) (defScope s_stretch_sum) .none kV_stretch_sum dc_stretch_sum pm_stretch_sum an_stretch_sum cd_stretch_sum ct_stretch_sum), sl_stretch_sum⟩)
    (c_stretch_sum : PySem.W.codeIn K cd_stretch_sum "stretch_sum" = true)
    (k_stretch_sum : PySem.W.keepIn K (.ref f_stretch_sum) = true)
    (a_turned_inner : PySem.W.nsIn K mainGlobals "turned_inner" = some (some (.ref f_turned_inner)))
    (l_turned_inner : K.lookup f_turned_inner = some ⟨oc_turned_inner, od_turned_inner, .func (PySem.W.fnOf "turned_inner" "turned_inner" (defArgs s_turned_inner) (defBody s_turned_inner) (defScope s_turned_inner) .none kV_turned_inner dc_turned_inner pm_turned_inner an_turned_inner cd_turned_inner ct_turned_inner), sl_turned_inner⟩)
    (c_turned_inner : PySem.W.codeIn K cd_turned_inner "turned_inner" = true)
    (k_turned_inner : PySem.W.keepIn K (.ref f_turned_inner) = true)
    (a_Best___init__ : PySem.W.findIn K (.ref C_Best) "__init__" = some (some (.ref f_Best___init__)))
    (i_Best___init__ : PySem.W.isFn K (.ref f_Best___init__) = true)
    (l_Best___init__ : K.lookup f_Best___init__ = some ⟨oc_Best___init__, od_Best___init__, .func (PySem.W.fnOf "__init__" "Best.__init__" (defArgs s_Best___init__) (defBody s_Best___init__) (defScope s_Best___init__) .none kV_Best___init__ dc_Best___init__ pm_Best___init__ an_Best___init__ cd_Best___init__ ct_Best___init__), sl_Best___init__⟩)
    (c_Best___init__ : PySem.W.codeIn K cd_Best___init__ "Best.__init__" = true)
    (k_Best___init__ : PySem.W.keepIn K (.ref f_Best___init__) = true)
    (a_Around___init__ : PySem.W.findIn K (.ref C_Around) "__init__" = some (some (.ref f_Around___init__)))
    (i_Around___init__ : PySem.W.isFn K (.ref f_Around___init__) = true)
    (l_Around___init__ : K.lookup f_Around___init__ = some ⟨oc_Around___init__, od_Around___init__, .func (PySem.W.fnOf "__init__" "Around.__init__" (defArgs s_Around___init__) (defBody s_Around___init__) (defScope s_Around___init__) .none kV_Around___init__ dc_Around___init__ pm_Around___init__ an_Around___init__ cd_Around___init__ ct_Around___init__), sl_Around___init__⟩)
    (c_Around___init__ : PySem.W.codeIn K cd_Around___init__ "Around.__init__" = true)
    (k_Around___init__ : PySem.W.keepIn K (.ref f_Around___init__) = true)
    (a_Exact___init__ : PySem.W.findIn K (.ref C_Exact) "__init__" = some (some (.ref f_Exact___init__)))
    (i_Exact___init__ : PySem.W.isFn K (.ref f_Exact___init__) = true)
    (l_Exact___init__ : K.lookup f_Exact___init__ = some ⟨oc_Exact___init__, od_Exact___init__, .func (PySem.W.fnOf "__init__" "Exact.__init__" (defArgs s_Exact___init__) (defBody s_Exact___init__) (defScope s_Exact___init__) .none kV_Exact___init__ dc_Exact___init__ pm_Exact___init__ an_Exact___init__ cd_Exact___init__ ct_Exact___init__), sl_Exact___init__⟩)
    (c_Exact___init__ : PySem.W.codeIn K cd_Exact___init__ "Exact.__init__" = true)
    (k_Exact___init__ : PySem.W.keepIn K (.ref f_Exact___init__) = true)
    (a_Never___init__ : PySem.W.findIn K (.ref C_Never) "__init__" = some (some (.ref f_Never___init__)))
    (i_Never___init__ : PySem.W.isFn K (.ref f_Never___init__) = true)
    (l_Never___init__ : K.lookup f_Never___init__ = some ⟨oc_Never___init__, od_Never___init__, .func (PySem.W.fnOf "__init__" "Never.__init__" (defArgs s_Never___init__) (defBody s_Never___init__) (defScope s_Never___init__) .none kV_Never___init__ dc_Never___init__ pm_Never___init__ an_Never___init__ cd_Never___init__ ct_Never___init__), sl_Never___init__⟩)
    (c_Never___init__ : PySem.W.codeIn K cd_Never___init__ "Never.__init__" = true)
    (k_Never___init__ : PySem.W.keepIn K (.ref f_Never___init__) = true)
    (a_check_least : PySem.W.nsIn K mainGlobals "check_least" = some (some (.ref f_check_least)))
    (l_check_least : K.lookup f_check_least = some ⟨oc_check_least, od_check_least, .func (PySem.W.fnOf "check_least" "check_least" (defArgs s_check_least) (defBody s_check_least) (defScope s_check_least) .none kV_check_least dc_check_least pm_check_least an_check_least cd_check_least ct_check_least), sl_check_least⟩)
    (c_check_least : PySem.W.codeIn K cd_check_least "check_least" = true)
    (k_check_least : PySem.W.keepIn K (.ref f_check_least) = true)
    (a_best_of : PySem.W.nsIn K mainGlobals "best_of" = some (some (.ref f_best_of)))
    (l_best_of : K.lookup f_best_of = some ⟨oc_best_of, od_best_of, .func (PySem.W.fnOf "best_of" "best_of" (defArgs s_best_of) (defBody s_best_of) (defScope s_best_of) .none kV_best_of dc_best_of pm_best_of an_best_of cd_best_of ct_best_of), sl_best_of⟩)
    (c_best_of : PySem.W.codeIn K cd_best_of "best_of" = true)
    (k_best_of : PySem.W.keepIn K (.ref f_best_of) = true)
    (a_best : PySem.W.nsIn K mainGlobals "best" = some (some (.ref f_best)))
    (l_best : K.lookup f_best = some ⟨oc_best, od_best, .func (PySem.W.fnOf "best" "best" (defArgs s_best) (defBody s_best) (defScope s_best) .none kV_best dc_best pm_best an_best cd_best ct_best), sl_best⟩)
    (c_best : PySem.W.codeIn K cd_best "best" = true)
    (k_best : PySem.W.keepIn K (.ref f_best) = true)
    (a_steepest : PySem.W.nsIn K mainGlobals "steepest" = some (some (.ref f_steepest)))
    (l_steepest : K.lookup f_steepest = some ⟨oc_steepest, od_steepest, .func (PySem.W.fnOf "steepest" "steepest" (defArgs s_steepest) (defBody s_steepest) (defScope s_steepest) .none kV_steepest dc_steepest pm_steepest an_steepest cd_steepest ct_steepest), sl_steepest⟩)
    (c_steepest : PySem.W.codeIn K cd_steepest "steepest" = true)
    (k_steepest : PySem.W.keepIn K (.ref f_steepest) = true)
    (a_around : PySem.W.nsIn K mainGlobals "around" = some (some (.ref f_around)))
    (l_around : K.lookup f_around = some ⟨oc_around, od_around, .func (PySem.W.fnOf "around" "around" (defArgs s_around) (defBody s_around) (defScope s_around) .none kV_around dc_around pm_around an_around cd_around ct_around), sl_around⟩)
    (c_around : PySem.W.codeIn K cd_around "around" = true)
    (k_around : PySem.W.keepIn K (.ref f_around) = true)
    (a_check_total : PySem.W.nsIn K mainGlobals "check_total" = some (some (.ref f_check_total)))
    (l_check_total : K.lookup f_check_total = some ⟨oc_check_total, od_check_total, .func (PySem.W.fnOf "check_total" "check_total" (defArgs s_check_total) (defBody s_check_total) (defScope s_check_total) .none kV_check_total dc_check_total pm_check_total an_check_total cd_check_total ct_check_total), sl_check_total⟩)
    (c_check_total : PySem.W.codeIn K cd_check_total "check_total" = true)
    (k_check_total : PySem.W.keepIn K (.ref f_check_total) = true)
    (a_exact : PySem.W.nsIn K mainGlobals "exact" = some (some (.ref f_exact)))
    (l_exact : K.lookup f_exact = some ⟨oc_exact, od_exact, .func (PySem.W.fnOf "exact" "exact" (defArgs s_exact) (defBody s_exact) (defScope s_exact) .none kV_exact dc_exact pm_exact an_exact cd_exact ct_exact), sl_exact⟩)
    (c_exact : PySem.W.codeIn K cd_exact "exact" = true)
    (k_exact : PySem.W.keepIn K (.ref f_exact) = true)
    (a_how_many : PySem.W.nsIn K mainGlobals "how_many" = some (some (.ref f_how_many)))
    (l_how_many : K.lookup f_how_many = some ⟨oc_how_many, od_how_many, .func (PySem.W.fnOf "how_many" "how_many" (defArgs s_how_many) (defBody s_how_many) (defScope s_how_many) .none kV_how_many dc_how_many pm_how_many an_how_many cd_how_many ct_how_many), sl_how_many⟩)
    (c_how_many : PySem.W.codeIn K cd_how_many "how_many" = true)
    (k_how_many : PySem.W.keepIn K (.ref f_how_many) = true)
    (a_check_many : PySem.W.nsIn K mainGlobals "check_many" = some (some (.ref f_check_many)))
    (l_check_many : K.lookup f_check_many = some ⟨oc_check_many, od_check_many, .func (PySem.W.fnOf "check_many" "check_many" (defArgs s_check_many) (defBody s_check_many) (defScope s_check_many) .none kV_check_many dc_check_many pm_check_many an_check_many cd_check_many ct_check_many), sl_check_many⟩)
    (c_check_many : PySem.W.codeIn K cd_check_many "check_many" = true)
    (k_check_many : PySem.W.keepIn K (.ref f_check_many) = true)
    (a_several : PySem.W.nsIn K mainGlobals "several" = some (some (.ref f_several)))
    (l_several : K.lookup f_several = some ⟨oc_several, od_several, .func (PySem.W.fnOf "several" "several" (defArgs s_several) (defBody s_several) (defScope s_several) .none kV_several dc_several pm_several an_several cd_several ct_several), sl_several⟩)
    (c_several : PySem.W.codeIn K cd_several "several" = true)
    (k_several : PySem.W.keepIn K (.ref f_several) = true)
    (a__law_rows_asked : PySem.W.nsIn K mainGlobals "_law_rows_asked" = some (some (.ref f__law_rows_asked)))
    (l__law_rows_asked : K.lookup f__law_rows_asked = some ⟨oc__law_rows_asked, od__law_rows_asked, .func (PySem.W.fnOf "_law_rows_asked" "_law_rows_asked" (defArgs s__law_rows_asked) (defBody s__law_rows_asked) (defScope s__law_rows_asked) .none kV__law_rows_asked dc__law_rows_asked pm__law_rows_asked an__law_rows_asked cd__law_rows_asked ct__law_rows_asked), sl__law_rows_asked⟩)
    (c__law_rows_asked : PySem.W.codeIn K cd__law_rows_asked "_law_rows_asked" = true)
    (k__law_rows_asked : PySem.W.keepIn K (.ref f__law_rows_asked) = true)
    (a__law_told : PySem.W.nsIn K mainGlobals "_law_told" = some (some (.ref f__law_told)))
    (l__law_told : K.lookup f__law_told = some ⟨oc__law_told, od__law_told, .func (PySem.W.fnOf "_law_told" "_law_told" (defArgs s__law_told) (defBody s__law_told) (defScope s__law_told) .none kV__law_told dc__law_told pm__law_told an__law_told cd__law_told ct__law_told), sl__law_told⟩)
    (c__law_told : PySem.W.codeIn K cd__law_told "_law_told" = true)
    (k__law_told : PySem.W.keepIn K (.ref f__law_told) = true)
    (a_law : PySem.W.nsIn K mainGlobals "law" = some (some (.ref f_law)))
    (l_law : K.lookup f_law = some ⟨oc_law, od_law, .func (PySem.W.fnOf "law" "law" (defArgs s_law) (defBody s_law) (defScope s_law) .none kV_law dc_law pm_law an_law cd_law ct_law), sl_law⟩)
    (c_law : PySem.W.codeIn K cd_law "law" = true)
    (k_law : PySem.W.keepIn K (.ref f_law) = true)
    (pg_Best : PySem.W.plainGet K C_Best Str.empty = true)
    (hd_Best : PySem.W.hasDictIn K C_Best = true)
    (po_Best : PySem.W.plainOver K C_Best = true)
    (sa_Best : PySem.W.findIn K (.ref C_Best) "__setattr__" = some (some (.builtin "object.__setattr__")))
    (mk_Best : PySem.W.makesIn K C_Best = true)
    (kc_Best : PySem.W.keepIn K (.ref C_Best) = true)
    (n_Best_first : PySem.W.findIn K (.ref C_Best) "first" = some none)
    (n_Best_many : PySem.W.findIn K (.ref C_Best) "many" = some none)
    (n_Best_lows : PySem.W.findIn K (.ref C_Best) "lows" = some none)
    (y1_Best : PySem.W.findIn K (.ref C_Best) "__class__" = some (some (.builtin "object.__class__")))
    (y2_Best : PySem.W.mroIn K C_Best (.type "object") = some true)
    (m_Best_Best : PySem.W.mroIn K C_Best (.ref C_Best) = some true)
    (m_BadRow_BadRow : PySem.W.mroIn K C_BadRow (.ref C_BadRow) = some true)
    (t_BadRow : PySem.W.typeIn K (.ref C_BadRow) = some (.type "type"))
    (m_Best_BadRow : PySem.W.mroIn K C_Best (.ref C_BadRow) = some false)
    (m_BadLeast_BadLeast : PySem.W.mroIn K C_BadLeast (.ref C_BadLeast) = some true)
    (t_BadLeast : PySem.W.typeIn K (.ref C_BadLeast) = some (.type "type"))
    (m_Best_BadLeast : PySem.W.mroIn K C_Best (.ref C_BadLeast) = some false)
    (m_BadTotal_BadTotal : PySem.W.mroIn K C_BadTotal (.ref C_BadTotal) = some true)
    (t_BadTotal : PySem.W.typeIn K (.ref C_BadTotal) = some (.type "type"))
    (m_Best_BadTotal : PySem.W.mroIn K C_Best (.ref C_BadTotal) = some false)
    (m_BadMany_BadMany : PySem.W.mroIn K C_BadMany (.ref C_BadMany) = some true)
    (t_BadMany : PySem.W.typeIn K (.ref C_BadMany) = some (.type "type"))
    (m_Best_BadMany : PySem.W.mroIn K C_Best (.ref C_BadMany) = some false)
    (m_Never_Never : PySem.W.mroIn K C_Never (.ref C_Never) = some true)
    (t_Never : PySem.W.typeIn K (.ref C_Never) = some (.type "type"))
    (m_Best_Never : PySem.W.mroIn K C_Best (.ref C_Never) = some false)
    (pg_Around : PySem.W.plainGet K C_Around Str.empty = true)
    (hd_Around : PySem.W.hasDictIn K C_Around = true)
    (po_Around : PySem.W.plainOver K C_Around = true)
    (sa_Around : PySem.W.findIn K (.ref C_Around) "__setattr__" = some (some (.builtin "object.__setattr__")))
    (mk_Around : PySem.W.makesIn K C_Around = true)
    (kc_Around : PySem.W.keepIn K (.ref C_Around) = true)
    (n_Around_first : PySem.W.findIn K (.ref C_Around) "first" = some none)
    (n_Around_many : PySem.W.findIn K (.ref C_Around) "many" = some none)
    (n_Around_lows : PySem.W.findIn K (.ref C_Around) "lows" = some none)
    (n_Around_tops : PySem.W.findIn K (.ref C_Around) "tops" = some none)
    (y1_Around : PySem.W.findIn K (.ref C_Around) "__class__" = some (some (.builtin "object.__class__")))
    (y2_Around : PySem.W.mroIn K C_Around (.type "object") = some true)
    (m_Around_Around : PySem.W.mroIn K C_Around (.ref C_Around) = some true)
    (m_Around_BadRow : PySem.W.mroIn K C_Around (.ref C_BadRow) = some false)
    (m_Around_BadLeast : PySem.W.mroIn K C_Around (.ref C_BadLeast) = some false)
    (m_Around_BadTotal : PySem.W.mroIn K C_Around (.ref C_BadTotal) = some false)
    (m_Around_BadMany : PySem.W.mroIn K C_Around (.ref C_BadMany) = some false)
    (m_Around_Never : PySem.W.mroIn K C_Around (.ref C_Never) = some false)
    (pg_Exact : PySem.W.plainGet K C_Exact Str.empty = true)
    (hd_Exact : PySem.W.hasDictIn K C_Exact = true)
    (po_Exact : PySem.W.plainOver K C_Exact = true)
    (sa_Exact : PySem.W.findIn K (.ref C_Exact) "__setattr__" = some (some (.builtin "object.__setattr__")))
    (mk_Exact : PySem.W.makesIn K C_Exact = true)
    (kc_Exact : PySem.W.keepIn K (.ref C_Exact) = true)
    (n_Exact_first : PySem.W.findIn K (.ref C_Exact) "first" = some none)
    (n_Exact_many : PySem.W.findIn K (.ref C_Exact) "many" = some none)
    (y1_Exact : PySem.W.findIn K (.ref C_Exact) "__class__" = some (some (.builtin "object.__class__")))
    (y2_Exact : PySem.W.mroIn K C_Exact (.type "object") = some true)
    (m_Exact_Exact : PySem.W.mroIn K C_Exact (.ref C_Exact) = some true)
    (m_Exact_BadRow : PySem.W.mroIn K C_Exact (.ref C_BadRow) = some false)
    (m_Exact_BadLeast : PySem.W.mroIn K C_Exact (.ref C_BadLeast) = some false)
    (m_Exact_BadTotal : PySem.W.mroIn K C_Exact (.ref C_BadTotal) = some false)
    (m_Exact_BadMany : PySem.W.mroIn K C_Exact (.ref C_BadMany) = some false)
    (m_Exact_Never : PySem.W.mroIn K C_Exact (.ref C_Never) = some false)
    (pg_Never : PySem.W.plainGet K C_Never Str.empty = true)
    (hd_Never : PySem.W.hasDictIn K C_Never = true)
    (po_Never : PySem.W.plainOver K C_Never = true)
    (sa_Never : PySem.W.findIn K (.ref C_Never) "__setattr__" = some (some (.builtin "object.__setattr__")))
    (mk_Never : PySem.W.makesIn K C_Never = true)
    (kc_Never : PySem.W.keepIn K (.ref C_Never) = true)
    (n_Never_table : PySem.W.findIn K (.ref C_Never) "table" = some none)
    (y1_Never : PySem.W.findIn K (.ref C_Never) "__class__" = some (some (.builtin "object.__class__")))
    (y2_Never : PySem.W.mroIn K C_Never (.type "object") = some true)
    (m_Never_BadRow : PySem.W.mroIn K C_Never (.ref C_BadRow) = some false)
    (m_Never_BadLeast : PySem.W.mroIn K C_Never (.ref C_BadLeast) = some false)
    (m_Never_BadTotal : PySem.W.mroIn K C_Never (.ref C_BadTotal) = some false)
    (m_Never_BadMany : PySem.W.mroIn K C_Never (.ref C_BadMany) = some false)
    (xmb : PySem.W.mroIn K C_StretchError (.type "BaseException") = some true)
    (xmd : PySem.W.mroIn K C_StretchError (.ref C_StretchError) = some true)
    (xtd : PySem.W.typeIn K (.ref C_StretchError) = some (.type "type"))
    (z_ValueError : PySem.W.nsIn K mainGlobals "ValueError" = some none)
    (xm_BadRow_BadRow : PySem.W.mroIn K C_BadRow (.ref C_BadRow) = some true)
    (xt_BadRow : PySem.W.typeIn K (.ref C_BadRow) = some (.type "type"))
    (xm_BadLeast_BadLeast : PySem.W.mroIn K C_BadLeast (.ref C_BadLeast) = some true)
    (xt_BadLeast : PySem.W.typeIn K (.ref C_BadLeast) = some (.type "type"))
    (xm_BadTotal_BadTotal : PySem.W.mroIn K C_BadTotal (.ref C_BadTotal) = some true)
    (xt_BadTotal : PySem.W.typeIn K (.ref C_BadTotal) = some (.type "type"))
    (xm_BadMany_BadMany : PySem.W.mroIn K C_BadMany (.ref C_BadMany) = some true)
    (xt_BadMany : PySem.W.typeIn K (.ref C_BadMany) = some (.type "type"))
    (xe_BadRow : PySem.W.excIn K C_BadRow [.type "ValueError", .type "Exception", .type "BaseException", .type "object"] "ValueError.__new__" = true)
    (xg_BadRow : PySem.W.findIn K (.ref C_BadRow) "__getattribute__" = some (some (.builtin "BaseException.__getattribute__")))
    (xn_BadRow : PySem.W.findIn K (.ref C_BadRow) "__getattr__" = some none)
    (xB_BadRow : PySem.W.mroIn K C_BadRow (.type "BaseException") = some true)
    (xh_BadRow : PySem.W.hasDictIn K C_BadRow = true)
    (xa_BadRow : PySem.W.findIn K (.ref C_BadRow) "__class__" = some (some (.builtin "object.__class__")))
    (xo_BadRow : PySem.W.mroIn K C_BadRow (.type "object") = some true)
    (xb_BadRow : PySem.W.mroIn K C_BadRow (.ref C_StretchError) = some true)
    (xv_BadRow : PySem.W.mroIn K C_BadRow (.type "ValueError") = some true)
    (xm_BadRow_BadLeast : PySem.W.mroIn K C_BadRow (.ref C_BadLeast) = some false)
    (xm_BadRow_BadTotal : PySem.W.mroIn K C_BadRow (.ref C_BadTotal) = some false)
    (xm_BadRow_BadMany : PySem.W.mroIn K C_BadRow (.ref C_BadMany) = some false)
    (xe_BadLeast : PySem.W.excIn K C_BadLeast [.type "ValueError", .type "Exception", .type "BaseException", .type "object"] "ValueError.__new__" = true)
    (xg_BadLeast : PySem.W.findIn K (.ref C_BadLeast) "__getattribute__" = some (some (.builtin "BaseException.__getattribute__")))
    (xn_BadLeast : PySem.W.findIn K (.ref C_BadLeast) "__getattr__" = some none)
    (xB_BadLeast : PySem.W.mroIn K C_BadLeast (.type "BaseException") = some true)
    (xh_BadLeast : PySem.W.hasDictIn K C_BadLeast = true)
    (xa_BadLeast : PySem.W.findIn K (.ref C_BadLeast) "__class__" = some (some (.builtin "object.__class__")))
    (xo_BadLeast : PySem.W.mroIn K C_BadLeast (.type "object") = some true)
    (xb_BadLeast : PySem.W.mroIn K C_BadLeast (.ref C_StretchError) = some true)
    (xv_BadLeast : PySem.W.mroIn K C_BadLeast (.type "ValueError") = some true)
    (xm_BadLeast_BadRow : PySem.W.mroIn K C_BadLeast (.ref C_BadRow) = some false)
    (xm_BadLeast_BadTotal : PySem.W.mroIn K C_BadLeast (.ref C_BadTotal) = some false)
    (xm_BadLeast_BadMany : PySem.W.mroIn K C_BadLeast (.ref C_BadMany) = some false)
    (xe_BadTotal : PySem.W.excIn K C_BadTotal [.type "ValueError", .type "Exception", .type "BaseException", .type "object"] "ValueError.__new__" = true)
    (xg_BadTotal : PySem.W.findIn K (.ref C_BadTotal) "__getattribute__" = some (some (.builtin "BaseException.__getattribute__")))
    (xn_BadTotal : PySem.W.findIn K (.ref C_BadTotal) "__getattr__" = some none)
    (xB_BadTotal : PySem.W.mroIn K C_BadTotal (.type "BaseException") = some true)
    (xh_BadTotal : PySem.W.hasDictIn K C_BadTotal = true)
    (xa_BadTotal : PySem.W.findIn K (.ref C_BadTotal) "__class__" = some (some (.builtin "object.__class__")))
    (xo_BadTotal : PySem.W.mroIn K C_BadTotal (.type "object") = some true)
    (xb_BadTotal : PySem.W.mroIn K C_BadTotal (.ref C_StretchError) = some true)
    (xv_BadTotal : PySem.W.mroIn K C_BadTotal (.type "ValueError") = some true)
    (xm_BadTotal_BadRow : PySem.W.mroIn K C_BadTotal (.ref C_BadRow) = some false)
    (xm_BadTotal_BadLeast : PySem.W.mroIn K C_BadTotal (.ref C_BadLeast) = some false)
    (xm_BadTotal_BadMany : PySem.W.mroIn K C_BadTotal (.ref C_BadMany) = some false)
    (xe_BadMany : PySem.W.excIn K C_BadMany [.type "ValueError", .type "Exception", .type "BaseException", .type "object"] "ValueError.__new__" = true)
    (xg_BadMany : PySem.W.findIn K (.ref C_BadMany) "__getattribute__" = some (some (.builtin "BaseException.__getattribute__")))
    (xn_BadMany : PySem.W.findIn K (.ref C_BadMany) "__getattr__" = some none)
    (xB_BadMany : PySem.W.mroIn K C_BadMany (.type "BaseException") = some true)
    (xh_BadMany : PySem.W.hasDictIn K C_BadMany = true)
    (xa_BadMany : PySem.W.findIn K (.ref C_BadMany) "__class__" = some (some (.builtin "object.__class__")))
    (xo_BadMany : PySem.W.mroIn K C_BadMany (.type "object") = some true)
    (xb_BadMany : PySem.W.mroIn K C_BadMany (.ref C_StretchError) = some true)
    (xv_BadMany : PySem.W.mroIn K C_BadMany (.type "ValueError") = some true)
    (xm_BadMany_BadRow : PySem.W.mroIn K C_BadMany (.ref C_BadRow) = some false)
    (xm_BadMany_BadLeast : PySem.W.mroIn K C_BadMany (.ref C_BadLeast) = some false)
    (xm_BadMany_BadTotal : PySem.W.mroIn K C_BadMany (.ref C_BadTotal) = some false)
    (q_GREATEST : PySem.W.nsIn K mainGlobals "GREATEST" = some (some (.int 1000000 k_GREATEST)))
    (z_len : PySem.W.nsIn K mainGlobals "len" = some none)
    (z_sum : PySem.W.nsIn K mainGlobals "sum" = some none)
    (z_max : PySem.W.nsIn K mainGlobals "max" = some none)
    (z_min : PySem.W.nsIn K mainGlobals "min" = some none)
    (z_abs : PySem.W.nsIn K mainGlobals "abs" = some none)
    (z_isinstance : PySem.W.nsIn K mainGlobals "isinstance" = some none)
    (z_list : PySem.W.nsIn K mainGlobals "list" = some none)
    (z_range : PySem.W.nsIn K mainGlobals "range" = some none)
    (z_enumerate : PySem.W.nsIn K mainGlobals "enumerate" = some none)
    (z_sorted : PySem.W.nsIn K mainGlobals "sorted" = some none)
    (z_reversed : PySem.W.nsIn K mainGlobals "reversed" = some none)
    (z_int : PySem.W.nsIn K mainGlobals "int" = some none)
    (z_bool : PySem.W.nsIn K mainGlobals "bool" = some none)
    (tk1 : PySem.W.specialIn K (.builtin "object.__class__") "__get__" = some (some (.builtin "getset_descriptor.__get__")))
    (tk2 : PySem.W.takesIn K (.builtin "object.__class__") = some true) :
    ∃ t : Adr, Txt K mg t ∧ ∃ fd, Fun K "law" "law" s_law t.f_law fd ∧ ∀ (s : Shared) (v : Value), BindsTo s fd ⟨[v], []⟩ [("_law_script", v)] :=
  ⟨{ f_is_whole := f_is_whole, f_check_row := f_check_row, f_running_sums := f_running_sums, f_sums := f_sums, f_stretch_sum := f_stretch_sum, f_turned_inner := f_turned_inner, f_Best___init__ := f_Best___init__, f_Around___init__ := f_Around___init__, f_Exact___init__ := f_Exact___init__, f_Never___init__ := f_Never___init__, f_check_least := f_check_least, f_best_of := f_best_of, f_best := f_best, f_steepest := f_steepest, f_around := f_around, f_check_total := f_check_total, f_exact := f_exact, f_how_many := f_how_many, f_check_many := f_check_many, f_several := f_several, f__law_rows_asked := f__law_rows_asked, f__law_told := f__law_told, f_law := f_law, C_StretchError := C_StretchError, C_BadRow := C_BadRow, C_BadLeast := C_BadLeast, C_BadTotal := C_BadTotal, C_BadMany := C_BadMany, C_Answer := C_Answer, C_Best := C_Best, C_Steep := C_Steep, C_Around := C_Around, C_Exact := C_Exact, C_Never := C_Never, C_Several := C_Several, C_Worth := C_Worth, C_Walk := C_Walk, k_GREATEST := k_GREATEST },
   { mg_StretchError := PySem.W.mg_of X G aC_StretchError,
     mg_BadRow := PySem.W.mg_of X G aC_BadRow,
     mg_BadLeast := PySem.W.mg_of X G aC_BadLeast,
     mg_BadTotal := PySem.W.mg_of X G aC_BadTotal,
     mg_BadMany := PySem.W.mg_of X G aC_BadMany,
     mg_Answer := PySem.W.mg_of X G aC_Answer,
     mg_Best := PySem.W.mg_of X G aC_Best,
     mg_Steep := PySem.W.mg_of X G aC_Steep,
     mg_Around := PySem.W.mg_of X G aC_Around,
     mg_Exact := PySem.W.mg_of X G aC_Exact,
     mg_Never := PySem.W.mg_of X G aC_Never,
     mg_Several := PySem.W.mg_of X G aC_Several,
     mg_Worth := PySem.W.mg_of X G aC_Worth,
     mg_Walk := PySem.W.mg_of X G aC_Walk,
     mg_is_whole := PySem.W.mg_of X G a_is_whole,
     fn_is_whole := funat l_is_whole c_is_whole k_is_whole (fun _ _ _ _ _ _ => of1 fun _ => rfl),
     mg_check_row := PySem.W.mg_of X G a_check_row,
     fn_check_row := funat l_check_row c_check_row k_check_row (fun _ _ _ _ _ _ => of1 fun _ => rfl),
     mg_running_sums := PySem.W.mg_of X G a_running_sums,
     fn_running_sums := funat l_running_sums c_running_sums k_running_sums (fun _ _ _ _ _ _ => of1 fun _ => rfl),
     mg_sums := PySem.W.mg_of X G a_sums,
     fn_sums := funat l_sums c_sums k_sums (fun _ _ _ _ _ _ => of1 fun _ => rfl),
     mg_stretch_sum := PySem.W.mg_of X G a_stretch_sum,
     fn_stretch_sum := funat l_stretch_sum c_stretch_sum k_stretch_sum (fun _ _ _ _ _ _ => of3 fun _ _ _ => rfl),
     mg_turned_inner := PySem.W.mg_of X G a_turned_inner,
     fn_turned_inner := funat l_turned_inner c_turned_inner k_turned_inner (fun _ _ _ _ _ _ => of1 fun _ => rfl),
     fn_Best___init__ := funat l_Best___init__ c_Best___init__ k_Best___init__ (fun _ _ _ _ _ _ => of4 fun _ _ _ _ => rfl),
     fn_Around___init__ := funat l_Around___init__ c_Around___init__ k_Around___init__ (fun _ _ _ _ _ _ => of5 fun _ _ _ _ _ => rfl),
     fn_Exact___init__ := funat l_Exact___init__ c_Exact___init__ k_Exact___init__ (fun _ _ _ _ _ _ => of3 fun _ _ _ => rfl),
     fn_Never___init__ := funat l_Never___init__ c_Never___init__ k_Never___init__ (fun _ _ _ _ _ _ => of2 fun _ _ => rfl),
     mg_check_least := PySem.W.mg_of X G a_check_least,
     fn_check_least := funat l_check_least c_check_least k_check_least (fun _ _ _ _ _ _ => of2 fun _ _ => rfl),
     mg_best_of := PySem.W.mg_of X G a_best_of,
     fn_best_of := funat l_best_of c_best_of k_best_of (fun _ _ _ _ _ _ => of2 fun _ _ => rfl),
     mg_best := PySem.W.mg_of X G a_best,
     fn_best := funat l_best c_best k_best (fun _ _ _ _ _ _ => of2 fun _ _ => rfl),
     mg_steepest := PySem.W.mg_of X G a_steepest,
     fn_steepest := funat l_steepest c_steepest k_steepest (fun _ _ _ _ _ _ => of2 fun _ _ => rfl),
     mg_around := PySem.W.mg_of X G a_around,
     fn_around := funat l_around c_around k_around (fun _ _ _ _ _ _ => of1 fun _ => rfl),
     mg_check_total := PySem.W.mg_of X G a_check_total,
     fn_check_total := funat l_check_total c_check_total k_check_total (fun _ _ _ _ _ _ => of1 fun _ => rfl),
     mg_exact := PySem.W.mg_of X G a_exact,
     fn_exact := funat l_exact c_exact k_exact (fun _ _ _ _ _ _ => of2 fun _ _ => rfl),
     mg_how_many := PySem.W.mg_of X G a_how_many,
     fn_how_many := funat l_how_many c_how_many k_how_many (fun _ _ _ _ _ _ => of2 fun _ _ => rfl),
     mg_check_many := PySem.W.mg_of X G a_check_many,
     fn_check_many := funat l_check_many c_check_many k_check_many (fun _ _ _ _ _ _ => of1 fun _ => rfl),
     mg_several := PySem.W.mg_of X G a_several,
     fn_several := funat l_several c_several k_several (fun _ _ _ _ _ _ => of2 fun _ _ => rfl),
     mg__law_rows_asked := PySem.W.mg_of X G a__law_rows_asked,
     fn__law_rows_asked := funat l__law_rows_asked c__law_rows_asked k__law_rows_asked (fun _ _ _ _ _ _ => of2 fun _ _ => rfl),
     mg__law_told := PySem.W.mg_of X G a__law_told,
     fn__law_told := funat l__law_told c__law_told k__law_told (fun _ _ _ _ _ _ => of3 fun _ _ _ => rfl),
     mg_law := PySem.W.mg_of X G a_law,
     fn_law := funat l_law c_law k_law (fun _ _ _ _ _ _ => of1 fun _ => rfl),
     cl_Best := ⟨pg_Best, hd_Best, po_Best, sa_Best⟩,
     mk_Best := ⟨mk_Best, a_Best___init__, i_Best___init__, kc_Best⟩,
     no_Best_first := n_Best_first,
     no_Best_many := n_Best_many,
     no_Best_lows := n_Best_lows,
     ty1_Best := y1_Best,
     ty2_Best := y2_Best,
     is_Best_BadRow := kit_of m_Best_Best m_BadRow_BadRow t_BadRow m_Best_BadRow,
     is_Best_BadLeast := kit_of m_Best_Best m_BadLeast_BadLeast t_BadLeast m_Best_BadLeast,
     is_Best_BadTotal := kit_of m_Best_Best m_BadTotal_BadTotal t_BadTotal m_Best_BadTotal,
     is_Best_BadMany := kit_of m_Best_Best m_BadMany_BadMany t_BadMany m_Best_BadMany,
     is_Best_Never := kit_of m_Best_Best m_Never_Never t_Never m_Best_Never,
     cl_Around := ⟨pg_Around, hd_Around, po_Around, sa_Around⟩,
     mk_Around := ⟨mk_Around, a_Around___init__, i_Around___init__, kc_Around⟩,
     no_Around_first := n_Around_first,
     no_Around_many := n_Around_many,
     no_Around_lows := n_Around_lows,
     no_Around_tops := n_Around_tops,
     ty1_Around := y1_Around,
     ty2_Around := y2_Around,
     is_Around_BadRow := kit_of m_Around_Around m_BadRow_BadRow t_BadRow m_Around_BadRow,
     is_Around_BadLeast := kit_of m_Around_Around m_BadLeast_BadLeast t_BadLeast m_Around_BadLeast,
     is_Around_BadTotal := kit_of m_Around_Around m_BadTotal_BadTotal t_BadTotal m_Around_BadTotal,
     is_Around_BadMany := kit_of m_Around_Around m_BadMany_BadMany t_BadMany m_Around_BadMany,
     is_Around_Never := kit_of m_Around_Around m_Never_Never t_Never m_Around_Never,
     cl_Exact := ⟨pg_Exact, hd_Exact, po_Exact, sa_Exact⟩,
     mk_Exact := ⟨mk_Exact, a_Exact___init__, i_Exact___init__, kc_Exact⟩,
     no_Exact_first := n_Exact_first,
     no_Exact_many := n_Exact_many,
     ty1_Exact := y1_Exact,
     ty2_Exact := y2_Exact,
     is_Exact_BadRow := kit_of m_Exact_Exact m_BadRow_BadRow t_BadRow m_Exact_BadRow,
     is_Exact_BadLeast := kit_of m_Exact_Exact m_BadLeast_BadLeast t_BadLeast m_Exact_BadLeast,
     is_Exact_BadTotal := kit_of m_Exact_Exact m_BadTotal_BadTotal t_BadTotal m_Exact_BadTotal,
     is_Exact_BadMany := kit_of m_Exact_Exact m_BadMany_BadMany t_BadMany m_Exact_BadMany,
     is_Exact_Never := kit_of m_Exact_Exact m_Never_Never t_Never m_Exact_Never,
     cl_Never := ⟨pg_Never, hd_Never, po_Never, sa_Never⟩,
     mk_Never := ⟨mk_Never, a_Never___init__, i_Never___init__, kc_Never⟩,
     no_Never_table := n_Never_table,
     ty1_Never := y1_Never,
     ty2_Never := y2_Never,
     is_Never_BadRow := kit_of m_Never_Never m_BadRow_BadRow t_BadRow m_Never_BadRow,
     is_Never_BadLeast := kit_of m_Never_Never m_BadLeast_BadLeast t_BadLeast m_Never_BadLeast,
     is_Never_BadTotal := kit_of m_Never_Never m_BadTotal_BadTotal t_BadTotal m_Never_BadTotal,
     is_Never_BadMany := kit_of m_Never_Never m_BadMany_BadMany t_BadMany m_Never_BadMany,
     is_Never_Never := kit_of m_Never_Never m_Never_Never t_Never m_Never_Never,
     b_ValueError := PySem.W.mg_none_of X G z_ValueError,
     ex_BadRow := xe_BadRow,
     ec_BadRow := ⟨xg_BadRow, xn_BadRow, xB_BadRow, xh_BadRow, xa_BadRow, tk1, tk2, xo_BadRow⟩,
     em_BadRow := exm_of xmb xmd xtd xb_BadRow,
     ev_BadRow := kit_ty (by decide +kernel) xv_BadRow,
     ei_BadRow_BadRow := kit_of xm_BadRow_BadRow xm_BadRow_BadRow xt_BadRow xm_BadRow_BadRow,
     ei_BadRow_BadLeast := kit_of xm_BadRow_BadRow xm_BadLeast_BadLeast xt_BadLeast xm_BadRow_BadLeast,
     ei_BadRow_BadTotal := kit_of xm_BadRow_BadRow xm_BadTotal_BadTotal xt_BadTotal xm_BadRow_BadTotal,
     ei_BadRow_BadMany := kit_of xm_BadRow_BadRow xm_BadMany_BadMany xt_BadMany xm_BadRow_BadMany,
     ex_BadLeast := xe_BadLeast,
     ec_BadLeast := ⟨xg_BadLeast, xn_BadLeast, xB_BadLeast, xh_BadLeast, xa_BadLeast, tk1, tk2, xo_BadLeast⟩,
     em_BadLeast := exm_of xmb xmd xtd xb_BadLeast,
     ev_BadLeast := kit_ty (by decide +kernel) xv_BadLeast,
     ei_BadLeast_BadRow := kit_of xm_BadLeast_BadLeast xm_BadRow_BadRow xt_BadRow xm_BadLeast_BadRow,
     ei_BadLeast_BadLeast := kit_of xm_BadLeast_BadLeast xm_BadLeast_BadLeast xt_BadLeast xm_BadLeast_BadLeast,
     ei_BadLeast_BadTotal := kit_of xm_BadLeast_BadLeast xm_BadTotal_BadTotal xt_BadTotal xm_BadLeast_BadTotal,
     ei_BadLeast_BadMany := kit_of xm_BadLeast_BadLeast xm_BadMany_BadMany xt_BadMany xm_BadLeast_BadMany,
     ex_BadTotal := xe_BadTotal,
     ec_BadTotal := ⟨xg_BadTotal, xn_BadTotal, xB_BadTotal, xh_BadTotal, xa_BadTotal, tk1, tk2, xo_BadTotal⟩,
     em_BadTotal := exm_of xmb xmd xtd xb_BadTotal,
     ev_BadTotal := kit_ty (by decide +kernel) xv_BadTotal,
     ei_BadTotal_BadRow := kit_of xm_BadTotal_BadTotal xm_BadRow_BadRow xt_BadRow xm_BadTotal_BadRow,
     ei_BadTotal_BadLeast := kit_of xm_BadTotal_BadTotal xm_BadLeast_BadLeast xt_BadLeast xm_BadTotal_BadLeast,
     ei_BadTotal_BadTotal := kit_of xm_BadTotal_BadTotal xm_BadTotal_BadTotal xt_BadTotal xm_BadTotal_BadTotal,
     ei_BadTotal_BadMany := kit_of xm_BadTotal_BadTotal xm_BadMany_BadMany xt_BadMany xm_BadTotal_BadMany,
     ex_BadMany := xe_BadMany,
     ec_BadMany := ⟨xg_BadMany, xn_BadMany, xB_BadMany, xh_BadMany, xa_BadMany, tk1, tk2, xo_BadMany⟩,
     em_BadMany := exm_of xmb xmd xtd xb_BadMany,
     ev_BadMany := kit_ty (by decide +kernel) xv_BadMany,
     ei_BadMany_BadRow := kit_of xm_BadMany_BadMany xm_BadRow_BadRow xt_BadRow xm_BadMany_BadRow,
     ei_BadMany_BadLeast := kit_of xm_BadMany_BadMany xm_BadLeast_BadLeast xt_BadLeast xm_BadMany_BadLeast,
     ei_BadMany_BadTotal := kit_of xm_BadMany_BadMany xm_BadTotal_BadTotal xt_BadTotal xm_BadMany_BadTotal,
     ei_BadMany_BadMany := kit_of xm_BadMany_BadMany xm_BadMany_BadMany xt_BadMany xm_BadMany_BadMany,
     g_GREATEST := PySem.W.mg_of X G q_GREATEST,
     b_len := PySem.W.mg_none_of X G z_len,
     b_sum := PySem.W.mg_none_of X G z_sum,
     b_max := PySem.W.mg_none_of X G z_max,
     b_min := PySem.W.mg_none_of X G z_min,
     b_abs := PySem.W.mg_none_of X G z_abs,
     b_isinstance := PySem.W.mg_none_of X G z_isinstance,
     b_list := PySem.W.mg_none_of X G z_list,
     b_range := PySem.W.mg_none_of X G z_range,
     b_enumerate := PySem.W.mg_none_of X G z_enumerate,
     b_sorted := PySem.W.mg_none_of X G z_sorted,
     b_reversed := PySem.W.mg_none_of X G z_reversed,
     b_int := PySem.W.mg_none_of X G z_int,
     b_bool := PySem.W.mg_none_of X G z_bool,
     tk1 := tk1,
     tk2 := tk2 },
   _, fun_mk (st := s_law) l_law c_law k_law, fun s v => .of_eq rfl⟩
theorem all_mk {l : PySem.W.OpenLaw} {w : World} {K : PySem.W.Frag} {mg : Str → Option Value} {fa : Addr} (hfa : mg "law" = some (.ref fa))
    (hT : ∃ t : Adr, Txt K mg t ∧ ∃ fd, Fun K "law" "law" s_law t.f_law fd ∧ ∀ (s : Shared) (v : Value), BindsTo s fd ⟨[v], []⟩ [("_law_script", v)]) :
    ∃ fd : FuncData, (∀ (s : Shared) (v : Value), BindsTo s fd ⟨[v], []⟩ [("_law_script", v)]) ∧ ∀ base : Heap, K.In base → base.Ns mainGlobals mg → FnOk l.prog w K mg base CX0 7 fa fd ["_law_script"] (sp_law K) := by
  obtain ⟨t, T, fd, F, b⟩ := hT
  have e := hfa.symm.trans T.mg_law
  cases e
  exact ⟨fd, b, fun base _ _ => ok_law T F⟩
theorem walk {l : PySem.W.OpenLaw} {q : Program} {loose : List Str} {XP : (Str → Option Value) → Heap → Prop} {YP : World → Heap → Prop} {d : DefRec} {K : Params → PySem.W.Frag} (hn : l.most = some 63) (hdf : d.params.defaults = [])
    (hY : ∀ (w : World) (h : Heap), YP w h → (K w.params).In h)
    (F : ∀ (w : World) (mg : Str → Option Value) (fa : Addr) (h : Heap), (K w.params).In h → h.Ns mainGlobals mg → mg d.name = some (.ref fa) →
      ∃ fd : FuncData, (∀ (s : Shared) (u : Value), BindsTo s fd ⟨[u], []⟩ [("_law_script", u)]) ∧ ∀ base : Heap, (K w.params).In base → base.Ns mainGlobals mg → FnOk l.prog w (K w.params) mg base CX0 7 fa fd ["_law_script"] (sp_law (K w.params))) :
    PySem.W.WalkO q loose XP YP l.row.toRowW d [] (fun f vs => PySem.call f vs) :=
  L2.walk_of (n := 63) (k := 7) (x := "_law_script") (CX := fun _ => CX0) (sp := fun w => sp_law (K w.params)) hn (by decide) hdf ⟨rfl, by decide, by decide⟩ hY F (fun _ _ a ns hl _ hS => ⟨a, ns, rfl, hS, hl, fun _ => rfl⟩) fun _ _ _ _ _ z => z
end Pr
/-! These names stand before the last theorem so that the quick copies of the first heap's trees, which would make the compiled text too big, are not laid. -/
theorem PySem.W.Fast.tw8214089410664973573 : True := trivial
theorem PySem.W.Fast.tw3507154578342710682 : True := trivial
theorem PySem.W.Fast.tw5847228377690321302 : True := trivial
theorem PySem.W.Fast.tw15932516596324776964 : True := trivial
theorem PySem.W.Fast.tw854504510016026535 : True := trivial
theorem PySem.W.Fast.tw13979032039622843004 : True := trivial
theorem PySem.W.Fast.tw441880502519443851 : True := trivial
theorem PySem.W.Fast.tw6121936655615473215 : True := trivial
theorem PySem.W.Fast.tw13342828250679859030 : True := trivial
theorem PySem.W.Fast.tw18251892897426378040 : True := trivial
theorem PySem.W.Fast.tw1177401933170068687 : True := trivial
theorem PySem.W.Fast.tw2087027562342559359 : True := trivial
theorem PySem.W.Fast.tw4324767998260632154 : True := trivial
theorem PySem.W.Fast.tw3444193176357104639 : True := trivial
theorem PySem.W.Fast.tw4024085462303972892 : True := trivial
theorem PySem.W.Fast.tw11297658889207416219 : True := trivial
open PySem PySem.W PyProof.Rows
set_option maxRecDepth 100000 in
set_option maxHeartbeats 0 in
theorem PySem.Challenge.cw_beststretch_k08_refused_holds : PySem.Challenge.rw_beststretch_k08_refused.Holds := by
  w_on; o_law; k_head; (case hw => w_witness2)
  k_fill
  refine Pr.walk (l := PySem.Challenge.rw_beststretch_k08_refused) rfl rfl (fun w h Y => PySem.W.kIn_of Y) ?F
  case F =>
    intro w mg fa h KX G hmg
    refine Pr.all_mk hmg ?_
    refine' Pr.txt_mk KX G ?aC_StretchError ?aC_BadRow ?aC_BadLeast ?aC_BadTotal ?aC_BadMany ?aC_Answer ?aC_Best ?aC_Steep ?aC_Around ?aC_Exact ?aC_Never ?aC_Several ?aC_Worth ?aC_Walk ?a_is_whole ?l_is_whole ?c_is_whole ?k_is_whole ?a_check_row ?l_check_row ?c_check_row ?k_check_row ?a_running_sums ?l_running_sums ?c_running_sums ?k_running_sums ?a_sums ?l_sums ?c_sums ?k_sums ?a_stretch_sum ?l_stretch_sum ?c_stretch_sum ?k_stretch_sum ?a_turned_inner ?l_turned_inner ?c_turned_inner ?k_turned_inner ?a_Best___init__ ?i_Best___init__ ?l_Best___init__ ?c_Best___init__ ?k_Best___init__ ?a_Around___init__ ?i_Around___init__ ?l_Around___init__ ?c_Around___init__ ?k_Around___init__ ?a_Exact___init__ ?i_Exact___init__ ?l_Exact___init__ ?c_Exact___init__ ?k_Exact___init__ ?a_Never___init__ ?i_Never___init__ ?l_Never___init__ ?c_Never___init__ ?k_Never___init__ ?a_check_least ?l_check_least ?c_check_least ?k_check_least ?a_best_of ?l_best_of ?c_best_of ?k_best_of ?a_best ?l_best ?c_best ?k_best ?a_steepest ?l_steepest ?c_steepest ?k_steepest ?a_around ?l_around ?c_around ?k_around ?a_check_total ?l_check_total ?c_check_total ?k_check_total ?a_exact ?l_exact ?c_exact ?k_exact ?a_how_many ?l_how_many ?c_how_many ?k_how_many ?a_check_many ?l_check_many ?c_check_many ?k_check_many ?a_several ?l_several ?c_several ?k_several ?a__law_rows_asked ?l__law_rows_asked ?c__law_rows_asked ?k__law_rows_asked ?a__law_told ?l__law_told ?c__law_told ?k__law_told ?a_law ?l_law ?c_law ?k_law ?pg_Best ?hd_Best ?po_Best ?sa_Best ?mk_Best ?kc_Best ?n_Best_first ?n_Best_many ?n_Best_lows ?y1_Best ?y2_Best ?m_Best_Best ?m_BadRow_BadRow ?t_BadRow ?m_Best_BadRow ?m_BadLeast_BadLeast ?t_BadLeast ?m_Best_BadLeast ?m_BadTotal_BadTotal ?t_BadTotal ?m_Best_BadTotal ?m_BadMany_BadMany ?t_BadMany ?m_Best_BadMany ?m_Never_Never ?t_Never ?m_Best_Never ?pg_Around ?hd_Around ?po_Around ?sa_Around ?mk_Around ?kc_Around ?n_Around_first ?n_Around_many ?n_Around_lows ?n_Around_tops ?y1_Around ?y2_Around ?m_Around_Around ?m_Around_BadRow ?m_Around_BadLeast ?m_Around_BadTotal ?m_Around_BadMany ?m_Around_Never ?pg_Exact ?hd_Exact ?po_Exact ?sa_Exact ?mk_Exact ?kc_Exact ?n_Exact_first ?n_Exact_many ?y1_Exact ?y2_Exact ?m_Exact_Exact ?m_Exact_BadRow ?m_Exact_BadLeast ?m_Exact_BadTotal ?m_Exact_BadMany ?m_Exact_Never ?pg_Never ?hd_Never ?po_Never ?sa_Never ?mk_Never ?kc_Never ?n_Never_table ?y1_Never ?y2_Never ?m_Never_BadRow ?m_Never_BadLeast ?m_Never_BadTotal ?m_Never_BadMany ?xmb ?xmd ?xtd ?z_ValueError ?xm_BadRow_BadRow ?xt_BadRow ?xm_BadLeast_BadLeast ?xt_BadLeast ?xm_BadTotal_BadTotal ?xt_BadTotal ?xm_BadMany_BadMany ?xt_BadMany ?xe_BadRow ?xg_BadRow ?xn_BadRow ?xB_BadRow ?xh_BadRow ?xa_BadRow ?xo_BadRow ?xb_BadRow ?xv_BadRow ?xm_BadRow_BadLeast ?xm_BadRow_BadTotal ?xm_BadRow_BadMany ?xe_BadLeast ?xg_BadLeast ?xn_BadLeast ?xB_BadLeast ?xh_BadLeast ?xa_BadLeast ?xo_BadLeast ?xb_BadLeast ?xv_BadLeast ?xm_BadLeast_BadRow ?xm_BadLeast_BadTotal ?xm_BadLeast_BadMany ?xe_BadTotal ?xg_BadTotal ?xn_BadTotal ?xB_BadTotal ?xh_BadTotal ?xa_BadTotal ?xo_BadTotal ?xb_BadTotal ?xv_BadTotal ?xm_BadTotal_BadRow ?xm_BadTotal_BadLeast ?xm_BadTotal_BadMany ?xe_BadMany ?xg_BadMany ?xn_BadMany ?xB_BadMany ?xh_BadMany ?xa_BadMany ?xo_BadMany ?xb_BadMany ?xv_BadMany ?xm_BadMany_BadRow ?xm_BadMany_BadLeast ?xm_BadMany_BadTotal ?q_GREATEST ?z_len ?z_sum ?z_max ?z_min ?z_abs ?z_isinstance ?z_list ?z_range ?z_enumerate ?z_sorted ?z_reversed ?z_int ?z_bool ?tk1 ?tk2
    (case aC_StretchError => k_is)
    (case aC_BadRow => k_is)
    (case aC_BadLeast => k_is)
    (case aC_BadTotal => k_is)
    (case aC_BadMany => k_is)
    (case aC_Answer => k_is)
    (case aC_Best => k_is)
    (case aC_Steep => k_is)
    (case aC_Around => k_is)
    (case aC_Exact => k_is)
    (case aC_Never => k_is)
    (case aC_Several => k_is)
    (case aC_Worth => k_is)
    (case aC_Walk => k_is)
    (case a_is_whole => k_is)
    (case l_is_whole => k_is)
    (case c_is_whole => k_is)
    (case k_is_whole => k_is)
    (case a_check_row => k_is)
    (case l_check_row => k_is)
    (case c_check_row => k_is)
    (case k_check_row => k_is)
    (case a_running_sums => k_is)
    (case l_running_sums => k_is)
    (case c_running_sums => k_is)
    (case k_running_sums => k_is)
    (case a_sums => k_is)
    (case l_sums => k_is)
    (case c_sums => k_is)
    (case k_sums => k_is)
    (case a_stretch_sum => k_is)
    (case l_stretch_sum => k_is)
    (case c_stretch_sum => k_is)
    (case k_stretch_sum => k_is)
    (case a_turned_inner => k_is)
    (case l_turned_inner => k_is)
    (case c_turned_inner => k_is)
    (case k_turned_inner => k_is)
    (case a_Best___init__ => k_is)
    (case i_Best___init__ => k_is)
    (case l_Best___init__ => k_is)
    (case c_Best___init__ => k_is)
    (case k_Best___init__ => k_is)
    (case a_Around___init__ => k_is)
    (case i_Around___init__ => k_is)
    (case l_Around___init__ => k_is)
    (case c_Around___init__ => k_is)
    (case k_Around___init__ => k_is)
    (case a_Exact___init__ => k_is)
    (case i_Exact___init__ => k_is)
    (case l_Exact___init__ => k_is)
    (case c_Exact___init__ => k_is)
    (case k_Exact___init__ => k_is)
    (case a_Never___init__ => k_is)
    (case i_Never___init__ => k_is)
    (case l_Never___init__ => k_is)
    (case c_Never___init__ => k_is)
    (case k_Never___init__ => k_is)
    (case a_check_least => k_is)
    (case l_check_least => k_is)
    (case c_check_least => k_is)
    (case k_check_least => k_is)
    (case a_best_of => k_is)
    (case l_best_of => k_is)
    (case c_best_of => k_is)
    (case k_best_of => k_is)
    (case a_best => k_is)
    (case l_best => k_is)
    (case c_best => k_is)
    (case k_best => k_is)
    (case a_steepest => k_is)
    (case l_steepest => k_is)
    (case c_steepest => k_is)
    (case k_steepest => k_is)
    (case a_around => k_is)
    (case l_around => k_is)
    (case c_around => k_is)
    (case k_around => k_is)
    (case a_check_total => k_is)
    (case l_check_total => k_is)
    (case c_check_total => k_is)
    (case k_check_total => k_is)
    (case a_exact => k_is)
    (case l_exact => k_is)
    (case c_exact => k_is)
    (case k_exact => k_is)
    (case a_how_many => k_is)
    (case l_how_many => k_is)
    (case c_how_many => k_is)
    (case k_how_many => k_is)
    (case a_check_many => k_is)
    (case l_check_many => k_is)
    (case c_check_many => k_is)
    (case k_check_many => k_is)
    (case a_several => k_is)
    (case l_several => k_is)
    (case c_several => k_is)
    (case k_several => k_is)
    (case a__law_rows_asked => k_is)
    (case l__law_rows_asked => k_is)
    (case c__law_rows_asked => k_is)
    (case k__law_rows_asked => k_is)
    (case a__law_told => k_is)
    (case l__law_told => k_is)
    (case c__law_told => k_is)
    (case k__law_told => k_is)
    (case a_law => k_is)
    (case l_law => k_is)
    (case c_law => k_is)
    (case k_law => k_is)
    (case pg_Best => k_is)
    (case hd_Best => k_is)
    (case po_Best => k_is)
    (case sa_Best => k_is)
    (case mk_Best => k_is)
    (case kc_Best => k_is)
    (case n_Best_first => k_is)
    (case n_Best_many => k_is)
    (case n_Best_lows => k_is)
    (case y1_Best => k_is)
    (case y2_Best => k_is)
    (case m_Best_Best => k_is)
    (case m_BadRow_BadRow => k_is)
    (case t_BadRow => k_is)
    (case m_Best_BadRow => k_is)
    (case m_BadLeast_BadLeast => k_is)
    (case t_BadLeast => k_is)
    (case m_Best_BadLeast => k_is)
    (case m_BadTotal_BadTotal => k_is)
    (case t_BadTotal => k_is)
    (case m_Best_BadTotal => k_is)
    (case m_BadMany_BadMany => k_is)
    (case t_BadMany => k_is)
    (case m_Best_BadMany => k_is)
    (case m_Never_Never => k_is)
    (case t_Never => k_is)
    (case m_Best_Never => k_is)
    (case pg_Around => k_is)
    (case hd_Around => k_is)
    (case po_Around => k_is)
    (case sa_Around => k_is)
    (case mk_Around => k_is)
    (case kc_Around => k_is)
    (case n_Around_first => k_is)
    (case n_Around_many => k_is)
    (case n_Around_lows => k_is)
    (case n_Around_tops => k_is)
    (case y1_Around => k_is)
    (case y2_Around => k_is)
    (case m_Around_Around => k_is)
    (case m_Around_BadRow => k_is)
    (case m_Around_BadLeast => k_is)
    (case m_Around_BadTotal => k_is)
    (case m_Around_BadMany => k_is)
    (case m_Around_Never => k_is)
    (case pg_Exact => k_is)
    (case hd_Exact => k_is)
    (case po_Exact => k_is)
    (case sa_Exact => k_is)
    (case mk_Exact => k_is)
    (case kc_Exact => k_is)
    (case n_Exact_first => k_is)
    (case n_Exact_many => k_is)
    (case y1_Exact => k_is)
    (case y2_Exact => k_is)
    (case m_Exact_Exact => k_is)
    (case m_Exact_BadRow => k_is)
    (case m_Exact_BadLeast => k_is)
    (case m_Exact_BadTotal => k_is)
    (case m_Exact_BadMany => k_is)
    (case m_Exact_Never => k_is)
    (case pg_Never => k_is)
    (case hd_Never => k_is)
    (case po_Never => k_is)
    (case sa_Never => k_is)
    (case mk_Never => k_is)
    (case kc_Never => k_is)
    (case n_Never_table => k_is)
    (case y1_Never => k_is)
    (case y2_Never => k_is)
    (case m_Never_BadRow => k_is)
    (case m_Never_BadLeast => k_is)
    (case m_Never_BadTotal => k_is)
    (case m_Never_BadMany => k_is)
    (case xmb => k_is)
    (case xmd => k_is)
    (case xtd => k_is)
    (case z_ValueError => k_is)
    (case xm_BadRow_BadRow => k_is)
    (case xt_BadRow => k_is)
    (case xm_BadLeast_BadLeast => k_is)
    (case xt_BadLeast => k_is)
    (case xm_BadTotal_BadTotal => k_is)
    (case xt_BadTotal => k_is)
    (case xm_BadMany_BadMany => k_is)
    (case xt_BadMany => k_is)
    (case xe_BadRow => k_exc)
    (case xg_BadRow => k_is)
    (case xn_BadRow => k_is)
    (case xB_BadRow => k_is)
    (case xh_BadRow => k_is)
    (case xa_BadRow => k_is)
    (case xo_BadRow => k_is)
    (case xb_BadRow => k_is)
    (case xv_BadRow => k_is)
    (case xm_BadRow_BadLeast => k_is)
    (case xm_BadRow_BadTotal => k_is)
    (case xm_BadRow_BadMany => k_is)
    (case xe_BadLeast => k_exc)
    (case xg_BadLeast => k_is)
    (case xn_BadLeast => k_is)
    (case xB_BadLeast => k_is)
    (case xh_BadLeast => k_is)
    (case xa_BadLeast => k_is)
    (case xo_BadLeast => k_is)
    (case xb_BadLeast => k_is)
    (case xv_BadLeast => k_is)
    (case xm_BadLeast_BadRow => k_is)
    (case xm_BadLeast_BadTotal => k_is)
    (case xm_BadLeast_BadMany => k_is)
    (case xe_BadTotal => k_exc)
    (case xg_BadTotal => k_is)
    (case xn_BadTotal => k_is)
    (case xB_BadTotal => k_is)
    (case xh_BadTotal => k_is)
    (case xa_BadTotal => k_is)
    (case xo_BadTotal => k_is)
    (case xb_BadTotal => k_is)
    (case xv_BadTotal => k_is)
    (case xm_BadTotal_BadRow => k_is)
    (case xm_BadTotal_BadLeast => k_is)
    (case xm_BadTotal_BadMany => k_is)
    (case xe_BadMany => k_exc)
    (case xg_BadMany => k_is)
    (case xn_BadMany => k_is)
    (case xB_BadMany => k_is)
    (case xh_BadMany => k_is)
    (case xa_BadMany => k_is)
    (case xo_BadMany => k_is)
    (case xb_BadMany => k_is)
    (case xv_BadMany => k_is)
    (case xm_BadMany_BadRow => k_is)
    (case xm_BadMany_BadLeast => k_is)
    (case xm_BadMany_BadTotal => k_is)
    (case q_GREATEST => k_is)
    (case z_len => k_is)
    (case z_sum => k_is)
    (case z_max => k_is)
    (case z_min => k_is)
    (case z_abs => k_is)
    (case z_isinstance => k_is)
    (case z_list => k_is)
    (case z_range => k_is)
    (case z_enumerate => k_is)
    (case z_sorted => k_is)
    (case z_reversed => k_is)
    (case z_int => k_is)
    (case z_bool => k_is)
    (case tk1 => k_is)
    (case tk2 => k_is)
