import PyProof.Rows.All
import Wide.All
import OpenK.AllK
import Wide.FinOn
import Lean
import PyProof.EqAt
import PyProof.EqKinds
import PyProof.TupleCall
import PySem.Challenge.RW_creelway_k49_texts_of_no_deed
set_option Elab.async false
set_option linter.all false
set_option maxRecDepth 100000
namespace L2
open PySem PySem.Spec PyProof.Rows

noncomputable abbrev Key := Sum Int Str
noncomputable def keyIs : Key → Value → Bool
  | .inl k, v => Value.isInt k v
  | .inr x, v => Value.isStrOf x v
noncomputable def keyH (w : World) : Key → Int
  | .inl k => hashInt k
  | .inr x => hashStr w x
theorem keyIs_shape : ∀ {k : Key} {v : Value}, keyIs k v = true → (∃ i t, k = Sum.inl i ∧ v = Value.int i t) ∨ (∃ x t, k = Sum.inr x ∧ v = Value.str x t)
  | .inl i, v, h => by
    obtain ⟨t, e⟩ := Value.isInt_shape (k := i) (v := v) h
    exact .inl ⟨i, t, rfl, e⟩
  | .inr x, v, h => by
    obtain ⟨t, e⟩ := Value.isStrOf_shape (x := x) (v := v) h
    exact .inr ⟨x, t, rfl, e⟩
theorem keyIs_int (i : Int) (t : Tok) : keyIs (.inl i) (.int i t) = true := by simp [keyIs, Value.isInt]
theorem keyIs_str (x : Str) (t : Tok) : keyIs (.inr x) (.str x t) = true := by simp [keyIs, Value.isStrOf]
theorem key_ll (a b : Int) : decide ((Sum.inl a : Key) = Sum.inl b) = (a == b) := by
  by_cases e : a = b
  · subst e; simp
  · have h : ¬ (Sum.inl a : Key) = Sum.inl b := fun q => e (Sum.inl.inj q)
    rw [decide_eq_false h]
    exact (beq_eq_false_iff_ne.mpr e).symm
theorem key_rr (a b : Str) : decide ((Sum.inr a : Key) = Sum.inr b) = decide (a = b) := by
  by_cases e : a = b
  · subst e; simp
  · have h : ¬ (Sum.inr a : Key) = Sum.inr b := fun q => e (Sum.inr.inj q)
    rw [decide_eq_false h, decide_eq_false e]
theorem key_lr (a : Int) (b : Str) : decide ((Sum.inl a : Key) = Sum.inr b) = false := decide_eq_false (fun q => nomatch q)
theorem key_rl (a : Str) (b : Int) : decide ((Sum.inr a : Key) = Sum.inl b) = false := decide_eq_false (fun q => nomatch q)

noncomputable def mixKind (prog : Program) (w : World) : PySem.KeyKind prog w Key where
  is := keyIs
  hash := keyH w
  inj := fun v a b ha hb => by
    rcases keyIs_shape ha with ⟨i, t, rfl, rfl⟩ | ⟨x, t, rfl, rfl⟩
    · rcases keyIs_shape hb with ⟨j, u, rfl, e⟩ | ⟨y, u, rfl, e⟩
      · injection e with e1 _; rw [e1]
      · exact nomatch e
    · rcases keyIs_shape hb with ⟨j, u, rfl, e⟩ | ⟨y, u, rfl, e⟩
      · exact nomatch e
      · injection e with e1 _; rw [e1]
  byValue := fun k v h => by
    rcases keyIs_shape h with ⟨i, t, rfl, rfl⟩ | ⟨x, t, rfl, rfl⟩ <;> rfl
  pyHash := fun hv h => by
    rcases keyIs_shape hv with ⟨i, t, rfl, rfl⟩ | ⟨x, t, rfl, rfl⟩
    · exact wpAny_pyHash_int h
    · exact wpAny_pyHash_str h
  eqBool := fun hu hv h => by
    rcases keyIs_shape hu with ⟨i, t, rfl, rfl⟩ | ⟨x, t, rfl, rfl⟩
    · rcases keyIs_shape hv with ⟨j, u, rfl, rfl⟩ | ⟨y, u, rfl, rfl⟩
      · rw [key_ll] at h; exact wpAny_eqBool_int h
      · rw [key_lr] at h; exact SeqAt.EqAt.int_str i t y u _ _ _ _ h
    · rcases keyIs_shape hv with ⟨j, u, rfl, rfl⟩ | ⟨y, u, rfl, rfl⟩
      · rw [key_rl] at h; exact SeqAt.EqAt.str_int x t j u _ _ _ _ h
      · rw [key_rr] at h; exact wpAny_eqBool_str h
  «strs» := fun k x t v h => by
    rcases keyIs_shape h with ⟨i, u, rfl, e⟩ | ⟨y, u, rfl, e⟩
    · exact nomatch e
    · injection e with e1 _
      subst e1
      cases v <;> rfl

theorem mixKind_is (prog : Program) (w : World) (k : Key) (v : Value) : (mixKind prog w).is k v = keyIs k v := rfl
theorem mixKind_int (prog : Program) (w : World) (i : Int) (t : Tok) : (mixKind prog w).is (.inl i) (.int i t) = true := keyIs_int i t
theorem mixKind_str (prog : Program) (w : World) (x : Str) (t : Tok) : (mixKind prog w).is (.inr x) (.str x t) = true := keyIs_str x t
end L2

namespace L2
open PySem PySem.Spec PyProof.Rows

inductive V where
  | non | bl (b : Bool) | int (i : Int) | str (x : Str) | byt (b : Array UInt8) | flt (b : UInt64) | ref (a : Addr) | ty (n : String)
  deriving DecidableEq

noncomputable def RelV : V → Value → Prop
  | .non, u => u = Value.none
  | .bl b, u => u = Value.bool b
  | .int i, u => ∃ t, u = Value.int i t
  | .str x, u => ∃ t, u = Value.str x t
  | .byt b, u => ∃ t, u = Value.bytes b t
  | .flt b, u => ∃ t, u = Value.float b t
  | .ref a, u => u = Value.ref a
  | .ty n, u => u = Value.type n

noncomputable abbrev Vals : List V → List Value → Prop := Paired RelV
theorem Vals.length {xs : List V} {us : List Value} (r : Vals xs us) : xs.length = us.length := Paired.length r
theorem Vals.get : ∀ {xs : List V} {us : List Value} {i : Nat} {x : V}, Vals xs us → xs[i]? = some x → ∃ u, us[i]? = some u ∧ RelV x u
  | _, _, _, _, .nil, e => by simp at e
  | _, _, 0, _, .cons r _, e => by simp at e; subst e; exact ⟨_, rfl, r⟩
  | _, _, i + 1, x, .cons _ t, e => by
    obtain ⟨u, h1, h2⟩ := Vals.get (i := i) (x := x) t (by simpa using e)
    exact ⟨u, by simpa using h1, h2⟩
theorem Vals.set {x : V} {u : Value} (r : RelV x u) : ∀ {xs : List V} {us : List Value} (i : Nat), Vals xs us → Vals (xs.set i x) (us.set i u)
  | _, _, _, .nil => .nil
  | _, _, 0, .cons _ t => .cons r t
  | _, _, i + 1, .cons q t => .cons q (Vals.set r i t)
theorem Vals.append : ∀ {xs ys : List V} {us ws : List Value}, Vals xs us → Vals ys ws → Vals (xs ++ ys) (us ++ ws)
  | _, _, _, _, .nil, s => s
  | _, _, _, _, .cons r t, s => .cons r (Vals.append t s)
theorem Vals.take : ∀ {xs : List V} {us : List Value} (n : Nat), Vals xs us → Vals (xs.take n) (us.take n)
  | _, _, 0, _ => .nil
  | _, _, _ + 1, .nil => .nil
  | _, _, n + 1, .cons r t => .cons r (Vals.take n t)
theorem Vals.drop : ∀ {xs : List V} {us : List Value} (n : Nat), Vals xs us → Vals (xs.drop n) (us.drop n)
  | _, _, 0, r => r
  | _, _, _ + 1, .nil => .nil
  | _, _, n + 1, .cons _ t => Vals.drop n t
noncomputable def RelO : Option V → Option Value → Prop
  | some v, some u => RelV v u
  | none, none => True
  | _, _ => False
noncomputable def KV {κ : Type} : List (κ × V) → List (κ × Value) → Prop := Paired fun (p : κ × V) (q : κ × Value) => p.1 = q.1 ∧ RelV p.2 q.2

noncomputable def kV : Key → V
  | .inl i => .int i
  | .inr x => .str x

inductive HO where
    | lst (xs : List V)
    | tup (xs : List V)
    | dK (kvs : List (Key × V)) | dT (kvs : List (List Key × V))
    | set (S : Int → Bool) (n : Nat)
    | ins (C dx : Addr) (fs : List (Str × V))
    | own (x : Addr)
    | xd (fs : List (Str × V))
    | met (f x : Addr)
    | rng (lo hi : Int)
    | frz (o : Obj) (u : HO)
    | tbl (ps : Array Value)
    | ext (φ : Heap → Prop)

noncomputable abbrev Hp := Addr → Option HO
noncomputable def upd (H : Hp) (a : Addr) (o : HO) : Hp := fun b => if b = a then some o else H b
theorem upd_same {H : Hp} {a : Addr} {o : HO} : upd H a o a = some o := by unfold upd; rw [if_pos rfl]
theorem upd_ne {H : Hp} {a b : Addr} {o : HO} (h : b ≠ a) : upd H a o b = H b := by unfold upd; rw [if_neg h]
theorem ne_of {H : Hp} {a b : Addr} {o u : HO} (h : H a = some o) (h' : H b = some u) (d : o ≠ u) : a ≠ b := by
  intro e; subst e; rw [h] at h'; exact d (Option.some.inj h')
theorem ne_of_none {H : Hp} {a b : Addr} {o : HO} (h : H a = some o) (h' : H b = none) : a ≠ b := by
  intro e; subst e; rw [h] at h'; cases h'

section
variable (P : Program) (w : World)
noncomputable def ObjOk (H : Hp) (h : Heap) (a : Addr) : HO → Prop
  | .lst xs => xs.length ≤ sizeLine ∧ ∃ (its : List Value) (n : Nat), Vals xs its ∧ h.get? a = some { cls := .type "list", data := .seq its.toArray n }
  | .tup xs => xs.length ≤ sizeLine ∧ ∃ its : List Value, Vals xs its ∧ IsTup h a its.toArray
  | .dK kvs => kvs.length ≤ sizeLine ∧ (a == sysModules) = false ∧ ∃ vs, KV kvs vs ∧ h.DictOf (mixKind P w) a vs
  | .dT kvs => kvs.length ≤ sizeLine ∧ (a == sysModules) = false ∧ ∃ xs : List (List Key × Addr × Value),
      Paired (fun (p : List Key × V) (q : List Key × Addr × Value) => p.1 = q.1 ∧ H q.2.1 = some (.tup (p.1.map kV)) ∧ RelV p.2 q.2.2) kvs xs ∧
      ∃ o es ep, h.get? a = some o ∧ o.ExactDict ∧ o.data = .dict es ep ∧ es.toList = xs.map (entryOfKey (tupleKind (mixKind P w))) ∧ (xs.map (·.1)).Nodup
  | .set S n => h.SetOf (intKind P w) a S n
  | .ins C dx fs => H dx = some (.own a) ∧ fs.length ≤ 1000 ∧ dx ≠ a ∧ h.get? a = some (PySem.W.instObj C dx) ∧
      ∃ mA, h.Ns1 dx mA ∧ (∀ f, RelO (fs.lookup f) (mA f)) ∧ PySem.Within mA (fs.map (·.1))
  | .own _ => ∃ o, h.get? a = some o
  | .xd fs => ∃ mA, h.Ns1 a mA ∧ ∀ f, RelO (fs.lookup f) (mA f)
  | .rng lo hi => ∃ t u v, h.get? a = some { cls := .type "range", data := .fields #[.int lo t, .int hi u, .int 1 v] }
  | .frz o u => h.get? a = some o ∧ ObjOk H h a u
  | .tbl ps => h.get? a = some { cls := .none, data := .fields ps }
  | .met f x => h.get? a = some (PySem.W.methodObj (.ref f) (.ref x))
  | .ext φ => φ h ∧ (∃ o, h.get? a = some o) ∧ ∀ h1 h2 : Heap, φ h1 → (∀ o, h1.get? a = some o → h2.get? a = some o) → φ h2
noncomputable def HOk (H : Hp) (h : Heap) : Prop := ∀ a o, H a = some o → ObjOk P w H h a o
end

section
variable {P : Program} {w : World} {H H' : Hp} {h h' : Heap} {a : Addr} {o : HO}
theorem ObjOk.lt (x : ObjOk P w H h a o) : a < h.objs.size := by
  cases o with
  | lst xs => obtain ⟨_, _, _, _, e⟩ := x; exact Heap.lt_size e
  | tup xs => obtain ⟨_, _, _, p⟩ := x; exact p.lt
  | dK kvs => obtain ⟨_, _, _, _, o, _, _, e, _⟩ := x; exact Heap.lt_size e
  | dT kvs => obtain ⟨_, _, _, _, o, _, _, e, _⟩ := x; exact Heap.lt_size e
  | set S n => obtain ⟨o, _, _, _, e, _⟩ := x; exact Heap.lt_size e
  | ins C dx fs => obtain ⟨_, _, _, e, _⟩ := x; exact Heap.lt_size e
  | own y => obtain ⟨_, e⟩ := x; exact Heap.lt_size e
  | xd fs => obtain ⟨_, ⟨_, _, _, e, _⟩, _⟩ := x; exact Heap.lt_size e
  | rng lo hi => obtain ⟨_, _, _, e⟩ := x; exact Heap.lt_size e
  | frz ob u => obtain ⟨e, _⟩ := x; exact Heap.lt_size e
  | tbl ps => exact Heap.lt_size (show h.get? a = some _ from x)
  | met f y => exact Heap.lt_size (show h.get? a = some _ from x)
  | ext φ => obtain ⟨_, ⟨_, e⟩, _⟩ := x; exact Heap.lt_size e
theorem Paired.mapP {α β : Type} {F G : α → β → Prop} : ∀ {l₁ : List α} {l₂ : List β}, Paired F l₁ l₂ → (∀ a b, F a b → G a b) → Paired G l₁ l₂
  | _, _, .nil, _ => .nil
  | _, _, .cons r t, f => .cons (f _ _ r) (Paired.mapP t f)
theorem ObjOk.stay (x : ObjOk P w H h a o) (k : ∀ b u, (b = a ∨ H b = some (.own a)) → h.get? b = some u → h'.get? b = some u)
    (ho : ∀ b, H b = some (.own a) → H' b = some (.own a)) (ht : ∀ b xs, H b = some (.tup xs) → H' b = some (.tup xs)) : ObjOk P w H' h' a o := by
  induction o with
  | lst xs => obtain ⟨z, its, n, r, e⟩ := x; exact ⟨z, its, n, r, k _ _ (.inl rfl) e⟩
  | tup xs => obtain ⟨z, its, r, ob, e, c⟩ := x; exact ⟨z, its, r, ob, k _ _ (.inl rfl) e, c⟩
  | dK kvs => obtain ⟨z, y, vs, r, ob, es, ep, e, c⟩ := x; exact ⟨z, y, vs, r, ob, es, ep, k _ _ (.inl rfl) e, c⟩
  | dT kvs =>
    obtain ⟨z, y, xs, r, ob, es, ep, e, c⟩ := x
    exact ⟨z, y, xs, Paired.mapP r fun p q z => ⟨z.1, ht _ _ z.2.1, z.2.2⟩, ob, es, ep, k _ _ (.inl rfl) e, c⟩
  | set S n => obtain ⟨ob, es, ep, t, e, c⟩ := x; exact ⟨ob, es, ep, t, k _ _ (.inl rfl) e, c⟩
  | ins C dx fs =>
    obtain ⟨d, z, ne, e, mA, ⟨od, es, ep, e2, c⟩, r⟩ := x
    exact ⟨ho _ d, z, ne, k _ _ (.inl rfl) e, mA, ⟨od, es, ep, k _ _ (.inr d) e2, c⟩, r⟩
  | own y => obtain ⟨ob, e⟩ := x; exact ⟨ob, k _ _ (.inl rfl) e⟩
  | xd fs => obtain ⟨mA, ⟨od, es, ep, e, c⟩, r⟩ := x; exact ⟨mA, ⟨od, es, ep, k _ _ (.inl rfl) e, c⟩, r⟩
  | rng lo hi => obtain ⟨t, u, v, e⟩ := x; exact ⟨t, u, v, k _ _ (.inl rfl) e⟩
  | frz ob u ih => obtain ⟨e, q⟩ := x; exact ⟨k _ _ (.inl rfl) e, ih q⟩
  | tbl ps =>
    have e : h.get? a = some { cls := .none, data := .fields ps } := x
    show h'.get? a = some { cls := .none, data := .fields ps }
    exact k a _ (.inl rfl) e
  | met f y =>
    have e : h.get? a = some (PySem.W.methodObj (.ref f) (.ref y)) := x
    show h'.get? a = some (PySem.W.methodObj (.ref f) (.ref y))
    exact k a _ (.inl rfl) e
  | ext φ => obtain ⟨p, ⟨o, e⟩, st⟩ := x; exact ⟨st _ _ p fun o q => k _ _ (.inl rfl) q, ⟨o, k _ _ (.inl rfl) e⟩, st⟩
theorem HOk.lt (x : HOk P w H h) (e : H a = some o) : a < h.objs.size := (x a o e).lt
theorem HOk.fresh (x : HOk P w H h) (e : h.objs.size ≤ a) : H a = none := by
  cases q : H a with
  | none => rfl
  | some u => exact absurd (Nat.lt_of_lt_of_le (x.lt q) e) (Nat.lt_irrefl _)
theorem HOk.kept (x : HOk P w H h) (k : ∀ b u, h.get? b = some u → h'.get? b = some u) : HOk P w H h' := fun a o e =>
  (x a o e).stay (fun b u _ q => k b u q) (fun _ q => q) fun _ _ q => q
theorem HOk.laid (x : HOk P w H h) (k : ∀ b u, h.get? b = some u → h'.get? b = some u) (hp : h.objs.size ≤ a) (new : ObjOk P w (upd H a o) h' a o) : HOk P w (upd H a o) h' := fun b u e => by
  have hn := x.fresh hp
  by_cases hb : b = a
  · subst hb; rw [upd_same] at e; cases e; exact new
  · rw [upd_ne hb] at e
    exact (x b u e).stay (fun c v _ q => k c v q) (fun c q => by rw [upd_ne (ne_of_none q hn)]; exact q) fun c xs q => by rw [upd_ne (ne_of_none q hn)]; exact q
end

noncomputable def Rd (H : Hp) (a : Addr) (u : HO) : Prop := H a = some u ∨ ∃ o, H a = some (.frz o u)
theorem Rd.ok {P : Program} {w : World} {H : Hp} {h : Heap} {a : Addr} {u : HO} (r : Rd H a u) (x : HOk P w H h) : ObjOk P w H h a u := by
  rcases r with r | ⟨o, r⟩
  · exact x a u r
  · obtain ⟨_, q⟩ := x a _ r
    exact q
noncomputable def Mut : Option HO → Prop
  | some (.lst _) => True
  | some (.dK _) => True
  | some (.dT _) => True
  | some (.set _ _) => True
  | some (.ins _ _ _) => True
  | some (.ext _) => True
  | _ => False
section
variable {P : Program} {w : World} {H : Hp} {h h' : Heap} {x e : Addr} {o' : HO}
theorem HOk.write (ok : HOk P w H h) (mu : Mut (H x)) (he : e = x ∨ H e = some (.own x)) (k : ∀ b u, b ≠ e → h.get? b = some u → h'.get? b = some u) (heo : ∃ u, h'.get? e = some u)
    (new : ObjOk P w (upd H x o') h' x o') : HOk P w (upd H x o') h' := fun b u q => by
  have nown : ∀ c y, H c = some (.own y) → c ≠ x := fun c y r z => by subst z; rw [r] at mu; exact mu
  have ntup : ∀ c xs, H c = some (.tup xs) → c ≠ x := fun c xs r z => by subst z; rw [r] at mu; exact mu
  by_cases hb : b = x
  · subst hb; rw [upd_same] at q; cases q; exact new
  · rw [upd_ne hb] at q
    by_cases hbe : b = e
    · have q' : H b = some (.own x) := by
        rcases he with z | z
        · exact absurd (hbe.trans z) hb
        · rw [hbe]; exact z
      rw [q] at q'; cases q'
      obtain ⟨v, hv⟩ := heo
      exact ⟨v, by rw [hbe]; exact hv⟩
    · refine (ok b u q).stay (fun c v hc r => k c v ?_ r) (fun c r => by rw [upd_ne (nown c b r)]; exact r) fun c xs r => by rw [upd_ne (ntup c xs r)]; exact r
      rcases hc with rfl | hc
      · exact hbe
      · rintro rfl
        rcases he with z | z
        · exact nown c b hc z
        · rw [hc] at z; cases z; exact hb rfl
end

structure Un (fs ex : List Addr) (H H' : Hp) (h h' : Heap) : Prop where
  keep : ∀ b o, h.get? b = some o → H b = none → b ∉ fs → b ∉ ex → h'.get? b = some o
  slot : ∀ b o, h.get? b = some o → H b = none → b ∈ fs → b ∉ ex → ∃ sl, h'.get? b = some { o with slots := sl }
  free : ∀ b o, h.get? b = some o → H b = none → b ∉ ex → H' b = none
  there : ∀ b o, h.get? b = some o → b ∉ ex → ∃ o', h'.get? b = some o'
  tups : ∀ b xs, H b = some (.tup xs) → H' b = some (.tup xs)
  frzs : ∀ b o u, H b = some (.frz o u) → H' b = some (.frz o u)
  tbls : ∀ b ps, H b = some (.tbl ps) → ∃ more, H' b = some (.tbl (ps ++ more))
section
variable {fs fs' ex ex' : List Addr} {H H1 H2 : Hp} {h h1 h2 h' : Heap} {a x e : Addr} {o : HO}
theorem Un.any (u : Un fs ex H H1 h h1) {b : Addr} {ob : Obj} (q : h.get? b = some ob) (n : H b = none) (hx : b ∉ ex) : ∃ sl, h1.get? b = some { ob with slots := sl } := by
  by_cases hb : b ∈ fs
  · exact u.slot b ob q n hb hx
  · exact ⟨ob.slots, u.keep b ob q n hb hx⟩
theorem Un.trans (a : Un fs ex H H1 h h1) (b : Un fs ex H1 H2 h1 h2) : Un fs ex H H2 h h2 where
  keep := fun c ob q n hc hx => b.keep c ob (a.keep c ob q n hc hx) (a.free c ob q n hx) hc hx
  slot := fun c ob q n hc hx => by
    obtain ⟨sl, e1⟩ := a.slot c ob q n hc hx
    obtain ⟨sl', e2⟩ := b.slot c _ e1 (a.free c ob q n hx) hc hx
    exact ⟨sl', e2⟩
  free := fun c ob q n hx => by
    obtain ⟨o', e1⟩ := a.there c ob q hx
    exact b.free c o' e1 (a.free c ob q n hx) hx
  there := fun c ob q hx => by
    obtain ⟨o', e1⟩ := a.there c ob q hx
    exact b.there c o' e1 hx
  tups := fun c xs q => b.tups c xs (a.tups c xs q)
  frzs := fun c ob xs q => b.frzs c ob xs (a.frzs c ob xs q)
  tbls := fun c ps q => by
    obtain ⟨m1, e1⟩ := a.tbls c ps q
    obtain ⟨m2, e2⟩ := b.tbls c _ e1
    exact ⟨m1 ++ m2, by rw [e2, Array.append_assoc]⟩
theorem Un.kept (k : ∀ b u, h.get? b = some u → h'.get? b = some u) : Un fs ex H H h h' :=
  ⟨fun b ob q _ _ _ => k b ob q, fun b ob q _ _ _ => ⟨ob.slots, k b ob q⟩, fun _ _ _ n _ => n, fun b ob q _ => ⟨ob, k b ob q⟩, fun _ _ q => q, fun _ _ _ q => q, fun _ ps q => ⟨#[], by rw [q]; simp⟩⟩
theorem Un.refl : Un fs ex H H h h := Un.kept fun _ _ q => q
theorem Un.laid (k : ∀ b u, h.get? b = some u → h'.get? b = some u) (hp : h.objs.size ≤ a) (hn : H a = none) : Un fs ex H (upd H a o) h h' where
  keep := fun b u q _ _ _ => k b u q
  slot := fun b u q _ _ _ => ⟨u.slots, k b u q⟩
  free := fun b u q n _ => by rw [upd_ne (Nat.ne_of_lt (Nat.lt_of_lt_of_le (Heap.lt_size q) hp))]; exact n
  there := fun b u q _ => ⟨u, k b u q⟩
  tups := fun b xs q => by rw [upd_ne (ne_of_none q hn)]; exact q
  frzs := fun b u xs q => by rw [upd_ne (ne_of_none q hn)]; exact q
  tbls := fun b ps q => ⟨#[], by rw [upd_ne (ne_of_none q hn), q]; simp⟩
theorem Un.write (mu : Mut (H x)) (he : e = x ∨ H e = some (.own x)) (k : ∀ b u, b ≠ e → h.get? b = some u → h'.get? b = some u) (heo : ∃ u, h'.get? e = some u) : Un fs ex H (upd H x o) h h' := by
  have hx : ∀ b, H b = none → b ≠ x := fun b n z => by subst z; rw [n] at mu; exact mu
  have hb : ∀ b, H b = none → b ≠ e := fun b n z => by
    subst z
    rcases he with r | r
    · exact hx b n r
    · rw [n] at r; cases r
  have hm : ∀ b u, H b = some u → ¬ Mut (some u) → b ≠ x := fun b u q nm z => by subst z; rw [q] at mu; exact nm mu
  refine ⟨fun b u q n _ _ => k b u (hb b n) q, fun b u q n _ _ => ⟨u.slots, k b u (hb b n) q⟩, fun b u q n _ => by rw [upd_ne (hx b n)]; exact n, fun b u q _ => ?_,
    fun b xs q => by rw [upd_ne (hm b _ q fun z => z)]; exact q, fun b u xs q => by rw [upd_ne (hm b _ q fun z => z)]; exact q, fun b ps q => ⟨#[], by rw [upd_ne (hm b _ q fun z => z), q]; simp⟩⟩
  by_cases hbe : b = e
  · subst hbe; exact heo
  · exact ⟨u, k b u hbe q⟩
theorem Un.mono (u : Un fs ex H H1 h h1) (hs : ∀ b ∈ fs, b ∈ fs') (hx : ∀ b ∈ ex, b ∈ ex') : Un fs' ex' H H1 h h1 :=
  ⟨fun b ob q n hb he => u.keep b ob q n (fun z => hb (hs b z)) fun z => he (hx b z), fun _ _ q n _ he => u.any q n fun z => he (hx _ z), fun b ob q n he => u.free b ob q n fun z => he (hx b z), fun b ob q he => u.there b ob q fun z => he (hx b z), u.tups, u.frzs, u.tbls⟩
end

noncomputable def trk (h : Heap) (H : Hp) : List Addr := (List.range h.objs.size).filter fun a => (H a).isSome
noncomputable def hidT (h : Heap) (H : Hp) : Heap := PySem.W.hideAll h (trk h H)
theorem hidT_size (h : Heap) (H : Hp) : (hidT h H).objs.size = h.objs.size := PySem.W.hideAll_size _ _
theorem hidT_get {h : Heap} {H : Hp} {b : Addr} {o : Obj} (e : h.get? b = some o) (n : H b = none) : (hidT h H).get? b = some o :=
  PySem.W.hideAll_get _ e fun hm => by
    have q : (H b).isSome = true := (List.mem_filter.mp hm).2
    rw [n] at q; simp at q
theorem of_hidT {h : Heap} {H : Hp} {b : Addr} {o : Obj} (e : (hidT h H).get? b = some o) : h.get? b = some o ∧ H b = none := by
  have e' : h.get? b = some o := PySem.W.of_hideAll (trk h H) e
  refine ⟨e', ?_⟩
  cases q : H b with
  | none => rfl
  | some x =>
    have hm : b ∈ trk h H := List.mem_filter.mpr ⟨List.mem_range.mpr (Heap.lt_size e'), by simp [q]⟩
    have z : (hidT h H).get? b = none := PySem.W.hideAll_none (trk h H) hm
    rw [z] at e; cases e

noncomputable def allNews (g h : Heap) (L : Addr) : List (Addr × Obj) := (List.range h.objs.size).filterMap fun a => if a = L ∨ (g.get? a).isSome = true then none else (h.get? a).map fun o => (a, o)
noncomputable def rest (g h : Heap) (L d : Addr) : List (Addr × Obj) := (allNews g h L).filter fun p => decide (p.1 ≠ d)
end L2

namespace L2
open PySem PySem.Spec PyProof.Rows

structure Mod (K : PySem.W.Frag) (mg : Str → Option Value) (base : Heap) : Prop where
  kin : K.In base
  glob : base.Ns mainGlobals mg
  blt : ∃ mb, base.Ns builtinsNs mb ∧ ∀ x : Str, x ≠ "__name__" → mb x = bootBuiltins x
  nolimit : base.NoLimit

structure Cx where
  prog : Program
  w : World
  K : PySem.W.Frag
  mg : Str → Option Value
  base : Heap
  A : Around
  N : List Str
  s₀ : Shared
  H₀ : Hp
  env : Env
  outer : List Env
  stack : List Env
  ex : List Addr
  fn : Str → Bool
  calm : Bool
  pn : List (Addr × Obj)
  xe : Value → Shared → Prop
noncomputable def frs (l : List Env) : List Addr := l.filterMap (·.frame)
noncomputable abbrev Cx.fs (X : Cx) : List Addr := frs X.outer

noncomputable def Vis (sc : Scope) (x : Str) : Prop := sc.names.lookup x = some .local ∨ sc.names.lookup x = some .cell ∨ sc.names.lookup x = some .free
noncomputable def Loc (sc : Scope) (x : Str) : Prop := sc.names.lookup x = some .local ∨ sc.names.lookup x = some .cell
noncomputable def Look (env : Env) (h : Heap) (m : Str → Option Value) (x : Str) (u : Value) : Prop :=
  (env.kindOf x = some .local ∧ m x = some u) ∨ ((env.kindOf x = some .cell ∨ env.kindOf x = some .free) ∧ ∃ c, env.cells.lookup x = some c ∧ h.IsCell c (some u))

structure Cx.Ok (X : Cx) : Prop where
  mod : Mod X.K X.mg X.base
  kind : X.env.scope.kind = .function
  glob : X.env.globals = mainGlobals
  blt : X.env.builtins = builtinsNs
  above : X.s₀.heap.objs.size ≤ X.env.locals
  inj : ∀ x y c, X.env.cells.lookup x = some c → X.env.cells.lookup y = some c → x = y
  has : ∀ x, (X.env.kindOf x = some .cell ∨ X.env.kindOf x = some .free) → ∃ c, X.env.cells.lookup x = some c
  cab : ∀ x c, X.fn x = true → X.env.cells.lookup x = some c → X.s₀.heap.objs.size ≤ c
  hd : X.calm = true → X.A.handled = none
  frames : X.A.frames = some X.stack
  stk : X.stack = X.outer ∨ (X.stack = X.env :: X.outer ∧ X.env.frame = some X.env.locals)
  exf : ∀ b ∈ X.ex, b ≠ X.env.locals ∧ ∀ x c, X.env.cells.lookup x = some c → c ≠ b
  bs : ∀ b o, X.base.get? b = some o → X.s₀.heap.get? b = some o ∧ X.H₀ b = none
  bsz : X.base.objs.size ≤ X.s₀.heap.objs.size
  noex : ∀ b o, X.base.get? b = some o → b ∉ X.ex
  exfs : ∀ b ∈ X.ex, b ∉ X.fs
  funs : X.s₀.heap.FunFrames X.base X.outer
  frf : ∀ b ∈ X.fs, X.H₀ b = none

structure Inv (X : Cx) (pins : List (Addr × Obj)) (σ : List (Option V)) (H : Hp) (s : Shared) : Prop where
  ok : X.Ok
  os : s.os = X.s₀.os
  bare : AllBare s.gens
  base : Un X.fs X.ex X.H₀ H X.s₀.heap s.heap
  loc : ∃ m, s.heap.Ns X.env.locals m ∧ ∀ (i : Nat) (x : Str) (v : V), X.N[i]? = some x → σ[i]? = some (some v) → Vis X.env.scope x → ∃ u, RelV v u ∧ Look X.env s.heap m x u
  cell : ∀ x c, X.env.cells.lookup x = some c → ∃ v, s.heap.IsCell c v
  free : H X.env.locals = none
  freeC : ∀ x c, X.env.cells.lookup x = some c → H c = none
  pin : ∀ p ∈ X.pn ++ pins, s.heap.get? p.1 = some p.2 ∧ H p.1 = none ∧ p.1 ≠ X.env.locals ∧ p.1 ∉ X.fs ∧ ∀ v, p.2.data ≠ .cell v
  hok : HOk X.prog X.w H s.heap
  len : σ.length = X.N.length

section
variable {X : Cx} {pins : List (Addr × Obj)} {σ : List (Option V)} {H H' : Hp} {s : Shared} {h' : Heap}

theorem Cx.Ok.nofr (ok : X.Ok) {b : Addr} {o : Obj} (e : X.base.get? b = some o) : b ∉ X.fs := fun hb => by
  have := (ok.funs.mem hb).1
  rw [e] at this; cases this
theorem Inv.bs (I : Inv X pins σ H s) : ∀ b o, X.base.get? b = some o → s.heap.get? b = some o ∧ H b = none := fun b o e =>
  ⟨I.base.keep b o (I.ok.bs b o e).1 (I.ok.bs b o e).2 (I.ok.nofr e) (I.ok.noex b o e), I.base.free b o (I.ok.bs b o e).1 (I.ok.bs b o e).2 (I.ok.noex b o e)⟩
theorem Inv.bk (I : Inv X pins σ H s) : ∀ b o, X.base.get? b = some o → s.heap.get? b = some o := fun b o e => (I.bs b o e).1
theorem Inv.mod (I : Inv X pins σ H s) : Mod X.K X.mg X.base := I.ok.mod
theorem Inv.kIn (I : Inv X pins σ H s) : X.K.In s.heap := I.ok.mod.kin.keeps I.bk
theorem Inv.nolimit (I : Inv X pins σ H s) : s.heap.NoLimit := I.ok.mod.nolimit.keeps I.bk
theorem Inv.fr (I : Inv X pins σ H s) : ∃ m, Fr X.base X.env.locals s.heap m :=
  let ⟨m, hn, _⟩ := I.loc
  ⟨m, hn, I.bk, Nat.le_trans I.ok.bsz I.ok.above⟩
theorem Inv.lt (I : Inv X pins σ H s) : X.env.locals < s.heap.objs.size := let ⟨_, hn, _⟩ := I.loc; hn.lt
theorem Inv.sz (I : Inv X pins σ H s) : X.s₀.heap.objs.size ≤ s.heap.objs.size := Nat.le_trans I.ok.above (Nat.le_of_lt I.lt)
theorem Inv.nofs (I : Inv X pins σ H s) {a : Addr} (h : s.heap.objs.size ≤ a) : a ∉ X.fs := fun hb => by
  obtain ⟨_, o, ho, _⟩ := I.ok.funs.mem hb
  exact absurd (Nat.lt_of_lt_of_le (Heap.lt_size ho) (Nat.le_trans I.sz h)) (Nat.lt_irrefl _)
theorem Inv.cne (I : Inv X pins σ H s) : ∀ x c, X.env.cells.lookup x = some c → c ≠ X.env.locals := fun x c e z => by
  obtain ⟨v, o, ho, hd⟩ := I.cell x c e
  obtain ⟨m, ⟨o', es, ep, ho', hd', _⟩, _⟩ := I.loc
  rw [z, ho'] at ho; cases ho; rw [hd'] at hd; cases hd
theorem Inv.funs (I : Inv X pins σ H s) : s.heap.FunFrames X.base X.outer := by
  have all : ∀ (l : List Env), (∀ b ∈ frs l, b ∈ X.fs) → X.s₀.heap.FunFrames X.base l → s.heap.FunFrames X.base l := by
    intro l
    induction l with
    | nil => intro _ _; trivial
    | cons env r ih =>
      intro hs hl
      obtain ⟨hk, ⟨L, o, hf, hn, ho, hd⟩, hr⟩ := hl
      have hL : L ∈ X.fs := hs L (by unfold frs; rw [List.filterMap_cons, hf]; exact List.mem_cons_self)
      obtain ⟨sl, e⟩ := I.base.slot L o ho (I.ok.frf L hL) hL fun z => I.ok.exfs L z hL
      exact ⟨hk, ⟨L, _, hf, hn, e, hd⟩, ih (fun b hb => hs b (by unfold frs; rw [List.filterMap_cons, hf]; exact List.mem_cons_of_mem _ hb)) hr⟩
  exact all X.outer (fun _ hb => hb) I.ok.funs

theorem Inv.stack (I : Inv X pins σ H s) : s.heap.FunFrames X.base X.stack := by
  rcases I.ok.stk with e | ⟨e, hf⟩
  · rw [e]; exact I.funs
  · rw [e]
    obtain ⟨m, hn, _⟩ := I.loc
    refine .cons (by rw [I.ok.kind]; decide) hf hn ?_ I.funs
    exact Heap.get?_none_of_le (Nat.le_trans I.ok.bsz I.ok.above)
theorem Inv.stkSub (I : Inv X pins σ H s) : ∀ b ∈ frs X.stack, b ∈ X.env.locals :: X.fs := fun b hb => by
  rcases I.ok.stk with e | ⟨e, hf⟩
  · rw [e] at hb; exact List.mem_cons_of_mem _ hb
  · rw [e] at hb
    unfold frs at hb
    rw [List.filterMap_cons, hf] at hb
    exact hb
theorem Inv.stkFree (I : Inv X pins σ H s) : ∀ b ∈ frs X.stack, H b = none := fun b hb => by
  rcases List.mem_cons.mp (I.stkSub b hb) with e | hb
  · rw [e]; exact I.free
  · obtain ⟨_, o, ho, _⟩ := I.ok.funs.mem hb
    exact I.base.free b o ho (I.ok.frf b hb) fun z => I.ok.exfs b z hb

theorem Inv.step {g' : Array GenState} {t' : Nat} {d' : Drawn} {ch : List Addr} (I : Inv X pins σ H s)
    (hch : ∀ b ∈ ch, (b ∈ X.ex ∨ X.s₀.heap.objs.size ≤ b) ∧ b ≠ X.env.locals ∧ (∀ x c, X.env.cells.lookup x = some c → c ≠ b) ∧ ∀ p ∈ X.pn ++ pins, p.1 ≠ b)
    (keep : ∀ b o, b ≠ X.env.locals → b ∉ X.fs → b ∉ ch → s.heap.get? b = some o → H b = none → h'.get? b = some o)
    (slot : ∀ b o, b ≠ X.env.locals → b ∈ X.fs → b ∉ ch → s.heap.get? b = some o → H b = none → ∃ sl, h'.get? b = some { o with slots := sl }) (free : ∀ b o, b ∉ ch → s.heap.get? b = some o → H b = none → H' b = none)
    (there : ∀ b o, b ∉ ch → s.heap.get? b = some o → ∃ o', h'.get? b = some o')
    (tups : ∀ b xs, H b = some (.tup xs) → H' b = some (.tup xs)) (frzs : ∀ b o u, H b = some (.frz o u) → H' b = some (.frz o u)) (tbls : ∀ b ps, H b = some (.tbl ps) → ∃ more, H' b = some (.tbl (ps ++ more)))
    (ns : ∀ m, s.heap.Ns X.env.locals m → h'.Ns X.env.locals m) (hok : HOk X.prog X.w H' h') (hg : AllBare g') :
    Inv X pins σ H' { s with heap := h', gens := g', drawn := d', toks := t' } := by
  have neL : ∀ b o, X.s₀.heap.get? b = some o → b ≠ X.env.locals := fun b o e => Nat.ne_of_lt (Nat.lt_of_lt_of_le (Heap.lt_size e) I.ok.above)
  have neC : ∀ b o, X.s₀.heap.get? b = some o → b ∉ X.ex → b ∉ ch := fun b o e hx hb => by
    rcases (hch b hb).1 with z | z
    · exact hx z
    · exact absurd (Nat.lt_of_lt_of_le (Heap.lt_size e) z) (Nat.lt_irrefl _)
  have cellK : ∀ x c, X.env.cells.lookup x = some c → ∀ v, s.heap.IsCell c v → h'.IsCell c v := fun x c e v ⟨o, ho, hd⟩ => by
    have nch : c ∉ ch := fun z => (hch c z).2.2.1 x c e rfl
    by_cases hc : c ∈ X.fs
    · obtain ⟨sl, q⟩ := slot c o (I.cne x c e) hc nch ho (I.freeC x c e)
      exact ⟨_, q, hd⟩
    · exact ⟨o, keep c o (I.cne x c e) hc nch ho (I.freeC x c e), hd⟩
  refine ⟨I.ok, I.os, hg, ⟨fun b o e n hb hx => ?_, fun b o e n hb hx => ?_, fun b o e n hx => ?_, fun b o e hx => ?_, fun b xs e => tups b xs (I.base.tups b xs e), fun b o xs e => frzs b o xs (I.base.frzs b o xs e), fun b ps e => ?_⟩, ?_, fun x c e => ?_, ?_, fun x c e => ?_, fun p hp => ?_, hok, I.len⟩
  · exact keep b o (neL b o e) hb (neC b o e hx) (I.base.keep b o e n hb hx) (I.base.free b o e n hx)
  · obtain ⟨sl, e1⟩ := I.base.slot b o e n hb hx
    obtain ⟨sl', e2⟩ := slot b _ (neL b o e) hb (neC b o e hx) e1 (I.base.free b o e n hx)
    exact ⟨sl', e2⟩
  · obtain ⟨o', e1⟩ := I.base.there b o e hx
    exact free b o' (neC b o e hx) e1 (I.base.free b o e n hx)
  · obtain ⟨o', e1⟩ := I.base.there b o e hx
    exact there b o' (neC b o e hx) e1
  · obtain ⟨m1, e1⟩ := I.base.tbls b ps e
    obtain ⟨m2, e2⟩ := tbls b _ e1
    exact ⟨m1 ++ m2, by rw [e2, Array.append_assoc]⟩
  · obtain ⟨m, hn, hl⟩ := I.loc
    refine ⟨m, ns m hn, fun i x v e1 e2 e3 => ?_⟩
    obtain ⟨u, r, l⟩ := hl i x v e1 e2 e3
    refine ⟨u, r, ?_⟩
    rcases l with l | ⟨k, c, e, z⟩
    · exact .inl l
    · exact .inr ⟨k, c, e, cellK x c e _ z⟩
  · obtain ⟨v, z⟩ := I.cell x c e
    exact ⟨v, cellK x c e v z⟩
  · obtain ⟨m, ⟨o, _, _, ho, _⟩, _⟩ := I.loc
    exact free _ o (fun z => (hch _ z).2.1 rfl) ho I.free
  · obtain ⟨v, o, ho, hd⟩ := I.cell x c e
    exact free c o (fun z => (hch c z).2.2.1 x c e rfl) ho (I.freeC x c e)
  · obtain ⟨e, n, ne, nf, d⟩ := I.pin p hp
    have nch : p.1 ∉ ch := fun z => (hch p.1 z).2.2.2 p hp rfl
    exact ⟨keep p.1 p.2 ne nf nch e n, free p.1 p.2 nch e n, ne, nf, d⟩
theorem Inv.un {t' : Nat} (I : Inv X pins σ H s) (u : Un X.fs [] H H' s.heap h') (hok : HOk X.prog X.w H' h') : Inv X pins σ H' { s with heap := h', toks := t' } := by
  obtain ⟨m, ⟨o, es, ep, ho, r⟩, _⟩ := id I.loc
  obtain ⟨sl, hL⟩ := u.any ho I.free (by simp)
  exact I.step (g' := s.gens) (d' := s.drawn) (ch := []) (fun _ z => nomatch z) (fun b o _ hb _ e n => u.keep b o e n hb (by simp)) (fun b o _ hb _ e n => u.slot b o e n hb (by simp)) (fun b o _ e n => u.free b o e n (by simp)) (fun b o _ e => u.there b o e (by simp)) u.tups u.frzs u.tbls (fun m' hm => by
    obtain ⟨o', es', ep', ho', r'⟩ := hm
    rw [ho] at ho'; cases ho'
    exact ⟨_, es', ep', hL, r'⟩) hok I.bare
theorem Inv.call {g' : Array GenState} {t' : Nat} {d' : Drawn} {ch : List Addr} (I : Inv X pins σ H s) (u : Un (frs X.stack) ch H H' s.heap h') (hok : HOk X.prog X.w H' h') (hg : AllBare g')
    (hch : ∀ b ∈ ch, (b ∈ X.ex ∨ X.s₀.heap.objs.size ≤ b) ∧ b ≠ X.env.locals ∧ (∀ x c, X.env.cells.lookup x = some c → c ≠ b) ∧ ∀ p ∈ X.pn ++ pins, p.1 ≠ b) :
    Inv X pins σ H' { s with heap := h', gens := g', drawn := d', toks := t' } := by
  obtain ⟨m, ⟨o, es, ep, ho, r⟩, _⟩ := id I.loc
  obtain ⟨sl, hL⟩ := u.any ho I.free fun z => (hch _ z).2.1 rfl
  exact I.step (ch := ch) hch (fun b o hL hb hc e n => u.keep b o e n (fun z => (List.mem_cons.mp (I.stkSub b z)).elim hL hb) hc) (fun b o _ _ hc e n => u.any e n hc) (fun b o hc e n => u.free b o e n hc) (fun b o hc e => u.there b o e hc) u.tups u.frzs u.tbls (fun m' hm => by
    obtain ⟨o', es', ep', ho', r'⟩ := hm
    rw [ho] at ho'; cases ho'
    exact ⟨_, es', ep', hL, r'⟩) hok hg
theorem Inv.turned {t' : Nat} {it : Addr} (I : Inv X pins σ H s) (k : ∀ b o, b ≠ it → s.heap.get? b = some o → h'.get? b = some o) (hn : H it = none) (hL : it ≠ X.env.locals)
    (h1 : it ∈ X.ex ∨ X.s₀.heap.objs.size ≤ it) (h2 : ∀ x c, X.env.cells.lookup x = some c → c ≠ it) (h3 : ∀ p ∈ X.pn ++ pins, p.1 ≠ it) : Inv X pins σ H { s with heap := h', toks := t' } := by
  have nit : ∀ b u, H b = some u → b ≠ it := fun b u e z => by rw [z, hn] at e; cases e
  refine I.step (g' := s.gens) (d' := s.drawn) (ch := [it]) (fun b hb => ?_) (fun b o _ _ hc e _ => k b o (fun z => hc (by simp [z])) e) (fun b o _ _ hc e _ => ⟨o.slots, k b o (fun z => hc (by simp [z])) e⟩) (fun _ _ _ _ n => n)
    (fun b o hc e => ⟨o, k b o (fun z => hc (by simp [z])) e⟩) (fun _ _ e => e) (fun _ _ _ e => e) (fun b ps e => ⟨#[], by rw [e]; simp⟩) (fun m hm => ?_) (fun b u e => ?_) I.bare
  · have e : b = it := by simpa using hb
    subst e
    exact ⟨h1, hL, h2, h3⟩
  · obtain ⟨o, es, ep, ho, r⟩ := hm
    exact ⟨o, es, ep, k _ o (Ne.symm hL) ho, r⟩
  · refine (I.hok b u e).stay (fun c v hc q => k c v ?_ q) (fun _ q => q) fun _ _ q => q
    rcases hc with z | z
    · rw [z]; exact nit b u e
    · exact nit c _ z
theorem Inv.tok (I : Inv X pins σ H s) (t : Nat) : Inv X pins σ H { s with toks := t } := I.un (h' := s.heap) (t' := t) Un.refl I.hok
theorem Inv.kept {t' : Nat} (I : Inv X pins σ H s) (k : ∀ b u, s.heap.get? b = some u → h'.get? b = some u) : Inv X pins σ H { s with heap := h', toks := t' } := I.un (Un.kept k) (I.hok.kept k)
theorem Inv.laid {a : Addr} {o : HO} {t' : Nat} (I : Inv X pins σ H s) (k : ∀ b u, s.heap.get? b = some u → h'.get? b = some u) (hp : s.heap.objs.size ≤ a) (new : ObjOk X.prog X.w (upd H a o) h' a o) :
    Inv X pins σ (upd H a o) { s with heap := h', toks := t' } := I.un (Un.laid k hp (I.hok.fresh hp)) (I.hok.laid k hp new)
theorem Inv.write {x e : Addr} {o : HO} {t' : Nat} (I : Inv X pins σ H s) (mu : Mut (H x)) (he : e = x ∨ H e = some (.own x)) (k : ∀ b u, b ≠ e → s.heap.get? b = some u → h'.get? b = some u) (heo : ∃ u, h'.get? e = some u)
    (new : ObjOk X.prog X.w (upd H x o) h' x o) : Inv X pins σ (upd H x o) { s with heap := h', toks := t' } := I.un (Un.write mu he k heo) (I.hok.write mu he k heo new)
theorem Inv.weak {σ' : List (Option V)} (I : Inv X pins σ H s) (hl : σ'.length = σ.length) (w : ∀ (i : Nat) v, σ'[i]? = some (some v) → σ[i]? = some (some v)) : Inv X pins σ' H s :=
  ⟨I.ok, I.os, I.bare, I.base, let ⟨m, hn, hl'⟩ := I.loc; ⟨m, hn, fun i x v e1 e2 e3 => hl' i x v e1 (w i v e2) e3⟩, I.cell, I.free, I.freeC, I.pin, I.hok, hl.trans I.len⟩
theorem Inv.pins_of {pins' : List (Addr × Obj)} (I : Inv X pins σ H s) (h : ∀ p ∈ pins', s.heap.get? p.1 = some p.2 ∧ H p.1 = none ∧ p.1 ≠ X.env.locals ∧ p.1 ∉ X.fs ∧ ∀ v, p.2.data ≠ .cell v) : Inv X pins' σ H s :=
  ⟨I.ok, I.os, I.bare, I.base, I.loc, I.cell, I.free, I.freeC, fun p hp => (List.mem_append.mp hp).elim (fun z => I.pin p (List.mem_append_left _ z)) (h p), I.hok, I.len⟩

theorem nodup_ix {N : List Str} (hN : N.Nodup) {i j : Nat} {x : Str} (a : N[i]? = some x) (b : N[j]? = some x) : i = j := by
  obtain ⟨h1, e1⟩ := List.getElem?_eq_some_iff.mp a
  obtain ⟨h2, e2⟩ := List.getElem?_eq_some_iff.mp b
  exact (List.getElem_inj hN).mp (e1.trans e2.symm)

theorem store_ok2 {M : Model} {A : Around} {E : Value → Shared → Prop} {i : Nat} {x : Str} {v : V} {u : Value} {Q : Unit → Shared → Prop} (I : Inv X pins σ H s) (hN : X.N.Nodup) (hi : X.N[i]? = some x) (hx : Loc X.env.scope x) (r : RelV v u)
    (h : ∀ s', Inv X pins (σ.set i (some v)) H s' → (∃ a, Heap.SameBut a s.heap s'.heap ∧ (a = X.env.locals ∨ X.env.cells.lookup x = some a)) → Q () s') (hf : X.fn x = true ∨ X.env.scope.names.lookup x = some .local := by first | exact .inl rfl | exact .inr rfl | assumption) : wpAny M A (storeName X.env x u) Q E s := by
  obtain ⟨m, hn, hl⟩ := id I.loc
  have hcls : (X.env.scope.kind == .class || (X.env.scope.kind == .module && X.env.locals != X.env.globals)) = false := by rw [I.ok.kind]; rfl
  have hiσ : i < σ.length := by rw [I.len]; exact (List.getElem?_eq_some_iff.mp hi).1
  have cne := I.cne
  have tracked : ∀ {a : Addr} {h' : Heap}, (∃ o, s.heap.get? a = some o ∧ H a = none) → Heap.SameBut a s.heap h' → HOk X.prog X.w H h' := fun {a h'} ha hs b ob e => by
    obtain ⟨_, _, hfree⟩ := ha
    refine (I.hok b ob e).stay (fun c w' hc q => (hs.2 c ?_).trans q) (fun _ q => q) fun _ _ q => q
    rintro rfl
    rcases hc with rfl | hc
    · rw [hfree] at e; cases e
    · rw [hfree] at hc; cases hc
  rcases hx with hk | hk
  · refine wpAny_storeName_local hk hn (fun h' hn' hs => ?_) hcls
    obtain ⟨oL, _, _, hoL, _⟩ := id hn
    refine h _ ⟨I.ok, I.os, I.bare, ⟨fun b o e n hb hx => ?_, fun b o e n hb hx => ?_, I.base.free, fun b o e hx => ?_, I.base.tups, I.base.frzs, I.base.tbls⟩, ⟨_, hn', fun j y v' e1 e2 e3 => ?_⟩, fun y c e => ?_, I.free, I.freeC, fun p hp => ?_, tracked ⟨oL, hoL, I.free⟩ hs, by simpa using I.len⟩ ⟨_, hs, .inl rfl⟩
    · exact (hs.2 b (Nat.ne_of_lt (Nat.lt_of_lt_of_le (Heap.lt_size e) I.ok.above))).trans (I.base.keep b o e n hb hx)
    · obtain ⟨sl, e1⟩ := I.base.slot b o e n hb hx
      exact ⟨sl, (hs.2 b (Nat.ne_of_lt (Nat.lt_of_lt_of_le (Heap.lt_size e) I.ok.above))).trans e1⟩
    · obtain ⟨o', e1⟩ := I.base.there b o e hx
      exact ⟨o', (hs.2 b (Nat.ne_of_lt (Nat.lt_of_lt_of_le (Heap.lt_size e) I.ok.above))).trans e1⟩
    · by_cases hj : j = i
      · subst hj
        rw [hi] at e1; cases e1
        rw [List.getElem?_set_self hiσ] at e2
        cases e2
        exact ⟨u, r, .inl ⟨hk, by simp⟩⟩
      · rw [List.getElem?_set_ne (Ne.symm hj)] at e2
        obtain ⟨u', r', q⟩ := hl j y v' e1 e2 e3
        refine ⟨u', r', ?_⟩
        rcases q with ⟨k, e⟩ | ⟨k, c, e, z⟩
        · refine .inl ⟨k, ?_⟩
          have : y ≠ x := fun e => hj (nodup_ix hN e1 (e ▸ hi))
          simp [this, e]
        · exact .inr ⟨k, c, e, z.sameBut hs (cne y c e)⟩
    · obtain ⟨w', z⟩ := I.cell y c e
      exact ⟨w', z.sameBut hs (cne y c e)⟩
    · obtain ⟨e, n, ne, nf, d⟩ := I.pin p hp
      exact ⟨(hs.2 p.1 ne).trans e, n, ne, nf, d⟩
  · have hfn : X.fn x = true := by
      rcases hf with z | z
      · exact z
      · rw [z] at hk; cases hk
    obtain ⟨c, hc⟩ := I.ok.has x (.inl hk)
    obtain ⟨w', z⟩ := I.cell x c hc
    refine wpAny_storeName_cell I.ok.kind hk hc z (fun h' hc' hs => ?_)
    obtain ⟨oc, hoc, hocd⟩ := id z
    refine h { s with heap := h' } ⟨I.ok, I.os, I.bare, ⟨fun b o e n hb hx => ?_, fun b o e n hb hx => ?_, I.base.free, fun b o e hx => ?_, I.base.tups, I.base.frzs, I.base.tbls⟩, ⟨m, hn.sameBut hs (Ne.symm (cne x c hc)), fun j y v' e1 e2 e3 => ?_⟩, fun y c' e => ?_, I.free, I.freeC, fun p hp => ?_, tracked ⟨oc, hoc, I.freeC x c hc⟩ hs, by simpa using I.len⟩ ⟨c, hs, .inr hc⟩
    · exact (hs.2 b (Nat.ne_of_lt (Nat.lt_of_lt_of_le (Heap.lt_size e) (I.ok.cab x c hfn hc)))).trans (I.base.keep b o e n hb hx)
    · obtain ⟨sl, e1⟩ := I.base.slot b o e n hb hx
      exact ⟨sl, (hs.2 b (Nat.ne_of_lt (Nat.lt_of_lt_of_le (Heap.lt_size e) (I.ok.cab x c hfn hc)))).trans e1⟩
    · obtain ⟨o', e1⟩ := I.base.there b o e hx
      exact ⟨o', (hs.2 b (Nat.ne_of_lt (Nat.lt_of_lt_of_le (Heap.lt_size e) (I.ok.cab x c hfn hc)))).trans e1⟩
    · by_cases hj : j = i
      · subst hj
        rw [hi] at e1; cases e1
        rw [List.getElem?_set_self hiσ] at e2
        cases e2
        exact ⟨u, r, .inr ⟨.inl hk, c, hc, hc'⟩⟩
      · rw [List.getElem?_set_ne (Ne.symm hj)] at e2
        obtain ⟨u', r', q⟩ := hl j y v' e1 e2 e3
        refine ⟨u', r', ?_⟩
        rcases q with q | ⟨k, c', e, z'⟩
        · exact .inl q
        · refine .inr ⟨k, c', e, z'.sameBut hs ?_⟩
          rintro rfl
          exact hj (nodup_ix hN e1 (I.ok.inj _ _ _ e hc ▸ hi))
    · by_cases hcc : c' = c
      · subst hcc; exact ⟨_, hc'⟩
      · obtain ⟨w2, z2⟩ := I.cell y c' e
        exact ⟨w2, z2.sameBut hs hcc⟩
    · obtain ⟨e, n, ne, nf, d⟩ := I.pin p hp
      refine ⟨(hs.2 p.1 ?_).trans e, n, ne, nf, d⟩
      intro q
      rw [q, hoc] at e
      have q' : oc = p.2 := Option.some.inj e
      exact d w' (by rw [← q']; exact hocd)
theorem store_ok {M : Model} {A : Around} {E : Value → Shared → Prop} {i : Nat} {x : Str} {v : V} {u : Value} {Q : Unit → Shared → Prop} (I : Inv X pins σ H s) (hN : X.N.Nodup) (hi : X.N[i]? = some x) (hx : Loc X.env.scope x) (r : RelV v u)
    (h : ∀ s', Inv X pins (σ.set i (some v)) H s' → Q () s') (hf : X.fn x = true ∨ X.env.scope.names.lookup x = some .local := by first | exact .inl rfl | exact .inr rfl | assumption) : wpAny M A (storeName X.env x u) Q E s :=
  store_ok2 I hN hi hx r (fun s' I' _ => h s' I') hf
theorem Inv.call' {s' : Shared} {ch : List Addr} (I : Inv X pins σ H s) (ho : s'.os = s.os) (u : Un (frs X.stack) ch H H' s.heap s'.heap) (hok : HOk X.prog X.w H' s'.heap) (hg : AllBare s'.gens)
    (hch : ∀ b ∈ ch, (b ∈ X.ex ∨ X.s₀.heap.objs.size ≤ b) ∧ b ≠ X.env.locals ∧ (∀ x c, X.env.cells.lookup x = some c → c ≠ b) ∧ ∀ p ∈ X.pn ++ pins, p.1 ≠ b) : Inv X pins σ H' s' := by
  obtain ⟨h', g', d', t', o'⟩ := s'
  have e : o' = s.os := ho
  subst e
  exact I.call (g' := g') (t' := t') (d' := d') u hok hg hch
end

noncomputable abbrev XK := Value → Option Addr → Hp → Prop
noncomputable abbrev St := List (Option V)
noncomputable abbrev VK := V → Hp → Prop
noncomputable abbrev TE := St → Hp → VK → Prop
noncomputable abbrev TT := St → Hp → (Bool → Hp → Prop) → Prop
noncomputable abbrev TA := St → Hp → (List V → Hp → Prop) → Prop
structure Ends where
  nx : St → Hp → Prop
  rt : VK
  bk : St → Hp → Prop := fun _ _ => False
  ct : St → Hp → Prop := fun _ _ => False
noncomputable abbrev TS := Ends → St → Hp → Prop

noncomputable def EP (X : Cx) (pins : List (Addr × Obj)) (σ : St) (Q : VK) (u : Value) (s' : Shared) : Prop := ∃ v H', Inv X pins σ H' s' ∧ RelV v u ∧ Q v H'
noncomputable def TP (X : Cx) (pins : List (Addr × Obj)) (σ : St) (Q : Bool → Hp → Prop) (b : Bool) (s' : Shared) : Prop := ∃ H', Inv X pins σ H' s' ∧ Q b H'
noncomputable def AP (X : Cx) (pins : List (Addr × Obj)) (σ : St) (Q : List V → Hp → Prop) (us : List Value) (s' : Shared) : Prop := ∃ vs H', Inv X pins σ H' s' ∧ Vals vs us ∧ Q vs H'
noncomputable def SP (X : Cx) (pins : List (Addr × Obj)) (D : Ends) (f : Flow) (s' : Shared) : Prop :=
  match f with
  | .next => ∃ σ' H', Inv X pins σ' H' s' ∧ D.nx σ' H'
  | .brk => ∃ σ' H', Inv X pins σ' H' s' ∧ D.bk σ' H'
  | .cont => ∃ σ' H', Inv X pins σ' H' s' ∧ D.ct σ' H'
  | .ret u => ∃ v σ' H', Inv X pins σ' H' s' ∧ RelV v u ∧ D.rt v H'

noncomputable def PE (X : Cx) (e : Expr) (t : TE) : Prop :=
  ∀ (pins : List (Addr × Obj)) (s : Shared) (σ : St) (H : Hp) (Q : VK), Inv X pins σ H s → t σ H Q → wpAny (model X.prog X.w) X.A (eval e X.env) (EP X pins σ Q) X.xe s
noncomputable def PT (X : Cx) (e : Expr) (t : TT) : Prop :=
  ∀ (pins : List (Addr × Obj)) (s : Shared) (σ : St) (H : Hp) (Q : Bool → Hp → Prop), Inv X pins σ H s → t σ H Q → wpAny (model X.prog X.w) X.A (isTrue e X.env (eval e X.env)) (TP X pins σ Q) X.xe s
noncomputable def PW (X : Cx) (e : Expr) (t : TT) : Prop :=
  ∀ (whole : Sem Value) (pins : List (Addr × Obj)) (s : Shared) (σ : St) (H : Hp) (Q : Bool → Hp → Prop), Inv X pins σ H s → t σ H Q → wpAny (model X.prog X.w) X.A (isTrue e X.env whole) (TP X pins σ Q) X.xe s
theorem PW.pt {X : Cx} {e : Expr} {t : TT} (h : PW X e t) : PT X e t := h _
noncomputable def PA (X : Cx) (es : List Expr) (t : TA) : Prop :=
  ∀ (pos : Pos) (pins : List (Addr × Obj)) (s : Shared) (σ : St) (H : Hp) (Q : List V → Hp → Prop), Inv X pins σ H s → t σ H Q → wpAny (model X.prog X.w) X.A (spliced (backTo pos (starEach es X.env))) (AP X pins σ Q) X.xe s
noncomputable def PS (X : Cx) (st : Stmt) (t : TS) : Prop :=
  ∀ (pins : List (Addr × Obj)) (s : Shared) (σ : St) (H : Hp) (D : Ends), Inv X pins σ H s → t D σ H → wpAny (model X.prog X.w) X.A (exec st X.env) (SP X pins D) X.xe s
noncomputable def PSs (X : Cx) (st : List Stmt) (t : TS) : Prop :=
  ∀ (pins : List (Addr × Obj)) (s : Shared) (σ : St) (H : Hp) (D : Ends), Inv X pins σ H s → t D σ H → wpAny (model X.prog X.w) X.A (execs st X.env) (SP X pins D) X.xe s
theorem thn {α : Type} {t : Sem α} {Q Q' : α → Shared → Prop} {M : Model} {A : Around} {E : Value → Shared → Prop} {s : Shared} (h : wpAny M A t Q E s) (hQ : ∀ a s, Q a s → Q' a s) : wpAny M A t Q' E s := wpAny_mono h hQ fun _ _ x => x
end L2

namespace L2
open PySem PySem.Spec PyProof.Rows
section
variable {X : Cx}

noncomputable def tVar (i : Nat) : TE := fun σ H Q => ∃ v, σ[i]? = some (some v) ∧ Q v H
noncomputable def tC (v : V) : TE := fun _ H Q => Q v H
theorem pe_var {i : Nat} {x : Str} {pos : Pos} (hN : X.N[i]? = some x) (hv : Vis X.env.scope x) (hd : (x == ("__debug__" : Str)) = false := by decide) (hcd : (x == ("__classdict__" : Str)) = false := by decide) : PE X (.Name x pos) (tVar i) := by
  intro pins s σ H Q I h
  obtain ⟨v, e, h⟩ := h
  obtain ⟨m, hn, hl⟩ := I.loc
  obtain ⟨u, r, l⟩ := hl i x v hN e hv
  have fin : EP X pins σ Q u s := ⟨v, H, I, r, h⟩
  rcases l with ⟨hk, hm⟩ | ⟨hk, c, hc, hcell⟩
  · exact wpAny_Name (wpAny_loadName_local I.ok.kind hk hn hm fin) hd
  · rcases hk with hk | hk
    · exact wpAny_Name (wpAny_loadName_cell I.ok.kind hk hc hcell fin) hd
    · exact wpAny_Name (wpAny_loadName_free I.ok.kind hk hc hcell fin hcd) hd
theorem pe_int {i j pos} : PE X (.Constant (.int i) j pos) (tC (.int i)) := fun _ _ _ H _ I h => wpAny_Constant_int ⟨.int i, H, I.tok _, ⟨_, rfl⟩, h⟩
theorem pe_bl {b j pos} : PE X (.Constant (.bool b) j pos) (tC (.bl b)) := fun _ _ _ H _ I h => Constant_bool ⟨.bl b, H, I, rfl, h⟩
theorem pe_non {j pos} : PE X (.Constant .none j pos) (tC .non) := fun _ _ _ H _ I h => Constant_none ⟨.non, H, I, rfl, h⟩
theorem pe_str {x j pos} : PE X (.Constant (.str x) j pos) (tC (.str x)) := fun _ _ _ H _ I h => Calls.Constant_str ⟨.str x, H, I.tok _, ⟨_, rfl⟩, h⟩

noncomputable def Gl (X : Cx) (x : Str) : Prop := X.env.kindOf x = some .globalImplicit
theorem ld_glob {E : Value → Shared → Prop} {pins : List (Addr × Obj)} {s : Shared} {σ : St} {H : Hp} {x : Str} {u : Value} {pos : Pos} {Q : Value → Shared → Prop} (I : Inv X pins σ H s) (hg : Gl X x) (hm : X.mg x = some u) (h : Q u s)
    (hd : (x == ("__debug__" : Str)) = false := by decide) : wpAny (model X.prog X.w) X.A (eval (.Name x pos) X.env) Q E s :=
  Calls.Name_function_global I.ok.kind hg (Calls.loadGlobal_global (by rw [I.ok.glob]; exact I.mod.glob.keeps I.bk) hm h) hd
theorem ld_blt {E : Value → Shared → Prop} {pins : List (Addr × Obj)} {s : Shared} {σ : St} {H : Hp} {x : Str} {u : Value} {pos : Pos} {Q : Value → Shared → Prop} (I : Inv X pins σ H s) (hg : Gl X x) (hm : X.mg x = none) (hv : bootBuiltins x = some u) (h : Q u s)
    (hn : x ≠ "__name__" := by decide) (hd : (x == ("__debug__" : Str)) = false := by decide) : wpAny (model X.prog X.w) X.A (eval (.Name x pos) X.env) Q E s := by
  obtain ⟨mb, h1, h2⟩ := I.mod.blt
  exact Calls.Name_function_global I.ok.kind hg (Calls.loadGlobal_builtin (by rw [I.ok.glob]; exact I.mod.glob.keeps I.bk) hm (by rw [I.ok.blt]; exact h1.keeps I.bk) ((h2 x hn).trans hv) h) hd
theorem pe_glob {x : Str} {v : V} {u : Value} {pos : Pos} (hg : Gl X x) (hm : X.mg x = some u) (r : RelV v u) (hd : (x == ("__debug__" : Str)) = false := by decide) : PE X (.Name x pos) (tC v) :=
  fun _ _ _ H _ I h => ld_glob I hg hm ⟨v, H, I, r, h⟩ hd
theorem pe_bltn {x : Str} {v : V} {u : Value} {pos : Pos} (hg : Gl X x) (hm : X.mg x = none) (hv : bootBuiltins x = some u) (r : RelV v u) (hn : x ≠ "__name__" := by decide) (hd : (x == ("__debug__" : Str)) = false := by decide) : PE X (.Name x pos) (tC v) :=
  fun _ _ _ H _ I h => ld_blt I hg hm hv ⟨v, H, I, r, h⟩ hn hd

variable {a b : Expr} {ta tb : TE} {pos : Pos}
noncomputable def PC (X : Cx) (op : CmpOp) (a b : Expr) (t : TE) : Prop :=
  ∀ (pins : List (Addr × Obj)) (s : Shared) (σ : St) (H : Hp) (Q : VK), Inv X pins σ H s → t σ H Q →
    wpAny (model X.prog X.w) X.A (eval a X.env) (fun v s₁ => wpAny (model X.prog X.w) X.A (eval b X.env) (fun u s₂ => wpAny (model X.prog X.w) X.A (compareOp op v u) (EP X pins σ Q) X.xe s₂) X.xe s₁) X.xe s
theorem nobehind (b : Expr) {op : CmpOp} (h : op ≠ .In) (h2 : op ≠ .NotIn) : behindInMarks op b = false := by
  have e1 : (op == CmpOp.In) = false := by cases op <;> first | rfl | exact absurd rfl h
  have e2 : (op == CmpOp.NotIn) = false := by cases op <;> first | rfl | exact absurd rfl h2
  cases b <;> simp [behindInMarks, e1, e2]
noncomputable def tB (t : TE) : TT := fun σ H Q => t σ H fun x H1 => ∃ c, x = .bl c ∧ Q c H1
theorem pt_cmp {op : CmpOp} {t : TE} (h : PC X op a b t) (h1 : behindInMarks op b = false := by first | exact nobehind _ (by decide) (by decide) | rfl) : PT X (.Compare a [op] [b] pos) (tB t) := by
  intro pins s σ H Q I hw
  refine wpAny_isTrue_Compare1 (thn (h pins s σ H _ I hw) fun v s1 h1 => thn h1 fun u s2 h2 => thn h2 fun c s3 ⟨x, H1, I1, r1, q1⟩ => ?_) h1
  obtain ⟨d, rfl, q⟩ := q1
  cases r1
  exact wpAny_truthy_bool ⟨H1, I1, q⟩
variable {tA tB' : TT} {rest : List Expr}
noncomputable def tAnd (t u : TT) : TT := fun σ H Q => t σ H fun c H1 => if c = true then u σ H1 Q else Q false H1
noncomputable def tOr (t u : TT) : TT := fun σ H Q => t σ H fun c H1 => if c = true then Q true H1 else u σ H1 Q
noncomputable def tNot (t : TT) : TT := fun σ H Q => t σ H fun c H1 => Q (!c) H1
theorem pw_and1 (ha : PT X a tA) : PW X (.BoolOp .And [a] pos) tA := by
  intro wh pins s σ H Q I h
  refine isTrue_and (thn (ha pins s σ H Q I h) fun c s1 e => ?_)
  cases c with
  | true => exact isTrue_and_nil e
  | false => exact e
theorem pw_or1 (ha : PT X a tA) : PW X (.BoolOp .Or [a] pos) tA := by
  intro wh pins s σ H Q I h
  refine isTrue_or (thn (ha pins s σ H Q I h) fun c s1 e => ?_)
  cases c with
  | false => exact isTrue_or_nil e
  | true => exact e
theorem pw_and (ha : PT X a tA) (hb : PW X (.BoolOp .And (b :: rest) pos) tB') : PW X (.BoolOp .And (a :: b :: rest) pos) (tAnd tA tB') := by
  intro wh pins s σ H Q I h
  refine isTrue_and (thn (ha pins s σ H _ I h) fun c s1 ⟨H1, I1, q1⟩ => ?_)
  cases c with
  | true => exact hb wh pins s1 σ H1 Q I1 q1
  | false => exact ⟨H1, I1, q1⟩
theorem pw_or (ha : PT X a tA) (hb : PW X (.BoolOp .Or (b :: rest) pos) tB') : PW X (.BoolOp .Or (a :: b :: rest) pos) (tOr tA tB') := by
  intro wh pins s σ H Q I h
  refine isTrue_or (thn (ha pins s σ H _ I h) fun c s1 ⟨H1, I1, q1⟩ => ?_)
  cases c with
  | true => exact ⟨H1, I1, q1⟩
  | false => exact hb wh pins s1 σ H1 Q I1 q1
theorem pt_not (ha : PT X a tA) : PT X (.UnaryOp .Not a pos) (tNot tA) := by
  intro pins s σ H Q I h
  exact isTrue_not (ha pins s σ H (fun c H1 => Q (!c) H1) I h)
noncomputable def tAndV (ta tb : TE) : TE := fun σ H Q => ta σ H fun x H1 => ∃ c, x = .bl c ∧ if c = true then tb σ H1 Q else Q (.bl false) H1
noncomputable def tOrV (ta tb : TE) : TE := fun σ H Q => ta σ H fun x H1 => ∃ c, x = .bl c ∧ if c = true then Q (.bl true) H1 else tb σ H1 Q
theorem pe_one {op} {t : TE} (h : PE X a t) : PE X (.BoolOp op [a] pos) t := fun pins s σ H Q I hw => BoolOp_one (h pins s σ H Q I hw)
theorem pe_and (ha : PE X a ta) (hb : PE X (.BoolOp .And (b :: rest) pos) tb) : PE X (.BoolOp .And (a :: b :: rest) pos) (tAndV ta tb) := by
  intro pins s σ H Q I h
  refine BoolOp_and (thn (ha pins s σ H _ I h) fun v s1 ⟨x, H1, I1, r1, q1⟩ => ?_)
  obtain ⟨c, rfl, q1⟩ := q1
  cases r1
  refine wpAny_truthy_bool ?_
  cases c with
  | true => exact hb pins s1 σ H1 Q I1 q1
  | false => exact ⟨.bl false, H1, I1, rfl, q1⟩
theorem pe_or (ha : PE X a ta) (hb : PE X (.BoolOp .Or (b :: rest) pos) tb) : PE X (.BoolOp .Or (a :: b :: rest) pos) (tOrV ta tb) := by
  intro pins s σ H Q I h
  refine BoolOp_or (thn (ha pins s σ H _ I h) fun v s1 ⟨x, H1, I1, r1, q1⟩ => ?_)
  obtain ⟨c, rfl, q1⟩ := q1
  cases r1
  refine wpAny_truthy_bool ?_
  cases c with
  | false => exact hb pins s1 σ H1 Q I1 q1
  | true => exact ⟨.bl true, H1, I1, rfl, q1⟩
noncomputable def tIf (t : TT) (ta tb : TE) : TE := fun σ H Q => t σ H fun c H1 => if c = true then ta σ H1 Q else tb σ H1 Q
theorem pe_ifExp {c : Expr} (hc : PT X c tA) (ha : PE X a ta) (hb : PE X b tb) : PE X (.IfExp c a b pos) (tIf tA ta tb) := by
  intro pins s σ H Q I h
  refine wpAny_IfExp (thn (hc pins s σ H _ I h) fun d s1 ⟨H1, I1, q1⟩ => ?_)
  cases d with
  | true => exact ha pins s1 σ H1 Q I1 q1
  | false => exact hb pins s1 σ H1 Q I1 q1
end
end L2

namespace L2
open PySem PySem.Spec PyProof.Rows

noncomputable def SqL (K : PySem.W.Frag) (H : Hp) (a : Addr) (xs : List V) : Prop :=
  Rd H a (.lst xs) ∨
    ∃ (o : Obj) (its : Array Value) (n : Nat), K.lookup a = some o ∧ o.cls = .type "list" ∧ o.dict = none ∧ o.data = .seq its n ∧ its.size ≤ sizeLine ∧ Vals xs its.toList
noncomputable def SqT (K : PySem.W.Frag) (H : Hp) (a : Addr) (xs : List V) : Prop :=
  Rd H a (.tup xs) ∨
    ∃ (o : Obj) (its : Array Value) (n : Nat), K.lookup a = some o ∧ o.cls = .type "tuple" ∧ o.data = .seq its n ∧ its.size ≤ sizeLine ∧ Vals xs its.toList
noncomputable def absV : Value → Option V
  | .none => some .non
  | .bool b => some (.bl b)
  | .int i _ => some (.int i)
  | .str x _ => some (.str x)
  | .bytes b _ => some (.byt b)
  | .float b _ => some (.flt b)
  | .ref a => some (.ref a)
  | .type n => some (.ty n)
  | _ => none
theorem RelV.abs {x : V} {u : Value} (r : RelV x u) : absV u = some x := by
  cases x with
  | non => cases r; rfl
  | bl _ => cases r; rfl
  | int _ => obtain ⟨t, rfl⟩ := r; rfl
  | str _ => obtain ⟨t, rfl⟩ := r; rfl
  | byt _ => obtain ⟨t, rfl⟩ := r; rfl
  | flt _ => obtain ⟨t, rfl⟩ := r; rfl
  | ref _ => cases r; rfl
  | ty _ => cases r; rfl
theorem RelV.inj {x y : V} {u : Value} (r : RelV x u) (q : RelV y u) : x = y := Option.some.inj (r.abs.symm.trans q.abs)
theorem Vals.inj : ∀ {xs ys : List V} {us : List Value}, Vals xs us → Vals ys us → xs = ys
  | _, _, _, .nil, .nil => rfl
  | _, _, _, .cons r t, .cons r' t' => by rw [r.inj r', Vals.inj t t']
section
variable {X : Cx} {pins : List (Addr × Obj)} {σ : St} {H : Hp} {s : Shared} {a : Addr} {xs ys : List V}
theorem SqL.of {K : PySem.W.Frag} (h : H a = some (.lst xs)) : SqL K H a xs := .inl (.inl h)
theorem SqT.of {K : PySem.W.Frag} (h : H a = some (.tup xs)) : SqT K H a xs := .inl (.inl h)
theorem Inv.list (I : Inv X pins σ H s) (h : SqL X.K H a xs) : ∃ its : List Value, Vals xs its ∧ PlainL s.heap a its.toArray ∧ xs.length ≤ sizeLine := by
  rcases h with h | ⟨o, its, n, hk, hc, hd, hs, hz, r⟩
  · obtain ⟨z, its, n, r, e⟩ := h.ok I.hok
    exact ⟨its, r, ⟨_, n, e, rfl, rfl, rfl⟩, z⟩
  · refine ⟨its.toList, r, ⟨o, n, I.kIn a o hk, hc, hd, by simpa using hs⟩, ?_⟩
    have e := r.length
    simp only [Array.length_toList] at e
    omega
theorem Inv.tuple (I : Inv X pins σ H s) (h : SqT X.K H a xs) : ∃ its : List Value, Vals xs its ∧ IsTup s.heap a its.toArray ∧ xs.length ≤ sizeLine := by
  rcases h with h | ⟨o, its, n, hk, hc, hs, hz, r⟩
  · obtain ⟨z, its, r, p⟩ := h.ok I.hok
    exact ⟨its, r, p, z⟩
  · refine ⟨its.toList, r, ⟨o, I.kIn a o hk, hc, n, by simpa using hs⟩, ?_⟩
    have e := r.length
    simp only [Array.length_toList] at e
    omega
theorem Inv.list_inj (I : Inv X pins σ H s) (h : SqL X.K H a xs) (h' : SqL X.K H a ys) : xs = ys := by
  obtain ⟨its, r, ⟨o, n, e, _, _, d⟩, _⟩ := I.list h
  obtain ⟨its', r', ⟨o', n', e', _, _, d'⟩, _⟩ := I.list h'
  rw [e] at e'; cases e'
  rw [d] at d'
  injection d' with d1 _
  have : its = its' := by simpa using congrArg Array.toList d1
  subst this
  exact r.inj r'
end

noncomputable abbrev Cx.wish (X : Cx) (E : Value → Shared → Prop) : Cx := { X with xe := E }
noncomputable abbrev Cx.nox (X : Cx) : Cx := X.wish fun _ _ => False
theorem Cx.Ok.wish {X : Cx} (ok : X.Ok) (E : Value → Shared → Prop) : (X.wish E).Ok :=
  ⟨ok.mod, ok.kind, ok.glob, ok.blt, ok.above, ok.inj, ok.has, ok.cab, ok.hd, ok.frames, ok.stk, ok.exf, ok.bs, ok.bsz, ok.noex, ok.exfs, ok.funs, ok.frf⟩
theorem Cx.Ok.unwish {X : Cx} {E : Value → Shared → Prop} (ok : (X.wish E).Ok) : X.Ok :=
  ⟨ok.mod, ok.kind, ok.glob, ok.blt, ok.above, ok.inj, ok.has, ok.cab, ok.hd, ok.frames, ok.stk, ok.exf, ok.bs, ok.bsz, ok.noex, ok.exfs, ok.funs, ok.frf⟩
section
variable {X : Cx} {pins : List (Addr × Obj)} {σ : St} {H : Hp} {s : Shared} {E : Value → Shared → Prop}
theorem Inv.wish (I : Inv X pins σ H s) (E : Value → Shared → Prop) : Inv (X.wish E) pins σ H s := ⟨I.ok.wish E, I.os, I.bare, I.base, I.loc, I.cell, I.free, I.freeC, I.pin, I.hok, I.len⟩
theorem Inv.unwish (I : Inv (X.wish E) pins σ H s) : Inv X pins σ H s := ⟨I.ok.unwish, I.os, I.bare, I.base, I.loc, I.cell, I.free, I.freeC, I.pin, I.hok, I.len⟩
theorem SP.unwish {D : Ends} {f : Flow} {s' : Shared} (h : SP (X.wish E) pins D f s') : SP X pins D f s' := by
  cases f with
  | next => obtain ⟨σ', H', I, q⟩ := h; exact ⟨σ', H', I.unwish, q⟩
  | brk => obtain ⟨σ', H', I, q⟩ := h; exact ⟨σ', H', I.unwish, q⟩
  | cont => obtain ⟨σ', H', I, q⟩ := h; exact ⟨σ', H', I.unwish, q⟩
  | ret u => obtain ⟨v, σ', H', I, r, q⟩ := h; exact ⟨v, σ', H', I.unwish, r, q⟩
theorem PE.nox {e : Expr} {t : TE} (h : PE X.nox e t) : PE X e t := fun pins s σ H Q I hw =>
  wpAny_mono (h pins s σ H Q (I.wish _) hw) (fun _ _ ⟨v, H', I', r, q⟩ => ⟨v, H', I'.unwish, r, q⟩) fun _ _ z => False.elim z
theorem PT.nox {e : Expr} {t : TT} (h : PT X.nox e t) : PT X e t := fun pins s σ H Q I hw =>
  wpAny_mono (h pins s σ H Q (I.wish _) hw) (fun _ _ ⟨H', I', q⟩ => ⟨H', I'.unwish, q⟩) fun _ _ z => False.elim z
theorem PSs.nox {st : List Stmt} {t : TS} (h : PSs X.nox st t) : PSs X st t := fun pins s σ H D I hw =>
  wpAny_mono (h pins s σ H D (I.wish _) hw) (fun _ _ q => q.unwish) fun _ _ z => False.elim z
end

section
variable {X : Cx} {st : Stmt} {rest : List Stmt} {t u : TS} {e : Expr} {te : TE} {pos : Pos}
noncomputable def tNext : TS := fun D σ H => D.nx σ H
noncomputable def tSeq (t u : TS) : TS := fun D σ H => t { D with nx := u D } σ H
theorem pss_nil : PSs X [] tNext := fun _ _ σ H _ I h => wpAny_execs_nil ⟨σ, H, I, h⟩
theorem pss_cons (h1 : PS X st t) (h2 : PSs X rest u) : PSs X (st :: rest) (tSeq t u) := by
  intro pins s σ H D I h
  refine wpAny_execs_cons (thn (h1 pins s σ H { D with nx := u D } I h) fun f s1 q => ?_)
  cases f with
  | next =>
    obtain ⟨σ', H', I', q⟩ := q
    exact h2 pins s1 σ' H' D I' q
  | ret v => exact q
  | brk => exact q
  | cont => exact q
theorem pss_one (h1 : PS X st t) : PSs X [st] t := by
  intro pins s σ H D I h
  refine wpAny_execs_cons (thn (h1 pins s σ H D I h) fun f s1 q => ?_)
  cases f with
  | next => exact wpAny_execs_nil q
  | ret v => exact q
  | brk => exact q
  | cont => exact q
theorem Inv.quiet {pins : List (Addr × Obj)} {σ : St} {H : Hp} {s : Shared} (I : Inv X pins σ H s) : interactive X.env = false := by simp [interactive, I.ok.kind]
noncomputable def tDrop (te : TE) : TS := fun D σ H => te σ H fun _ H1 => D.nx σ H1
theorem ps_expr (he : PE X e te) (hs : swapsWith e none pos.line X.env = pure false := by rfl) : PS X (.Expr e pos) (tDrop te) := by
  intro pins s σ H D I h
  exact wpAny_Expr_any (thn (he pins s σ H _ I h) fun v s1 ⟨x, H1, I1, r1, q1⟩ => ⟨σ, H1, I1, q1⟩) I.quiet hs
noncomputable def tRet (te : TE) : TS := fun D σ H => te σ H D.rt
theorem ps_ret (he : PE X e te) : PS X (.Return (some e) pos) (tRet te) := by
  intro pins s σ H D I h
  exact wpAny_Return_some (thn (he pins s σ H _ I h) fun v s1 ⟨x, H1, I1, r1, q1⟩ => ⟨x, σ, H1, I1, r1, q1⟩)
noncomputable def tIfS (c : TT) (t u : TS) : TS := fun D σ H => c σ H fun b H1 => if b = true then t D σ H1 else u D σ H1
theorem ps_if {c : Expr} {a b : List Stmt} {tc : TT} (hc : PT X c tc) (ha : PSs X a t) (hb : PSs X b u) : PS X (.If c a b pos) (tIfS tc t u) := by
  intro pins s σ H D I h
  refine wpAny_If (thn (hc pins s σ H _ I h) fun d s1 ⟨H1, I1, q1⟩ => ?_)
  cases d with
  | true => exact ha pins s1 σ H1 D I1 q1
  | false => exact hb pins s1 σ H1 D I1 q1
end

noncomputable abbrev TG := V → St → Hp → (St → Hp → Prop) → Prop
noncomputable abbrev TGs := List V → St → Hp → (St → Hp → Prop) → Prop
noncomputable def PG (X : Cx) (target : Expr) (t : TG) : Prop :=
  ∀ (pins : List (Addr × Obj)) (s : Shared) (σ : St) (H : Hp) (v : V) (u : Value) (Q : St → Hp → Prop), Inv X pins σ H s → RelV v u → t v σ H Q →
    wpAny (model X.prog X.w) X.A (assign target X.env u) (fun _ s' => ∃ σ' H', Inv X pins σ' H' s' ∧ Q σ' H') X.xe s
noncomputable def PGs (X : Cx) (ts : List Expr) (t : TGs) : Prop :=
  ∀ (pins : List (Addr × Obj)) (s : Shared) (σ : St) (H : Hp) (vs : List V) (us : List Value) (Q : St → Hp → Prop), Inv X pins σ H s → Vals vs us → t vs σ H Q →
    wpAny (model X.prog X.w) X.A (assignInOrder ((assignEach ts X.env).map (·.2)) us) (fun _ s' => ∃ σ' H', Inv X pins σ' H' s' ∧ Q σ' H') X.xe s
section
variable {X : Cx} {pos : Pos}
noncomputable def gName (i : Nat) : TG := fun v σ H Q => Q (σ.set i (some v)) H
theorem pg_name {i : Nat} {x : Str} (hN : X.N.Nodup) (hi : X.N[i]? = some x) (hx : Loc X.env.scope x) (hf : X.fn x = true ∨ X.env.scope.names.lookup x = some .local := by first | exact .inl rfl | exact .inr rfl | assumption) : PG X (.Name x pos) (gName i) := by
  intro pins s σ H v u Q I r h
  exact wpAny_assign_Name (store_ok I hN hi hx r (fun s' I' => ⟨_, H, I', h⟩) hf)
noncomputable def gNil : TGs := fun vs σ H Q => vs = [] ∧ Q σ H
noncomputable def gCons (t : TG) (u : TGs) : TGs := fun vs σ H Q => ∃ v r, vs = v :: r ∧ t v σ H fun σ' H' => u r σ' H' Q
theorem pgs_nil : PGs X [] gNil := by
  intro pins s σ H vs us Q I r h
  obtain ⟨e, h⟩ := h
  subst e
  cases r
  exact assignInOrder_nil ⟨σ, H, I, h⟩
theorem pgs_cons {e : Expr} {es : List Expr} {t : TG} {u : TGs} (h1 : PG X e t) (h2 : PGs X es u)
    (hs : (assignEach (e :: es) X.env).map (·.2) = assign e X.env :: (assignEach es X.env).map (·.2) := by rfl) : PGs X (e :: es) (gCons t u) := by
  intro pins s σ H vs us Q I r h
  obtain ⟨v, vr, e1, h⟩ := h
  subst e1
  cases r with
  | cons r rr =>
    rw [hs]
    refine assignInOrder_cons (thn (h1 pins s σ H _ _ _ I r h) fun _ s1 ⟨σ1, H1, I1, q1⟩ => ?_)
    exact h2 pins s1 σ1 H1 _ _ Q I1 rr q1
noncomputable def gTup (K : PySem.W.Frag) (n : Nat) (t : TGs) : TG := fun v σ H Q => ∃ a xs, v = .ref a ∧ SqT K H a xs ∧ xs.length = n ∧ t xs σ H Q
theorem pg_tup {es : List Expr} {k : Nat} {t : TGs} {n : Nat} (hc : X.calm = true) (h : PGs X es t)
    (hn : (assignEach es X.env).length = n := by rfl) (hst : (assignEach es X.env).findIdx? (·.1) = none := by rfl) : PG X (.Tuple es k pos) (gTup X.K n t) := by
  intro pins s σ H v u Q I r hw
  obtain ⟨a, xs, e1, hq, hl, hw⟩ := hw
  subst e1
  cases r
  obtain ⟨its, rv, ht, hz⟩ := I.tuple hq
  refine assign_Tuple_tuple (I.ok.hd hc) ht (by simp [hn, ← hl, rv.length]) hst fun h' hx => ?_
  have I1 : Inv X pins σ H { s with heap := h' } := I.kept (t' := s.toks) fun b o e => hx b o (Nat.ne_of_lt (Heap.lt_size e)) e
  exact h pins _ σ H xs _ Q I1 (by simpa using rv) hw
noncomputable def tAsg (te : TE) (g : TG) : TS := fun D σ H => te σ H fun x H1 => g x σ H1 D.nx
theorem ps_asg {tg e : Expr} {te : TE} {g : TG} (he : PE X e te) (hg : PG X tg g) (hs : swapsWithSole [tg] e pos.line X.env = pure false := by rfl) (hw : swappedStores [tg] e X.env = pure none := by rfl)
    (h1 : (assignEach [tg] X.env).map (·.2) = [assign tg X.env] := by rfl) : PS X (.Assign [tg] e pos) (tAsg te g) := by
  intro pins s σ H D I h
  refine wpAny_Assign_stores (thn (he pins s σ H _ I h) fun v s1 ⟨x, H1, I1, r1, q1⟩ => ?_) hs hw
  rw [h1]
  exact thn (hg pins s1 σ H1 x v _ I1 r1 q1) fun _ s2 q => q
theorem ps_set {i : Nat} {x : Str} {e : Expr} {te : TE} {pos' : Pos} (hN : X.N.Nodup) (hi : X.N[i]? = some x) (hx : Loc X.env.scope x) (he : PE X e te) (hs : swapsWith e (some (.Name x pos')) pos.line X.env = pure false := by rfl) (hf : X.fn x = true ∨ X.env.scope.names.lookup x = some .local := by first | exact .inl rfl | exact .inr rfl | assumption) :
    PS X (.Assign [.Name x pos'] e pos) (tAsg te (gName i)) := by
  intro pins s σ H D I h
  refine wpAny_Assign_Name (thn (he pins s σ H _ I h) fun v s1 ⟨y, H1, I1, r1, q1⟩ => ?_) hs
  exact store_ok I1 hN hi hx r1 (fun s2 I2 => ⟨_, H1, I2, q1⟩) hf
end

section
variable {X : Cx} {pos : Pos}
noncomputable def tWhile (c : TT) (tb : TS) : TS := fun D σ H => ∃ W : Nat → St → Hp → Prop, (∃ m, W m σ H) ∧ ∀ m σ H, W m σ H →
  c σ H fun b H1 => if b = true then ∃ N : St → Hp → Prop, (∀ σ' H', N σ' H' → ∃ m', m' < m ∧ W m' σ' H') ∧ tb { D with nx := N, ct := N, bk := D.nx } σ H1 else D.nx σ H1
theorem ps_while {c : Expr} {body : List Stmt} {tc : TT} {tb : TS} (hp : PassesOwn (model X.prog X.w) X.A X.env X.xe) (hc : PT X c tc) (hb : PSs X body tb) : PS X (.While c body [] pos) (tWhile tc tb) := by
  intro pins s σ H D I h
  obtain ⟨W, ⟨m0, w0⟩, turn⟩ := h
  refine wpAny_While (codeAny_whileLoop (fun n s' => ∃ σ' H', Inv X pins σ' H' s' ∧ W n σ' H') ?_ m0 ⟨σ, H, I, w0⟩)
  rintro n s1 ⟨σ1, H1, I1, w1⟩
  refine wpAny_passesOwn hp (thn (hc pins s1 σ1 H1 _ I1 (turn n σ1 H1 w1)) fun b s2 ⟨H2, I2, q2⟩ => ?_)
  cases b with
  | true =>
    obtain ⟨N, hN, q2⟩ := q2
    rw [if_pos rfl]
    refine wpAny_passesOwn hp (thn (hb pins s2 σ1 H2 _ I2 q2) fun f s3 q3 => ?_)
    cases f with
    | next =>
      obtain ⟨σ3, H3, I3, n3⟩ := q3
      obtain ⟨m', hm, w3⟩ := hN σ3 H3 n3
      exact ⟨m', hm, σ3, H3, I3, w3⟩
    | cont =>
      obtain ⟨σ3, H3, I3, n3⟩ := q3
      obtain ⟨m', hm, w3⟩ := hN σ3 H3 n3
      exact ⟨m', hm, σ3, H3, I3, w3⟩
    | brk => exact q3
    | ret v => exact q3
  | false =>
    rw [if_neg Bool.false_ne_true]
    exact wpAny_execs_nil ⟨σ1, H2, I2, q2⟩
end

structure It where
  go : Nat → Hp → Prop
  yld : Nat → Hp → V → Hp → Prop
  stop : Nat → Hp → Prop
noncomputable def FpOk (X : Cx) (pins : List (Addr × Obj)) (H : Hp) (b : Addr) : Prop :=
  H b = none ∧ b ≠ X.env.locals ∧ b ∉ X.fs ∧ (b ∈ X.ex ∨ X.s₀.heap.objs.size ≤ b) ∧ (∀ x c, X.env.cells.lookup x = some c → c ≠ b) ∧ ∀ p ∈ X.pn ++ pins, p.1 ≠ b
theorem Inv.fpOk {X : Cx} {pins : List (Addr × Obj)} {σ : St} {H H' : Hp} {s : Shared} {b : Addr} (I : Inv X pins σ H s) (hb : s.heap.objs.size ≤ b) (hn : H' b = none) : FpOk X pins H' b := by
  refine ⟨hn, Nat.ne_of_gt (Nat.lt_of_lt_of_le I.lt hb), I.nofs hb, .inr (Nat.le_trans I.sz hb), fun x c e z => ?_, fun p hp z => ?_⟩
  · obtain ⟨v, q⟩ := I.cell x c e
    exact absurd (Nat.lt_of_lt_of_le q.lt (by rw [z]; exact hb)) (Nat.lt_irrefl _)
  · exact absurd (Nat.lt_of_lt_of_le (Heap.lt_size (I.pin p hp).1) (by rw [z]; exact hb)) (Nat.lt_irrefl _)
structure Turn (P : Program) (w : World) (K : PySem.W.Frag) (tg : Expr) (J : It) (fp : List Addr) (it : Addr) (tn : Nat → Heap → Prop) : Prop where
  mem : it ∈ fp
  obj : ∀ i h, tn i h → ∀ b ∈ fp, ∃ o, h.get? b = some o ∧ ∀ v, o.data ≠ .cell v
  keep : ∀ i h h', tn i h → (∀ b ∈ fp, ∀ o, h.get? b = some o → h'.get? b = some o) → tn i h'
  item : ∀ (X : Cx), X.prog = P → X.w = w → X.K = K → X.calm = true → ∀ (i : Nat) (pins : List (Addr × Obj)) (s : Shared) (σ : St) (H : Hp) (E : Value → Shared → Prop), Inv X pins σ H s → (∀ b ∈ fp, FpOk X pins H b) → tn i s.heap → J.go i H →
    wpAny (model P w) X.A (pyNext (.ref it)) (fun r s1 => ∃ u, r = some u ∧
      wpAny (model P w) X.A (letOwnedTupleGo tg (.ref it) u) (fun _ s2 => ∃ x H', Inv X pins σ H' s2 ∧ RelV x u ∧ J.yld i H x H' ∧ tn (i + 1) s2.heap ∧ ∀ b ∈ fp, H' b = none) E s1) E s
  done : ∀ (X : Cx), X.prog = P → X.w = w → X.K = K → X.calm = true → ∀ (i : Nat) (pins : List (Addr × Obj)) (s : Shared) (σ : St) (H : Hp) (E : Value → Shared → Prop), Inv X pins σ H s → (∀ b ∈ fp, FpOk X pins H b) → tn i s.heap → J.stop i H →
    wpAny (model P w) X.A (pyNext (.ref it)) (fun r s1 => r = none ∧ Inv X pins σ H s1) E s
  self : ∀ (A : Around) (i : Nat) (s : Shared) (Q : Value → Shared → Prop) (E : Value → Shared → Prop), tn i s.heap → Q (.ref it) s → wpAny (model P w) A (pyIter (.ref it)) Q E s
noncomputable abbrev TI := St → Hp → (It → Hp → Prop) → Prop
noncomputable def PIE (X : Cx) (pins : List (Addr × Obj)) (σ : St) (tg : Expr) (R : It → Hp → Prop) (itv : Value) (s2 : Shared) : Prop :=
  ∃ (it : Addr) (fp : List Addr) (tn : Nat → Heap → Prop) (J : It) (H' : Hp), itv = .ref it ∧ Inv X pins σ H' s2 ∧ Turn X.prog X.w X.K tg J fp it tn ∧ tn 0 s2.heap ∧ (∀ b ∈ fp, FpOk X pins H' b) ∧ R J H'
noncomputable def PI (X : Cx) (tg iter : Expr) (wi : TI) : Prop :=
  ∀ (pins : List (Addr × Obj)) (s : Shared) (σ : St) (H : Hp) (R : It → Hp → Prop), Inv X pins σ H s → wi σ H R →
    wpAny (model X.prog X.w) X.A (eval iter X.env) (fun v s1 => wpAny (model X.prog X.w) X.A (pyIter v) (PIE X pins σ tg R) X.xe s1) X.xe s

theorem go_of {M : Model} {A : Around} {E : Value → Shared → Prop} {s : Shared} {tg : Expr} {it : Addr} {u : Value} {o : Obj} {n : String} {vs : Array Value} {Q : Unit → Shared → Prop} (ho : s.heap.get? it = some o) (hc : o.cls = .type n) (hd : o.data = .fields vs)
    (hn : ["enumerate", "zip", "dict_itemiterator", "dict_reverseitemiterator", "odict_iterator", "itertools.zip_longest", "itertools.pairwise"].contains n = false) (hQ : Q () s) : wpAny M A (letOwnedTupleGo tg (.ref it) u) Q E s := by
  unfold letOwnedTupleGo
  cases tg <;> first
    | exact wpAny_pure hQ
    | (cases u <;> first
        | exact wpAny_pure hQ
        | (refine wpAny_bind (wpAny_load ho ?_)
           rw [hc, hd]
           show wpAny M A (if (["enumerate", "zip", "dict_itemiterator", "dict_reverseitemiterator", "odict_iterator", "itertools.zip_longest", "itertools.pairwise"].contains n && vs[0]? == some (rawInt _)) = true then _ else _) Q E s
           rw [if_neg (by intro h; rw [hn, Bool.false_and] at h; cases h)]
           exact wpAny_pure hQ))

noncomputable def Itl (K : PySem.W.Frag) (a : Addr) : It :=
  ⟨fun i H => ∃ xs x, SqL K H a xs ∧ xs[i]? = some x, fun i H x H' => H' = H ∧ ∀ xs, SqL K H a xs → xs[i]? = some x, fun i H => ∃ xs, SqL K H a xs ∧ xs.length ≤ i⟩
noncomputable def Itr (lo : Int) (n : Nat) : It := ⟨fun i _ => i < n, fun i H x H' => H' = H ∧ x = .int (lo + i), fun i _ => n ≤ i⟩
theorem turn_list {P : Program} {w : World} {K : PySem.W.Frag} {tg : Expr} (a it : Addr) : Turn P w K tg (Itl K a) [it] it (fun i h => h.IsListIter it a i) where
  mem := by simp
  obj := fun i h st b hb => by
    have e : b = it := by simpa using hb
    subst e
    obtain ⟨o, e, c, d⟩ := st
    exact ⟨o, e, fun v z => by rw [d] at z; cases z⟩
  keep := fun i h h' st k => st.at fun o e => k it (by simp) o e
  item := by
    intro X hP hw hK hc i pins s σ H E I hf st hg
    subst hP hw hK
    obtain ⟨xs, x, hq, hx⟩ := hg
    obtain ⟨its, rv, p, hz⟩ := I.list hq
    obtain ⟨u, hu, ru⟩ := rv.get hx
    obtain ⟨f0, f1, f2, f3, f4, f5⟩ := hf it (by simp)
    refine wpAny_pyNext_list_item st p.isList (x := u) (by simpa using hu) fun h' st' sb => ?_
    have I1 : Inv X pins σ H { s with heap := h' } := I.turned (t' := s.toks) (fun b o hb e => (sb.2 b hb).trans e) f0 f1 f3 f4 f5
    obtain ⟨o, e, c, d⟩ := id st'
    exact ⟨u, rfl, go_of (s := { s with heap := h' }) e c d (by decide) ⟨x, H, I1, ru, ⟨rfl, fun ys hy => by rw [I.list_inj hy hq]; exact hx⟩, st', fun b hb => (hf b hb).1⟩⟩
  done := by
    intro X hP hw hK hc i pins s σ H E I hf st hg
    subst hP hw hK
    obtain ⟨xs, hq, hx⟩ := hg
    obtain ⟨its, rv, p, hz⟩ := I.list hq
    obtain ⟨f0, f1, f2, f3, f4, f5⟩ := hf it (by simp)
    have hl := rv.length
    exact wpAny_pyNext_list_end (I.ok.hd hc) st p.isList (by simp; omega) fun h' eb => ⟨rfl, I.turned (t' := s.toks) (fun b o hb e => eb b o hb e) f0 f1 f3 f4 f5⟩
  self := fun _ _ _ _ _ st h => wpAny_pyIter_listiter st h
theorem turn_range {P : Program} {w : World} {K : PySem.W.Frag} {tg : Expr} (it : Addr) (lo : Int) (n : Nat) : Turn P w K tg (Itr lo n) [it] it (fun i h => IsRangeIter h it (lo + (i : Nat) * 1) ((n : Int) - (i : Nat)) 1) where
  mem := by simp
  obj := fun i h st b hb => by
    have e : b = it := by simpa using hb
    subst e
    exact ⟨_, st, fun v z => by
      have z' : Data.fields _ = Data.cell v := z
      cases z'⟩
  keep := fun i h h' st k => k it (by simp) _ st
  item := by
    intro X hP hw hK hc i pins s σ H E I hf st hg
    subst hP hw hK
    obtain ⟨f0, f1, f2, f3, f4, f5⟩ := hf it (by simp)
    have W := Walks.range (prog := X.prog) (w := X.w) (I.ok.hd hc) it lo 1 n
    refine W.item i s _ _ hg st fun v h' tk hv st' kk => ?_
    obtain ⟨t, rfl⟩ := hv
    have I1 : Inv X pins σ H { s with heap := h', toks := tk } := I.turned (fun b o hb e => kk b o (by simpa using hb) e) f0 f1 f3 f4 f5
    refine ⟨_, rfl, go_of (s := { s with heap := h', toks := tk }) (n := "range_iterator") st' rfl rfl (by decide) ⟨.int (lo + i), H, I1, ⟨t, ?_⟩, ⟨rfl, rfl⟩, st', fun b hb => (hf b hb).1⟩⟩
    rw [Int.mul_one]
  done := by
    intro X hP hw hK hc i pins s σ H E I hf st hg
    subst hP hw hK
    obtain ⟨f0, f1, f2, f3, f4, f5⟩ := hf it (by simp)
    exact wpAny_pyNext_range_end (I.ok.hd hc) st (by have : n ≤ i := hg; omega) fun h' eb => ⟨rfl, I.turned (t' := s.toks) (fun b o hb e => eb b o hb e) f0 f1 f3 f4 f5⟩
  self := fun _ _ _ _ _ st h => wpAny_pyIter_rangeiter st h
end L2

namespace L2
open PySem PySem.Spec PyProof.Rows
section
variable {X : Cx} {tg : Expr}
noncomputable def iList (K : PySem.W.Frag) (tl : TE) : TI := fun σ H R => tl σ H fun x H1 => ∃ a, x = .ref a ∧ (∃ xs, SqL K H1 a xs) ∧ R (Itl K a) H1
theorem pi_list {l : Expr} {tl : TE} (hl : PE X l tl) : PI X tg l (iList X.K tl) := by
  intro pins s σ H R I h
  refine thn (hl pins s σ H _ I h) fun v s1 ⟨x, H1, I1, r1, q1⟩ => ?_
  obtain ⟨a, e, ⟨xs, hq⟩, q⟩ := q1
  subst e
  cases r1
  obtain ⟨its, rv, p, hz⟩ := I1.list hq
  refine wpAny_pyIter_list p.isList ?_
  refine ⟨s1.heap.objs.size, [s1.heap.objs.size], _, _, H1, rfl, I1.kept (t' := s1.toks) fun b o e => Heap.get?_push_of_some _ e, turn_list a _, ⟨_, Heap.get?_push_size _ rfl, rfl, rfl⟩, fun b hb => ?_, q⟩
  have e : b = s1.heap.objs.size := by simpa using hb
  subst e
  exact I1.fpOk (Nat.le_refl _) (I1.hok.fresh (Nat.le_refl _))
theorem range_it {pins : List (Addr × Obj)} {σ : St} {H : Hp} {s : Shared} {R : It → Hp → Prop} {E : Value → Shared → Prop} {lo hi : Int} {t u v : Tok} {tk : Nat} (I : Inv X pins σ H s) (h1 : -(2 ^ 62) ≤ lo) (h2 : lo < 2 ^ 62) (h3 : -(2 ^ 62) ≤ hi) (h4 : hi < 2 ^ 62)
    (q : R (Itr lo (hi - lo).toNat) H) : wpAny (model X.prog X.w) X.A (pyIter (.ref s.heap.objs.size)) (PIE X pins σ tg R) E { s with heap := s.heap.push { cls := .type "range", data := .fields #[.int lo t, .int hi u, .int 1 v] }, toks := tk } := by
  refine wpAny_pyIter_range (IsRange.new ..) (small_one h1 h2 h3 h4) ?_
  have I1 : Inv X pins σ H { s with heap := s.heap.push { cls := .type "range", data := .fields #[.int lo t, .int hi u, .int 1 v] }, toks := tk } := I.kept fun b o e => Heap.get?_push_of_some _ e
  refine ⟨(s.heap.push { cls := .type "range", data := .fields #[.int lo t, .int hi u, .int 1 v] }).objs.size, [(s.heap.push { cls := .type "range", data := .fields #[.int lo t, .int hi u, .int 1 v] }).objs.size], _, _, H, rfl,
    I1.kept (t' := tk) fun b o e => Heap.get?_push_of_some _ e, turn_range _ lo (hi - lo).toNat, ?_, fun b hb => ?_, q⟩
  · have e1 : lo + ((0 : Nat) : Int) * 1 = lo := by simp
    have e2 : (((hi - lo).toNat : Nat) : Int) - ((0 : Nat) : Int) = Builtin.Range.rangeSize lo hi 1 := by rw [rangeSize_one]; split <;> omega
    show IsRangeIter _ _ (lo + ((0 : Nat) : Int) * 1) ((((hi - lo).toNat : Nat) : Int) - ((0 : Nat) : Int)) 1
    rw [e1, e2]
    exact Heap.get?_push_size _ rfl
  · have e : b = (s.heap.push { cls := .type "range", data := .fields #[.int lo t, .int hi u, .int 1 v] }).objs.size := by simpa using hb
    subst e
    exact I1.fpOk (Nat.le_refl _) (I1.hok.fresh (Nat.le_refl _))
noncomputable def iRng1 (ta : TA) : TI := fun σ H R => ta σ H fun vs H1 => ∃ j : Int, vs = [.int j] ∧ -(2 ^ 62) ≤ j ∧ j < 2 ^ 62 ∧ R (Itr 0 j.toNat) H1
theorem pi_range1 {a : Expr} {ta : TA} {p pos : Pos} (hg : Gl X "range") (hm : X.mg "range" = none) (ha : PA X [a] ta) (hs : starEach [a] X.env = [(false, eval a X.env)] := by rfl) : PI X tg (.Call (.Name "range" p) [a] [] pos) (iRng1 ta) := by
  intro pins s σ H R I h
  refine Call_ (ld_blt I hg hm boot_range (PyProof.Rows.callWith_type1 (thn (ha pos pins s σ H _ I h) fun us s1 ⟨vs, H1, I1, r1, q1⟩ => ?_) hs rfl))
  obtain ⟨j, e, q1, q2, q⟩ := q1
  subst e
  cases r1 with
  | cons r rr =>
    cases rr
    obtain ⟨t, rfl⟩ := r
    exact call_range_1 (range_it I1 (by omega) (by omega) q1 q2 (by simpa using q))
noncomputable def tFor (wi : TI) (g : TG) (tb : TS) : TS := fun D σ H => wi σ H fun J H1 => ∃ W : Nat → Nat → St → Hp → Prop, (∃ m, W 0 m σ H1) ∧ ∀ i m σ H, W i m σ H →
  (J.stop i H ∧ D.nx σ H) ∨ (J.go i H ∧ ∃ N : St → Hp → Prop, (∀ σ' H', N σ' H' → ∃ m', m' < m ∧ W (i + 1) m' σ' H') ∧ ∀ x H', J.yld i H x H' → g x σ H' fun σ2 H2 => tb { D with nx := N, ct := N, bk := D.nx } σ2 H2)
noncomputable def pinsAt (fp : List Addr) (h : Heap) : List (Addr × Obj) := fp.filterMap fun b => (h.get? b).map fun o => (b, o)
theorem mem_pinsAt {fp : List Addr} {h : Heap} {b : Addr} {o : Obj} (hb : b ∈ fp) (e : h.get? b = some o) : (b, o) ∈ pinsAt fp h := List.mem_filterMap.mpr ⟨b, hb, by rw [e]; rfl⟩
theorem of_pinsAt {fp : List Addr} {h : Heap} {p : Addr × Obj} (hp : p ∈ pinsAt fp h) : p.1 ∈ fp ∧ h.get? p.1 = some p.2 := by
  obtain ⟨b, hb, e⟩ := List.mem_filterMap.mp hp
  cases q : h.get? b with
  | none => rw [q] at e; cases e
  | some o =>
    rw [q] at e
    have e' : (b, o) = p := Option.some.inj e
    subst e'
    exact ⟨hb, q⟩
theorem Inv.pinned {pins : List (Addr × Obj)} {σ : St} {H : Hp} {s : Shared} {fp : List Addr} (I : Inv X pins σ H s) (hf : ∀ b ∈ fp, FpOk X pins H b) (ho : ∀ b ∈ fp, ∃ o, s.heap.get? b = some o ∧ ∀ v, o.data ≠ .cell v) : Inv X (pins ++ pinsAt fp s.heap) σ H s :=
  I.pins_of fun p hp => (List.mem_append.mp hp).elim (fun z => I.pin p (List.mem_append_right _ z)) fun z => by
    obtain ⟨hb, e⟩ := of_pinsAt z
    obtain ⟨f0, f1, f2, _⟩ := hf p.1 hb
    obtain ⟨o, e', d⟩ := ho p.1 hb
    rw [e] at e'; cases e'
    exact ⟨e, f0, f1, f2, d⟩
theorem Inv.unpinned {pins pl : List (Addr × Obj)} {σ : St} {H : Hp} {s : Shared} (I : Inv X (pins ++ pl) σ H s) : Inv X pins σ H s := I.pins_of fun p hp => I.pin p (List.mem_append_right _ (List.mem_append_left _ hp))
theorem ps_for {iter : Expr} {body : List Stmt} {wi : TI} {g : TG} {tb : TS} {pos : Pos} (hp : PassesOwn (model X.prog X.w) X.A X.env X.xe) (hc : X.calm = true) (hi : PI X tg iter wi) (hg : PG X tg g) (hb : PSs X body tb)
    (hs : ∀ x, foldedSetIterable iter X.env x = pure x := by intro _; rfl) : PS X (.For tg iter body [] pos) (tFor wi g tb) := by
  intro pins s σ H D I h
  refine wpAny_For (thn (hi pins s σ H _ I h) fun v s1 h1 => thn h1 fun itv s2 h2 => ?_) hs
  obtain ⟨it, fp, tn, J, H2, e, I2, T, st2, f2, W, ⟨m0, w0⟩, turn⟩ := h2
  subst e
  -- what stays true of the iterator's objects through the loop
  have stat : ∀ {H' : Hp}, (∀ b ∈ fp, H' b = none) → ∀ b ∈ fp, FpOk X pins H' b := fun hn b hb => ⟨hn b hb, (f2 b hb).2⟩
  refine codeAny_forLoop_any (fun n s' => ∃ i σ' H', Inv X pins σ' H' s' ∧ tn i s'.heap ∧ (∀ b ∈ fp, H' b = none) ∧ W i n σ' H') ?_ m0 ⟨0, σ, H2, I2, st2, fun b hb => (f2 b hb).1, w0⟩
  rintro n s3 ⟨i, σ3, H3, I3, st3, fr3, w3⟩
  rcases turn i n σ3 H3 w3 with ⟨stop, qn⟩ | ⟨go, N, hN, step⟩
  · refine wpAny_passesOwn hp (thn (T.done X rfl rfl rfl hc i pins s3 σ3 H3 X.xe I3 (stat fr3) st3 stop) fun r s4 ⟨hr, I4⟩ => ?_)
    subst hr
    exact wpAny_execs_nil ⟨σ3, H3, I4, qn⟩
  · refine wpAny_passesOwn hp (thn (T.item X rfl rfl rfl hc i pins s3 σ3 H3 X.xe I3 (stat fr3) st3 go) fun r s4 ⟨u, hr, h4⟩ => ?_)
    subst hr
    refine wpAny_passesOwn hp (thn h4 fun _ s5 ⟨x, H5, I5, r5, y5, st5, fr5⟩ => ?_)
    have I5' := I5.pinned (stat fr5) (T.obj _ _ st5)
    refine wpAny_passesOwn hp (thn (hg _ s5 σ3 H5 x u _ I5' r5 (step x H5 y5)) fun _ s6 ⟨σ6, H6, I6, q6⟩ => ?_)
    refine wpAny_passesOwn hp (thn (hb _ s6 σ6 H6 _ I6 q6) fun f s7 q7 => ?_)
    have again : ∀ {σ7 : St} {H7 : Hp}, Inv X (pins ++ pinsAt fp s5.heap) σ7 H7 s7 → N σ7 H7 → ∃ m, m < n ∧ ∃ i σ' H', Inv X pins σ' H' s7 ∧ tn i s7.heap ∧ (∀ b ∈ fp, H' b = none) ∧ W i m σ' H' := fun {σ7 H7} I7 n7 => by
      obtain ⟨m', hm, w7⟩ := hN σ7 H7 n7
      refine ⟨m', hm, i + 1, σ7, H7, I7.unpinned, T.keep _ _ _ st5 fun b hb o e => (I7.pin (b, o) (List.mem_append_right _ (List.mem_append_right _ (mem_pinsAt hb e)))).1, fun b hb => ?_, w7⟩
      obtain ⟨o, e, d⟩ := T.obj _ _ st5 b hb
      exact (I7.pin (b, o) (List.mem_append_right _ (List.mem_append_right _ (mem_pinsAt hb e)))).2.1
    cases f with
    | next => obtain ⟨σ7, H7, I7, n7⟩ := q7; exact again I7 n7
    | cont => obtain ⟨σ7, H7, I7, n7⟩ := q7; exact again I7 n7
    | brk => obtain ⟨σ7, H7, I7, q7⟩ := q7; exact ⟨σ7, H7, I7.unpinned, q7⟩
    | ret v => obtain ⟨x7, σ7, H7, I7, r7, q7⟩ := q7; exact ⟨x7, σ7, H7, I7.unpinned, r7, q7⟩
end

theorem for_list {K : PySem.W.Frag} {a : Addr} {xs : List V} {g : TG} {tb : TS} {D : Ends} {σ : St} {H : Hp} (Pv : Nat → St → Hp → Prop) (h0 : Pv 0 σ H) (hl : ∀ i σ H, i ≤ xs.length → Pv i σ H → SqL K H a xs)
    (hs : ∀ i x σ H, xs[i]? = some x → Pv i σ H → g x σ H fun σ2 H2 => tb { D with nx := Pv (i + 1), ct := Pv (i + 1), bk := D.nx } σ2 H2) (hd : ∀ σ H, Pv xs.length σ H → D.nx σ H) :
    ∃ W : Nat → Nat → St → Hp → Prop, (∃ m, W 0 m σ H) ∧ ∀ i m σ H, W i m σ H →
      ((Itl K a).stop i H ∧ D.nx σ H) ∨ ((Itl K a).go i H ∧ ∃ N : St → Hp → Prop, (∀ σ' H', N σ' H' → ∃ m', m' < m ∧ W (i + 1) m' σ' H') ∧ ∀ x H', (Itl K a).yld i H x H' → g x σ H' fun σ2 H2 => tb { D with nx := N, ct := N, bk := D.nx } σ2 H2) := by
  refine ⟨fun i m σ H => m = xs.length - i ∧ i ≤ xs.length ∧ Pv i σ H, ⟨xs.length, by simp, Nat.zero_le _, h0⟩, ?_⟩
  rintro i m σ H ⟨rfl, hi, p⟩
  have q := hl i σ H hi p
  by_cases hlt : i < xs.length
  · refine .inr ⟨⟨xs, xs[i], q, by simp [hlt]⟩, Pv (i + 1), fun σ' H' p' => ⟨xs.length - (i + 1), by omega, rfl, hlt, p'⟩, fun x H' y => ?_⟩
    obtain ⟨e, y⟩ := y
    subst e
    exact hs i x σ _ (y xs q) p
  · have e : i = xs.length := by omega
    subst e
    exact .inl ⟨⟨xs, q, Nat.le_refl _⟩, hd σ H p⟩
theorem for_range {lo : Int} {n : Nat} {g : TG} {tb : TS} {D : Ends} {σ : St} {H : Hp} (Pv : Nat → St → Hp → Prop) (h0 : Pv 0 σ H)
    (hs : ∀ i σ H, i < n → Pv i σ H → g (.int (lo + i)) σ H fun σ2 H2 => tb { D with nx := Pv (i + 1), ct := Pv (i + 1), bk := D.nx } σ2 H2) (hd : ∀ σ H, Pv n σ H → D.nx σ H) :
    ∃ W : Nat → Nat → St → Hp → Prop, (∃ m, W 0 m σ H) ∧ ∀ i m σ H, W i m σ H →
      ((Itr lo n).stop i H ∧ D.nx σ H) ∨ ((Itr lo n).go i H ∧ ∃ N : St → Hp → Prop, (∀ σ' H', N σ' H' → ∃ m', m' < m ∧ W (i + 1) m' σ' H') ∧ ∀ x H', (Itr lo n).yld i H x H' → g x σ H' fun σ2 H2 => tb { D with nx := N, ct := N, bk := D.nx } σ2 H2) := by
  refine ⟨fun i m σ H => m = n - i ∧ i ≤ n ∧ Pv i σ H, ⟨n, by simp, Nat.zero_le _, h0⟩, ?_⟩
  rintro i m σ H ⟨rfl, hi, p⟩
  by_cases hlt : i < n
  · refine .inr ⟨hlt, Pv (i + 1), fun σ' H' p' => ⟨n - (i + 1), by omega, rfl, hlt, p'⟩, fun x H' y => ?_⟩
    obtain ⟨e, y⟩ := y
    subst e y
    exact hs i σ _ hlt p
  · have e : i = n := by omega
    subst e
    exact .inl ⟨Nat.le_refl _, hd σ H p⟩
theorem while_by {c : TT} {tb : TS} {D : Ends} {σ : St} {H : Hp} (Pv : St → Hp → Prop) (μ : St → Hp → Nat) (h0 : Pv σ H)
    (hs : ∀ σ H, Pv σ H → c σ H fun b H1 => if b = true then tb { D with nx := fun σ' H' => Pv σ' H' ∧ μ σ' H' < μ σ H, ct := fun σ' H' => Pv σ' H' ∧ μ σ' H' < μ σ H, bk := D.nx } σ H1 else D.nx σ H1)
    (mono : ∀ σ H Q Q', (∀ b H1, Q b H1 → Q' b H1) → c σ H Q → c σ H Q') : tWhile c tb D σ H := by
  refine ⟨fun m σ H => m = μ σ H ∧ Pv σ H, ⟨_, rfl, h0⟩, ?_⟩
  rintro m σ H ⟨rfl, p⟩
  refine mono σ H _ _ (fun b H1 q => ?_) (hs σ H p)
  cases b with
  | true => exact ⟨_, fun σ' H' ⟨p', l⟩ => ⟨_, l, rfl, p'⟩, q⟩
  | false => exact q
end L2

namespace L2
open PySem PySem.Spec PyProof.Rows

noncomputable abbrev R2 := V → V → Hp → VK → Prop
noncomputable def OpR (X : Cx) (f : Value → Value → Sem Value) (r : R2) : Prop :=
  ∀ (pins : List (Addr × Obj)) (s : Shared) (σ : St) (H : Hp) (x y : V) (v u : Value) (Q : VK), Inv X pins σ H s → RelV x v → RelV y u → r x y H Q →
    wpAny (model X.prog X.w) X.A (f v u) (EP X pins σ Q) X.xe s
noncomputable def CallR (X : Cx) (f : Value) (r : List V → Hp → VK → Prop) : Prop :=
  ∀ (pins : List (Addr × Obj)) (s : Shared) (σ : St) (H : Hp) (xs : List V) (us : List Value) (Q : VK), Inv X pins σ H s → Vals xs us → r xs H Q →
    wpAny (model X.prog X.w) X.A (call f us) (EP X pins σ Q) X.xe s
noncomputable def TruR (X : Cx) (r : V → Hp → (Bool → Hp → Prop) → Prop) : Prop :=
  ∀ (pins : List (Addr × Obj)) (s : Shared) (σ : St) (H : Hp) (x : V) (v : Value) (Q : Bool → Hp → Prop), Inv X pins σ H s → RelV x v → r x H Q →
    wpAny (model X.prog X.w) X.A (truthy v) (TP X pins σ Q) X.xe s

noncomputable def tOp (r : R2) (ta tb : TE) : TE := fun σ H Q => ta σ H fun x H1 => tb σ H1 fun y H2 => r x y H2 Q
noncomputable def rI (C : Int → Int → Prop) (g : Int → Int → V) : R2 := fun x y H Q => ∃ i j, x = .int i ∧ y = .int j ∧ C i j ∧ Q (g i j) H
noncomputable def rI0 (g : Int → Int → V) : R2 := fun x y H Q => ∃ i j, x = .int i ∧ y = .int j ∧ Q (g i j) H
section
variable {X : Cx} {a b c : Expr} {ta tb tc : TE} {pos : Pos}

theorem binT (ha : PE X a ta) (hb : PE X b tb) {pins : List (Addr × Obj)} {s : Shared} {σ : St} {H : Hp} {R : V → V → Hp → Prop} (I : Inv X pins σ H s)
    (h : ta σ H fun x H1 => tb σ H1 fun y H2 => R x y H2) {Q : Value → Shared → Prop} {f : Value → Value → Sem Value}
    (hf : ∀ v u s2 x y H2, Inv X pins σ H2 s2 → RelV x v → RelV y u → R x y H2 → wpAny (model X.prog X.w) X.A (f v u) Q X.xe s2) :
    wpAny (model X.prog X.w) X.A (eval a X.env) (fun v s₁ => wpAny (model X.prog X.w) X.A (eval b X.env) (fun u s₂ => wpAny (model X.prog X.w) X.A (f v u) Q X.xe s₂) X.xe s₁) X.xe s := by
  refine thn (ha pins s σ H _ I h) fun v s1 ⟨x, H1, I1, r1, q1⟩ => ?_
  refine thn (hb pins s1 σ H1 _ I1 q1) fun u s2 ⟨y, H2, I2, r2, q2⟩ => ?_
  exact hf v u s2 x y H2 I2 r1 r2 q2

theorem pe_op {op : Operator} {r : R2} (ho : OpR X (binaryOp op) r) (ha : PE X a ta) (hb : PE X b tb) : PE X (.BinOp a op b pos) (tOp r ta tb) := by
  intro pins s σ H Q I h
  exact wpAny_BinOp (binT ha hb I h fun v u s2 x y H2 I2 rx ry q => ho pins s2 σ H2 x y v u Q I2 rx ry q)
theorem opI {f : Value → Value → Sem Value} {C : Int → Int → Prop} {g : Int → Int → Int}
    (rule : ∀ (i j : Int) (t u : Tok) (s : Shared) (Q : Value → Shared → Prop) (E : Value → Shared → Prop), C i j → Q (.int (g i j) s.toks) { s with toks := s.toks + 1 } → wpAny (model X.prog X.w) X.A (f (.int i t) (.int j u)) Q E s) :
    OpR X f (rI C fun i j => .int (g i j)) := by
  intro pins s σ H x y v u Q I rx ry h
  obtain ⟨i, j, rfl, rfl, hc, q⟩ := h
  obtain ⟨t, rfl⟩ := rx
  obtain ⟨t', rfl⟩ := ry
  exact rule i j t t' s _ _ hc ⟨.int (g i j), H, I.tok _, ⟨_, rfl⟩, q⟩
theorem opI0 {f : Value → Value → Sem Value} {g : Int → Int → Int}
    (rule : ∀ (i j : Int) (t u : Tok) (s : Shared) (Q : Value → Shared → Prop) (E : Value → Shared → Prop), Q (.int (g i j) s.toks) { s with toks := s.toks + 1 } → wpAny (model X.prog X.w) X.A (f (.int i t) (.int j u)) Q E s) :
    OpR X f (rI0 fun i j => .int (g i j)) := by
  intro pins s σ H x y v u Q I rx ry h
  obtain ⟨i, j, rfl, rfl, q⟩ := h
  obtain ⟨t, rfl⟩ := rx
  obtain ⟨t', rfl⟩ := ry
  exact rule i j t t' s _ _ ⟨.int (g i j), H, I.tok _, ⟨_, rfl⟩, q⟩
theorem opB0 {f : Value → Value → Sem Value} {g : Int → Int → Bool}
    (rule : ∀ (i j : Int) (t u : Tok) (s : Shared) (Q : Value → Shared → Prop) (E : Value → Shared → Prop), Q (.bool (g i j)) s → wpAny (model X.prog X.w) X.A (f (.int i t) (.int j u)) Q E s) :
    OpR X f (rI0 fun i j => .bl (g i j)) := by
  intro pins s σ H x y v u Q I rx ry h
  obtain ⟨i, j, rfl, rfl, q⟩ := h
  obtain ⟨t, rfl⟩ := rx
  obtain ⟨t', rfl⟩ := ry
  exact rule i j t t' s _ _ ⟨.bl (g i j), H, I, rfl, q⟩

noncomputable def CDiv (i j : Int) : Prop := 0 < j ∧ j < 1073741824
noncomputable def CPow (i j : Int) : Prop := 0 ≤ j ∧ j ≤ 1000000 ∧ i.natAbs < 2 ^ 64
noncomputable def CMul (i j : Int) : Prop := (-(2 ^ 64) < i ∧ i < 2 ^ 64) ∨ (-(2 ^ 64) < j ∧ j < 2 ^ 64)
theorem CMul.ok {i j : Int} (h : CMul i j) : IntMulOk i j := by
  rcases h with ⟨h1, h2⟩ | ⟨h1, h2⟩
  · exact .of_left (intBits_le_64 h1 h2)
  · exact .of_right (intBits_le_64 h1 h2)
theorem op_add : OpR X (binaryOp .Add) (rI0 fun i j => .int (i + j)) := opI0 fun _ _ _ _ _ _ _ q => add_int q
theorem op_sub : OpR X (binaryOp .Sub) (rI0 fun i j => .int (i - j)) := opI0 fun _ _ _ _ _ _ _ q => sub_int q
theorem op_mul : OpR X (binaryOp .Mult) (rI CMul fun i j => .int (i * j)) := opI fun _ _ _ _ _ _ _ hc q => mul_int q hc.ok
theorem op_fdiv : OpR X (binaryOp .FloorDiv) (rI CDiv fun i j => .int (i / j)) := opI fun i j _ _ _ _ _ hc q => by
  have h1 : (0 : Int) < j := hc.1
  have h2 : j < 1073741824 := hc.2
  exact floordiv_int (by omega) (by rw [Int.fdiv_eq_ediv_of_nonneg i (by omega)]; exact q) (.inl (PyProof.noPylong_small (by omega)))
theorem op_mod : OpR X (binaryOp .Mod) (rI (fun _ j => 0 < j) fun i j => .int (i % j)) := opI fun i j _ _ _ _ _ hc q => by
  have h1 : (0 : Int) < j := hc
  exact mod_int' (by omega) (by rw [Int.fmod_eq_emod_of_nonneg i (by omega)]; exact q)
theorem op_pow : OpR X (binaryOp .Pow) (rI CPow fun i j => .int (i ^ j.toNat)) := opI fun _ _ _ _ _ _ _ hc q => pow_int_small hc.1 hc.2.1 hc.2.2 q
end

noncomputable def scal : V → V → Bool
  | .non, .non => true | .non, .int _ => true | .int _, .non => true | .non, .bl _ => true | .bl _, .non => true | .non, .str _ => true | .str _, .non => true
  | .int _, .int _ => true | .bl _, .bl _ => true | .str _, .str _ => true | .byt _, .byt _ => true
  | .int _, .str _ => true | .str _, .int _ => true | .bl _, .str _ => true | .str _, .bl _ => true
  | _, _ => false
noncomputable def rEq : R2 := fun x y H Q => scal x y = true ∧ Q (.bl (decide (x = y))) H
noncomputable def rNe : R2 := fun x y H Q => scal x y = true ∧ Q (.bl (!decide (x = y))) H

theorem dec_int {i j : Int} : decide (V.int i = V.int j) = (i == j) := by
  rw [Bool.eq_iff_iff]
  simp
theorem dec_bl {i j : Bool} : decide (V.bl i = V.bl j) = (i == j) := by
  rw [Bool.eq_iff_iff]
  simp
theorem dec_str {i j : Str} : decide (V.str i = V.str j) = (i == j) := by
  rw [Bool.eq_iff_iff]
  simp
theorem dec_byt {i j : Array UInt8} : decide (V.byt i = V.byt j) = (i.toList == j.toList) := by
  rw [Bool.eq_iff_iff]
  cases i
  cases j
  simp

section
variable {X : Cx} {a b c : Expr} {ta tb tc : TE} {pos : Pos}
theorem fin_bl {pins : List (Addr × Obj)} {σ : St} {H : Hp} {s : Shared} {Q : VK} {k k' : Bool} (I : Inv X pins σ H s) (q : Q (.bl k) H) (e : k = k') : EP X pins σ Q (.bool k') s := by
  subst e
  exact ⟨.bl k, H, I, rfl, q⟩
theorem op_eq : OpR X (compareOp .Eq) rEq := by
  intro pins s σ H x y v u Q I rx ry h
  obtain ⟨hs, q⟩ := h
  cases x with
  | non =>
    cases rx
    cases y with
    | non => cases ry; exact PySem.EqNone.eq_none_none (fin_bl I q (by simp))
    | bl j => cases ry; exact PySem.EqNone.eq_none_bool (fin_bl I q (by simp))
    | int j => obtain ⟨t', rfl⟩ := ry; exact PySem.EqNone.eq_none_int (fin_bl I q (by simp))
    | str j => obtain ⟨t', rfl⟩ := ry; exact PySem.EqNone.eq_none_str (fin_bl I q (by simp))
    | _ => exact absurd (show false = true from hs) Bool.false_ne_true
  | bl i =>
    cases rx
    cases y with
    | non => cases ry; exact PySem.EqNone.eq_bool_none (fin_bl I q (by simp))
    | bl j => cases ry; exact eq_bool (fin_bl I q dec_bl)
    | str j => obtain ⟨t', rfl⟩ := ry; exact PySem.EqMixed.eq_bool_str (fin_bl I q (by simp))
    | _ => exact absurd (show false = true from hs) Bool.false_ne_true
  | int i =>
    obtain ⟨t, rfl⟩ := rx
    cases y with
    | non => cases ry; exact PySem.EqNone.eq_int_none (fin_bl I q (by simp))
    | int j => obtain ⟨t', rfl⟩ := ry; exact eq_int (fin_bl I q dec_int)
    | str j => obtain ⟨t', rfl⟩ := ry; exact PySem.EqMixed.eq_int_str (fin_bl I q (by simp))
    | _ => exact absurd (show false = true from hs) Bool.false_ne_true
  | str i =>
    obtain ⟨t, rfl⟩ := rx
    cases y with
    | non => cases ry; exact PySem.EqNone.eq_str_none (fin_bl I q (by simp))
    | bl j => cases ry; exact PySem.EqMixed.eq_str_bool (fin_bl I q (by simp))
    | int j => obtain ⟨t', rfl⟩ := ry; exact PySem.EqMixed.eq_str_int (fin_bl I q (by simp))
    | str j => obtain ⟨t', rfl⟩ := ry; exact eq_str (fin_bl I q dec_str)
    | _ => exact absurd (show false = true from hs) Bool.false_ne_true
  | byt i =>
    obtain ⟨t, rfl⟩ := rx
    cases y with
    | byt j => obtain ⟨t', rfl⟩ := ry; exact PySem.W.eq_bytes (fin_bl I q dec_byt)
    | _ => exact absurd (show false = true from hs) Bool.false_ne_true
  | _ => cases y <;> exact absurd (show false = true from hs) Bool.false_ne_true
theorem op_ne : OpR X (compareOp .NotEq) rNe := by
  intro pins s σ H x y v u Q I rx ry h
  obtain ⟨hs, q⟩ := h
  cases x with
  | non =>
    cases rx
    cases y with
    | non => cases ry; exact PySem.EqNone.ne_none_none (fin_bl I q (by simp))
    | bl j => cases ry; exact PySem.EqNone.ne_none_bool (fin_bl I q (by simp))
    | int j => obtain ⟨t', rfl⟩ := ry; exact PySem.EqNone.ne_none_int (fin_bl I q (by simp))
    | str j => obtain ⟨t', rfl⟩ := ry; exact PySem.EqNone.ne_none_str (fin_bl I q (by simp))
    | _ => exact absurd (show false = true from hs) Bool.false_ne_true
  | bl i =>
    cases rx
    cases y with
    | non => cases ry; exact PySem.EqNone.ne_bool_none (fin_bl I q (by simp))
    | bl j => cases ry; exact ne_bool (fin_bl I q (congrArg not dec_bl))
    | str j => obtain ⟨t', rfl⟩ := ry; exact PySem.EqMixed.ne_bool_str (fin_bl I q (by simp))
    | _ => exact absurd (show false = true from hs) Bool.false_ne_true
  | int i =>
    obtain ⟨t, rfl⟩ := rx
    cases y with
    | non => cases ry; exact PySem.EqNone.ne_int_none (fin_bl I q (by simp))
    | int j => obtain ⟨t', rfl⟩ := ry; exact ne_int (fin_bl I q (congrArg not dec_int))
    | str j => obtain ⟨t', rfl⟩ := ry; exact PySem.EqMixed.ne_int_str (fin_bl I q (by simp))
    | _ => exact absurd (show false = true from hs) Bool.false_ne_true
  | str i =>
    obtain ⟨t, rfl⟩ := rx
    cases y with
    | non => cases ry; exact PySem.EqNone.ne_str_none (fin_bl I q (by simp))
    | bl j => cases ry; exact PySem.EqMixed.ne_str_bool (fin_bl I q (by simp))
    | int j => obtain ⟨t', rfl⟩ := ry; exact PySem.EqMixed.ne_str_int (fin_bl I q (by simp))
    | str j => obtain ⟨t', rfl⟩ := ry; exact ne_str (fin_bl I q (congrArg not dec_str))
    | _ => exact absurd (show false = true from hs) Bool.false_ne_true
  | byt i =>
    obtain ⟨t, rfl⟩ := rx
    cases y with
    | byt j => obtain ⟨t', rfl⟩ := ry; exact PySem.W.ne_bytes (fin_bl I q (congrArg not dec_byt))
    | _ => exact absurd (show false = true from hs) Bool.false_ne_true
  | _ => cases y <;> exact absurd (show false = true from hs) Bool.false_ne_true

theorem op_lt : OpR X (compareOp .Lt) (rI0 fun i j => .bl (decide (i < j))) := opB0 fun _ _ _ _ _ _ _ q => lt_int q
theorem op_le : OpR X (compareOp .LtE) (rI0 fun i j => .bl (decide (i ≤ j))) := opB0 fun _ _ _ _ _ _ _ q => le_int q
theorem op_gt : OpR X (compareOp .Gt) (rI0 fun i j => .bl (decide (j < i))) := opB0 fun _ _ _ _ _ _ _ q => gt_int q
theorem op_in_str : OpR X (compareOp .In) (fun x y H Q => ∃ i j, x = .str i ∧ y = .str j ∧ Q (.bl (!(Builtin.Str.occurrences j i 0 j.length 1).isEmpty)) H) := by
  intro pins s σ H x y v u Q I rx ry h
  obtain ⟨i, j, rfl, rfl, q⟩ := h
  obtain ⟨t, rfl⟩ := rx
  obtain ⟨t', rfl⟩ := ry
  exact in_str (fin_bl I q rfl)

theorem op_isN : OpR X (compareOp .Is) (fun x y H Q => y = .non ∧ Q (.bl (decide (x = .non))) H) := by
  intro pins s σ H x y v u Q I rx ry h
  obtain ⟨rfl, q⟩ := h
  cases ry
  refine is_none_gen (fin_bl I q ?_)
  cases x <;> first
    | (cases rx; rfl)
    | (obtain ⟨t, rfl⟩ := rx; rfl)
theorem nomark (b : Expr) {op : CmpOp} (h : op ≠ .In := by decide) (h2 : op ≠ .NotIn := by decide) : behindInMarks op b = false := by
  have e1 : (op == CmpOp.In) = false := by cases op <;> first | rfl | exact absurd rfl h
  have e2 : (op == CmpOp.NotIn) = false := by cases op <;> first | rfl | exact absurd rfl h2
  cases b <;> simp [behindInMarks, e1, e2]
theorem pe_cmpR {op : CmpOp} {r : R2} (ho : OpR X (compareOp op) r) (ha : PE X a ta) (hb : PE X b tb) (hm : behindInMarks op b = false) : PE X (.Compare a [op] [b] pos) (tOp r ta tb) := by
  intro pins s σ H Q I h
  exact wpAny_Compare1 (binT ha hb I h fun v u s2 x y H2 I2 rx ry q => ho pins s2 σ H2 x y v u Q I2 rx ry q) hm
noncomputable def tTest (t : TE) : TT := fun σ H Q => t σ H fun x H' => ∃ k, x = .bl k ∧ Q k H'
theorem pt_cmpR {op : CmpOp} {r : R2} (ho : OpR X (compareOp op) r) (ha : PE X a ta) (hb : PE X b tb) (hm : behindInMarks op b = false) : PT X (.Compare a [op] [b] pos) (tTest (tOp r ta tb)) := by
  intro pins s σ H Q I h
  refine wpAny_isTrue_Compare1 (thn (ha pins s σ H _ I h) fun v s1 ⟨x, H1, I1, r1, q1⟩ => thn (hb pins s1 σ H1 _ I1 q1) fun u s2 ⟨y, H2, I2, r2, q2⟩ =>
    thn (ho pins s2 σ H2 x y v u _ I2 r1 r2 q2) fun c s3 ⟨z, H3, I3, r3, k, e, q3⟩ => ?_) hm
  subst e
  cases r3
  exact wpAny_truthy_bool ⟨H3, I3, q3⟩
noncomputable def tChain (r r' : R2) (ta tb tc : TE) : TE := fun σ H Q => ta σ H fun x H1 => tb σ H1 fun y H2 => r x y H2 fun z H3 => ∃ k, z = .bl k ∧
  (if k = true then tc σ H3 fun w' H4 => r' y w' H4 Q else Q (.bl false) H3)
theorem pe_chain {op op' : CmpOp} {r r' : R2} (ho : OpR X (compareOp op) r) (ho' : OpR X (compareOp op') r') (ha : PE X a ta) (hb : PE X b tb) (hc : PE X c tc)
    (hm : lastMarks [op, op'] [b, c] = false := by with_unfolding_all rfl) : PE X (.Compare a [op, op'] [b, c] pos) (tChain r r' ta tb tc) := by
  intro pins s σ H Q I h
  refine Compare_chain (thn (ha pins s σ H _ I h) fun v s1 ⟨x, H1, I1, r1, q1⟩ => chain_link (thn (hb pins s1 σ H1 _ I1 q1) fun u s2 ⟨y, H2, I2, r2, q2⟩ =>
    thn (ho pins s2 σ H2 x y v u _ I2 r1 r2 q2) fun d s3 ⟨z, H3, I3, r3, k, e, q3⟩ => ?_)) hm
  subst e
  cases r3
  refine wpAny_truthy_bool ?_
  cases k with
  | false => exact ite_ff ⟨.bl false, H3, I3, rfl, q3⟩
  | true => exact ite_tt (chain_last (thn (hc pins s3 σ H3 _ I3 q3) fun w' s4 ⟨z', H4, I4, r4, q4⟩ => ho' pins s4 σ H4 y z' u w' Q I4 r2 r4 q4))
theorem pt_chain {op op' : CmpOp} {r r' : R2} (ho : OpR X (compareOp op) r) (ho' : OpR X (compareOp op') r') (ha : PE X a ta) (hb : PE X b tb) (hc : PE X c tc)
    (hm : lastMarks [op, op'] [b, c] = false := by with_unfolding_all rfl) : PT X (.Compare a [op, op'] [b, c] pos) (tTest (tChain r r' ta tb tc)) := by
  intro pins s σ H Q I h
  refine isTrue_chain (thn (ha pins s σ H _ I h) fun v s1 ⟨x, H1, I1, r1, q1⟩ => test_link (thn (hb pins s1 σ H1 _ I1 q1) fun u s2 ⟨y, H2, I2, r2, q2⟩ =>
    thn (ho pins s2 σ H2 x y v u _ I2 r1 r2 q2) fun d s3 ⟨z, H3, I3, r3, k, e, q3⟩ => ?_)) hm
  subst e
  cases r3
  refine wpAny_truthy_bool ?_
  cases k with
  | false =>
    obtain ⟨k', e', q'⟩ := q3
    cases e'
    exact ite_ff ⟨H3, I3, q'⟩
  | true =>
    refine ite_tt (test_last (thn (hc pins s3 σ H3 _ I3 q3) fun w' s4 ⟨z', H4, I4, r4, q4⟩ => thn (ho' pins s4 σ H4 y z' u w' _ I4 r2 r4 q4) fun d' s5 ⟨z2, H5, I5, r5, k2, e2, q5⟩ => ?_))
    subst e2
    cases r5
    exact wpAny_truthy_bool ⟨H5, I5, q5⟩

noncomputable def TruV (K : PySem.W.Frag) (x : V) (H : Hp) (k : Bool) : Prop :=
  match x with
  | .non => k = false
  | .bl b => k = b
  | .int i => k = (i != 0)
  | .str y => y.length ≤ sizeLine ∧ k = ((y.length : Int) != 0)
  | .byt y => y.size ≤ sizeLine ∧ k = ((y.size : Int) != 0)
  | .ref p => (∃ xs, SqL K H p xs ∧ k = !xs.isEmpty) ∨ (∃ xs, SqT K H p xs ∧ k = !xs.isEmpty) ∨ ∃ kvs, H p = some (.dK kvs) ∧ k = !kvs.isEmpty
  | _ => False
theorem isEmpty_kv {κ : Type} {kvs : List (κ × V)} {vs : List (κ × Value)} (r : KV kvs vs) : (!vs.isEmpty) = !kvs.isEmpty := by
  cases r <;> rfl
theorem isEmpty_of {xs : List V} {its : List Value} (r : Vals xs its) : (!its.toArray.isEmpty) = !xs.isEmpty := by
  cases r <;> simp
theorem line63 : (sizeLine : Nat) < 2 ^ 63 := by rw [sizeLine_eq]; decide
theorem tru_ok : TruR X (fun x H Q => ∃ k, TruV X.K x H k ∧ Q k H) := by
  intro pins s σ H x v Q I rx h
  obtain ⟨k, e, q⟩ := h
  have hl := line63
  have hs : sizeLine = 16777216 := sizeLine_eq
  cases x with
  | non =>
    cases rx
    have e' : k = false := e
    subst e'
    exact truthy_none ⟨H, I, q⟩
  | bl b =>
    cases rx
    have e' : k = b := e
    subst e'
    exact wpAny_truthy_bool ⟨H, I, q⟩
  | int i =>
    obtain ⟨t, rfl⟩ := rx
    have e' : k = (i != 0) := e
    subst e'
    exact PySem.P.truthy_int ⟨H, I, q⟩
  | str y =>
    obtain ⟨t, rfl⟩ := rx
    obtain ⟨hy, e'⟩ : y.length ≤ sizeLine ∧ k = ((y.length : Int) != 0) := e
    subst e'
    exact PySem.P.truthy_str (by omega) ⟨H, I.tok _, q⟩
  | byt y =>
    obtain ⟨t, rfl⟩ := rx
    obtain ⟨hy, e'⟩ : y.size ≤ sizeLine ∧ k = ((y.size : Int) != 0) := e
    subst e'
    exact PySem.W.truthy_bytes (by omega) ⟨H, I.tok _, q⟩
  | ref p =>
    cases rx
    have e' : (∃ xs, SqL X.K H p xs ∧ k = !xs.isEmpty) ∨ (∃ xs, SqT X.K H p xs ∧ k = !xs.isEmpty) ∨ ∃ kvs, H p = some (.dK kvs) ∧ k = !kvs.isEmpty := e
    rcases e' with ⟨xs, hx, e'⟩ | ⟨xs, hx, e'⟩ | ⟨kvs, hx, e'⟩
    · subst e'
      obtain ⟨its, r, pl, hz⟩ := I.list hx
      have hlen := r.length
      exact wpAny_truthy_list pl.isList (by simp only [List.size_toArray]; omega) ⟨H, I.tok _, by rw [isEmpty_of r]; exact q⟩
    · subst e'
      obtain ⟨its, r, pl, hz⟩ := I.tuple hx
      have hlen := r.length
      exact truthy_tuple pl (by simp only [List.size_toArray]; omega) ⟨H, I.tok _, by rw [isEmpty_of r]; exact q⟩
    · subst e'
      obtain ⟨hz, hS, vs, r, m⟩ : kvs.length ≤ sizeLine ∧ (p == sysModules) = false ∧ ∃ vs, KV kvs vs ∧ s.heap.DictOf (mixKind X.prog X.w) p vs := I.hok p _ hx
      have hlen : kvs.length = vs.length := Paired.length r
      exact wpAny_truthy_dict hS m (by omega) ⟨H, I.tok _, by rw [isEmpty_kv r]; exact q⟩
  | _ => exact (show False from e).elim
theorem pt_truth (ha : PE X a ta) (he : ∀ whole, isTrue a X.env whole = (do let v ← whole; standAt a.pos; holding [v] (truthy v))) :
    PT X a (fun σ H Q => ta σ H fun x H' => ∃ k, TruV X.K x H' k ∧ Q k H') := by
  intro pins s σ H Q I h
  exact isTrue_plain (thn (ha pins s σ H _ I h) fun v s1 ⟨x, H1, I1, r1, q1⟩ => tru_ok pins s1 σ H1 x v Q I1 r1 q1) (he _)

theorem op_add_str : OpR X (binaryOp .Add) (fun x y H Q => ∃ i j, x = .str i ∧ y = .str j ∧ i.length + j.length ≤ sizeLine ∧ Q (.str (i ++ j)) H) := by
  intro pins s σ H x y v u Q I rx ry h
  obtain ⟨i, j, rfl, rfl, hz, q⟩ := h
  obtain ⟨t, rfl⟩ := rx
  obtain ⟨t', rfl⟩ := ry
  exact add_str (fun t' tk => ⟨.str (i ++ j), H, I.tok _, ⟨_, rfl⟩, q⟩) hz
theorem vals1 {x : V} {us : List Value} (r : Vals [x] us) : ∃ u, us = [u] ∧ RelV x u := by
  cases r with
  | cons r1 r2 => cases r2; exact ⟨_, rfl, r1⟩
theorem vals2 {x y : V} {us : List Value} (r : Vals [x, y] us) : ∃ u w', us = [u, w'] ∧ RelV x u ∧ RelV y w' := by
  cases r with
  | cons r1 r2 =>
    cases r2 with
    | cons r3 r4 => cases r4; exact ⟨_, _, rfl, r1, r3⟩
theorem call_max2 (hc : X.calm = true) : CallR X (.builtin "max") (fun xs H Q => ∃ i j, xs = [.int i, .int j] ∧ Q (.int (if j > i then j else i)) H) := by
  intro pins s σ H xs us Q I r h
  obtain ⟨i, j, rfl, q⟩ := h
  obtain ⟨u, w', rfl, ⟨t, rfl⟩, ⟨t', rfl⟩⟩ := vals2 r
  refine max_two_ints (I.ok.hd hc) fun h' tk k => ⟨_, H, I.kept k, ?_, q⟩
  by_cases hj : j > i
  · rw [if_pos hj, if_pos hj]; exact ⟨_, rfl⟩
  · rw [if_neg hj, if_neg hj]; exact ⟨_, rfl⟩
theorem call_int1 : CallR X (.type "int") (fun xs H Q => (∃ i, xs = [.int i] ∧ Q (.int i) H) ∨ ∃ k, xs = [.bl k] ∧ Q (.int (if k then 1 else 0)) H) := by
  intro pins s σ H xs us Q I r h
  rcases h with ⟨i, rfl, q⟩ | ⟨k, rfl, q⟩
  · obtain ⟨u, rfl, t, rfl⟩ := vals1 r
    exact call_int_int ⟨.int i, H, I, ⟨_, rfl⟩, q⟩
  · obtain ⟨u, rfl, r1⟩ := vals1 r
    cases r1
    exact call_int_bool ⟨.int (if k then 1 else 0), H, I.tok _, ⟨_, rfl⟩, q⟩
end
end L2

namespace L2
open PySem PySem.Spec PyProof.Rows

structure ObjM (h : Heap) (x dx C : Addr) (mA : Str → Option Value) : Prop where
  obj : h.get? x = some (PySem.W.instObj C dx)
  ns : h.Ns1 dx mA
  ne : dx ≠ x

theorem lookIn_ns {h : Heap} {dx : Addr} {mA : Str → Option Value} (n : h.Ns1 dx mA) : ∃ od, h.get? dx = some od ∧ ∀ name, PySem.W.lookIn name od = some (mA name) := by
  obtain ⟨o, es, ep, ho, hd, hk, _, hm⟩ := n
  refine ⟨o, ho, fun name => ?_⟩
  have e := hm name
  unfold nsFind findBy at e
  rw [← Array.find?_toList] at e
  unfold PySem.W.lookIn
  rw [hd]
  dsimp only
  split
  · rename_i y q
    rw [q] at e
    exact congrArg some e
  · rename_i q
    rw [q] at e
    have a : es.toList.any (·.refKey) = false := by
      rw [List.any_eq_false]
      intro y hy
      obtain ⟨z, t, hkey⟩ := hk y (Array.mem_toList_iff.mp hy)
      simp [DictEntry.refKey, hkey]
    have a' : ¬ es.toList.any (·.refKey) = true := by rw [a]; exact Bool.false_ne_true
    rw [if_neg a']
    exact congrArg some e

theorem ObjM.look {h : Heap} {x dx C : Addr} {mA : Str → Option Value} (I : ObjM h x dx C mA) : ∃ od, PySem.W.InstAt h x (PySem.W.instObj C dx) C (some od) ∧ ∀ name, PySem.W.lookIn name od = some (mA name) :=
  let ⟨od, ho, hl⟩ := lookIn_ns I.ns
  ⟨od, ⟨I.obj, rfl, rfl, ho⟩, hl⟩

section
variable {prog : Program} {w : World} {A : Around} {E : Value → Shared → Prop} {s : Shared} {K : PySem.W.Frag} {x dx C f : Addr} {mA : Str → Option Value} {name : Str} {v : Value}

end

theorem RelO.some_of {v : V} {o : Option Value} (r : RelO (some v) o) : ∃ u, o = some u ∧ RelV v u := by
  cases o with
  | none => exact (show False from r).elim
  | some u => exact ⟨u, rfl, r⟩
theorem RelO.none_of {o : Option Value} (r : RelO none o) : o = none := by
  cases o with
  | none => rfl
  | some u => exact (show False from r).elim
theorem handed_of {v : V} {u : Value} (r : RelV v u) : PySem.W.handedIn u = true := by
  cases v with
  | non => cases (show u = Value.none from r); rfl
  | bl b => cases (show u = Value.bool b from r); rfl
  | int i => obtain ⟨t, e⟩ := (show ∃ t, u = Value.int i t from r); cases e; rfl
  | str x => obtain ⟨t, e⟩ := (show ∃ t, u = Value.str x t from r); cases e; rfl
  | byt b => obtain ⟨t, e⟩ := (show ∃ t, u = Value.bytes b t from r); cases e; rfl
  | flt b => obtain ⟨t, e⟩ := (show ∃ t, u = Value.float b t from r); cases e; rfl
  | ref a => cases (show u = Value.ref a from r); rfl
  | ty n => cases (show u = Value.type n from r); rfl

section
variable {P : Program} {w : World} {H H' : Hp} {h h' : Heap} {a C dx : Addr} {fs fs' : List (Str × V)}
theorem ins_get (hok : HOk P w H h) (e : H a = some (.ins C dx fs)) : ∃ mA, ObjM h a dx C mA ∧ (∀ f, RelO (fs.lookup f) (mA f)) ∧ PySem.Within mA (fs.map (·.1)) ∧ fs.length ≤ 1000 ∧ H dx = some (.own a) := by
  obtain ⟨d, z, ne, ob, mA, n, r, q⟩ := (show ObjOk P w H h a (.ins C dx fs) from hok a _ e)
  exact ⟨mA, ⟨ob, n, ne⟩, r, q, z, d⟩
end

structure Cls (K : PySem.W.Frag) (C : Addr) : Prop where
  pg : PySem.W.plainGet K C Str.empty = true
  hd : PySem.W.hasDictIn K C = true
  po : PySem.W.plainOver K C = true
  sa : PySem.W.findIn K (.ref C) "__setattr__" = some (some (.builtin "object.__setattr__"))
theorem Cls.get {K : PySem.W.Frag} {C : Addr} (c : Cls K C) (f : Str) : PySem.W.plainGet K C f = true := c.pg
section
variable {X : Cx} {pins : List (Addr × Obj)} {σ : St} {H : Hp} {s : Shared} {a C dx : Addr} {fs : List (Str × V)} {f : Str} {v : V} {A : Around} {E : Value → Shared → Prop}

theorem attr_of {prog : Program} {w : World} {env : Env} {e : Expr} {f : Str} {pos : Pos} {s : Shared} {Q : Value → Shared → Prop} (hb : attributeBase e f env (eval e env) = eval e env)
    (h : wpAny (model prog w) A (eval e env) (fun o s₁ => wpAny (model prog w) A (getAttr o f true) Q E s₁) E s) : wpAny (model prog w) A (eval (.Attribute e f pos) env) Q E s :=
  Attribute_any_ h (by rw [arm_eval_Attribute, hb])
end

section
variable {X : Cx} {o e value : Expr} {f : Str} {pos pos' tpos : Pos} {ta tv : TE}
end

section
variable {X : Cx} {pins : List (Addr × Obj)} {σ : St} {H : Hp} {s : Shared} {A : Around} {E : Value → Shared → Prop} {Q : Value → Shared → Prop} {c : Value} {b : Bool}
inductive TyOf (K : PySem.W.Frag) (H : Hp) : V → Value → Prop where
  | non : TyOf K H .non (.type "NoneType")
  | bl (x : Bool) : TyOf K H (.bl x) (.type "bool")
  | int (i : Int) : TyOf K H (.int i) (.type "int")
  | str (x : Str) : TyOf K H (.str x) (.type "str")
  | flt (x : UInt64) : TyOf K H (.flt x) (.type "float")
  | lst {a : Addr} {xs : List V} (e : H a = some (.lst xs)) : TyOf K H (.ref a) (.type "list")
  | frz {a : Addr} {o : Obj} {xs : List V} (e : H a = some (.frz o (.lst xs))) : TyOf K H (.ref a) (.type "list")
  | tup {a : Addr} {xs : List V} (e : H a = some (.tup xs)) : TyOf K H (.ref a) (.type "tuple")
  | dK {a : Addr} {kvs : List (Key × V)} (e : H a = some (.dK kvs)) : TyOf K H (.ref a) (.type "dict")
  | dT {a : Addr} {kvs : List (List Key × V)} (e : H a = some (.dT kvs)) : TyOf K H (.ref a) (.type "dict")
  | ins {a C dx : Addr} {fs : List (Str × V)} (e : H a = some (.ins C dx fs)) (cl : Cls K C) (ha : PySem.W.findIn K (.ref C) "__class__" = some (some (.builtin "object.__class__")))
      (hn : PySem.W.specialIn K (.builtin "object.__class__") "__get__" = some (some (.builtin "getset_descriptor.__get__"))) (htk : PySem.W.takesIn K (.builtin "object.__class__") = some true)
      (hm : PySem.W.mroIn K C (.type "object") = some true) : TyOf K H (.ref a) (.ref C)
theorem isinst_ok {x : V} {u t : Value} (I : Inv X pins σ H s) (rx : RelV x u) (ty : TyOf X.K H x t) (e : PySem.W.kitOne X.K t c = some b) (h : ∀ tk, Q (.bool b) { s with toks := tk }) :
    wpAny (model X.prog X.w) A (call (.builtin "isinstance") [u, c]) Q E s := by
  cases ty with
  | non => cases (show u = Value.none from rx); exact PySem.W.kia_one PySem.W.kitx_none I.kIn True.intro e (fun z => nomatch z) h
  | bl y => cases (show u = Value.bool y from rx); exact PySem.W.kia_one PySem.W.kitx_bool I.kIn True.intro e (fun z => nomatch z) h
  | int i => obtain ⟨t, q⟩ := (show ∃ t, u = Value.int i t from rx); cases q; exact PySem.W.kia_one PySem.W.kitx_int I.kIn True.intro e (fun z => nomatch z) h
  | str y => obtain ⟨t, q⟩ := (show ∃ t, u = Value.str y t from rx); cases q; exact PySem.W.kia_one PySem.W.kitx_str I.kIn True.intro e (fun z => nomatch z) h
  | flt y => obtain ⟨t, q⟩ := (show ∃ t, u = Value.float y t from rx); cases q; exact PySem.W.kia_one PySem.W.kitx_float I.kIn True.intro e (fun z => nomatch z) h
  | @lst a xs ea =>
    cases (show u = Value.ref a from rx)
    obtain ⟨_, _, n, _, h1⟩ := (show ObjOk X.prog X.w H s.heap a (.lst xs) from I.hok a _ ea)
    exact PySem.W.kia_one PySem.W.kitx_list I.kIn ⟨_, h1, rfl⟩ e (fun z => nomatch z) h
  | @frz a ob xs ea =>
    cases (show u = Value.ref a from rx)
    obtain ⟨_, _, _, n, _, h1⟩ := (show ObjOk X.prog X.w H s.heap a (.frz ob (.lst xs)) from I.hok a _ ea)
    exact PySem.W.kia_one PySem.W.kitx_list I.kIn ⟨_, h1, rfl⟩ e (fun z => nomatch z) h
  | @tup a xs ea =>
    cases (show u = Value.ref a from rx)
    obtain ⟨_, _, _, p⟩ := (show ObjOk X.prog X.w H s.heap a (.tup xs) from I.hok a _ ea)
    obtain ⟨o, h1, h2, _⟩ := p
    exact PySem.W.kia_one PySem.W.kitx_tuple I.kIn ⟨o, h1, h2⟩ e (fun z => nomatch z) h
  | @dK a kvs ea =>
    cases (show u = Value.ref a from rx)
    obtain ⟨_, _, vs, _, p⟩ := (show ObjOk X.prog X.w H s.heap a (.dK kvs) from I.hok a _ ea)
    obtain ⟨o, es, ep, h1, h2, _⟩ := p
    exact PySem.W.kia_one PySem.W.kitx_dict I.kIn ⟨o, h1, h2.1⟩ e (fun z => nomatch z) h
  | @dT a kvs ea =>
    cases (show u = Value.ref a from rx)
    obtain ⟨_, _, xs, _, o, es, ep, h1, h2, _⟩ := (show ObjOk X.prog X.w H s.heap a (.dT kvs) from I.hok a _ ea)
    exact PySem.W.kia_one PySem.W.kitx_dict I.kIn ⟨o, h1, h2.1⟩ e (fun z => nomatch z) h
  | @ins a C dx fs ea cl ha hn htk hm =>
    cases (show u = Value.ref a from rx)
    obtain ⟨mA, O, _⟩ := ins_get I.hok ea
    obtain ⟨od, J, _⟩ := O.look
    exact PySem.W.kia_one (PySem.W.kitx_own (cl.get _) cl.hd ha hn htk hm) I.kIn J e (fun z => nomatch z) h
end
end L2

namespace L2
open PySem PySem.Spec PyProof.Rows

structure Room (k : Nat) (A : Around) : Prop where
  hd : A.handled = none
  dp : A.depth + 3 * k + 5 < recursionLimit
  un : A.units + 16 * k + 200 < cLine
theorem Room.mono {j k : Nat} {A : Around} (r : Room k A) (h : j ≤ k) : Room j A := ⟨r.hd, by have := r.dp; omega, by have := r.un; omega⟩
theorem Room.deeper {k : Nat} {A : Around} (r : Room (k + 1) A) (env : Env) : Room k (A.deeper env) :=
  ⟨r.hd, by have := r.dp; show A.depth + 1 + 3 * k + 5 < _; omega, by have := r.un; show A.units + 3 + 16 * k + 200 < _; omega⟩
theorem make_depth {A : Around} {C : Addr} {us : List Value} {kw : List (Str × Value)} : (A.under (.builtin "type.__call__" ⟨.ref C :: us, kw⟩)).depth = A.depth + 1 := by
  first | rfl | simp [Around.under, Code.weight, Code.isCreation, Code.isGuard, Code.isCaller, Code.frames, Code.isFrame, guardIds]
theorem make_units {A : Around} {C : Addr} {us : List Value} {kw : List (Str × Value)} : (A.under (.builtin "type.__call__" ⟨.ref C :: us, kw⟩)).units = A.units + 1 := by
  first | rfl | simp [Around.under, Code.cUnits, Code.frames, Code.isFrame]
theorem Room.make {k : Nat} {A : Around} (r : Room (k + 1) A) (C : Addr) (us : List Value) (kw : List (Str × Value)) : Room k (A.under (.builtin "type.__call__" ⟨.ref C :: us, kw⟩)) :=
  ⟨r.hd, by have := r.dp; rw [make_depth]; omega, by have := r.un; rw [make_units]; omega⟩
theorem Room.depth {k : Nat} {A : Around} (r : Room k A) : A.depth < recursionLimit := by have := r.dp; omega
theorem Room.units {k : Nat} {A : Around} (r : Room k A) : A.units + 64 < cLine := by have := r.un; omega
noncomputable def tNil : TA := fun _ H Q => Q [] H
noncomputable def tCons (ta : TE) (tr : TA) : TA := fun σ H Q => ta σ H fun x H1 => tr σ H1 fun xs H2 => Q (x :: xs) H2
section
variable {X : Cx} {e : Expr} {es : List Expr} {te : TE} {t : TA} {pos : Pos}
theorem pa_nil : PA X [] tNil := fun _ _ _ _ H Q I h => Calls.spliced_nil ⟨[], H, I, .nil, h⟩
theorem pa_cons (ha : PE X e te) (hr : PA X es t) (hs : starEach (e :: es) X.env = (false, eval e X.env) :: starEach es X.env := by rfl) : PA X (e :: es) (tCons te t) := by
  intro pos pins s σ H Q I h
  rw [hs]
  show wpAny _ _ (spliced ((false, eval e X.env) :: backTo pos (starEach es X.env))) _ _ s
  refine Calls.spliced_cons (thn (ha pins s σ H _ I h) fun u s1 ⟨x, H1, I1, r1, q1⟩ => ?_)
  exact thn (hr pos pins s1 σ H1 _ I1 q1) fun us s2 ⟨xs, H2, I2, r2, q2⟩ => ⟨x :: xs, H2, I2, .cons r1 r2, q2⟩

noncomputable def tTup (t : TA) : TE := fun σ H Q => t σ H fun xs H1 => xs.length ≤ sizeLine ∧ ∀ p, H1 p = none → Q (.ref p) (upd H1 p (.tup xs))
noncomputable def tLst (t : TA) : TE := fun σ H Q => t σ H fun xs H1 => xs.length ≤ sizeLine ∧ ∀ p, H1 p = none → Q (.ref p) (upd H1 p (.lst xs))
theorem pe_tup {x1} (h : PA X es t) : PE X (.Tuple es x1 pos) (tTup t) := by
  intro pins s σ H Q I hq
  refine wpAny_Tuple_spliced (thn (h pos pins s σ H _ I hq) fun us s1 ⟨xs, H1, I1, r, z, q⟩ => ⟨by rw [← r.length]; exact z, ?_⟩)
  have hf : H1 s1.heap.objs.size = none := I1.hok.fresh (Nat.le_refl _)
  refine ⟨.ref s1.heap.objs.size, upd H1 s1.heap.objs.size (.tup xs), I1.laid (t' := s1.toks) (fun b u e => Heap.get?_push_of_some _ e) (Nat.le_refl _) ?_, rfl, q _ hf⟩
  exact ⟨z, us, r, ⟨_, Heap.get?_push_size _ rfl, rfl, _, rfl⟩⟩
theorem pe_lst (h : PA X es t) : PE X (.List es pos) (tLst t) := by
  intro pins s σ H Q I hq
  refine wpAny_List_spliced (thn (h pos pins s σ H _ I hq) fun us s1 ⟨xs, H1, I1, r, z, q⟩ => ⟨by rw [← r.length]; exact z, ?_⟩)
  have hf : H1 s1.heap.objs.size = none := I1.hok.fresh (Nat.le_refl _)
  refine ⟨.ref s1.heap.objs.size, upd H1 s1.heap.objs.size (.lst xs), I1.laid (t' := s1.toks) (fun b u e => Heap.get?_push_of_some _ e) (Nat.le_refl _) ?_, rfl, q _ hf⟩
  exact ⟨z, us, 0, r, Heap.get?_push_size _ rfl⟩
end

noncomputable abbrev Sp := List V → Hp → VK → XK → Prop
noncomputable abbrev CXT := List Env → Hp → Shared → XK → Value → Shared → Prop

structure Env0 (P : Program) (w : World) (K : PySem.W.Frag) (mg : Str → Option Value) (base : Heap) (A : Around) (outer : List Env) (s : Shared) (H : Hp) : Prop where
  frames : A.frames = some outer
  mod : Mod K mg base
  bs : ∀ b o, base.get? b = some o → s.heap.get? b = some o ∧ H b = none
  bsz : base.objs.size ≤ s.heap.objs.size
  funs : s.heap.FunFrames base outer
  frf : ∀ b ∈ frs outer, H b = none
  hok : HOk P w H s.heap
  bare : AllBare s.gens
noncomputable def CE (outer : List Env) (P : Program) (w : World) (H : Hp) (s : Shared) (Q : VK) (u : Value) (s' : Shared) : Prop :=
  ∃ v H', s'.os = s.os ∧ AllBare s'.gens ∧ Un (frs outer) [] H H' s.heap s'.heap ∧ HOk P w H' s'.heap ∧ RelV v u ∧ Q v H'
noncomputable def CR (CX : CXT) (outer : List Env) (P : Program) (w : World) (H : Hp) (s : Shared) (Q : VK) (E : XK) (r : Result) (s' : Shared) : Prop :=
  match r with
  | .ok (.ret u) => CE outer P w H s Q u s'
  | .ok _ => False
  | .error e => CX outer H s E e s'
structure FnOk (P : Program) (w : World) (K : PySem.W.Frag) (mg : Str → Option Value) (base : Heap) (CX : CXT) (k : Nat) (f : Addr) (fd : FuncData) (ps : List Str) (sp : Sp) : Prop where
  len : ∀ vs H Q E, sp vs H Q E → vs.length = ps.length
  run : ∀ (A : Around) (outer : List Env) (s : Shared) (H : Hp) (args : Args) (us : List Value) (vs : List V) (Q : VK) (E : XK), Room k A → Env0 P w K mg base A outer s H → BindsTo s fd args (ps.zip us) → Vals vs us → sp vs H Q E →
    codeAny (model P w) A (.call (.ref f) args) (CR CX outer P w H s Q E) s
theorem FnOk.mono {P : Program} {w : World} {K : PySem.W.Frag} {mg : Str → Option Value} {base : Heap} {CX : CXT} {j k : Nat} {f : Addr} {fd : FuncData} {ps : List Str} {sp : Sp} (F : FnOk P w K mg base CX j f fd ps sp) (h : j ≤ k) :
    FnOk P w K mg base CX k f fd ps sp := ⟨F.len, fun A outer s H args us vs Q E hr => F.run A outer s H args us vs Q E (hr.mono h)⟩
theorem FnOk.imp {P : Program} {w : World} {K : PySem.W.Frag} {mg : Str → Option Value} {base : Heap} {CX : CXT} {k : Nat} {f : Addr} {fd : FuncData} {ps : List Str} {sp sp' : Sp} (F : FnOk P w K mg base CX k f fd ps sp)
    (h : ∀ vs H Q E, sp' vs H Q E → sp vs H Q E) : FnOk P w K mg base CX k f fd ps sp' :=
  ⟨fun vs H Q E q => F.len vs H Q E (h _ _ _ _ q), fun A outer s H args us vs Q E hr he hb hv hs => F.run A outer s H args us vs Q E hr he hb hv (h _ _ _ _ hs)⟩

theorem Env0.make {P : Program} {w : World} {K : PySem.W.Frag} {mg : Str → Option Value} {base : Heap} {A : Around} {outer : List Env} {s : Shared} {H : Hp} (e : Env0 P w K mg base A outer s H) (C : Addr) (us : List Value) (kw : List (Str × Value)) :
    Env0 P w K mg base (A.under (.builtin "type.__call__" ⟨.ref C :: us, kw⟩)) outer s H := ⟨by first | exact e.frames | (simpa [Around.under, Code.envs, Code.isFrame, pushEnvs] using e.frames), e.mod, e.bs, e.bsz, e.funs, e.frf, e.hok, e.bare⟩
section
variable {X : Cx} {pins : List (Addr × Obj)} {σ : St} {H : Hp} {s s' : Shared}
theorem Inv.env0 (I : Inv X pins σ H s) : Env0 X.prog X.w X.K X.mg X.base X.A X.stack s H :=
  ⟨I.ok.frames, I.ok.mod, I.bs, Nat.le_trans I.ok.bsz I.sz, I.stack, I.stkFree, I.hok, I.bare⟩
theorem Inv.after {Q : VK} {u : Value} (I : Inv X pins σ H s) (h : CE X.stack X.prog X.w H s Q u s') : EP X pins σ Q u s' := by
  obtain ⟨v, H', os, bare, un, hok, r, q⟩ := h
  obtain ⟨hh, g, d, t, os'⟩ := s'
  obtain rfl : os' = s.os := os
  exact ⟨v, H', I.call (h' := hh) (g' := g) (d' := d) (t' := t) (ch := []) un hok bare (fun b z => absurd z (by simp)), r, q⟩
end

noncomputable def tCall (sp : Sp) (dvs : List V) (E : XK) (t : TA) : TE := fun σ H Q => t σ H fun vs H1 => sp (vs ++ dvs) H1 Q E
noncomputable def Binds (K : PySem.W.Frag) (fd : FuncData) (ps : List Str) (ds : List Value) : Prop :=
  ∀ (s : Shared) (us : List Value), K.In s.heap → (us ++ ds).length = ps.length → BindsTo s fd ⟨us, []⟩ (ps.zip (us ++ ds))
theorem Binds.all {K : PySem.W.Frag} {fd : FuncData} {ps : List Str} (h : ∀ us : List Value, us.length = ps.length → bindArgs fd ⟨us, []⟩ = pure (ps.zip us)) : Binds K fd ps [] := fun s us _ hl => by
  rw [List.append_nil] at hl ⊢
  exact .of_eq (h us hl)

noncomputable def Passes (CX : CXT) (X : Cx) (E : XK) : Prop := ∀ (pins : List (Addr × Obj)) (σ : St) (H : Hp) (s : Shared) (e : Value) (s' : Shared), Inv X pins σ H s → CX X.stack H s E e s' → X.xe e s'

section
variable {X : Cx} {CX : CXT} {k : Nat} {f C : Addr} {fd : FuncData} {ps : List Str} {sp : Sp} {dvs : List V} {ds : List Value} {E : XK} {x m : Str} {p pos apos : Pos} {e o : Expr} {es : List Expr} {ta : TE} {t : TA}

theorem run_fn {pins : List (Addr × Obj)} {σ : St} {H : Hp} {s : Shared} {Q : VK} {us : List Value} {vs : List V} (F : FnOk X.prog X.w X.K X.mg X.base CX k f fd ps sp) (hr : Room k X.A) (hb : Binds X.K fd ps ds) (hd : Vals dvs ds) (hx : Passes CX X E)
    (I : Inv X pins σ H s) (r : Vals vs us) (h : sp (vs ++ dvs) H Q E) : wpAny (model X.prog X.w) X.A (call (.ref f) us) (EP X pins σ Q) X.xe s := by
  have r2 : Vals (vs ++ dvs) (us ++ ds) := r.append hd
  have hl : (us ++ ds).length = ps.length := by rw [← r2.length]; exact F.len _ _ _ _ h
  refine wpAny_call (codeAny_mono (F.run X.A X.stack s H ⟨us, []⟩ (us ++ ds) (vs ++ dvs) Q E hr I.env0 (hb s us I.kIn hl) r2 h) fun r s' hq => ?_)
  cases r with
  | error e => exact hx pins σ H s e s' I hq
  | ok fl =>
    cases fl with
    | ret u => exact I.after hq
    | next => exact False.elim hq
    | brk => exact False.elim hq
    | cont => exact False.elim hq

theorem pe_call (F : FnOk X.prog X.w X.K X.mg X.base CX k f fd ps sp) (hr : Room k X.A) (hg : Gl X x) (hm : X.mg x = some (.ref f)) (hk : PySem.W.keepIn X.K (.ref f) = true) (hb : Binds X.K fd ps ds) (hd : Vals dvs ds) (hx : Passes CX X E)
    (ha : PA X (e :: es) t) (hdb : (x == ("__debug__" : Str)) = false := by decide) (he : starEach (e :: es) X.env = (false, eval e X.env) :: starEach es X.env := by rfl) (hpl : (backTo pos (starEach es X.env)).any (·.1) = false := by rfl) :
    PE X (.Call (.Name x p) (e :: es) [] pos) (tCall sp dvs E t) := by
  intro pins s σ H Q I h
  refine wpAny_Call_Name_kw (ld_glob I hg hm ?_ hdb)
  refine PySem.W.callWith_K (h₀ := X.base) I.ok.mod.kin hk (thn (ha pos pins s σ H _ I h) fun us s1 ⟨vs, H1, I1, r, q⟩ => ⟨I1.kIn, ?_⟩) he hpl
  exact run_fn F hr hb hd hx I1 r q
end

section
variable {X : Cx} {CX : CXT} {k : Nat} {f C : Addr} {fd : FuncData} {ps ks : List Str} {sp : Sp} {E : XK} {x m : Str} {p pos apos kpos : Pos} {e o : Expr} {es : List Expr} {kws : List Keyword} {te ta : TE} {t tk : TA} {nm : Option Str}
variable {g : List Value → List Value → List Value} {gV : List V → List V → List V}
end

structure FnScope (N P : List Str) (sc : Scope) : Prop where
  kind : sc.kind = .function
  co : sc.isCoroutine = false
  gen : sc.isGenerator = false
  nd : N.Nodup
  pre : N.take P.length = P
  par : ∀ x ∈ P, sc.names.lookup x = some .local ∨ sc.names.lookup x = some .cell
  nofree : ∀ y ∈ sc.names, y.2 ≠ .free

theorem bindL_out {kindOf : Str → Option NameKind} {x : Str} : ∀ {binds : List (Str × Value)} {m : Str → Option Value}, (∀ v, (x, v) ∉ binds) → bindL kindOf binds m x = m x
  | [], _, _ => rfl
  | (n, v) :: r, m, h => by
    unfold bindL
    rw [bindL_out fun w hw => h w (List.mem_cons_of_mem _ hw)]
    split
    · have : x ≠ n := by rintro rfl; exact h v List.mem_cons_self
      simp [this]
    · rfl
theorem bindC_out {kindOf : Str → Option NameKind} {x : Str} : ∀ {binds : List (Str × Value)} {m : Str → Option Value}, (∀ v, (x, v) ∉ binds) → bindC kindOf binds m x = m x
  | [], _, _ => rfl
  | (n, v) :: r, m, h => by
    unfold bindC
    rw [bindC_out fun w hw => h w (List.mem_cons_of_mem _ hw)]
    split
    · rfl
    · have : x ≠ n := by rintro rfl; exact h v List.mem_cons_self
      simp [this]
theorem bindL_get {kindOf : Str → Option NameKind} {x : Str} {v : Value} : ∀ {P : List Str} {vs : List Value} {i : Nat} {m : Str → Option Value}, P.Nodup → P[i]? = some x → vs[i]? = some v → kindOf x = some .local →
    bindL kindOf (P.zip vs) m x = some v
  | [], _, _, _, _, h, _, _ => by simp at h
  | _ :: _, [], _, _, _, _, h, _ => by simp at h
  | p :: P, w :: vs, 0, m, nd, h1, h2, hk => by
    simp at h1 h2; subst h1; subst h2
    show bindL kindOf ((p, w) :: P.zip vs) m p = _
    unfold bindL
    rw [bindL_out fun v hv => (List.nodup_cons.mp nd).1 (List.of_mem_zip hv).1, if_pos hk]
    simp
  | p :: P, w :: vs, i + 1, m, nd, h1, h2, hk => by
    show bindL kindOf ((p, w) :: P.zip vs) m x = _
    unfold bindL
    exact bindL_get (i := i) (List.nodup_cons.mp nd).2 (by simpa using h1) (by simpa using h2) hk
theorem bindC_get {kindOf : Str → Option NameKind} {x : Str} {v : Value} : ∀ {P : List Str} {vs : List Value} {i : Nat} {m : Str → Option Value}, P.Nodup → P[i]? = some x → vs[i]? = some v → kindOf x ≠ some .local →
    bindC kindOf (P.zip vs) m x = some v
  | [], _, _, _, _, h, _, _ => by simp at h
  | _ :: _, [], _, _, _, _, h, _ => by simp at h
  | p :: P, w :: vs, 0, m, nd, h1, h2, hk => by
    simp at h1 h2; subst h1; subst h2
    show bindC kindOf ((p, w) :: P.zip vs) m p = _
    unfold bindC
    rw [bindC_out fun v hv => (List.nodup_cons.mp nd).1 (List.of_mem_zip hv).1, if_neg hk]
    simp
  | p :: P, w :: vs, i + 1, m, nd, h1, h2, hk => by
    show bindC kindOf ((p, w) :: P.zip vs) m x = _
    unfold bindC
    exact bindC_get (i := i) (List.nodup_cons.mp nd).2 (by simpa using h1) (by simpa using h2) hk

noncomputable def start (N : List Str) (vs : List V) : St := vs.map some ++ List.replicate (N.length - vs.length) none

noncomputable def cxOf (CX : CXT) (P : Program) (w : World) (K : PySem.W.Frag) (mg : Str → Option Value) (base : Heap) (N : List Str) (qual : Str) (scope : Scope) (f : Addr) (cd : Value) (A : Around) (outer : List Env) (s : Shared) (H : Hp) (E : XK) : Cx where
  prog := P
  w := w
  K := K
  mg := mg
  base := base
  A := A.deeper (envOfC qual scope s.heap.objs.size f cd)
  N := N
  s₀ := s
  H₀ := H
  env := envOfC qual scope s.heap.objs.size f cd
  outer := outer
  stack := envOfC qual scope s.heap.objs.size f cd :: outer
  ex := []
  calm := true
  fn := fun _ => true
  pn := []
  xe := fun e s' => wpAny (model P w) (A.deeper (envOfC qual scope s.heap.objs.size f cd)) (leaving (envOfC qual scope s.heap.objs.size f cd) e) (fun _ s'' => CX outer H s E e s'') (fun e' s'' => CX outer H s E e' s'') s'

theorem cell_has {sc : Scope} {n : Nat} {x : Str} (h : sc.names.lookup x = some .cell) : ∃ c, (cellsFrom n sc.names []).lookup x = some c := by
  have q := PySem.W.cellsFrom_some sc.names n [] (.inl h)
  exact Option.isSome_iff_exists.mp q

theorem inv_start {CX : CXT} {P : Program} {w : World} {K : PySem.W.Frag} {mg : Str → Option Value} {base : Heap} {N ps : List Str} {qual : Str} {scope : Scope} {f : Addr} {cd : Value} {A : Around} {outer : List Env} {s s1 : Shared} {H : Hp} {E : XK} {us : List Value} {vs : List V}
    (S : FnScope N ps scope) (hd : A.handled = none) (e0 : Env0 P w K mg base A outer s H) (hl : vs.length = ps.length) (r : Vals vs us)
    (x : InCallC s s.heap.objs.size (bindL (envOfC qual scope s.heap.objs.size f cd).kindOf (ps.zip us) fun _ => none) (cellsFrom (s.heap.objs.size + 1) scope.names []) (bindC (envOfC qual scope s.heap.objs.size f cd).kindOf (ps.zip us) fun _ => none) s1) :
    Inv (cxOf CX P w K mg base N qual scope f cd A outer s H E) [] (start N vs) H s1 := by
  have hpl : ps.length ≤ N.length := by have := congrArg List.length S.pre; rw [List.length_take] at this; omega
  obtain ⟨h1, tk, rfl, hk⟩ := x.done
  have noA : ∀ b : Addr, b ∉ (cxOf CX P w K mg base N qual scope f cd A outer s H E).ex := fun b z => absurd (show b ∈ ([] : List Addr) from z) (by simp)
  refine ⟨⟨e0.mod, S.kind, rfl, rfl, Nat.le_refl _, fun y z c h1 h2 => ?_, fun y hy => ?_, fun y c _ h => ?_, fun _ => hd, Around.frames_deeper e0.frames, .inr ⟨rfl, rfl⟩, fun b z => absurd z (noA b), e0.bs, e0.bsz, fun b _ _ => noA b, fun b z => absurd z (noA b), e0.funs, e0.frf⟩,
    rfl, e0.bare, Un.kept hk, ⟨_, x.toInCall.ns, fun i y v h1 h2 h3 => ?_⟩, fun y c h => ⟨_, x.cell y c h⟩, e0.hok.fresh (Nat.le_refl _), fun y c h => ?_, fun p hp => absurd (show p ∈ ([] : List (Addr × Obj)) from hp) (by simp), e0.hok.kept hk, ?_⟩
  · exact name_of_addr x.apart (PySem.mem_of_lookup h1) (PySem.mem_of_lookup h2)
  · have hy : scope.names.lookup y = some .cell ∨ scope.names.lookup y = some .free := hy
    rcases hy with hy | hy
    · exact cell_has hy
    · exact absurd rfl (S.nofree _ (PySem.mem_of_lookup hy))
  · exact Nat.le_of_lt (x.above y c (PySem.mem_of_lookup h))
  · have hi : i < vs.length := by
      unfold start at h2
      by_cases hi : i < vs.length
      · exact hi
      · rw [List.getElem?_append_right (by simpa using hi)] at h2
        rw [List.getElem?_replicate] at h2
        split at h2 <;> cases h2
    have ha : vs[i]? = some v := by
      unfold start at h2
      rw [List.getElem?_append_left (by simpa using hi), List.getElem?_map] at h2
      cases e : vs[i]? with
      | none => rw [e] at h2; cases h2
      | some a => rw [e] at h2; cases h2; rfl
    obtain ⟨u, hu, rv⟩ := r.get ha
    have hp : ps[i]? = some y := by
      rw [← S.pre, List.getElem?_take_of_lt (by omega)]; exact h1
    have ndP : ps.Nodup := by rw [← S.pre]; exact S.nd.sublist (List.take_sublist _ _)
    refine ⟨u, rv, ?_⟩
    rcases S.par y (List.mem_of_getElem? hp) with k | k
    · exact .inl ⟨k, bindL_get ndP hp hu k⟩
    · obtain ⟨c, e⟩ := cell_has (n := s.heap.objs.size + 1) k
      refine .inr ⟨.inl k, c, e, ?_⟩
      have q := x.cell y c e
      rw [bindC_get ndP hp hu (by show scope.names.lookup y ≠ _; rw [k]; decide)] at q
      exact q
  · exact e0.hok.fresh (Nat.le_of_lt (x.above y c (PySem.mem_of_lookup h)))
  · unfold start
    show _ = N.length
    rw [List.length_append, List.length_map, List.length_replicate]
    omega

theorem fn_of {CX : CXT} {P : Program} {w : World} {K : PySem.W.Frag} {mg : Str → Option Value} {base : Heap} {k : Nat} {f : Addr} {name qual : Str} {params : Arguments} {body : List Stmt} {scope : Scope} {dV kV doc pm cdv ct oc : Value} {an od : Option Addr}
    {osl : Array (Option Value)} {N ps : List Str} {sp : Sp} (lk : K.lookup f = some ⟨oc, od, .func (PySem.W.fnOf name qual params body scope dV kV doc pm an cdv ct), osl⟩) (hcd : PySem.W.codeIn K cdv qual = true) (S : FnScope N ps scope)
    (len : ∀ vs H Q E, sp vs H Q E → vs.length = ps.length)
    (hbody : ∀ (A : Around) (outer : List Env) (s : Shared) (H : Hp) (vs : List V) (Q : VK) (E : XK), Room k (A.deeper (envOfC qual scope s.heap.objs.size f cdv)) → sp vs H Q E →
      ∃ t, PSs (cxOf CX P w K mg base N qual scope f cdv A outer s H E) body t ∧ t { nx := fun _ H' => Q .non H', rt := Q } (start N vs) H) :
    FnOk P w K mg base CX (k + 1) f (PySem.W.fnOf name qual params body scope dV kV doc pm an cdv ct) ps sp := by
  refine ⟨len, fun A outer s H args us vs Q E hr e0 hb r hsp => ?_⟩
  have hl := len _ _ _ _ hsp
  have KX : K.In s.heap := e0.mod.kin.keeps fun b o e => (e0.bs b o e).1
  have lim : s.heap.NoLimit := e0.mod.nolimit.keeps fun b o e => (e0.bs b o e).1
  have hkind : ∀ y ∈ ps.zip us, scope.names.lookup y.1 = some .local ∨ (scope.names.lookup y.1 = some .cell ∧ ((cellsFrom (s.heap.objs.size + 1) scope.names []).lookup y.1).isSome = true) := fun ⟨n, v⟩ hy => by
    rcases S.par n (List.of_mem_zip hy).1 with q | q
    · exact .inl q
    · exact .inr ⟨q, PySem.W.cellsFrom_some _ _ _ (.inl q)⟩
  refine codeAny_call_function hr.depth (KX _ _ lk) rfl S.co S.gen rfl (PySem.W.codeRec_of KX hcd) (hb _ _ _ _ ?_)
  refine wpAny_newFunctionEnv_cells S.kind hkind fun env he s1 x => ?_
  subst he
  refine ⟨lim.keeps x.toInCall.keep, codeAny_func ?_⟩
  obtain ⟨t, ht, hq⟩ := hbody A outer s H vs Q E (hr.deeper _) hsp
  have I : Inv (cxOf CX P w K mg base N qual scope f cdv A outer s H E) [] (start N vs) H s1 := inv_start S hr.hd e0 hl r x
  refine wpAny_mono (ht [] s1 (start N vs) H _ I hq) (fun fl s' hs => ?_) fun e s' hs => hs
  have fin : ∀ {σ' : St} {H' : Hp} {v : V} {u : Value}, Inv (cxOf CX P w K mg base N qual scope f cdv A outer s H E) [] σ' H' s' → RelV v u → Q v H' → CE outer P w H s Q u s' :=
    fun {σ' H' v u} J rv q => ⟨v, H', J.os, J.bare, J.base, J.hok, rv, q⟩
  cases fl with
  | ret u =>
    obtain ⟨v, σ', H', J, rv, q⟩ := hs
    exact fin J rv q
  | next =>
    obtain ⟨σ', H', J, q⟩ := hs
    exact fin (v := V.non) (u := Value.none) J rfl q
  | brk =>
    obtain ⟨_, _, _, q⟩ := hs
    exact False.elim q
  | cont =>
    obtain ⟨_, _, _, q⟩ := hs
    exact False.elim q
end L2

namespace L2
open PySem PySem.Spec PyProof.Rows
section
variable {X : Cx} {x : Str} {p pos : Pos} {e : Expr} {es : List Expr} {t : TA} {id T : String} {r : List V → Hp → VK → Prop}

noncomputable def tCB (r : List V → Hp → VK → Prop) (t : TA) : TE := fun σ H Q => t σ H fun vs H1 => r vs H1 Q
theorem pe_callB (hc : CallR X (.builtin id) r) (hg : Gl X x) (hm : X.mg x = none) (hv : bootBuiltins x = some (.builtin id)) (ha : PA X (e :: es) t) (hn : x ≠ "__name__" := by decide) (hdb : (x == ("__debug__" : Str)) = false := by decide)
    (he : starEach (e :: es) X.env = (false, eval e X.env) :: starEach es X.env := by rfl) (hpl : (backTo pos (starEach es X.env)).any (·.1) = false := by rfl) : PE X (.Call (.Name x p) (e :: es) [] pos) (tCB r t) := by
  intro pins s σ H Q I h
  refine wpAny_Call_Name_kw (ld_blt I hg hm hv ?_ hn hdb)
  exact PyProof.Rows.callWith_builtin1 (thn (ha pos pins s σ H _ I h) fun us s1 ⟨vs, H1, I1, r1, q1⟩ => hc pins s1 σ H1 vs us Q I1 r1 q1) he hpl
theorem pe_callTy (hc : CallR X (.type T) r) (hg : Gl X x) (hm : X.mg x = none) (hv : bootBuiltins x = some (.type T)) (ha : PA X (e :: es) t) (hn : x ≠ "__name__" := by decide) (hdb : (x == ("__debug__" : Str)) = false := by decide)
    (he : starEach (e :: es) X.env = (false, eval e X.env) :: starEach es X.env := by rfl) (hpl : (backTo pos (starEach es X.env)).any (·.1) = false := by rfl) : PE X (.Call (.Name x p) (e :: es) [] pos) (tCB r t) := by
  intro pins s σ H Q I h
  refine wpAny_Call_Name_kw (ld_blt I hg hm hv ?_ hn hdb)
  exact PyProof.Rows.callWith_type1 (thn (ha pos pins s σ H _ I h) fun us s1 ⟨vs, H1, I1, r1, q1⟩ => hc pins s1 σ H1 vs us Q I1 r1 q1) he hpl
end
end L2

namespace HT
open PySem PyProof.Rows

section
open PySem.SeqAt
open PySem.AutoSeq1 (wpAny_loadPart')
open PySem.MeetsSeq PySem.MeetsSeq2 PySem.MeetsSeq3

end

section
variable {prog : Program} {w : World} {A : Around} {E : Value → Shared → Prop} {s : Shared}

theorem cat_tup {t b : Addr} {vs ws : List Value} {Q : Value → Shared → Prop} (ht : IsTup s.heap t vs.toArray) (hb : IsTup s.heap b ws.toArray) (hv : vs ≠ [])
    (h1 : ws = [] → Q (.ref t) s) (h2 : ws ≠ [] → Q (.ref s.heap.objs.size) { s with heap := s.heap.push { cls := .type "tuple", data := .seq (vs ++ ws).toArray } })
    (hsz : vs.length + ws.length ≤ sizeLine) : wpAny (model prog w) A (binaryOp .Add (.ref t) (.ref b)) Q E s := by
  obtain ⟨⟨cls, dd, data, sl⟩, ho, hc, n, hd⟩ := id ht
  obtain ⟨⟨cls2, dd2, data2, sl2⟩, ho2, hc2, n2, hd2⟩ := id hb
  simp only at hc hd hc2 hd2
  subst hc hd hc2 hd2
  have e : vs.toArray ++ ws.toArray = (vs ++ ws).toArray := by simp
  by_cases hw : ws = []
  · exact concat_meets ⟨_, ho, rfl⟩ ⟨_, ho2, rfl⟩ noFill_tuple_add seq_tuple_add PySem.F.slot_tuple_add PySem.F.entry_tuple_add (PySem.F.args_tuple_add_2 _ _)
      (tuple_addW1 t b vs.toArray ws.toArray n n2 dd dd2 sl sl2 (by simpa using hv) (by simp [hw])) ⟨ho, ho2, h1 hw⟩
  · refine concat_meets ⟨_, ho, rfl⟩ ⟨_, ho2, rfl⟩ noFill_tuple_add seq_tuple_add PySem.F.slot_tuple_add PySem.F.entry_tuple_add (PySem.F.args_tuple_add_2 _ _)
      (tuple_addW2 t b vs.toArray ws.toArray n n2 dd dd2 sl sl2 (by simpa using hv) (by simpa using hw) (by rw [List.size_toArray, List.size_toArray]; exact hsz)) ⟨ho, ho2, ?_⟩
    rw [e]
    exact h2 hw

noncomputable def sIx (n d : Nat) : Option Int → Nat
  | none => d
  | some v => if v < 0 then (v + (n : Int)).toNat else min v.toNat n
theorem sIx_none (n d : Nat) : sIx n d none = d := rfl
theorem sIx_nat (n d k : Nat) : sIx n d (some (k : Int)) = min k n := by
  show (if (k : Int) < 0 then ((k : Int) + (n : Int)).toNat else min (k : Int).toNat n) = min k n
  rw [if_neg (by omega), Int.toNat_natCast]
theorem sIx_le (n d : Nat) (hd : d ≤ n) (o : Option Int) : sIx n d o ≤ n := by
  cases o with
  | none => exact hd
  | some v =>
    show (if v < 0 then (v + (n : Int)).toNat else min v.toNat n) ≤ n
    by_cases hv : v < 0
    · rw [if_pos hv]; omega
    · rw [if_neg hv]; exact Nat.min_le_right _ _
theorem clip_eq (v : Int) (n d : Nat) : (if v < 0 then max (v + (n : Int)) 0 else min v (n : Int)) = ((sIx n d (some v) : Nat) : Int) := by
  show (if v < 0 then max (v + (n : Int)) 0 else min v (n : Int)) = (((if v < 0 then (v + (n : Int)).toNat else min v.toNat n) : Nat) : Int)
  by_cases hv : v < 0
  · simp only [if_pos hv]; omega
  · simp only [if_neg hv]; omega
theorem adjust_gen (lo hi : Option Int) (n : Nat) : Builtin.Slice.sliceAdjust lo hi 1 (n : Int) = (((sIx n 0 lo : Nat) : Int), ((sIx n n hi : Nat) : Int)) := by
  have h1 : ¬ ((1 : Int) < 0) := by omega
  unfold Builtin.Slice.sliceAdjust
  simp only [h1, if_false]
  refine Prod.ext ?_ ?_
  · cases lo with
    | none => rfl
    | some v => exact clip_eq v n 0
  · cases hi with
    | none => rfl
    | some v => exact clip_eq v n n
theorem places_gen (i j : Nat) : Builtin.Slice.slicePlaces (i : Int) (j : Int) 1 = j - i := by
  unfold Builtin.Slice.slicePlaces
  have h1 : (1 : Int) > 0 := by omega
  simp only [h1, if_true, Int.ediv_one]
  split <;> omega
theorem slicePart_ {v : Value} {o : Option Int} {Q : Option Int → Shared → Prop} (p : IsPart v o) (h : Q o s) : wpAny (model prog w) A (Builtin.Slice.slicePartIndex v) Q E s := by
  cases p with
  | none => exact slicePart_none h
  | int i t => exact slicePart_int h
theorem sliceApplied_gen {sl : Addr} {vl vu : Value} {lo hi : Option Int} {n : Nat} {Q : Int × Int × Nat → Shared → Prop} (hs : s.heap.IsSliceOf sl vl vu .none) (pl : IsPart vl lo) (pu : IsPart vu hi)
    (h : Q (((sIx n 0 lo : Nat) : Int), 1, sIx n n hi - sIx n 0 lo) s) : wpAny (model prog w) A (Builtin.Slice.sliceApplied (.ref sl) (pure (n : Int))) Q E s := by
  obtain ⟨os, hos, hcs, hds⟩ := id hs
  unfold Builtin.Slice.sliceApplied Builtin.Slice.sliceFields
  refine wpAny_bind (wpAny_bind (wpAny_field hos hds (x := vl) rfl (wpAny_bind (wpAny_field hos hds (x := vu) rfl (wpAny_bind (wpAny_field hos hds (x := .none) rfl (wpAny_pure ?_)))))))
  refine wpAny_bind (slicePart_none ?_)
  show wpAny _ _ (if ((1 : Int) == 0) = true then _ else _) _ _ s
  rw [if_neg (by decide)]
  refine wpAny_bind (slicePart_ pl (wpAny_bind (slicePart_ pu (wpAny_bind (wpAny_pure ?_)))))
  show wpAny _ _ (match Builtin.Slice.sliceAdjust lo hi 1 (n : Int) with | (lo, hi) => pure (lo, (1 : Int), Builtin.Slice.slicePlaces lo hi 1)) _ _ s
  rw [adjust_gen lo hi n]
  show wpAny _ _ (pure (((sIx n 0 lo : Nat) : Int), (1 : Int), Builtin.Slice.slicePlaces ((sIx n 0 lo : Nat) : Int) ((sIx n n hi : Nat) : Int) 1)) _ _ s
  rw [places_gen]
  exact wpAny_pure h
theorem pick_gen (xs : Array Value) (i k : Nat) : ((List.range k).filterMap fun (m : Nat) => xs[((i : Int) + (m : Int) * 1).toNat]?).toArray = ((xs.toList.drop i).take k).toArray := by
  have e : (fun (m : Nat) => xs[((i : Int) + (m : Int) * 1).toNat]?) = fun m => xs[i + m]? := by
    funext m
    have : ((i : Int) + (m : Int) * 1).toNat = i + m := by omega
    rw [this]
  rw [e]
  have := pick_run xs i k
  rw [List.filterMap_map] at this
  have e2 : ((fun x => xs[x]?) ∘ fun x => i + x) = fun m => xs[i + m]? := rfl
  rw [e2] at this
  rw [this]

theorem getItem_tuple_cut {t sl : Addr} {items : Array Value} {vl vu : Value} {lo hi : Option Int} {Q : Value → Shared → Prop} (ht : IsTup s.heap t items) (hs : s.heap.IsSliceOf sl vl vu .none) (pl : IsPart vl lo) (pu : IsPart vu hi)
    (hw : ¬ (sIx items.size 0 lo = 0 ∧ sIx items.size items.size hi = items.size))
    (h : Q (.ref s.heap.objs.size) { s with heap := s.heap.push { cls := .type "tuple", data := .seq ((items.toList.drop (sIx items.size 0 lo)).take (sIx items.size items.size hi - sIx items.size 0 lo)).toArray } })
    (hsz : items.size ≤ sizeLine) : wpAny (model prog w) A (getItem (.ref t) (.ref sl)) Q E s := by
  have htake : sizeOk (.seq ((items.toList.drop (sIx items.size 0 lo)).take (sIx items.size items.size hi - sIx items.size 0 lo)).toArray) := by
    show ((items.toList.drop (sIx items.size 0 lo)).take (sIx items.size items.size hi - sIx items.size 0 lo)).toArray.size ≤ sizeLine
    rw [List.size_toArray, List.length_take, List.length_drop, Array.length_toList]
    omega
  have hj : sIx items.size items.size hi ≤ items.size := sIx_le _ _ (Nat.le_refl _) hi
  obtain ⟨os, hos, hcs, hds⟩ := id hs
  have hTs : s.TypeIs (.ref sl) "slice" := ⟨os, hos, hcs⟩
  unfold getItem
  try with_reducible refine wpAny_holding ?_
  first | refine wpAny_bind (wpAny_pure ?_) | skip
  refine wpAny_bind (wpAny_sequenceKey ht.typeIs (by decide) ?_)
  refine wpAny_bind (wpAny_callSpecial?_slot (name := Str.ofString "__getitem__") ht.typeIs PyProof.Rows.slot_tuple_getitem
    (wpAny_call_entry PyProof.Rows.slot_tuple_getitem ht.typeIs entry_tuple_getitem ?_ (args_tuple_getitem _ _)))
  show wpAny _ _ (Builtin.Tuple.tupleItemsOf (.ref t) >>= _) _ _ s
  refine wpAny_bind (tupleItemsOf_ ht ?_)
  refine wpAny_bind (wpAny_typeOf hTs ?_)
  rw [if_pos (by decide)]
  refine wpAny_bind (sliceApplied_gen hs pl pu ?_)
  have hno : ¬ ((((sIx items.size 0 lo : Nat) : Int) == 0 && (1 : Int) == 1 && (sIx items.size items.size hi - sIx items.size 0 lo) == items.size) = true) := by
    intro q
    rw [Bool.and_eq_true, Bool.and_eq_true] at q
    have q1 : ((sIx items.size 0 lo : Nat) : Int) = 0 := eq_of_beq q.1.1
    have q2 : sIx items.size items.size hi - sIx items.size 0 lo = items.size := eq_of_beq q.2
    exact hw ⟨by omega, by omega⟩
  show wpAny _ _ (if (((sIx items.size 0 lo : Nat) : Int) == 0 && (1 : Int) == 1 && (sIx items.size items.size hi - sIx items.size 0 lo) == items.size) = true then _ else _) _ _ s
  rw [if_neg hno, pick_gen]
  first
    | exact wpAny_bind (m := Builtin.Tuple.tupleExact _) (wpAny_newObj_type (wpAny_pure ⟨_, rfl, wpAny_pure h⟩) htake)
    | exact wpAny_bind (m := Builtin.Tuple.tupleExact _) (wpAny_newObj_type (wpAny_bind (wpAny_pure (wpAny_pure ⟨_, rfl, wpAny_pure h⟩))) htake)
    | exact wpAny_bind (wpAny_bind (m := Builtin.Tuple.tupleExact _) (wpAny_newObj_type (wpAny_pure (wpAny_pure ⟨_, rfl, wpAny_pure h⟩)) htake))
    | exact wpAny_bind (wpAny_bind (m := Builtin.Tuple.tupleExact _) (wpAny_newObj_type (wpAny_pure ⟨_, rfl, wpAny_pure h⟩) htake))
end
end HT

namespace L2
open PySem PySem.Spec PyProof.Rows

noncomputable abbrev TO := St → Hp → (Option Int → Hp → Prop) → Prop
noncomputable def PO (X : Cx) (e : Option Expr) (t : TO) : Prop :=
  ∀ (pins : List (Addr × Obj)) (s : Shared) (σ : St) (H : Hp) (Q : Option Int → Hp → Prop), Inv X pins σ H s → t σ H Q →
    wpAny (model X.prog X.w) X.A (evalPart e X.env) (fun u s' => ∃ o H', Inv X pins σ H' s' ∧ IsPart u o ∧ Q o H') X.xe s
noncomputable def tNoPart : TO := fun _ H Q => Q none H
noncomputable def tPart (t : TE) : TO := fun σ H Q => t σ H fun x H1 => ∃ i, x = .int i ∧ Q (some i) H1

section
variable {X : Cx} {e : Expr} {te : TE} {lo hi : Option Expr} {tl th : TO} {pos p2 : Pos}

theorem po_none : PO X none tNoPart := by
  intro pins s σ H Q I h
  rw [evalPart_none]
  exact wpAny_pure ⟨none, H, I, .none, h⟩
theorem po_some (h : PE X e te) : PO X (some e) (tPart te) := by
  intro pins s σ H Q I hw
  rw [evalPart_some]
  refine thn (h pins s σ H _ I hw) fun u s1 ⟨x, H1, I1, r1, q1⟩ => ?_
  obtain ⟨i, rfl, q⟩ := q1
  obtain ⟨t, rfl⟩ := r1
  exact ⟨some i, H1, I1, .int i t, q⟩

noncomputable def SlR (X : Cx) (r : V → Option Int → Option Int → Hp → VK → Prop) : Prop :=
  ∀ (pins : List (Addr × Obj)) (s : Shared) (σ : St) (H : Hp) (x : V) (v vl vu : Value) (lo hi : Option Int) (sl : Addr) (Q : VK), Inv X pins σ H s → RelV x v → s.heap.IsSliceOf sl vl vu .none → IsPart vl lo → IsPart vu hi → r x lo hi H Q →
    ∃ T id, typeLookup (.type T) "__getitem__" = pure (some (.builtin id)) ∧ s.TypeIs v T ∧ wpAny (model X.prog X.w) X.A (getItem v (.ref sl)) (EP X pins σ Q) X.xe s
noncomputable def tSl (r : V → Option Int → Option Int → Hp → VK → Prop) (te : TE) (tl th : TO) : TE := fun σ H Q => te σ H fun x H1 => tl σ H1 fun l H2 => th σ H2 fun u H3 => r x l u H3 Q
theorem pe_slice {r : V → Option Int → Option Int → Hp → VK → Prop} (hr : SlR X r) (he : PE X e te) (hl : PO X lo tl) (hu : PO X hi th) : PE X (.Subscript e (.Slice lo hi none p2) pos) (tSl r te tl th) := by
  intro pins s σ H Q I h
  refine Subscript_ (thn (he pins s σ H _ I h) fun v s1 ⟨x, H1, I1, r1, q1⟩ => ?_)
  refine wpAny_Slice (thn (hl pins s1 σ H1 _ I1 q1) fun vl s2 ⟨l, H2, I2, pl, q2⟩ => thn (hu pins s2 σ H2 _ I2 q2) fun vu s3 ⟨u, H3, I3, pu, q3⟩ => ?_)
  rw [evalPart_none]
  refine wpAny_pure ?_
  have I4 : Inv X pins σ H3 { s3 with heap := s3.heap.push { cls := .type "slice", data := .fields #[vl, vu, .none] } } := I3.kept (t' := s3.toks) fun b ob q => Heap.get?_push_of_some _ q
  obtain ⟨T, id, hT, ht, hg⟩ := hr pins { s3 with heap := s3.heap.push { cls := .type "slice", data := .fields #[vl, vu, .none] } } σ H3 x v vl vu l u s3.heap.objs.size Q I4 r1 (Heap.IsSliceOf.new ..) pl pu q3
  show wpAny (model X.prog X.w) X.A (subscriptTail e (.Slice lo hi none p2) v (.ref s3.heap.objs.size)) (EP X pins σ Q) X.xe { s3 with heap := s3.heap.push { cls := .type "slice", data := .fields #[vl, vu, .none] } }
  exact tail_any (ops := [.ref s3.heap.objs.size, v]) ht hT hg (by with_unfolding_all rfl)

noncomputable def cutV (xs : List V) (lo hi : Option Int) : List V := (xs.drop (HT.sIx xs.length 0 lo)).take (HT.sIx xs.length xs.length hi - HT.sIx xs.length 0 lo)
theorem cutV_length (xs : List V) (lo hi : Option Int) : (cutV xs lo hi).length ≤ xs.length := by
  unfold cutV
  rw [List.length_take, List.length_drop]
  omega
noncomputable def rSlT (K : PySem.W.Frag) : V → Option Int → Option Int → Hp → VK → Prop := fun x lo hi H Q => ∃ a xs, x = .ref a ∧ SqT K H a xs ∧
  ¬ (HT.sIx xs.length 0 lo = 0 ∧ HT.sIx xs.length xs.length hi = xs.length) ∧ ∀ p, H p = none → Q (.ref p) (upd H p (.tup (cutV xs lo hi)))
theorem sl_tup : SlR X (rSlT X.K) := by
  intro pins s σ H x v vl vu lo hi sl Q I rx hs pl pu h
  obtain ⟨a, xs, rfl, hx, hw, q⟩ := h
  cases rx
  obtain ⟨its, r, ht, hz⟩ := I.tuple hx
  have hlen : its.toArray.size = xs.length := by rw [List.size_toArray]; exact r.length.symm
  refine ⟨"tuple", _, PyProof.Rows.slot_tuple_getitem.lookup, ht.typeIs, ?_⟩
  refine HT.getItem_tuple_cut ht hs pl pu (by rw [hlen]; exact hw) ?_ (by rw [hlen]; exact hz)
  rw [hlen]
  refine ⟨.ref s.heap.objs.size, _, I.laid (t' := s.toks) (o := .tup (cutV xs lo hi)) (fun b ob q => Heap.get?_push_of_some _ q) (Nat.le_refl _) ?_, rfl, q _ (I.hok.fresh (Nat.le_refl _))⟩
  exact ⟨Nat.le_trans (cutV_length xs lo hi) hz, _, (r.drop (HT.sIx xs.length 0 lo)).take (HT.sIx xs.length xs.length hi - HT.sIx xs.length 0 lo), IsTup.new _ _⟩

noncomputable def rCatT (K : PySem.W.Frag) : R2 := fun x y H Q => ∃ a b xs ys, x = .ref a ∧ y = .ref b ∧ SqT K H a xs ∧ SqT K H b ys ∧ xs ≠ [] ∧ xs.length + ys.length ≤ sizeLine ∧
  (ys = [] → Q (.ref a) H) ∧ (ys ≠ [] → ∀ p, H p = none → Q (.ref p) (upd H p (.tup (xs ++ ys))))
theorem Vals.nil_iff {xs : List V} {us : List Value} (r : Vals xs us) : us = [] ↔ xs = [] := by
  cases r with
  | nil => simp
  | cons _ _ => simp
theorem op_catT : OpR X (binaryOp .Add) (rCatT X.K) := by
  intro pins s σ H x y v u Q I rx ry h
  obtain ⟨a, b, xs, ys, rfl, rfl, ha, hb, hx, hz, q1, q2⟩ := h
  cases rx
  cases ry
  obtain ⟨its, r1, p1, _⟩ := I.tuple ha
  obtain ⟨its2, r2, p2, _⟩ := I.tuple hb
  refine HT.cat_tup p1 p2 (fun z => hx (r1.nil_iff.mp z)) (fun z => ⟨.ref a, H, I, rfl, q1 (r2.nil_iff.mp z)⟩) (fun z => ?_) (by rw [← r1.length, ← r2.length]; exact hz)
  refine ⟨.ref s.heap.objs.size, _, I.laid (t' := s.toks) (o := .tup (xs ++ ys)) (fun b ob q => Heap.get?_push_of_some _ q) (Nat.le_refl _) ?_, rfl, q2 (fun w => z (r2.nil_iff.mpr w)) _ (I.hok.fresh (Nat.le_refl _))⟩
  exact ⟨by rw [List.length_append]; exact hz, _, r1.append r2, IsTup.new _ _⟩
end
end L2

namespace L2
open PySem PySem.Spec PyProof.Rows

noncomputable def ixN (n : Nat) (i : Int) : Option Nat := if 0 ≤ i then (if i < n then some i.toNat else none) else if -(n : Int) ≤ i then some (i + n).toNat else none
noncomputable def atI {α : Type} (xs : List α) (i : Int) : Option α := (ixN xs.length i).bind fun j => xs[j]?
theorem ixN_seq {n : Nat} {i : Int} {j : Nat} (h : ixN n i = some j) : seqIndex? i n = some j ∧ j < n ∧ -(n : Int) ≤ i ∧ i < n := by
  unfold ixN at h
  by_cases h0 : 0 ≤ i
  · rw [if_pos h0] at h
    by_cases h1 : i < n
    · rw [if_pos h1] at h
      have e : i.toNat = j := Option.some.inj h
      exact ⟨by rw [seqIndex_of h0 h1, e], by omega, by omega, h1⟩
    · rw [if_neg h1] at h; cases h
  · rw [if_neg h0] at h
    by_cases h1 : -(n : Int) ≤ i
    · rw [if_pos h1] at h
      have e : (i + n).toNat = j := Option.some.inj h
      exact ⟨by rw [seqIndex_neg (by omega) h1, e], by omega, h1, by omega⟩
    · rw [if_neg h1] at h; cases h
theorem atI_get {α : Type} {xs : List α} {i : Int} {v : α} (h : atI xs i = some v) : ∃ j, seqIndex? i xs.length = some j ∧ xs[j]? = some v ∧ j < xs.length ∧ -(xs.length : Int) ≤ i ∧ i < xs.length := by
  unfold atI at h
  cases e : ixN xs.length i with
  | none => rw [e] at h; cases h
  | some j =>
    rw [e] at h
    obtain ⟨h1, h2, h3, h4⟩ := ixN_seq e
    exact ⟨j, h1, h, h2, h3, h4⟩
theorem atI_nat {α : Type} {xs : List α} {j : Nat} {v : α} (h : xs[j]? = some v) : atI xs (j : Int) = some v := by
  have hj : j < xs.length := (List.getElem?_eq_some_iff.mp h).1
  have e : ixN xs.length (j : Int) = some j := by
    unfold ixN
    rw [if_pos (by omega), if_pos (by omega)]; simp
  unfold atI; rw [e]; exact h
noncomputable def PlainIx (b : Expr) : Prop := ∀ o i, subscripted b false o i = operate [o, i] (getItem o i)
noncomputable def IxR (X : Cx) (r : R2) : Prop :=
  ∀ (value slice : Expr) (pins : List (Addr × Obj)) (s : Shared) (σ : St) (H : Hp) (x y : V) (v u : Value) (Q : VK), Inv X pins σ H s → RelV x v → RelV y u → r x y H Q →
    subscripted slice false v u = operate [v, u] (getItem v u) → wpAny (model X.prog X.w) X.A (subscriptTail value slice v u) (EP X pins σ Q) X.xe s
noncomputable def MtR (X : Cx) (id : String) (r : V → List V → Hp → VK → Prop) : Prop :=
  ∀ (pins : List (Addr × Obj)) (s : Shared) (σ : St) (H : Hp) (x : V) (xs : List V) (v : Value) (us : List Value) (Q : VK), Inv X pins σ H s → RelV x v → Vals xs us → r x xs H Q →
    wpAny (model X.prog X.w) X.A (call (.builtin id) (v :: us)) (EP X pins σ Q) X.xe s
section
variable {X : Cx} {a b : Expr} {ta tb : TE} {pos : Pos}
theorem IxR.or {r r' : R2} (h : IxR X r) (h' : IxR X r') : IxR X (fun x y H Q => r x y H Q ∨ r' x y H Q) := by
  intro value slice pins s σ H x y v u Q I rx ry q hs
  rcases q with q | q
  · exact h value slice pins s σ H x y v u Q I rx ry q hs
  · exact h' value slice pins s σ H x y v u Q I rx ry q hs
theorem pe_ix {r : R2} (hr : IxR X r) (ha : PE X a ta) (hb : PE X b tb) (hs : PlainIx b) : PE X (.Subscript a b pos) (tOp r ta tb) := by
  intro pins s σ H Q I h
  exact Subscript_ (binT ha hb I h fun v u s2 x y H2 I2 rx ry q => hr a b pins s2 σ H2 x y v u Q I2 rx ry q (hs _ _))

noncomputable def rIxL (K : PySem.W.Frag) : R2 := fun x y H Q => ∃ p xs i v, x = .ref p ∧ y = .int i ∧ SqL K H p xs ∧ atI xs i = some v ∧ Q v H
noncomputable def rIxT (K : PySem.W.Frag) : R2 := fun x y H Q => ∃ p xs i v, x = .ref p ∧ y = .int i ∧ SqT K H p xs ∧ atI xs i = some v ∧ Q v H
noncomputable def rIxS : R2 := fun x y H Q => ∃ z i c, x = .str z ∧ y = .int i ∧ z.length ≤ sizeLine ∧ atI z.cps.toList i = some c ∧ Q (.str ⟨#[c]⟩) H
theorem ix_list : IxR X (rIxL X.K) := by
  intro value slice pins s σ H x y v u Q I rx ry h hs
  obtain ⟨p, xs, i, z, rfl, rfl, hq, he, q⟩ := h
  cases rx
  obtain ⟨t, rfl⟩ := ry
  obtain ⟨its, r, pl, hz⟩ := I.list hq
  obtain ⟨j, h1, h2, h3, h4, h5⟩ := atI_get he
  obtain ⟨w, ew, rw'⟩ := r.get h2
  have hl := r.length
  have hn := line63
  have fin : EP X pins σ Q w s := ⟨z, H, I, rw', q⟩
  by_cases h0 : 0 ≤ i
  · have hj : i.toNat = j := by
      rw [seqIndex_of h0 h5] at h1
      exact Option.some.inj h1
    exact item_listR pl.isList h0 (by omega) (by rw [hj]; simpa using ew) fin hs
  · have hj : (i + (its.toArray.size : Int)).toNat = j := by
      rw [seqIndex_neg (by omega) h4] at h1
      rw [List.size_toArray, ← hl]
      exact Option.some.inj h1
    exact subscriptTail_builtinR (x := w) pl.isList.typeIs slot_list_getitem.lookup
      (wpAny_getItem_list_neg (Q := fun r s' => r = w ∧ EP X pins σ Q r s') pl.isList (by omega) (by rw [List.size_toArray] <;> omega) (by omega) (by rw [hj]; simpa using ew) ⟨rfl, fin⟩) hs
theorem ix_tup : IxR X (rIxT X.K) := by
  intro value slice pins s σ H x y v u Q I rx ry h hs
  obtain ⟨p, xs, i, z, rfl, rfl, hq, he, q⟩ := h
  cases rx
  obtain ⟨t, rfl⟩ := ry
  obtain ⟨its, r, pl, hz⟩ := I.tuple hq
  obtain ⟨j, h1, h2, h3, h4, h5⟩ := atI_get he
  obtain ⟨w, ew, rw'⟩ := r.get h2
  have hl := r.length
  have hn := line63
  have fin : EP X pins σ Q w s := ⟨z, H, I, rw', q⟩
  exact subscriptTail_builtinR (x := w) pl.typeIs slot_tuple_getitem.lookup
    (getItem_tuple (j := j) (Q := fun r s' => r = w ∧ EP X pins σ Q r s') pl (by omega) (by omega) (by rw [List.size_toArray, ← hl]; exact h1) (by simpa using ew) ⟨rfl, fin⟩) hs
theorem ix_str : IxR X rIxS := by
  intro value slice pins s σ H x y v u Q I rx ry h hs
  obtain ⟨z, i, c, rfl, rfl, hz, he, q⟩ := h
  obtain ⟨t, rfl⟩ := rx
  obtain ⟨t', rfl⟩ := ry
  obtain ⟨j, h1, h2, h3, h4, h5⟩ := atI_get he
  have hl : z.cps.toList.length = z.length := by simp [Str.length]
  rw [hl] at h1 h4 h5
  have hn := line63
  exact tail_any (typeIs_str s z t) slot_str_getitem.lookup (getItem_str (c := c) (by
    have e1 : decide (i < -(2 ^ 63 : Int)) = false := decide_eq_false (by omega)
    have e2 : decide (i ≥ 2 ^ 63) = false := decide_eq_false (by omega)
    rw [e1, e2, Bool.or_false]) (by rw [h1]; simpa using h2) ⟨.str ⟨#[c]⟩, H, I.tok _, ⟨_, rfl⟩, q⟩) hs
noncomputable def rIx (K : PySem.W.Frag) : R2 := fun x y H Q => rIxL K x y H Q ∨ rIxT K x y H Q ∨ rIxS x y H Q
theorem ix_seq : IxR X (rIx X.K) := ix_list.or (ix_tup.or ix_str)

theorem Inv.lst {pins : List (Addr × Obj)} {σ : St} {H : Hp} {s : Shared} {p : Addr} {xs : List V} (I : Inv X pins σ H s) (h : H p = some (.lst xs)) :
    ∃ (its : List Value) (n : Nat), Vals xs its ∧ s.heap.get? p = some { cls := .type "list", data := .seq its.toArray n } ∧ xs.length ≤ sizeLine := by
  obtain ⟨z, its, n, r, e⟩ := I.hok p _ h
  exact ⟨its, n, r, e, z⟩
theorem slice_bounds (lo hi : Option Int) (n : Nat) : (sliceBounds lo hi none n).1 = ((HT.sIx n 0 lo : Nat) : Int) ∧ (sliceBounds lo hi none n).2.1 = ((HT.sIx n n hi : Nat) : Int) ∧ (sliceBounds lo hi none n).2.2 = 1 := by
  refine ⟨?_, ?_, rfl⟩
  · cases lo with
    | none => simp [sliceBounds, HT.sIx]
    | some i =>
      simp only [sliceBounds, HT.sIx, Option.getD_none, show (1 : Int) > 0 by decide, if_true]
      by_cases h : i < 0
      · simp only [h, if_true] <;> omega
      · simp only [h, if_false] <;> omega
  · cases hi with
    | none => simp [sliceBounds, HT.sIx]
    | some i =>
      simp only [sliceBounds, HT.sIx, Option.getD_none, show (1 : Int) > 0 by decide, if_true]
      by_cases h : i < 0
      · simp only [h, if_true] <;> omega
      · simp only [h, if_false] <;> omega
theorem slicePick_cut (its : List Value) (lo hi : Option Int) : slicePick its.toArray lo hi none = ((its.drop (HT.sIx its.length 0 lo)).take (HT.sIx its.length its.length hi - HT.sIx its.length 0 lo)).toArray := by
  obtain ⟨h1, h2, h3⟩ := slice_bounds lo hi its.toArray.size
  unfold slicePick
  rw [h1, h2, h3]
  simp only [sliceRange_one, pick_run, List.size_toArray] <;> rfl
noncomputable def rSlL (K : PySem.W.Frag) : V → Option Int → Option Int → Hp → VK → Prop := fun x lo hi H Q => ∃ a xs, x = .ref a ∧ SqL K H a xs ∧ ∀ p, H p = none → Q (.ref p) (upd H p (.lst (cutV xs lo hi)))
theorem sl_list : SlR X (rSlL X.K) := by
  intro pins s σ H x v vl vu lo hi sl Q I rx hs pl pu h
  obtain ⟨a, xs, rfl, hx, q⟩ := h
  cases rx
  obtain ⟨its, r, ht, hz⟩ := I.list hx
  have hlen := r.length
  refine ⟨"list", _, slot_list_getitem.lookup, ht.isList.typeIs, ?_⟩
  refine wpAny_getItem_list_slice ht.isList hs pl pu .none (by simp) ?_ (by rw [List.size_toArray] <;> omega)
  rw [slicePick_cut, ← hlen]
  refine ⟨.ref s.heap.objs.size, _, I.laid (t' := s.toks) (o := .lst (cutV xs lo hi)) (fun b ob q => Heap.get?_push_of_some _ q) (Nat.le_refl _) ?_, rfl, q _ (I.hok.fresh (Nat.le_refl _))⟩
  exact ⟨Nat.le_trans (cutV_length xs lo hi) hz, _, 0, (r.drop (HT.sIx xs.length 0 lo)).take (HT.sIx xs.length xs.length hi - HT.sIx xs.length 0 lo), Heap.get?_push_size _ rfl⟩

noncomputable def flatV : V → Bool
  | .non => true
  | .bl _ => true
  | .int _ => true
  | .str _ => true
  | _ => false
noncomputable def eqV : V → V → Bool
  | .non, .non => true
  | .bl a, .bl b => a == b
  | .bl a, .int b => (if a then 1 else 0) == b
  | .int a, .bl b => a == (if b then 1 else 0)
  | .int a, .int b => a == b
  | .str a, .str b => a == b
  | _, _ => false
theorem eqAt_V {A : Around} {s : Shared} {y x : V} {u v : Value} (ry : RelV y u) (rx : RelV x v) (fy : flatV y = true) (fx : flatV x = true) : SeqAt.EqAt A s u v (eqV y x) := by
  cases y with
  | non =>
    cases ry
    cases x with
    | non => cases rx; exact SeqAt.EqAt.same _
    | bl b => cases rx; exact SeqAt.EqAt.none_bool b
    | int b => obtain ⟨t, rfl⟩ := rx; exact SeqAt.EqAt.none_int b t
    | str b => obtain ⟨t, rfl⟩ := rx; exact SeqAt.EqAt.none_str b t
    | _ => exact absurd (show false = true from fx) Bool.false_ne_true
  | bl a =>
    cases ry
    cases x with
    | non => cases rx; exact SeqAt.EqAt.bool_none a
    | bl b => cases rx; exact SeqAt.EqAt.bool_bool a b
    | int b => obtain ⟨t, rfl⟩ := rx; exact SeqAt.EqAt.bool_int a b t
    | str b => obtain ⟨t, rfl⟩ := rx; exact SeqAt.EqAt.bool_str a b t
    | _ => exact absurd (show false = true from fx) Bool.false_ne_true
  | int a =>
    obtain ⟨t', rfl⟩ := ry
    cases x with
    | non => cases rx; exact SeqAt.EqAt.int_none a t'
    | bl b => cases rx; exact SeqAt.EqAt.int_bool a t' b
    | int b => obtain ⟨t, rfl⟩ := rx; exact SeqAt.EqAt.int_int a t' b t
    | str b => obtain ⟨t, rfl⟩ := rx; exact SeqAt.EqAt.int_str a t' b t
    | _ => exact absurd (show false = true from fx) Bool.false_ne_true
  | str a =>
    obtain ⟨t', rfl⟩ := ry
    cases x with
    | non => cases rx; exact SeqAt.EqAt.str_none a t'
    | bl b => cases rx; exact SeqAt.EqAt.str_bool a t' b
    | int b => obtain ⟨t, rfl⟩ := rx; exact SeqAt.EqAt.str_int a t' b t
    | str b => obtain ⟨t, rfl⟩ := rx; exact SeqAt.EqAt.str_str a t' b t
    | _ => exact absurd (show false = true from fx) Bool.false_ne_true
  | _ => exact absurd (show false = true from fy) Bool.false_ne_true
noncomputable def eqU (x : V) (u : Value) : Bool := match u with
  | .none => eqV .non x
  | .bool b => eqV (.bl b) x
  | .int i _ => eqV (.int i) x
  | .str z _ => eqV (.str z) x
  | _ => false
theorem eqU_of {x y : V} {u : Value} (r : RelV y u) (f : flatV y = true) : eqU x u = eqV y x := by
  cases y with
  | non => cases r; rfl
  | bl b => cases r; rfl
  | int i => obtain ⟨t, rfl⟩ := r; rfl
  | str z => obtain ⟨t, rfl⟩ := r; rfl
  | _ => exact absurd (show false = true from f) Bool.false_ne_true
theorem any_eqU {x : V} : ∀ {xs : List V} {us : List Value}, Vals xs us → xs.all flatV = true → us.any (eqU x) = xs.any fun y => eqV y x
  | _, _, .nil, _ => rfl
  | y :: xs, u :: us, .cons r t, f => by
    rw [List.all_cons, Bool.and_eq_true] at f
    rw [List.any_cons, List.any_cons, eqU_of r f.1, any_eqU t f.2]
theorem mem_eqAt {A : Around} {s : Shared} {x : V} {v : Value} (rx : RelV x v) (fx : flatV x = true) : ∀ {xs : List V} {us : List Value}, Vals xs us → xs.all flatV = true → ∀ u ∈ us, SeqAt.EqAt A s u v (eqU x u)
  | _, _, .nil, _ => fun u hu => by cases hu
  | y :: xs, u :: us, .cons r t, f => fun u' hu => by
    rw [List.all_cons, Bool.and_eq_true] at f
    rcases List.mem_cons.mp hu with rfl | hu
    · rw [eqU_of r f.1]; exact eqAt_V r rx f.1 fx
    · exact mem_eqAt rx fx t f.2 u' hu
noncomputable def inV (x : V) (xs : List V) : Bool := xs.any fun y => eqV y x
noncomputable def rIn (K : PySem.W.Frag) (neg : Bool) : R2 := fun x y H Q => ∃ p xs, y = .ref p ∧ (SqL K H p xs ∨ SqT K H p xs) ∧ flatV x = true ∧ xs.all flatV = true ∧ Q (.bl (if neg then !inV x xs else inV x xs)) H
theorem op_notIn_seq : OpR X (compareOp .NotIn) (rIn X.K true) := by
  intro pins s σ H x y v u Q I rx ry h
  obtain ⟨p, xs, rfl, hq, fx, fs, q⟩ := h
  cases ry
  rcases hq with hq | hq
  · obtain ⟨its, r, pl, hz⟩ := I.list hq
    refine SeqAt.notIn_listAt (eqU x) pl.isList (fun w hw => mem_eqAt rx fx r fs w (by simpa using hw)) ⟨.bl _, H, I, rfl, ?_⟩
    rw [show its.toArray.any (eqU x) = its.any (eqU x) by simp, any_eqU r fs]
    exact q
  · obtain ⟨its, r, pl, hz⟩ := I.tuple hq
    refine SeqAt.notIn_tupleAt (eqU x) pl (fun w hw => mem_eqAt rx fx r fs w (by simpa using hw)) ⟨.bl _, H, I, rfl, ?_⟩
    rw [show its.toArray.any (eqU x) = its.any (eqU x) by simp, any_eqU r fs]
    exact q
theorem call_len_seq : CallR X (.builtin "len") (fun xs H Q => ∃ p ys, xs = [.ref p] ∧ (SqL X.K H p ys ∨ SqT X.K H p ys) ∧ Q (.int ys.length) H) := by
  intro pins s σ H xs us Q I r h
  obtain ⟨p, ys, rfl, hq, q⟩ := h
  obtain ⟨u, rfl, rx⟩ := vals1 r
  cases rx
  have hn := line63
  rcases hq with hq | hq
  · obtain ⟨its, r', pl, hz⟩ := I.list hq
    have hlen := r'.length
    exact Calls.call_len_list pl.isList (by simp only [List.size_toArray] <;> omega) ⟨.int ys.length, H, I.tok _, ⟨s.toks + 1, by rw [List.size_toArray, hlen]⟩, q⟩
  · obtain ⟨its, r', pl, hz⟩ := I.tuple hq
    have hlen := r'.length
    exact len_tuple pl (by simp only [List.size_toArray] <;> omega) ⟨.int ys.length, H, I.tok _, ⟨s.toks + 1, by rw [List.size_toArray, hlen]⟩, q⟩
theorem call_len_str : CallR X (.builtin "len") (fun xs H Q => ∃ z, xs = [.str z] ∧ z.length ≤ sizeLine ∧ Q (.int z.length) H) := by
  intro pins s σ H xs us Q I r h
  obtain ⟨z, rfl, hz, q⟩ := h
  obtain ⟨u, rfl, t, rfl⟩ := vals1 r
  have hn := line63
  exact len_str (by omega) ⟨.int z.length, H, I.tok _, ⟨_, rfl⟩, q⟩
theorem call_list_of : CallR X (.type "list") (fun xs H Q => ∃ p ys, xs = [.ref p] ∧ (SqL X.K H p ys ∨ SqT X.K H p ys) ∧ ∀ l, H l = none → Q (.ref l) (upd H l (.lst ys))) := by
  intro pins s σ H xs us Q I r h
  obtain ⟨p, ys, rfl, hq, q⟩ := h
  obtain ⟨u, rfl, rx⟩ := vals1 r
  cases rx
  have fin : ∀ (its : List Value), Vals ys its → ys.length ≤ sizeLine → ∀ (h' : Heap) (c' : Nat), (∀ b o', s.heap.get? b = some o' → h'.get? b = some o') →
      h'.get? s.heap.objs.size = some { cls := .type "list", dict := none, data := .seq its.toArray c', slots := #[] } → EP X pins σ Q (.ref s.heap.objs.size) { s with heap := h' } := fun its r' hz h' c' kp e =>
    ⟨.ref s.heap.objs.size, _, I.laid (t' := s.toks) kp (Nat.le_refl _) (show ObjOk X.prog X.w _ h' _ (.lst ys) from ⟨hz, its, c', r', e⟩), rfl, q _ (I.hok.fresh (Nat.le_refl _))⟩
  rcases hq with hq | hq
  · obtain ⟨its, r', pl, hz⟩ := I.list hq
    have hlen := r'.length
    obtain ⟨o, ho, hc, n, hd⟩ := pl.isList
    exact call_list_seq p (.inl rfl) ho hc hd (fun h' c' kp e => fin its r' hz h' c' kp e) (by simp only [List.size_toArray] <;> omega)
  · obtain ⟨its, r', pl, hz⟩ := I.tuple hq
    have hlen := r'.length
    obtain ⟨o, ho, hc, n, hd⟩ := pl
    exact call_list_seq p (.inr rfl) ho hc hd (fun h' c' kp e => fin its r' hz h' c' kp e) (by simp only [List.size_toArray] <;> omega)
theorem call_tuple_of : CallR X (.type "tuple") (fun xs H Q => ∃ p ys, xs = [.ref p] ∧ ((SqL X.K H p ys ∧ ∀ l, H l = none → Q (.ref l) (upd H l (.tup ys))) ∨ (SqT X.K H p ys ∧ Q (.ref p) H))) := by
  intro pins s σ H xs us Q I r h
  obtain ⟨p, ys, rfl, h⟩ := h
  obtain ⟨u, rfl, rx⟩ := vals1 r
  cases rx
  rcases h with ⟨hq, q⟩ | ⟨hq, q⟩
  · obtain ⟨its, r', pl, hz⟩ := I.list hq
    have hlen := r'.length
    refine call_tuple_list pl.isList (fun h' kp => ?_) (by simp only [List.size_toArray] <;> omega)
    have I1 : Inv X pins σ H { s with heap := h' } := I.kept (t' := s.toks) kp
    have I2 : Inv X pins σ (upd H h'.objs.size (.tup ys)) { s with heap := h'.push { cls := .type "tuple", data := .seq its.toArray } } :=
      I1.laid (t' := s.toks) (fun b o e => Heap.get?_push_of_some _ e) (Nat.le_refl _) (show ObjOk X.prog X.w _ _ _ (.tup ys) from ⟨hz, its, r', IsTup.new _ _⟩)
    exact ⟨.ref h'.objs.size, _, I2, rfl, q _ (I1.hok.fresh (Nat.le_refl _))⟩
  · obtain ⟨its, r', pl, hz⟩ := I.tuple hq
    exact call_tuple_same pl ⟨.ref p, H, I, rfl, q⟩

noncomputable def tyV (K : PySem.W.Frag) (T : String) (x : V) (H : Hp) : Prop := match x with
  | .str _ => T = "str"
  | .int _ => T = "int"
  | .ref p => (T = "list" ∧ ∃ xs, SqL K H p xs) ∨ (T = "tuple" ∧ ∃ o, K.lookup p = some o ∧ o.cls = .type "tuple" ∧ o.dict = none) ∨
      (T = "dict" ∧ ((∃ kvs, H p = some (.dK kvs)) ∨ ∃ kvs, H p = some (.dT kvs))) ∨ (T = "set" ∧ ∃ S n, H p = some (.set S n))
  | _ => False
theorem tyV_is {pins : List (Addr × Obj)} {σ : St} {H : Hp} {s : Shared} {T : String} {x : V} {v : Value} (I : Inv X pins σ H s) (r : RelV x v) (ty : tyV X.K T x H) :
    s.TypeIs v T ∧ ∀ a, v = .ref a → ∃ ob, s.heap.get? a = some ob ∧ ob.dict = none := by
  cases x with
  | str z =>
    obtain ⟨t, rfl⟩ := r
    cases (show T = "str" from ty)
    exact ⟨typeIs_str s z t, fun _ e => nomatch e⟩
  | int i =>
    obtain ⟨t, rfl⟩ := r
    cases (show T = "int" from ty)
    exact ⟨typeIs_int s i t, fun _ e => nomatch e⟩
  | ref p =>
    cases r
    rcases ty with ⟨rfl, xs, hq⟩ | ⟨rfl, o, hk, hc, hd⟩ | ⟨rfl, hk⟩ | ⟨rfl, S, n, hk⟩
    · obtain ⟨its, _, pl, _⟩ := I.list hq
      refine ⟨pl.isList.typeIs, fun a e => ?_⟩
      cases e
      obtain ⟨o, n, e, c, hd, _⟩ := pl
      exact ⟨o, e, hd⟩
    · refine ⟨⟨o, I.kIn p o hk, hc⟩, fun a e => ?_⟩
      cases e
      exact ⟨o, I.kIn _ o hk, hd⟩
    · have z : ∃ o, s.heap.get? p = some o ∧ o.ExactDict := by
        rcases hk with ⟨kvs, hk⟩ | ⟨kvs, hk⟩
        · obtain ⟨_, _, _, _, o, _, _, e, ex, _⟩ := I.hok p _ hk
          exact ⟨o, e, ex⟩
        · obtain ⟨_, _, _, _, o, _, _, e, ex, _⟩ := I.hok p _ hk
          exact ⟨o, e, ex⟩
      obtain ⟨o, e, ex⟩ := z
      refine ⟨⟨o, e, ex.1⟩, fun a e2 => ?_⟩
      cases e2
      exact ⟨o, e, ex.2.1⟩
    · obtain ⟨o, _, _, _, e, ex, _⟩ := I.hok p _ hk
      refine ⟨⟨o, e, ex.1⟩, fun a e2 => ?_⟩
      cases e2
      exact ⟨o, e, ex.2.1⟩
  | _ => exact False.elim ty
noncomputable def tBM0 (K : PySem.W.Frag) (T : String) (r : V → List V → Hp → VK → Prop) (to : TE) : TE := fun σ H Q => to σ H fun x H1 => tyV K T x H1 ∧ r x [] H1 Q
noncomputable def tBM (K : PySem.W.Frag) (T : String) (r : V → List V → Hp → VK → Prop) (to : TE) (t : TA) : TE := fun σ H Q => to σ H fun x H1 => tyV K T x H1 ∧ t σ H1 fun xs H2 => r x xs H2 Q
variable {o e : Expr} {es : List Expr} {to : TE} {t : TA} {name : Str} {apos cpos : Pos} {T id : String} {r : V → List V → Hp → VK → Prop}
theorem pe_bm0 (pa : PlainAttrs T) (slot : Slot T name id) (hty : typeOf (.builtin id) = pure (.type "method_descriptor")) (hm : MtR X id r) (ho : PE X o to)
    (hbase : attributeBase o name X.env (eval o X.env) = eval o X.env := by rfl) (hline : (apos.endLine == cpos.line) = true := by rfl) : PE X (.Call (.Attribute o name apos) [] [] cpos) (tBM0 X.K T r to) := by
  intro pins s σ H Q I h
  refine wpAny_Call_method0_late hbase hline (thn (ho pins s σ H _ I h) fun v s1 ⟨x, H1, I1, r1, ty, q1⟩ => ?_)
  obtain ⟨h1, h2⟩ := tyV_is I1 r1 ty
  exact ⟨T, id, pa, slot, hty, h1, h2, Calls.callWith_builtin rfl (PySem.evalArgs_none (hm pins s1 σ H1 x [] v [] Q I1 r1 .nil q1))⟩
theorem pe_bm (pa : PlainAttrs T) (slot : Slot T name id) (hty : typeOf (.builtin id) = pure (.type "method_descriptor")) (hm : MtR X id r) (ho : PE X o to) (ha : PA X (e :: es) t)
    (hbase : attributeBase o name X.env (eval o X.env) = eval o X.env := by rfl)
    (hfew : ((backTo cpos (starEach (e :: es) X.env)).all (fun x => !x.1) && (backToKw cpos (keywordEach [] X.env)).all (fun x => x.1.isSome)
      && decide ((e :: es).length + ([] : List Keyword).length + (if ([] : List Keyword).isEmpty then 0 else 1) < 30)) = true := by rfl)
    (hline : (apos.endLine == cpos.line) = true := by rfl) (hs : starEach (e :: es) X.env = (false, eval e X.env) :: starEach es X.env := by rfl) (hplain : (backTo cpos (starEach es X.env)).any (·.1) = false := by rfl) :
    PE X (.Call (.Attribute o name apos) (e :: es) [] cpos) (tBM X.K T r to t) := by
  intro pins s σ H Q I h
  refine wpAny_Call_method_late hbase hfew hline rfl (thn (ho pins s σ H _ I h) fun v s1 ⟨x, H1, I1, r1, ty, q1⟩ => ?_)
  obtain ⟨h1, h2⟩ := tyV_is I1 r1 ty
  refine ⟨T, id, pa, slot, hty, h1, h2, ?_⟩
  have hA := ha cpos pins s1 σ H1 _ I1 q1
  rw [hs] at hA ⊢
  refine Calls.callWith_builtin (by show (false || (backTo cpos (starEach es X.env)).any (·.1)) = false; rw [hplain] <;> rfl) (Calls.evalArgs_plain ?_)
  exact thn hA fun us s2 ⟨vs, H2, I2, r2, q2⟩ => hm pins s2 σ H2 x vs v us Q I2 r1 r2 q2
/- xs.append(e), list.index on a module's tuple .. are MtR facts of 06m -/
end
end L2

namespace L2
open PySem PySem.Spec PyProof.Rows

noncomputable def MtM (X : Cx) (id : String) (r : V → List V → Hp → VK → Prop) : Prop :=
  ∀ (pins : List (Addr × Obj)) (s : Shared) (σ : St) (H : Hp) (x : V) (xs : List V) (v : Value) (us : List Value) (Q : VK), Inv X pins σ H s → RelV x v → Vals xs us → r x xs H Q →
    wpAny (model X.prog X.w) X.A (call (.builtin id) (v :: us)) (EP X pins σ Q) X.xe s

theorem Vals.one : ∀ {x : V} {us : List Value}, Vals [x] us → ∃ u, us = [u] ∧ RelV x u
  | _, _, .cons r .nil => ⟨_, rfl, r⟩
theorem Vals.two {x y : V} {us : List Value} (h : Vals [x, y] us) : ∃ u v, us = [u, v] ∧ RelV x u ∧ RelV y v := by
  cases h with
  | cons r h =>
    obtain ⟨u, e, q⟩ := Vals.one h
    exact ⟨_, u, by rw [e], r, q⟩
theorem Vals.zero : ∀ {us : List Value}, Vals [] us → us = []
  | _, .nil => rfl
theorem Vals.dropLast {xs : List V} {us : List Value} (h : Vals xs us) : Vals xs.dropLast us.dropLast := by
  induction h with
  | nil => exact .nil
  | cons r t ih =>
    cases t with
    | nil => exact .nil
    | cons q t' => exact .cons r ih
section
variable {X : Cx} {pins : List (Addr × Obj)} {σ : St} {H : Hp} {s : Shared} {l b : Addr} {xs ys zs : List V}

theorem Inv.lset {its its' : List Value} {n : Nat} {f : Array Value → Array Value} {t' : Nat} (I : Inv X pins σ H s) (hH : H l = some (.lst xs))
    (e : s.heap.get? l = some { cls := .type "list", data := .seq its.toArray n }) (hf : f its.toArray = its'.toArray) (hv : Vals ys its') (hz : ys.length ≤ sizeLine) :
    Inv X pins σ (upd H l (.lst ys)) { s with heap := s.heap.update l (Obj.mapSeq f), toks := t' } := by
  have q := PySem.IsL.update e f
  rw [hf] at q
  refine I.write (x := l) (e := l) (by rw [hH]; exact trivial) (.inl rfl) (fun b' u hb hu => (Heap.get?_update_other s.heap (Obj.mapSeq f) (Ne.symm hb)).trans hu) ⟨_, q⟩ ?_
  exact ⟨hz, its', _, hv, q⟩
theorem Inv.lnew {its : List Value} {t' : Nat} (I : Inv X pins σ H s) (hv : Vals ys its) (hz : ys.length ≤ sizeLine) :
    Inv X pins σ (upd H s.heap.objs.size (.lst ys)) { s with heap := s.heap.push { cls := .type "list", data := .seq its.toArray }, toks := t' } :=
  I.laid (fun _ _ q => Heap.get?_push_of_some _ q) (Nat.le_refl _) ⟨hz, its, 0, hv, Heap.get?_push_size _ rfl⟩
theorem Inv.fresh (I : Inv X pins σ H s) : H s.heap.objs.size = none := I.hok.fresh (Nat.le_refl _)
theorem Inv.lstM (I : Inv X pins σ H s) (hH : H l = some (.lst xs)) : xs.length ≤ sizeLine ∧ ∃ (its : List Value) (n : Nat), Vals xs its ∧ xs.length = its.length ∧ s.heap.get? l = some { cls := .type "list", data := .seq its.toArray n } := by
  obtain ⟨z, its, n, r, e⟩ := I.hok l _ hH
  exact ⟨z, its, n, r, r.length, e⟩

end

section
variable {X : Cx}

noncomputable def rAppend : V → List V → Hp → VK → Prop := fun x vs H Q => ∃ l xs y, x = .ref l ∧ vs = [y] ∧ H l = some (.lst xs) ∧ xs.length < sizeLine ∧ Q .non (upd H l (.lst (xs ++ [y])))
theorem mt_append : MtM X "list.append" rAppend := by
  intro pins s σ H x vs v us Q I rx rv h
  obtain ⟨l, xs, y, rfl, rfl, hH, hz, q⟩ := h
  cases rx
  obtain ⟨u, rfl, ru⟩ := rv.one
  obtain ⟨z, its, n, r, hl, e⟩ := I.lstM hH
  refine call_meets F.slot_list_append ⟨_, e, rfl⟩ F.entry_list_append (F.args_list_append_2 _ _) (PySem.list_append l its.toArray n u (by rw [List.size_toArray]; omega)) ⟨e, ?_⟩
  refine ⟨.non, _, I.lset (its' := its ++ [u]) hH e (by simp) (r.append (.cons ru .nil)) ?_, rfl, q⟩
  rw [List.length_append, List.length_singleton]
  omega

noncomputable def rCat : R2 := fun x y H Q => ∃ l b xs zs, x = .ref l ∧ y = .ref b ∧ H l = some (.lst xs) ∧ H b = some (.lst zs) ∧ xs.length + zs.length ≤ sizeLine ∧ ∀ p, H p = none → Q (.ref p) (upd H p (.lst (xs ++ zs)))
theorem op_cat : OpR X (binaryOp .Add) rCat := by
  intro pins s σ H x y v u Q I rx ry h
  obtain ⟨l, b, xs, zs, rfl, rfl, hH, hB, hz, q⟩ := h
  cases rx
  cases ry
  obtain ⟨z, its, n, r, hl, e⟩ := I.lstM hH
  obtain ⟨z2, its2, n2, r2, hl2, e2⟩ := I.lstM hB
  refine PySem.P.add_list e e2 ?_ (by rw [List.size_toArray, List.size_toArray]; omega)
  have ea : its.toArray ++ its2.toArray = (its ++ its2).toArray := by simp
  rw [ea]
  exact ⟨.ref _, _, I.lnew (t' := s.toks) (r.append r2) (by rw [List.length_append]; omega), rfl, q _ I.fresh⟩
end

section
variable {prog : Program} {w : World} {A : Around} {E : Value → Shared → Prop} {s : Shared}
end

section
variable {X : Cx}
end
end L2

namespace Att
open PySem PySem.W PySem.Calls PyProof.Rows

theorem ints_of_wellAll {P : Params} {h : Heap} : ∀ (ns : List Int) (vs : List Value), WellAll P h vs (ns.map WData.int) → IntsAre vs ns := by
  intro ns
  induction ns with
  | nil =>
    intro vs w
    rw [List.map_nil] at w
    cases w
    exact .nil
  | cons n ns ih =>
    intro vs w
    rw [List.map_cons] at w
    cases w with
    | cons a b =>
      cases a
      exact .cons _ _ (ih _ b)

theorem script_of {l : OpenLaw} {n : Nat} (hn : l.most = some n) {P : Params} {h : Heap} {args : List WData} {vals : List Value}
    (hpre : l.row.toRowW.claim.pre args = true) (hwl : WellAll P h vals args) :
    ∃ a vs ns, vals = [Value.ref a] ∧ args = [WData.list (ns.map WData.int)] ∧ h.get? a = some { cls := .type "list", data := .seq vs.toArray } ∧ IntsAre vs ns ∧ ns.length ≤ n := by
  have hsh : WShape.hasAll [] args [.list .int] = true := (pre_splitW hpre).1
  have hc : l.pre.holds [] { args := args } = true := (pre_splitW hpre).2
  obtain ⟨d, r, rfl, h1, h2⟩ := hasAllW_cons hsh
  obtain rfl := hasAllW_nil h2
  obtain ⟨xs, rfl, h3⟩ := hasW_list h1
  obtain ⟨ns, rfl⟩ := items_int h3
  have hlen : ns.length ≤ n := by
    unfold OpenLaw.pre at hc
    have h4 : (WTm.not (.lt (.lit (.int (n : Int))) (.len (.arg 0)))).holds [] { args := [.list (ns.map .int)] } = true := by
      have h4 := (holds_andW hc).1
      rw [hn] at h4
      exact h4
    have h5 := condW_of h4 (w_not (w_lt w_lit (w_len_list (w_arg rfl))))
    rw [List.length_map] at h5
    refine Nat.le_of_not_lt fun q => ?_
    have q' : (n : Int) < ((ns.length : Nat) : Int) := by omega
    first
      | (rw [decide_eq_true q'] at h5; exact absurd h5 (by decide))
      | (simp at h5; omega)
  cases hwl with
  | cons w1 w2 =>
    cases w2
    cases w1 with
    | list ho hall => exact ⟨_, _, ns, rfl, rfl, ho, ints_of_wellAll ns _ hall, hlen⟩

theorem post_true (l : OpenLaw) (args : List WData) : l.row.toRowW.claim.post args (.bool true) args = true :=
  postW_of (r := l.row.toRowW) (X := (true == true))
    (show WShape.has [] (.bool true) .bool = true by first | rfl | decide | simp [WShape.has, WShape.arms, WShape.armsAll])
    (show (WTm.eq .res (.lit (.bool true))).value [] { args := args, res := some (.bool true), after := args } = some (.bool (true == true)) from w_eq_bool (w_res rfl) w_lit) rfl

theorem attach_call {l : OpenLaw} {n : Nat} {q : Program} {loose : List Str} {XP : (Str → Option Value) → Heap → Prop} {YP : World → Heap → Prop} {d : DefRec}
    (hn : l.most = some n) (hdf : d.params.defaults = [])
    (call : ∀ (w : World) (s₀ s₁ : Shared) (mg mb : Str → Option Value) (fa : Addr) (o : Obj) (pm cd doc : Value) (a : Addr) (vs : List Value) (ns : List Int),
      Ground q loose [] XP w s₀ mg mb s₁.heap → YP w s₁.heap →
      s₁.heap.get? fa = some o → o.data = .func (docDef d.name d.params d.body d.scope pm cd doc) → s₁.heap.CodeRec cd d.name → mg d.name = some (.ref fa) →
      s₁.heap.get? a = some { cls := .type "list", data := .seq vs.toArray } → IntsAre vs ns → ns.length ≤ n → s₁.gens = #[] →
      codeAny (model l.prog w) callerA (.call (.ref fa) ⟨[.ref a], []⟩) (fun r s' => r = .ok (.ret (.bool true)) ∧ OldK s₁.heap s'.heap ∧ s'.os = s₁.os ∧ AllBare s'.gens) s₁) :
    WalkO q loose XP YP l.row.toRowW d [] (fun f vs => PySem.call f vs) := by
  intro w s₀ s₁ mg mb G Y fa o pm cd doc dV kV ho hd hcd hD hmg hg args vals as hpre hlay hrd hwl hlo
  obtain rfl : dV = .none := Dflts.none hD hdf
  obtain rfl : kV = .none := Dflts.noKw hD
  obtain ⟨a, vs, ns, rfl, rfl, hobj, hints, hlen⟩ := script_of hn hpre hwl
  refine enter_call (codeAny_mono (call w s₀ s₁ mg mb fa o pm cd doc a vs ns G Y ho (fd_plain hd) hcd hmg hobj hints hlen hg) fun r s' hq => ?_)
  obtain ⟨rfl, h2, h3, h4⟩ := hq
  exact ⟨.inl ⟨.bool true, .bool true, [], rfl, fun _ => rfl, .bool true, post_true l _, fun _ => ⟨List.Pairwise.nil, fun _ hm => (nomatch hm)⟩⟩, h2, h3, h4⟩

section
variable {prog : Program} {w : World} {A : Around} {E : Value → Shared → Prop} {s : Shared} {K : Frag}

end
end Att

namespace L2
open PySem PySem.Spec PyProof.Rows

theorem vals_ints : ∀ {vs : List Value} {ns : List Int}, IntsAre vs ns → Vals (ns.map V.int) vs
  | _, _, .nil => .nil
  | _, _, .cons n t h => .cons ⟨t, rfl⟩ (vals_ints h)

noncomputable def Only (H : Hp) : Prop := ∀ b, H b = none ∨ ∃ o xs, H b = some (.frz o (.lst xs))

theorem law_call {P : Program} {w : World} {K : PySem.W.Frag} {mg mb : Str → Option Value} {CX : CXT} {k : Nat} {fa a : Addr} {fd : FuncData} {x : Str} {sp : Sp} {s₁ : Shared} {vs : List Value} {ns : List Int}
    (KX : K.In s₁.heap) (hns : s₁.heap.Ns mainGlobals mg) (hb : s₁.heap.Ns builtinsNs mb) (hbb : ∀ x : Str, x ≠ "__name__" → mb x = bootBuiltins x) (hlim : s₁.heap.NoLimit) (hg : s₁.gens = #[])
    (ha : s₁.heap.get? a = some { cls := .type "list", data := .seq vs.toArray }) (hi : IntsAre vs ns) (hl : ns.length ≤ sizeLine) (hr : Room k callerA)
    (F : ∀ base : Heap, K.In base → base.Ns mainGlobals mg → FnOk P w K mg base CX k fa fd [x] sp) (hbind : ∀ (s : Shared) (u : Value), BindsTo s fd ⟨[u], []⟩ [(x, u)])
    (hsp : ∀ H : Hp, Only H → SqL K H a (ns.map V.int) → sp [.ref a] H (fun v _ => v = .bl true) fun _ _ _ => False)
    (hCX : ∀ H e s', CX [] H s₁ (fun _ _ _ => False) e s' → False) :
    codeAny (model P w) callerA (.call (.ref fa) ⟨[.ref a], []⟩) (fun r s' => r = .ok (.ret (.bool true)) ∧ OldK s₁.heap s'.heap ∧ s'.os = s₁.os ∧ AllBare s'.gens) s₁ := by
  have rv := vals_ints hi
  have lenV := hi.length
  -- from an abstract heap in which nothing but the script may be tracked
  have core : ∀ H : Hp, Only H → SqL K H a (ns.map V.int) → HOk P w H s₁.heap → (∀ b, H b ≠ none → b = a) → (H a ≠ none → K.lookup a = none) →
      codeAny (model P w) callerA (.call (.ref fa) ⟨[.ref a], []⟩) (fun r s' => r = .ok (.ret (.bool true)) ∧ OldK s₁.heap s'.heap ∧ s'.os = s₁.os ∧ AllBare s'.gens) s₁ := by
    intro H hO hS hok hA hK
    have base_of : ∀ {b : Addr} {o : Obj}, s₁.heap.get? b = some o → H b = none → (hidT s₁.heap H).get? b = some o := fun e n => hidT_get e n
    have noA : ∀ {b : Addr} {o : Obj} {es : Array DictEntry} {ep : Nat}, s₁.heap.get? b = some o → o.data = .dict es ep → H b = none := fun {b o es ep} e d => by
      cases q : H b with
      | none => rfl
      | some u =>
        have e' : b = a := hA b (by rw [q]; simp)
        subst e'
        rw [ha] at e; cases e
        have d' : Data.seq vs.toArray _ = Data.dict es ep := d
        cases d'
    have nsK : ∀ {b : Addr} {m : Str → Option Value}, s₁.heap.Ns b m → (hidT s₁.heap H).Ns b m := fun {b m} ⟨o, es, ep, e, d, r⟩ => ⟨o, es, ep, base_of e (noA e d), d, r⟩
    have hKb : K.In (hidT s₁.heap H) := fun b o e => base_of (KX b o e) (by
      cases q : H b with
      | none => rfl
      | some u =>
        have e' : b = a := hA b (by rw [q]; simp)
        subst e'
        rw [hK (by rw [q]; simp)] at e; cases e)
    have hM : Mod K mg (hidT s₁.heap H) := ⟨hKb, nsK hns, ⟨mb, nsK hb, hbb⟩, let ⟨mc, h1, h2⟩ := hlim; ⟨mc, nsK h1, h2⟩⟩
    have e0 : Env0 P w K mg (hidT s₁.heap H) callerA [] s₁ H := ⟨rfl, hM, fun b o e => of_hidT e, Nat.le_of_eq (hidT_size _ _), trivial, fun b hb => absurd (show b ∈ ([] : List Addr) from hb) (by simp), hok, .of_eq hg⟩
    refine codeAny_mono ((F _ hKb (nsK hns)).run callerA [] s₁ H ⟨[.ref a], []⟩ [.ref a] [.ref a] _ _ hr e0 (hbind s₁ (.ref a)) (.cons rfl .nil) (hsp H hO hS)) fun r s' h => ?_
    cases r with
    | error e => exact (hCX H e s' h).elim
    | ok fl =>
      cases fl with
      | next => exact False.elim h
      | brk => exact False.elim h
      | cont => exact False.elim h
      | ret u =>
        obtain ⟨v, H', os, bare, un, hok', r', q⟩ := h
        have q' : v = .bl true := q
        subst q'
        obtain rfl : u = Value.bool true := r'
        refine ⟨rfl, OldK.of_keep fun b o e => ?_, os, bare⟩
        cases q : H b with
        | none => exact un.keep b o e q (by intro z; exact absurd (show b ∈ ([] : List Addr) from z) (by simp)) (by simp)
        | some u =>
          rcases hO b with z | ⟨ob, xs, z⟩
          · rw [q] at z; cases z
          · have z2 := un.frzs b ob _ z
            obtain ⟨e1, _⟩ := hok b _ z
            obtain ⟨e2, _⟩ := hok' b _ z2
            rw [e] at e1; cases e1
            exact e2
  cases hk : K.lookup a with
  | some o =>
    -- the script is one of the module's own objects
    have e := KX a o hk
    rw [ha] at e
    cases e
    refine core (fun _ => none) (fun _ => .inl rfl) (.inr ⟨_, vs.toArray, _, hk, rfl, rfl, rfl, by rw [List.size_toArray, lenV]; exact hl, by simpa using rv⟩) (fun b u z => by have z' : (none : Option HO) = some u := z; cases z') (fun b z => absurd rfl z) fun z => absurd rfl z
  | none =>
    refine core (fun b => if b = a then some (.frz { cls := .type "list", data := .seq vs.toArray } (.lst (ns.map V.int))) else none) (fun b => ?_) (.inl (.inr ⟨{ cls := .type "list", data := .seq vs.toArray }, if_pos rfl⟩)) (fun b u z => ?_) (fun b z => ?_) fun _ => hk
    · by_cases hb : b = a
      · exact .inr ⟨_, _, if_pos hb⟩
      · exact .inl (if_neg hb)
    · by_cases hb : b = a
      · have z' := (if_pos hb).symm.trans z
        cases z'
        subst hb
        exact ⟨ha, by rw [List.length_map]; exact hl, vs, _, rv, ha⟩
      · have z' := (if_neg hb).symm.trans z
        cases z'
    · by_cases hb : b = a
      · exact hb
      · exact absurd (if_neg hb) z
end L2

namespace L2
open PySem PySem.Spec PyProof.Rows

theorem walk_of {l : PySem.W.OpenLaw} {n k : Nat} {q : Program} {loose : List Str} {XP : (Str → Option Value) → Heap → Prop} {YP : World → Heap → Prop} {d : DefRec} {K : Params → PySem.W.Frag} {CX : World → CXT} {sp : World → Sp} {x : Str}
    (hn : l.most = some n) (hn2 : n ≤ sizeLine) (hdf : d.params.defaults = []) (hr : Room k callerA)
    (hY : ∀ (w : World) (h : Heap), YP w h → (K w.params).In h)
    (F : ∀ (w : World) (mg : Str → Option Value) (fa : Addr) (h : Heap), (K w.params).In h → h.Ns mainGlobals mg → mg d.name = some (.ref fa) →
      ∃ fd : FuncData, (∀ (s : Shared) (u : Value), BindsTo s fd ⟨[u], []⟩ [(x, u)]) ∧
        ∀ base : Heap, (K w.params).In base → base.Ns mainGlobals mg → FnOk l.prog w (K w.params) mg base (CX w) k fa fd [x] (sp w))
    (hsp : ∀ (w : World) (H : Hp) (a : Addr) (ns : List Int), ns.length ≤ n → Only H → SqL (K w.params) H a (ns.map V.int) → sp w [.ref a] H (fun v _ => v = .bl true) fun _ _ _ => False)
    (hCX : ∀ (w : World) (H : Hp) (s : Shared) (e : Value) (s' : Shared), CX w [] H s (fun _ _ _ => False) e s' → False) :
    PySem.W.WalkO q loose XP YP l.row.toRowW d [] (fun f vs => PySem.call f vs) := by
  refine Att.attach_call hn hdf fun w s₀ s₁ mg mb fa o pm cd doc a vs ns G Y ho hd hcd hmg hobj hints hlen hg => ?_
  have KX := hY w _ Y
  obtain ⟨fd, hb, hF⟩ := F w mg fa _ KX G.T.g hmg
  exact law_call KX G.T.g G.T.b G.T.builtins G.T.nolimit hg hobj hints (Nat.le_trans hlen hn2) hr hF hb (fun H hO hS => hsp w H a ns hlen hO hS) fun H e s' => hCX w H s₁ e s'
end L2

namespace L2
open PySem PySem.Spec PyProof.Rows

noncomputable def inClass (s : Stmt) (j : Nat) : Stmt := match s with
  | .ClassDef _ _ _ body _ _ _ _ _ _ _ => body.getD j (.Pass ⟨0, 0, 0, 0⟩)
  | _ => .Pass ⟨0, 0, 0, 0⟩
noncomputable def defArgs (s : Stmt) : Arguments := match s with
  | .FunctionDef _ a _ _ _ _ _ _ _ _ => a
  | _ => { posonlyargs := [], args := [], vararg := none, kwonlyargs := [], kw_defaults := [], kwarg := none, defaults := [] }
noncomputable def defBody (s : Stmt) : List Stmt := match s with
  | .FunctionDef _ _ b _ _ _ _ _ _ _ => b
  | _ => []
noncomputable def defScope (s : Stmt) : Scope := match s with
  | .FunctionDef _ _ _ _ _ _ sc _ _ _ => sc
  | _ => { kind := .function, names := [], isGenerator := false, isCoroutine := false }

noncomputable abbrev CX0 : CXT := fun _ _ _ _ _ _ => False
noncomputable abbrev E0 : XK := fun _ _ _ => False
theorem pass0 {X : Cx} : Passes CX0 X E0 := fun _ _ _ _ _ _ _ h => h.elim

structure Fun (K : PySem.W.Frag) (x qual : Str) (st : Stmt) (f : Addr) (fd : FuncData) : Prop where
  ex : ∃ (oc : Value) (od : Option Addr) (kV doc pm : Value) (an : Option Addr) (cdv ct : Value) (osl : Array (Option Value)),
    fd = PySem.W.fnOf x qual (defArgs st) (defBody st) (defScope st) .none kV doc pm an cdv ct ∧ K.lookup f = some ⟨oc, od, .func fd, osl⟩ ∧ PySem.W.codeIn K cdv qual = true
  kp : PySem.W.keepIn K (.ref f) = true
section
variable {P : Program} {w : World} {K : PySem.W.Frag} {mg : Str → Option Value} {base : Heap}
theorem Fun.ok {x qual : Str} {st : Stmt} {f : Addr} {fd : FuncData} {N ps : List Str} {k : Nat} {sp : Sp} (F : Fun K x qual st f fd) (S : FnScope N ps (defScope st)) (len : ∀ vs H Q E, sp vs H Q E → vs.length = ps.length)
    (hbody : ∀ (cdv : Value) (A : Around) (outer : List Env) (s : Shared) (H : Hp) (vs : List V) (Q : VK) (E : XK), Room k (A.deeper (envOfC qual (defScope st) s.heap.objs.size f cdv)) → sp vs H Q E →
      ∃ t, PSs (cxOf CX0 P w K mg base N qual (defScope st) f cdv A outer s H E).nox (defBody st) t ∧ t { nx := fun _ H' => Q .non H', rt := Q } (start N vs) H) : FnOk P w K mg base CX0 (k + 1) f fd ps sp := by
  obtain ⟨oc, od, kV, doc, pm, an, cdv, ct, osl, rfl, lk, hcd⟩ := F.ex
  refine fn_of lk hcd S len fun A outer s H vs Q E hr hsp => ?_
  obtain ⟨t, h, q⟩ := hbody cdv A outer s H vs Q E hr hsp
  exact ⟨t, h.nox, q⟩
theorem Fun.binds {x qual : Str} {st : Stmt} {f : Addr} {fd : FuncData} {ps : List Str} (F : Fun K x qual st f fd)
    (h : ∀ (kV doc pm : Value) (an : Option Addr) (cdv ct : Value) (us : List Value), us.length = ps.length → bindArgs (PySem.W.fnOf x qual (defArgs st) (defBody st) (defScope st) .none kV doc pm an cdv ct) ⟨us, []⟩ = pure (ps.zip us)) : Binds K fd ps [] := by
  obtain ⟨oc, od, kV, doc, pm, an, cdv, ct, osl, rfl, lk, hcd⟩ := F.ex
  exact .all (h kV doc pm an cdv ct)
theorem fun_mk {x qual : Str} {st : Stmt} {f : Addr} {oc : Value} {od an : Option Addr} {osl : Array (Option Value)} {kV doc pm cdv ct : Value} (l : K.lookup f = some ⟨oc, od, .func (PySem.W.fnOf x qual (defArgs st) (defBody st) (defScope st) .none kV doc pm an cdv ct), osl⟩)
    (c : PySem.W.codeIn K cdv qual = true) (k : PySem.W.keepIn K (.ref f) = true) : Fun K x qual st f (PySem.W.fnOf x qual (defArgs st) (defBody st) (defScope st) .none kV doc pm an cdv ct) := ⟨⟨oc, od, kV, doc, pm, an, cdv, ct, osl, rfl, l, c⟩, k⟩
end
theorem hu_of {A : Around} {k : Nat} (hr : Room k A) : A.units + 1 < cLine := Nat.lt_of_le_of_lt (Nat.add_le_add_left (by decide : 1 ≤ 64) _) hr.units
section
variable {X : Cx}
theorem pv (i : Nat) {x : Str} {pos : Pos} (hN : X.N[i]? = some x := by rfl) (hv : Vis X.env.scope x := by first | exact Or.inl rfl | exact Or.inr (Or.inl rfl) | exact Or.inr (Or.inr rfl)) (hd : (x == ("__debug__" : Str)) = false := by decide)
    (hcd : (x == ("__classdict__" : Str)) = false := by decide) : PE X (.Name x pos) (tVar i) := pe_var hN hv hd hcd
end

theorem iteF {A B : Prop} (h : B) : if false = true then A else B := by
  rw [if_neg Bool.false_ne_true]
  exact h
theorem iteT {A B : Prop} (h : A) : if true = true then A else B := by
  rw [if_pos rfl]
  exact h
noncomputable def Same (H H' : Hp) : Prop := ∀ b o, H b = some o → H' b = some o
theorem Same.refl (H : Hp) : Same H H := fun _ _ h => h
theorem Same.trans {H H1 H2 : Hp} (a : Same H H1) (b : Same H1 H2) : Same H H2 := fun c o h => b c o (a c o h)
theorem Same.free {H H' : Hp} (e : Same H H') {l : Addr} (h : H' l = Option.none) : H l = Option.none := by
  cases q : H l with
  | none => rfl
  | some o =>
    rw [e l o q] at h
    cases h
theorem Same.seq {K : PySem.W.Frag} {H H' : Hp} {a : Addr} {xs : List V} (e : Same H H') (h : SqL K H a xs) : SqL K H' a xs := by
  rcases h with (h | ⟨o, h⟩) | h
  · exact .inl (.inl (e _ _ h))
  · exact .inl (.inr ⟨o, e _ _ h⟩)
  · exact .inr h

end L2

set_option Elab.async false
set_option linter.all false
set_option maxRecDepth 100000
namespace L2
open PySem PySem.Spec PyProof.Rows
noncomputable def closL (scope : Scope) (env : Env) : List (Str × Addr) :=
  scope.names.foldl (fun acc y => if y.2 == .free then (match env.cells.lookup y.1 with | some c => (y.1, c) :: acc | none => acc) else acc) []
theorem closFor_aux {env : Env} : ∀ (names : List (Str × NameKind)) (acc : List (Str × Addr)), (∀ y ∈ names, y.2 = .free → ∃ c, env.cells.lookup y.1 = some c) →
    (forIn names acc fun (y : Str × NameKind) (r : List (Str × Addr)) => (match y with | (name, kind) => if (kind == NameKind.free) = true then (do let a ← cellOf env name; pure (ForInStep.yield ((name, a) :: r))) else pure (ForInStep.yield r) : Sem (ForInStep (List (Str × Addr))))) =
      pure (names.foldl (fun acc y => if y.2 == .free then (match env.cells.lookup y.1 with | some c => (y.1, c) :: acc | none => acc) else acc) acc)
  | [], acc, _ => rfl
  | (n, k) :: r, acc, h => by
    rw [List.forIn_cons, List.foldl_cons]
    have ih := fun acc => closFor_aux (env := env) r acc fun y hy => h y (List.mem_cons_of_mem _ hy)
    by_cases hk : k = .free
    · subst hk
      obtain ⟨c, e⟩ := h (n, .free) List.mem_cons_self rfl
      have e' : env.cells.lookup n = some c := e
      simp only [cellOf, e', beq_self_eq_true, if_true]
      exact ih _
    · have hb : (k == NameKind.free) = false := by simpa using hk
      simp only [hb, Bool.false_eq_true, if_false]
      exact ih _
theorem closFor {scope : Scope} {env : Env} (h : ∀ y ∈ scope.names, y.2 = .free → ∃ c, env.cells.lookup y.1 = some c) : closureFor scope env = pure (closL scope env) := by
  have e := closFor_aux (env := env) scope.names [] h
  unfold closureFor closL
  rw [← e]
  first | rfl | simp
theorem closL_aux {env : Env} {x : Str} {c : Addr} : ∀ (names : List (Str × NameKind)) (acc : List (Str × Addr)), (∀ z d, acc.lookup z = some d → env.cells.lookup z = some d) →
    (names.foldl (fun acc y => if y.2 == .free then (match env.cells.lookup y.1 with | some c => (y.1, c) :: acc | none => acc) else acc) acc).lookup x = some c → env.cells.lookup x = some c
  | [], acc, h, e => h x c e
  | (n, k) :: r, acc, h, e => by
    rw [List.foldl_cons] at e
    refine closL_aux r _ ?_ e
    intro z d q
    by_cases hk : (k == NameKind.free) = true
    · simp only [hk, if_true] at q
      cases el : env.cells.lookup n with
      | none => simp only [el] at q; exact h z d q
      | some a =>
        simp only [el, List.lookup_cons] at q
        by_cases hz : (z == n) = true
        · simp only [hz] at q
          have : z = n := by simpa using hz
          subst this
          rw [el]; exact q
        · have hz' : (z == n) = false := by simpa using hz
          simp only [hz'] at q
          exact h z d q
    · simp only [hk, if_false] at q
      exact h z d q
theorem closL_sub {scope : Scope} {env : Env} {x : Str} {c : Addr} (e : (closL scope env).lookup x = some c) : env.cells.lookup x = some c := closL_aux _ _ (fun _ _ q => by simp at q) e
theorem closL_has_aux {env : Env} {x : Str} : ∀ (names : List (Str × NameKind)) (acc : List (Str × Addr)), (∀ y ∈ names, y.2 = .free → ∃ c, env.cells.lookup y.1 = some c) → ((x, NameKind.free) ∈ names ∨ (acc.lookup x).isSome = true) →
    ((names.foldl (fun acc y => if y.2 == .free then (match env.cells.lookup y.1 with | some c => (y.1, c) :: acc | none => acc) else acc) acc).lookup x).isSome = true
  | [], acc, _, h => by
    rcases h with h | h
    · cases h
    · exact h
  | (n, k) :: r, acc, hc, h => by
    rw [List.foldl_cons]
    refine closL_has_aux r _ (fun y hy => hc y (List.mem_cons_of_mem _ hy)) ?_
    rcases h with h | h
    · rcases List.mem_cons.mp h with h | h
      · cases h
        obtain ⟨c, e⟩ := hc (x, .free) List.mem_cons_self rfl
        have e' : env.cells.lookup x = some c := e
        right
        simp [e', List.lookup_cons]
      · exact .inl h
    · right
      by_cases hk : (k == NameKind.free) = true
      · simp only [hk, if_true]
        cases el : env.cells.lookup n with
        | none => exact h
        | some a =>
          simp only [List.lookup_cons]
          by_cases hz : (x == n) = true
          · simp [hz]
          · have hz' : (x == n) = false := by simpa using hz
            simp only [hz']; exact h
      · simp only [hk]; exact h
theorem closL_has {scope : Scope} {env : Env} {x : Str} (hc : ∀ y ∈ scope.names, y.2 = .free → ∃ c, env.cells.lookup y.1 = some c) (h : (x, NameKind.free) ∈ scope.names) : ∃ c, (closL scope env).lookup x = some c :=
  Option.isSome_iff_exists.mp (closL_has_aux _ _ hc (.inl h))

noncomputable def compOk (sc inn : Scope) (N : List Str) (js : List Nat) (cs : List Str) : Bool :=
  (inn.kind == .function) && inn.names.all (fun y => y.2 != .cell && (y.2 != .local || inn.names.lookup y.1 == some .local) && (y.2 != .free || (sc.names.lookup y.1 == some .cell || sc.names.lookup y.1 == some .free))) &&
  (js.map fun j => N[j]?) == cs.map some && cs.all (fun x => inn.names.lookup x == some .free)
structure CompOk (sc inn : Scope) (N : List Str) (js : List Nat) (cs : List Str) : Prop where
  kind : inn.kind = .function
  nocell : ∀ y ∈ inn.names, y.2 ≠ .cell
  names : ∀ y ∈ inn.names, y.2 = .local → inn.names.lookup y.1 = some .local
  frees : ∀ y ∈ inn.names, y.2 = .free → sc.names.lookup y.1 = some .cell ∨ sc.names.lookup y.1 = some .free
  slots : (js.map fun j => N[j]?) = cs.map some
  caps : ∀ x ∈ cs, inn.names.lookup x = some .free
theorem CompOk.of {sc inn : Scope} {N : List Str} {js : List Nat} {cs : List Str} (h : compOk sc inn N js cs = true) : CompOk sc inn N js cs := by
  unfold compOk at h
  simp only [Bool.and_eq_true] at h
  obtain ⟨⟨⟨h1, h2⟩, h3⟩, h4⟩ := h
  rw [List.all_eq_true] at h2 h4
  refine ⟨by simpa using h1, fun y hy => ?_, fun y hy e => ?_, fun y hy e => ?_, by simpa using h3, fun x hx => by simpa using h4 x hx⟩
  · have := h2 y hy
    simp only [Bool.and_eq_true] at this
    simpa using this.1.1
  · have := h2 y hy
    simp only [Bool.and_eq_true, e] at this
    simpa using this.1.2
  · have := h2 y hy
    simp only [Bool.and_eq_true, e] at this
    simpa using this.2

noncomputable def sIn (nt : Nat) (js : List Nat) (σ : St) : St := List.replicate nt none ++ js.map fun j => (σ[j]?).join
noncomputable def cxIn (X : Cx) (inn : Scope) (N' : List Str) (s₀ : Shared) (H₀ : Hp) (ex : List Addr) : Cx where
  prog := X.prog
  w := X.w
  K := X.K
  mg := X.mg
  base := X.base
  A := X.A
  N := N'
  s₀ := s₀
  H₀ := H₀
  env := compEnvC inn (closL inn X.env) s₀.heap.objs.size X.env
  outer := X.stack
  stack := X.stack
  ex := ex
  fn := fun _ => false
  calm := X.calm
  pn := []
  xe := fun _ _ => False

noncomputable def PIf (X : Cx) (ifs : List Expr) (t : TT) : Prop :=
  ∀ (pins : List (Addr × Obj)) (s : Shared) (σ : St) (H : Hp) (Q : Bool → Hp → Prop), Inv X pins σ H s → t σ H Q →
    wpAny (model X.prog X.w) X.A (forIn ifs true fun c r => if r = true then do let ok ← isTrue c X.env (eval c X.env); pure (ForInStep.yield ok) else pure (ForInStep.yield r)) (TP X pins σ Q) X.xe s
noncomputable def tYes : TT := fun _ H Q => Q true H
theorem pif_nil {X : Cx} : PIf X [] tYes := fun _ _ _ H _ I h => wpAny_tests_nil ⟨H, I, h⟩
noncomputable def CompR (J : It) (σ0 : St) (g : TG) (tt : TT) (te : TE) (Q : VK) (H1 : Hp) : Prop := ∃ W : Nat → Nat → List V → Hp → Prop, (∃ m, W 0 m [] H1) ∧ ∀ i m ys H, W i m ys H →
  ys.length < sizeLine ∧ ((J.stop i H ∧ ∀ D, H D = none → Q (.ref D) (upd H D (.lst ys))) ∨
    (J.go i H ∧ ∃ N : List V → Hp → Prop, (∀ ys' H', N ys' H' → ∃ m', m' < m ∧ W (i + 1) m' ys' H') ∧ ∀ x H', J.yld i H x H' → g x σ0 H' fun σ2 H2 => tt σ2 H2 fun b H3 =>
      if b = true then te σ2 H3 fun y H4 => N (ys ++ [y]) H4 else N ys H3))
noncomputable def tComp (wi : TI) (nt : Nat) (js : List Nat) (g : TG) (tt : TT) (te : TE) : TE := fun σ H Q => wi σ H fun J H1 => CompR J (sIn nt js σ) g tt te Q H1
end L2

set_option Elab.async false
set_option linter.all false
set_option maxRecDepth 100000
set_option maxHeartbeats 4000000
namespace L2
open PySem PySem.Spec PyProof.Rows
theorem lookup_relabel_free {env : Env} : ∀ {names : List (Str × NameKind)} {x : Str}, names.lookup x = some .free →
    (names.map fun (n, k) => if (k == NameKind.free && env.scope.kind == .function && env.kindOf n == some .cell) then (n, NameKind.cell) else (n, k)).lookup x = some .cell ∨
    (names.map fun (n, k) => if (k == NameKind.free && env.scope.kind == .function && env.kindOf n == some .cell) then (n, NameKind.cell) else (n, k)).lookup x = some .free
  | [], _, h => by simp at h
  | (n, k) :: r, x, h => by
    have ih := @lookup_relabel_free env r x
    show List.lookup x ((if (k == NameKind.free && env.scope.kind == .function && env.kindOf n == some .cell) = true then (n, NameKind.cell) else (n, k)) :: _) = _ ∨ List.lookup x ((if (k == NameKind.free && env.scope.kind == .function && env.kindOf n == some .cell) = true then (n, NameKind.cell) else (n, k)) :: _) = _
    cases hx : x == n with
    | true =>
      simp only [List.lookup_cons, hx] at h
      cases h
      by_cases hc : (NameKind.free == NameKind.free && env.scope.kind == .function && env.kindOf n == some .cell) = true
      · left; rw [if_pos hc]; simp [List.lookup_cons, hx]
      · right; rw [if_neg hc]; simp [List.lookup_cons, hx]
    | false =>
      simp only [List.lookup_cons, hx] at h
      by_cases hc : (k == NameKind.free && env.scope.kind == .function && env.kindOf n == some .cell) = true
      · rw [if_pos hc]; simp only [List.lookup_cons, hx]; exact ih h
      · rw [if_neg hc]; simp only [List.lookup_cons, hx]; exact ih h
theorem relabel_cf_mem {env : Env} : ∀ {names : List (Str × NameKind)} {x : Str}, (∀ y ∈ names, y.2 ≠ NameKind.cell) →
    ((names.map fun (n, k) => if (k == NameKind.free && env.scope.kind == .function && env.kindOf n == some .cell) then (n, NameKind.cell) else (n, k)).lookup x = some .cell ∨
    (names.map fun (n, k) => if (k == NameKind.free && env.scope.kind == .function && env.kindOf n == some .cell) then (n, NameKind.cell) else (n, k)).lookup x = some .free) → (x, NameKind.free) ∈ names
  | [], _, _, h => by simp at h
  | (n, k) :: r, x, hn, h => by
    have ih := @relabel_cf_mem env r x (fun y hy => hn y (List.mem_cons_of_mem _ hy))
    have hk := hn (n, k) List.mem_cons_self
    rw [List.map_cons] at h
    cases hx : x == n with
    | true =>
      have e : x = n := by simpa using hx
      subst e
      by_cases hc : (k == NameKind.free && env.scope.kind == .function && env.kindOf x == some .cell) = true
      · have : k = .free := by simp only [Bool.and_eq_true] at hc; simpa using hc.1.1
        subst this
        exact List.mem_cons_self
      · simp only [if_neg hc, List.lookup_cons, hx] at h
        rcases h with h | h
        · cases h; exact absurd rfl hk
        · cases h; exact List.mem_cons_self
    | false =>
      refine List.mem_cons_of_mem _ (ih ?_)
      by_cases hc : (k == NameKind.free && env.scope.kind == .function && env.kindOf n == some .cell) = true
      · simp only [if_pos hc, List.lookup_cons, hx] at h; exact h
      · simp only [if_neg hc, List.lookup_cons, hx] at h; exact h

section
variable {X : Cx} {pins : List (Addr × Obj)} {σ : St} {H H' : Hp} {s : Shared} {inn : Scope} {js : List Nat} {cs ts : List Str} {nt : Nat}

theorem sIn_get {i : Nat} {v : V} (h : (sIn nt js σ)[i]? = some (some v)) : nt ≤ i ∧ ∃ j, js[i - nt]? = some j ∧ σ[j]? = some (some v) := by
  unfold sIn at h
  by_cases hi : i < nt
  · rw [List.getElem?_append_left (by simpa using hi), List.getElem?_replicate] at h
    split at h <;> cases h
  · rw [List.getElem?_append_right (by simpa using hi), List.length_replicate, List.getElem?_map] at h
    refine ⟨by omega, ?_⟩
    cases e : js[i - nt]? with
    | none => rw [e] at h; cases h
    | some j =>
      rw [e] at h
      have h' : (σ[j]?).join = some v := Option.some.inj h
      refine ⟨j, rfl, ?_⟩
      cases q : σ[j]? with
      | none => rw [q] at h'; cases h'
      | some o =>
        rw [q] at h'
        have h'' : o = some v := h'
        rw [h'']

theorem in_ok {ex : List Addr} (I : Inv X pins σ H s) (O : CompOk X.env.scope inn X.N js cs) (hex : ∀ b ∈ ex, b < s.heap.objs.size ∧ b ≠ X.env.locals ∧ b ∉ X.fs ∧ (∀ x c, X.env.cells.lookup x = some c → c ≠ b) ∧ ∀ o, X.base.get? b ≠ some o) :
    (cxIn X inn (ts ++ cs) s H ex).Ok where
  mod := I.ok.mod
  kind := O.kind
  glob := I.ok.glob
  blt := I.ok.blt
  above := Nat.le_refl _
  inj := fun x y c h1 h2 => I.ok.inj x y c (closL_sub h1) (closL_sub h2)
  has := fun x hx => by
    have hm : (x, NameKind.free) ∈ inn.names := relabel_cf_mem O.nocell hx
    exact closL_has (fun y hy e => I.ok.has y.1 (O.frees y hy e)) hm
  cab := fun _ _ h => absurd h (by show ¬ (false = true); decide)
  hd := I.ok.hd
  frames := I.ok.frames
  stk := .inl rfl
  exf := fun b hb => ⟨Nat.ne_of_lt (hex b hb).1, fun x c e => (hex b hb).2.2.2.1 x c (closL_sub e)⟩
  bs := I.bs
  bsz := Nat.le_trans I.ok.bsz I.sz
  noex := fun b o e hb => (hex b hb).2.2.2.2 o e
  exfs := fun b hb hs => by
    rcases List.mem_cons.mp (I.stkSub b hs) with e | e
    · exact (hex b hb).2.1 e
    · exact (hex b hb).2.2.1 e
  funs := I.stack
  frf := I.stkFree

theorem in_inv {ex : List Addr} {h' : Heap} {tk : Nat} (hts : ts.length = nt) (I : Inv X pins σ H s) (O : CompOk X.env.scope inn X.N js cs) (hex : ∀ b ∈ ex, b < s.heap.objs.size ∧ b ≠ X.env.locals ∧ b ∉ X.fs ∧ (∀ x c, X.env.cells.lookup x = some c → c ≠ b) ∧ ∀ o, X.base.get? b ≠ some o)
    (hn : ∃ m, h'.Ns s.heap.objs.size m) (hk : ∀ b o, s.heap.get? b = some o → h'.get? b = some o) :
    Inv (cxIn X inn (ts ++ cs) s H ex) [] (sIn nt js σ) H { s with heap := h', toks := tk } := by
  have ok : (cxIn X inn (ts ++ cs) s H ex).Ok := in_ok I O hex
  obtain ⟨m, hn⟩ := hn
  have cellK : ∀ c v, s.heap.IsCell c v → h'.IsCell c v := fun c v ⟨o, ho, hd⟩ => ⟨o, hk c o ho, hd⟩
  have hlen : js.length = cs.length := by have := congrArg List.length O.slots; simpa using this
  refine ⟨ok, rfl, I.bare, Un.kept hk, ⟨m, hn, fun i x v e1 e2 e3 => ?_⟩, fun x c e => ?_, I.hok.fresh (Nat.le_refl _), fun x c e => I.freeC x c (closL_sub e), fun p hp => ?_, I.hok.kept hk, ?_⟩
  · obtain ⟨hi, j, hj, hv⟩ := sIn_get e2
    have e1' : (ts ++ cs)[i]? = some x := e1
    rw [List.getElem?_append_right (by omega), hts] at e1'
    have hN : X.N[j]? = some x := by
      have q : (js.map fun j => X.N[j]?)[i - nt]? = (cs.map some)[i - nt]? := by rw [O.slots]
      rw [List.getElem?_map, List.getElem?_map, hj, e1'] at q
      exact Option.some.inj q
    have hcap := O.caps x (List.mem_of_getElem? e1')
    have hmem : (x, NameKind.free) ∈ inn.names := PySem.mem_of_lookup hcap
    have hout := O.frees _ hmem rfl
    obtain ⟨mo, hno, hl⟩ := I.loc
    obtain ⟨u, r, l⟩ := hl j x v hN hv (.inr hout)
    refine ⟨u, r, .inr ?_⟩
    rcases l with ⟨l1, _⟩ | ⟨k, c, ec, z⟩
    · have l1' : X.env.scope.names.lookup x = some .local := l1
      rcases hout with q | q <;> (rw [q] at l1'; cases l1')
    · refine ⟨?_, ?_⟩
      · exact lookup_relabel_free (env := X.env) hcap
      · obtain ⟨c', ec'⟩ := closL_has (env := X.env) (fun y hy e => I.ok.has y.1 (O.frees y hy e)) hmem
        have := closL_sub ec'
        rw [ec] at this; cases this
        exact ⟨c, ec', cellK _ _ z⟩
  · obtain ⟨v, z⟩ := I.cell x c (closL_sub e)
    exact ⟨v, cellK _ _ z⟩
  · exact absurd (show p ∈ ([] : List (Addr × Obj)) from hp) (by simp)
  · show (sIn nt js σ).length = (ts ++ cs).length
    unfold sIn
    simp [hts, hlen]

theorem Inv.track {a : Addr} {o : HO} (I : Inv X pins σ H s) (hn : H a = none) (h0 : X.s₀.heap.objs.size ≤ a) (hL : a ≠ X.env.locals) (hc : ∀ x c, X.env.cells.lookup x = some c → c ≠ a) (hp : ∀ p ∈ X.pn ++ pins, p.1 ≠ a)
    (new : ObjOk X.prog X.w (upd H a o) s.heap a o) : Inv X pins σ (upd H a o) s := by
  have ne0 : ∀ b ob, X.s₀.heap.get? b = some ob → b ≠ a := fun b ob e => Nat.ne_of_lt (Nat.lt_of_lt_of_le (Heap.lt_size e) h0)
  have neT : ∀ b u, H b = some u → b ≠ a := fun b u e => ne_of_none e hn
  refine ⟨I.ok, I.os, I.bare, ⟨I.base.keep, I.base.slot, fun b ob e n hx => ?_, I.base.there, fun b xs e => ?_, fun b ob u e => ?_, fun b ps e => ?_⟩, I.loc, I.cell, ?_, fun x c e => ?_, fun p hp' => ?_, fun b u e => ?_, I.len⟩
  · rw [upd_ne (ne0 b ob e)]; exact I.base.free b ob e n hx
  · have q := I.base.tups b xs e; rw [upd_ne (neT b _ q)]; exact q
  · have q := I.base.frzs b ob u e; rw [upd_ne (neT b _ q)]; exact q
  · obtain ⟨more, q⟩ := I.base.tbls b ps e; exact ⟨more, by rw [upd_ne (neT b _ q)]; exact q⟩
  · rw [upd_ne (Ne.symm hL)]; exact I.free
  · rw [upd_ne (hc x c e)]; exact I.freeC x c e
  · obtain ⟨q1, q2, q3, q4, q5⟩ := I.pin p hp'
    exact ⟨q1, by rw [upd_ne (hp p hp')]; exact q2, q3, q4, q5⟩
  · by_cases hb : b = a
    · subst hb; rw [upd_same] at e; cases e; exact new
    · rw [upd_ne hb] at e
      exact (I.hok b u e).stay (fun _ _ _ q => q) (fun c q => by rw [upd_ne (neT c _ q)]; exact q) fun c xs q => by rw [upd_ne (neT c _ q)]; exact q
end
end L2

set_option Elab.async false
set_option linter.all false
set_option maxRecDepth 100000
set_option maxHeartbeats 4000000
namespace L2
open PySem PySem.Spec PyProof.Rows
noncomputable def GK (nt : Nat) (g : TG) : Prop := ∀ v σ H Q, g v σ H Q → g v σ H fun σ' H' => ((∀ i, nt ≤ i → σ'[i]? = σ[i]?) ∧ σ'.length = σ.length) ∧ Q σ' H'
theorem kg_name {nt i : Nat} (h : i < nt) : GK nt (gName i) := fun v σ H Q q => ⟨⟨fun j hj => by rw [List.getElem?_set_ne (by omega)], by simp⟩, q⟩
section
variable {X : Cx} {pins : List (Addr × Obj)} {σ : St} {inn : Scope} {js : List Nat} {cs ts : List Str} {nt : Nat} {elt tg iter : Expr} {ifs : List Expr} {pos : Pos} {g : TG} {tt : TT} {te : TE}
theorem comp_core {J : It} {fp : List Addr} {it : Addr} {tn : Nat → Heap → Prop} {H2 : Hp} {s2 : Shared} {E : Value → Shared → Prop} {Q : VK} {RR : Value → Addr → Result → Shared → Prop}
    (hcalm : X.calm = true) (O : CompOk X.env.scope inn X.N js cs) (hts : ts.length = nt)
    (hg : ∀ s₀ H₀ ex, PG (cxIn X inn (ts ++ cs) s₀ H₀ ex) tg g) (hk : GK nt g) (ht : ∀ s₀ H₀ ex, PIf (cxIn X inn (ts ++ cs) s₀ H₀ ex) ifs tt) (he : ∀ s₀ H₀ ex, PE (cxIn X inn (ts ++ cs) s₀ H₀ ex) elt te)
    (I2 : Inv X pins σ H2 s2) (T : Turn X.prog X.w X.K tg J fp it tn) (st2 : tn 0 s2.heap) (f2 : ∀ b ∈ fp, FpOk X pins H2 b)
    (R : CompR J (sIn nt js σ) g tt te Q H2)
    (hRR : ∀ D C s' H', Inv X pins σ H' s' → (∃ m, s'.heap.Ns C m) → H' C = none → C ≠ X.env.locals → X.s₀.heap.objs.size ≤ C → (∀ x c, X.env.cells.lookup x = some c → c ≠ C) → (∀ p ∈ X.pn ++ pins, p.1 ≠ C) → Q (.ref D) H' → RR (.ref D) C (.ok .next) s') :
    wpAny (model X.prog X.w) X.A (newList []) (fun acc s₃ => wpAny (model X.prog X.w) X.A (newFunctionEnv inn X.env.globals (closL inn X.env) [] X.env.qual none .none (some X.env)) (fun cenv s₄ =>
      codeAny (model X.prog X.w) X.A (.compStart (.ListComp elt [⟨tg, iter, ifs, 0⟩] inn pos) 0 (.ref it) acc { cenv with scope := relabel inn X.env }) (RR acc cenv.locals) s₄) E s₃) E s2 := by
  refine wpAny_newObj_type (wpAny_newFunctionEnv O.nocell (by intro y hy; simp at hy) (fun h₁ hns₁ hsb₁ => ?_) O.kind)
  dsimp only at hns₁ hsb₁ ⊢
  generalize hD : s2.heap.objs.size = D
  have I3 : Inv X pins σ H2 { s2 with heap := s2.heap.push { cls := .type "list", dict := none, data := .seq ([] : List Value).toArray } } := I2.kept (t' := s2.toks) fun b o e => Heap.get?_push_of_some _ e
  generalize hs3 : ({ s2 with heap := s2.heap.push { cls := .type "list", dict := none, data := .seq ([] : List Value).toArray } } : Shared) = s3 at I3
  have e3 : s3.heap = s2.heap.push { cls := .type "list", dict := none, data := .seq ([] : List Value).toArray } := by rw [← hs3]
  have hD3 : s3.heap.get? D = some { cls := .type "list", dict := none, data := .seq ([] : List Value).toArray } := by rw [e3, ← hD]; exact Heap.get?_push_size _ rfl
  have hsz3 : s3.heap.objs.size = D + 1 := by rw [e3, Heap.size_push, hD]
  have e3' : (s2.heap.push { cls := .type "list", dict := none, data := .seq ([] : List Value).toArray }) = s3.heap := e3.symm
  rw [e3'] at hns₁ hsb₁ ⊢
  have fH2D : H2 D = none := I2.hok.fresh (by rw [hD]; exact Nat.le_refl _)
  have up : ∀ b o, s3.heap.get? b = some o → h₁.get? b = some o := fun b o e => hsb₁.extBut b o (Nat.ne_of_lt (Heap.lt_size e)) (Heap.get?_push_of_some _ e)
  -- what lies in ex
  have fpo : ∀ b ∈ fp, b < s3.heap.objs.size ∧ b ≠ D := fun b hb => by
    obtain ⟨o, eo, _⟩ := T.obj 0 _ st2 b hb
    have h1 := Heap.lt_size eo
    rw [hD] at h1
    exact ⟨by rw [hsz3]; exact Nat.lt_succ_of_lt h1, Nat.ne_of_lt h1⟩
  have nb : ∀ b, X.s₀.heap.objs.size ≤ b → ∀ o, X.base.get? b ≠ some o := fun b hb o e => absurd (Nat.lt_of_lt_of_le (Heap.lt_size e) (Nat.le_trans I2.ok.bsz hb)) (Nat.lt_irrefl _)
  have dge : s2.heap.objs.size ≤ D := by rw [hD]; exact Nat.le_refl _
  have fD : FpOk X pins H2 D := I2.fpOk dge fH2D
  have hex : ∀ b ∈ D :: fp, b < s3.heap.objs.size ∧ b ≠ X.env.locals ∧ b ∉ X.fs ∧ (∀ x c, X.env.cells.lookup x = some c → c ≠ b) ∧ ∀ o, X.base.get? b ≠ some o := fun b hb => by
    rcases List.mem_cons.mp hb with rfl | hb
    · exact ⟨by rw [hsz3]; exact Nat.lt_succ_self _, fD.2.1, fD.2.2.1, fD.2.2.2.2.1, nb _ (Nat.le_trans I2.sz dge)⟩
    · obtain ⟨f0, f1, f2', f3, f4, f5⟩ := f2 b hb
      refine ⟨(fpo b hb).1, f1, f2', f4, fun o e => ?_⟩
      rcases f3 with z | z
      · exact I2.ok.noex b o e z
      · exact nb b z o e
  have hC : s3.heap.objs.size = s3.heap.objs.size := rfl
  generalize hXi : cxIn X inn (ts ++ cs) s3 H2 (D :: fp) = Xi
  have I4 : Inv Xi [] (sIn nt js σ) H2 { s3 with heap := h₁, toks := s3.toks } := by
    rw [← hXi]; exact in_inv hts I3 O hex ⟨_, hns₁⟩ up
  have xp : Xi.prog = X.prog := by rw [← hXi]; rfl
  have xw : Xi.w = X.w := by rw [← hXi]; rfl
  have xK : Xi.K = X.K := by rw [← hXi]; rfl
  have xA : Xi.A = X.A := by rw [← hXi]; rfl
  have xc : Xi.calm = true := by rw [← hXi]; exact hcalm
  have xe : Xi.env = compEnvC inn (closL inn X.env) s3.heap.objs.size X.env := by rw [← hXi]; rfl
  have xx : Xi.xe = fun _ _ => False := by rw [← hXi]; rfl
  have xex : Xi.ex = D :: fp := by rw [← hXi]; rfl
  have xpn : Xi.pn = [] := by rw [← hXi]; rfl
  have xs0 : Xi.s₀ = s3 := by rw [← hXi]; rfl
  have xH0 : Xi.H₀ = H2 := by rw [← hXi]; rfl
  have xfs : Xi.fs = frs X.stack := by rw [← hXi]; rfl
  have hgX : PG Xi tg g := by rw [← hXi]; exact hg _ _ _
  have htX : PIf Xi ifs tt := by rw [← hXi]; exact ht _ _ _
  have heX : PE Xi elt te := by rw [← hXi]; exact he _ _ _
  have okX := I4.ok
  have xl : Xi.env.locals = s3.heap.objs.size := by rw [xe]; rfl
  have Dl : D ≠ Xi.env.locals := by rw [xl, hsz3]; exact Nat.ne_of_lt (Nat.lt_succ_self _)
  have stat : ∀ {H' : Hp} {pl : List (Addr × Obj)}, (∀ b ∈ fp, H' b = none) → (∀ p ∈ pl, p.1 = D) → ∀ b ∈ fp, FpOk Xi pl H' b := fun {H' pl} hn hpl b hb => by
    have hbx : b ∈ Xi.ex := by rw [xex]; exact List.mem_cons_of_mem _ hb
    refine ⟨hn b hb, (okX.exf b hbx).1, fun z => okX.exfs b hbx z, .inl hbx, (okX.exf b hbx).2, fun p hp => ?_⟩
    rw [xpn, List.nil_append] at hp
    rw [hpl p hp]
    exact Ne.symm (fpo b hb).2
  have DX : D ∈ Xi.ex := by rw [xex]; exact List.mem_cons_self
  obtain ⟨W, ⟨m0, w0⟩, turn⟩ := R
  have loop : codeAny (model X.prog X.w) X.A (.compLoop (.ListComp elt [⟨tg, iter, ifs, 0⟩] inn pos) 0 (.ref it) (.ref D) Xi.env) (RR (.ref D) s3.heap.objs.size) { s3 with heap := h₁, toks := s3.toks } := by
    refine codeAny_loop rfl (fun n s' => ∃ i ys H', Inv Xi [] (sIn nt js σ) H' s' ∧ tn i s'.heap ∧ (∀ b ∈ fp, H' b = none) ∧ H' D = none ∧ (∃ (its : List Value) (c : Nat), Vals ys its ∧ s'.heap.get? D = some { cls := .type "list", data := .seq its.toArray c }) ∧ W i n ys H') ?_ m0
      ⟨0, [], H2, I4, ?_, fun b hb => (f2 b hb).1, fH2D, ⟨[], 0, .nil, up D _ hD3⟩, w0⟩
    · rintro n s5 ⟨i, ys, H5, I5, st5, fr5, fD5, ⟨its, c, rv, eD⟩, w5⟩
      show wpAny _ X.A ((compTurn (.ListComp elt [⟨tg, iter, ifs, 0⟩] inn pos) 0 (.ref it) (.ref D) Xi.env).onRaise (fun x => do noteFrame x Xi.env; theTreesLotGoes x)) _ _ s5
      refine wpAny_noted ?_
      rw [compTurn_list]
      refine wpAny_bind (wpAny_standAt (wpAny_bind ?_))
      -- D is pinned
      have pinD : Inv Xi (pinsAt [D] s5.heap) (sIn nt js σ) H5 s5 := by
        have q := I5.pinned (fp := [D]) (fun b hb => ?_) (fun b hb => ?_)
        · simpa using q
        · have e : b = D := by simpa using hb
          subst e
          refine ⟨fD5, Dl, fun z => okX.exfs b DX z, .inl DX, (okX.exf b DX).2, fun p hp => ?_⟩
          rw [xpn, List.nil_append] at hp; cases hp
        · have e : b = D := by simpa using hb
          subst e
          exact ⟨_, eD, fun v z => by cases z⟩
      have plD : ∀ p ∈ pinsAt [D] s5.heap, p.1 = D := fun p hp => by simpa using (of_pinsAt hp).1
      have memD : (D, ({ cls := .type "list", data := .seq its.toArray c } : Obj)) ∈ pinsAt [D] s5.heap := mem_pinsAt (by simp) eD
      obtain ⟨hz, tn5⟩ := turn i n ys H5 w5
      rcases tn5 with ⟨stop, fin⟩ | ⟨go, N, hN, step⟩
      · have q := T.done Xi xp xw xK xc i _ s5 _ H5 (notedBy (model X.prog X.w) X.A Xi.env fun e s' => RR (.ref D) s3.heap.objs.size (.error e) s') pinD (stat fr5 plD) st5 stop
        rw [xA] at q
        refine wpAny_mono q (fun r s6 ⟨hr, I6⟩ => ?_) fun _ _ z => z
        subst hr
        refine wpAny_pure ?_
        have eD6 := (I6.pin (D, _) (List.mem_append_right _ memD)).1
        -- back to the def
        have un : Un (frs X.stack) (D :: fp) H2 H5 s3.heap s6.heap := by
          have z := I6.base
          rw [xfs, xex, xH0, xs0] at z
          exact z
        have os6 : s6.os = s3.os := by have z := I6.os; rw [xs0] at z; exact z
        have hok6 : HOk X.prog X.w H5 s6.heap := by have z := I6.hok; rw [xp, xw] at z; exact z
        have I7 : Inv X pins σ H5 s6 := I3.call' os6 un hok6 I6.bare fun b hb => by
          rcases List.mem_cons.mp hb with e | hb
          · rw [e]; exact ⟨.inr (Nat.le_trans I2.sz dge), fD.2.1, fD.2.2.2.2.1, fD.2.2.2.2.2⟩
          · obtain ⟨f0, f1, f2', f3, f4, f5⟩ := f2 b hb
            exact ⟨f3, f1, f4, f5⟩
        have I8 : Inv X pins σ (upd H5 D (.lst ys)) s6 := I7.track fD5 (Nat.le_trans I2.sz dge) fD.2.1 fD.2.2.2.2.1 fD.2.2.2.2.2 ⟨Nat.le_of_lt hz, its, c, rv, eD6⟩
        have Cge : s3.heap.objs.size ≤ s3.heap.objs.size := Nat.le_refl _
        have fC : FpOk X pins (upd H5 D (.lst ys)) s3.heap.objs.size := I3.fpOk Cge (by
          rw [upd_ne (by rw [← xl]; exact Ne.symm Dl)]
          have z := I6.free
          rw [xl] at z; exact z)
        obtain ⟨mm, hmm, _⟩ := I6.loc
        rw [xl] at hmm
        exact hRR D _ s6 _ I8 ⟨mm, hmm⟩ fC.1 fC.2.1 (Nat.le_trans I3.sz Cge) fC.2.2.2.2.1 fC.2.2.2.2.2 (fin D fD5)
      · have q := T.item Xi xp xw xK xc i _ s5 _ H5 (notedBy (model X.prog X.w) X.A Xi.env fun e s' => RR (.ref D) s3.heap.objs.size (.error e) s') pinD (stat fr5 plD) st5 go
        rw [xA] at q
        refine wpAny_mono q (fun r s6 ⟨u, hr, h6⟩ => ?_) fun _ _ z => z
        subst hr
        refine wpAny_bind (wpAny_mono h6 (fun _ s7 ⟨x, H7, I7, r7, y7, st7, fr7⟩ => ?_) fun _ _ z => z)
        have I7' := I7.pinned (fp := fp) (fun b hb => stat fr7 plD b hb) (T.obj _ _ st7)
        have q8 := hgX _ s7 _ H7 x u _ I7' r7 (hk x _ H7 _ (step x H7 y7))
        rw [xp, xw, xA, xx] at q8
        refine wpAny_bind (wpAny_mono q8 (fun _ s8 ⟨σ8, H8, I8, ⟨k8, l8⟩, q8⟩ => ?_) fun _ _ z => z.elim)
        have q9 := htX _ s8 σ8 H8 _ I8 q8
        rw [xp, xw, xA, xx] at q9
        refine wpAny_bind (wpAny_mono q9 (fun ok s9 ⟨H9, I9, q9⟩ => ?_) fun _ _ z => z.elim)
        have keepσ : ∀ (j : Nat) v, (sIn nt js σ)[j]? = some (some v) → σ8[j]? = some (some v) := fun j v e => by
          have hj := (sIn_get e).1
          rw [k8 j hj]; exact e
        -- what stays of the iterator behind the turn
        have ends : ∀ {H9 : Hp} {s9 : Shared} {ys' : List V}, Inv Xi (pinsAt [D] s5.heap ++ pinsAt fp s7.heap) σ8 H9 s9 → ∀ {h' : Heap} {its' : List Value} {c' : Nat}, (∀ b o, b ≠ D → s9.heap.get? b = some o → h'.get? b = some o) → Vals ys' its' → h'.get? D = some { cls := .type "list", data := .seq its'.toArray c' } → N ys' H9 →
            ∀ tk, ∃ m, m < n ∧ ∃ i ys H', Inv Xi [] (sIn nt js σ) H' { s9 with heap := h', toks := tk } ∧ tn i h' ∧ (∀ b ∈ fp, H' b = none) ∧ H' D = none ∧ (∃ (its : List Value) (c : Nat), Vals ys its ∧ h'.get? D = some { cls := .type "list", data := .seq its.toArray c }) ∧ W i m ys H' := fun {H9 s9 ys'} I9 {h' its' c'} kp rv' eD' n9 tk => by
          obtain ⟨m', hm, w9⟩ := hN ys' H9 n9
          have fD9 : H9 D = none := (I9.pin (D, _) (List.mem_append_right _ (List.mem_append_left _ memD))).2.1
          have fr9 : ∀ b ∈ fp, H9 b = none := fun b hb => by
            obtain ⟨o, e, d⟩ := T.obj _ _ st7 b hb
            exact (I9.pin (b, o) (List.mem_append_right _ (List.mem_append_right _ (mem_pinsAt hb e)))).2.1
          have I10 : Inv Xi [] σ8 H9 s9 := I9.pins_of fun p hp => by cases hp
          have I11 : Inv Xi [] σ8 H9 { s9 with heap := h', toks := tk } := I10.turned (it := D) kp fD9 Dl (.inl DX) (okX.exf D DX).2 (fun p hp => by rw [xpn] at hp; cases hp)
          refine ⟨m', hm, i + 1, ys', H9, I11.weak l8.symm keepσ, T.keep _ _ _ st7 fun b hb o e => kp b o (fpo b hb).2 (I9.pin (b, o) (List.mem_append_right _ (List.mem_append_right _ (mem_pinsAt hb e)))).1, fr9, fD9, ⟨its', c', rv', eD'⟩, w9⟩
        cases ok with
        | false =>
          rw [if_neg Bool.false_ne_true] at q9
          have eD9 := (I9.pin (D, _) (List.mem_append_right _ (List.mem_append_left _ memD))).1
          exact wpAny_pure ⟨rfl, ends I9 (h' := s9.heap) (fun _ _ _ e => e) rv eD9 q9 s9.toks⟩
        | true =>
          rw [if_pos rfl] at q9
          have q10 := heX _ s9 σ8 H9 _ I9 q9
          rw [xp, xw, xA, xx] at q10
          refine wpAny_bind (wpAny_bind (wpAny_mono q10 (fun v s10 ⟨y, H10, I10, r10, q10⟩ => ?_) fun _ _ z => z.elim))
          have eD10 := (I10.pin (D, _) (List.mem_append_right _ (List.mem_append_left _ memD))).1
          have hlen := rv.length
          refine wpAny_bind (wpAny_list_append_plain (items := its.toArray) ⟨c, eD10⟩ (fun h' hl hs => wpAny_pure (wpAny_pure ⟨rfl, ?_⟩)) (by rw [List.size_toArray]; omega))
          obtain ⟨c', e'⟩ := hl
          have e'' : h'.get? D = some { cls := .type "list", data := .seq (its ++ [v]).toArray c' } := by rw [e']; simp
          exact ends I10 (h' := h') (fun b o hb e => hs.extBut b o hb e) (rv.append (.cons r10 .nil)) e'' q10 s10.toks
    · exact T.keep 0 _ _ st2 fun b hb o e => up b o (by rw [e3]; exact Heap.get?_push_of_some _ e)
  have e4 : ({ s2 with heap := h₁, toks := s2.toks + ([] : List (Str × Value)).length } : Shared) = { s3 with heap := h₁, toks := s3.toks } := by rw [← hs3]; rfl
  rw [e4]
  show codeAny _ _ (.compStart (.ListComp elt [⟨tg, iter, ifs, 0⟩] inn pos) 0 (.ref it) (.ref D) (compEnvC inn (closL inn X.env) s3.heap.objs.size X.env)) (RR (.ref D) s3.heap.objs.size) _
  rw [← xe]
  refine codeAny_compStart_list loop ?_
  refine T.self X.A 0 _ _ _ ?_ loop
  exact T.keep 0 _ _ st2 fun b hb o e => up b o (by rw [e3]; exact Heap.get?_push_of_some _ e)
end
end L2
namespace L2
open PySem PySem.Spec PyProof.Rows
section
variable {X : Cx} {inn : Scope} {js : List Nat} {cs ts : List Str} {nt : Nat} {elt tg iter : Expr} {ifs : List Expr} {pos : Pos} {g : TG} {tt : TT} {te : TE} {wi : TI}
theorem pe_comp (ts cs : List Str) (js : List Nat) (hcalm : X.calm = true) (O : CompOk X.env.scope inn X.N js cs) (hi : PI X tg iter wi)
    (hg : ∀ s₀ H₀ ex, PG (cxIn X inn (ts ++ cs) s₀ H₀ ex) tg g) (hk : GK ts.length g) (ht : ∀ s₀ H₀ ex, PIf (cxIn X inn (ts ++ cs) s₀ H₀ ex) ifs tt) (he : ∀ s₀ H₀ ex, PE (cxIn X inn (ts ++ cs) s₀ H₀ ex) elt te)
    (hs : ∀ x, foldedSetIterable iter X.env x = pure x := by intro _; rfl) : PE X (.ListComp elt [⟨tg, iter, ifs, 0⟩] inn pos) (tComp wi ts.length js g tt te) := by
  intro pins s σ H Q I h
  rw [eval_ListComp]
  refine wpAny_comprehension_free (use := none) rfl hs (closFor fun y hy e => I.ok.has y.1 (O.frees y hy e)) O.kind O.names (thn (hi pins s σ H _ I h) fun xv s1 h1 => thn h1 fun itv s2 h2 => ?_)
  obtain ⟨it, fp, tn, J, H2, e, I2, T, st2, f2, R⟩ := h2
  subst e
  refine comp_core (Q := Q) (RR := fun acc C => compPost (model X.prog X.w) X.A X.xe none (EP X pins σ Q) acc C) hcalm O rfl hg hk ht he I2 T st2 f2 R ?_
  intro D C s' H' I' ⟨m, hm⟩ c1 c2 c3 c4 c5 q
  refine ⟨m, hm, fun h' hsb => ?_⟩
  exact ⟨.ref D, H', I'.turned (it := C) (t' := s'.toks) (fun b o hb e => hsb.extBut b o hb e) c1 c2 (.inr c3) c4 c5, rfl, q⟩
theorem ps_setc {i : Nat} {x : Str} {pos' spos : Pos} (ts cs : List Str) (js : List Nat) (hcalm : X.calm = true) (hN : X.N.Nodup) (hi' : X.N[i]? = some x) (hx : X.env.scope.names.lookup x = some .local) (O : CompOk X.env.scope inn X.N js cs) (hi : PI X tg iter wi)
    (hg : ∀ s₀ H₀ ex, PG (cxIn X inn (ts ++ cs) s₀ H₀ ex) tg g) (hk : GK ts.length g) (ht : ∀ s₀ H₀ ex, PIf (cxIn X inn (ts ++ cs) s₀ H₀ ex) ifs tt) (he : ∀ s₀ H₀ ex, PE (cxIn X inn (ts ++ cs) s₀ H₀ ex) elt te)
    (hsw : swapsWith (.ListComp elt [⟨tg, iter, ifs, 0⟩] inn pos) (some (.Name x pos')) spos.line X.env = pure true) (hs : ∀ x, foldedSetIterable iter X.env x = pure x := by intro _; rfl) :
    PS X (.Assign [.Name x pos'] (.ListComp elt [⟨tg, iter, ifs, 0⟩] inn pos) spos) (tAsg (tComp wi ts.length js g tt te) (gName i)) := by
  intro pins s σ H D I h
  rw [exec_Assign_Name_used _ _ _ _ hsw]
  refine wpAny_bind (wpAny_standAt (wpAny_bind ?_))
  show wpAny _ X.A (do let _ ← comprehension (.ListComp elt [⟨tg, iter, ifs, 0⟩] inn pos) inn X.env _ (newList []) false (eval iter X.env) (some (assign (.Name x pos') X.env))) _ _ s
  refine wpAny_bind (wpAny_mono (wpAny_comprehension_free (use := some (assign (.Name x pos') X.env)) (Q := fun _ s' => SP X pins D .next s') rfl hs (closFor fun y hy e => I.ok.has y.1 (O.frees y hy e)) O.kind O.names
    (thn (hi pins s σ H _ I h) fun xv s1 h1 => thn h1 fun itv s2 h2 => ?_)) (fun _ s' hq => wpAny_pure (wpAny_pure hq)) fun _ _ e => e)
  obtain ⟨it, fp, tn, J, H2, e, I2, T, st2, f2, R⟩ := h2
  subst e
  refine comp_core (Q := fun v H' => D.nx (σ.set i (some v)) H') (RR := fun acc C => compPost (model X.prog X.w) X.A X.xe (some (assign (.Name x pos') X.env)) (fun _ s' => SP X pins D .next s') acc C) hcalm O rfl hg hk ht he I2 T st2 f2 R ?_
  intro D' C s' H' I' ⟨m, hm⟩ c1 c2 c3 c4 c5 q
  show wpAny _ X.A (assign (.Name x pos') X.env (.ref D')) _ _ _
  refine wpAny_assign_Name (store_ok2 (v := .ref D') I' hN hi' (.inl hx) rfl (fun s2 I2 ⟨a, hsb, ha⟩ => ?_) (.inr hx))
  have hCa : C ≠ a := by
    rcases ha with e | e
    · rw [e]; exact c2
    · exact fun z => c4 _ _ e z.symm
  refine ⟨m, hm.sameBut hsb hCa, fun h' hsb' => ?_⟩
  exact ⟨_, H', I2.turned (it := C) (t' := s2.toks) (fun b o hb e => hsb'.extBut b o hb e) c1 c2 (.inr c3) c4 c5, q⟩
end
theorem comp_list {K : PySem.W.Frag} {a : Addr} {xs : List V} {σ0 : St} {g : TG} {tt : TT} {te : TE} {H : Hp} {Q : VK} (Pv : Nat → List V → Hp → Prop) (h0 : Pv 0 [] H) (hl : ∀ i ys H, i ≤ xs.length → Pv i ys H → SqL K H a xs ∧ ys.length < sizeLine)
    (hs : ∀ i x ys H, xs[i]? = some x → Pv i ys H → g x σ0 H fun σ2 H2 => tt σ2 H2 fun b H3 => if b = true then te σ2 H3 fun y H4 => Pv (i + 1) (ys ++ [y]) H4 else Pv (i + 1) ys H3) (hd : ∀ ys H, Pv xs.length ys H → ∀ D, H D = none → Q (.ref D) (upd H D (.lst ys))) :
    CompR (Itl K a) σ0 g tt te Q H := by
  refine ⟨fun i m ys H => m = xs.length - i ∧ i ≤ xs.length ∧ Pv i ys H, ⟨xs.length, by simp, Nat.zero_le _, h0⟩, ?_⟩
  rintro i m ys H ⟨rfl, hi, p⟩
  obtain ⟨q, hz⟩ := hl i ys H hi p
  refine ⟨hz, ?_⟩
  by_cases hlt : i < xs.length
  · refine .inr ⟨⟨xs, xs[i], q, by simp [hlt]⟩, Pv (i + 1), fun ys' H' p' => ⟨xs.length - (i + 1), by omega, rfl, hlt, p'⟩, fun x H' y => ?_⟩
    obtain ⟨e, y⟩ := y
    subst e
    exact hs i x ys _ (y xs q) p
  · have e : i = xs.length := by omega
    subst e
    exact .inl ⟨⟨xs, q, Nat.le_refl _⟩, hd ys H p⟩
theorem comp_range {lo : Int} {n : Nat} {σ0 : St} {g : TG} {tt : TT} {te : TE} {H : Hp} {Q : VK} (Pv : Nat → List V → Hp → Prop) (h0 : Pv 0 [] H) (hl : ∀ i ys H, i ≤ n → Pv i ys H → ys.length < sizeLine)
    (hs : ∀ i ys H, i < n → Pv i ys H → g (.int (lo + i)) σ0 H fun σ2 H2 => tt σ2 H2 fun b H3 => if b = true then te σ2 H3 fun y H4 => Pv (i + 1) (ys ++ [y]) H4 else Pv (i + 1) ys H3) (hd : ∀ ys H, Pv n ys H → ∀ D, H D = none → Q (.ref D) (upd H D (.lst ys))) :
    CompR (Itr lo n) σ0 g tt te Q H := by
  refine ⟨fun i m ys H => m = n - i ∧ i ≤ n ∧ Pv i ys H, ⟨n, by simp, Nat.zero_le _, h0⟩, ?_⟩
  rintro i m ys H ⟨rfl, hi, p⟩
  refine ⟨hl i ys H hi p, ?_⟩
  by_cases hlt : i < n
  · refine .inr ⟨hlt, Pv (i + 1), fun ys' H' p' => ⟨n - (i + 1), by omega, rfl, hlt, p'⟩, fun x H' y => ?_⟩
    obtain ⟨e, y⟩ := y
    subst e y
    exact hs i ys _ hlt p
  · have e : i = n := by omega
    subst e
    exact .inl ⟨Nat.le_refl _, hd ys H p⟩
end L2

set_option Elab.async false
set_option linter.all false
set_option maxRecDepth 100000
set_option maxHeartbeats 4000000
namespace L2
open PySem PySem.Spec PyProof.Rows
mutual
inductive Den (H : Hp) : V → PyData → Prop
  | non : Den H .non .none
  | bl (b : Bool) : Den H (.bl b) (.bool b)
  | int (i : Int) : Den H (.int i) (.int i)
  | str (x : Str) : Den H (.str x) (.str x)
  | lst {a : Addr} {vs : List V} {ds : List PyData} : H a = some (.lst vs) → Dens H vs ds → Den H (.ref a) (.list ds)
  | tup {a : Addr} {vs : List V} {ds : List PyData} : H a = some (.tup vs) → Dens H vs ds → Den H (.ref a) (.tuple ds)
inductive Dens (H : Hp) : List V → List PyData → Prop
  | nil : Dens H [] []
  | cons {v : V} {d : PyData} {vs : List V} {ds : List PyData} : Den H v d → Dens H vs ds → Dens H (v :: vs) (d :: ds)
end
theorem Dens.length : ∀ {H : Hp} {vs : List V} {ds : List PyData}, Dens H vs ds → vs.length = ds.length
  | _, _, _, .nil => rfl
  | _, _, _, .cons _ t => congrArg Nat.succ (Dens.length t)
theorem Dens.get : ∀ {H : Hp} {vs : List V} {ds : List PyData} {i : Nat} {d : PyData}, Dens H vs ds → ds[i]? = some d → ∃ v, vs[i]? = some v ∧ Den H v d
  | _, _, _, _, _, .nil, e => by simp at e
  | _, _, _, 0, _, .cons r _, e => by simp at e; subst e; exact ⟨_, rfl, r⟩
  | _, _, _, i + 1, d, .cons _ t, e => by
    obtain ⟨v, h1, h2⟩ := Dens.get (i := i) (d := d) t (by simpa using e)
    exact ⟨v, by simpa using h1, h2⟩
theorem Dens.append : ∀ {H : Hp} {vs us : List V} {ds es : List PyData}, Dens H vs ds → Dens H us es → Dens H (vs ++ us) (ds ++ es)
  | _, _, _, _, _, .nil, s => s
  | _, _, _, _, _, .cons r t, s => .cons r (Dens.append t s)
mutual
theorem Den.mono {H H' : Hp} (e : Same H H') : ∀ {v : V} {d : PyData}, Den H v d → Den H' v d
  | _, _, .non => .non
  | _, _, .bl b => .bl b
  | _, _, .int i => .int i
  | _, _, .str x => .str x
  | _, _, .lst h t => .lst (e _ _ h) (Dens.mono e t)
  | _, _, .tup h t => .tup (e _ _ h) (Dens.mono e t)
theorem Dens.mono {H H' : Hp} (e : Same H H') : ∀ {vs : List V} {ds : List PyData}, Dens H vs ds → Dens H' vs ds
  | _, _, .nil => .nil
  | _, _, .cons r t => .cons (Den.mono e r) (Dens.mono e t)
end
theorem Dens.ints {H : Hp} : ∀ ns : List Int, Dens H (ns.map V.int) (ns.map PyData.int)
  | [] => .nil
  | n :: r => .cons (.int n) (Dens.ints r)
theorem Same.upd {H : Hp} {a : Addr} {o : HO} (h : H a = none) : Same H (upd H a o) := fun b u e => by rw [upd_ne (ne_of_none e h)]; exact e
theorem Same.upd' {H H0 : Hp} {a : Addr} {o : HO} (h : H0 a = none) (s : Same H0 H) : Same H0 (L2.upd H a o) := fun b u e => by rw [upd_ne (ne_of_none e h)]; exact s b u e

section
variable {P : Program} {w : World} {H : Hp} {h : Heap}
mutual
theorem Den.reads (ok : HOk P w H h) : ∀ {v : V} {d : PyData} {u : Value}, Den H v d → RelV v u → ∃ as, Reads h u d as
  | _, _, _, .non, r => by cases r; exact ⟨_, .none⟩
  | _, _, _, .bl b, r => by cases r; exact ⟨_, .bool b⟩
  | _, _, _, .int i, r => by obtain ⟨t, rfl⟩ := r; exact ⟨_, .int i t⟩
  | _, _, _, .str x, r => by obtain ⟨t, rfl⟩ := r; exact ⟨_, .str x t⟩
  | _, _, _, .lst (a := a) e t, r => by
    cases r
    obtain ⟨_, its, n, rv, ho⟩ := ok a _ e
    obtain ⟨as, q⟩ := Dens.reads ok t rv
    exact ⟨_, .list ho rfl rfl (by simpa using q)⟩
  | _, _, _, .tup (a := a) e t, r => by
    cases r
    obtain ⟨_, its, rv, o, ho, hc, n, hd⟩ := ok a _ e
    obtain ⟨as, q⟩ := Dens.reads ok t rv
    exact ⟨_, .tuple ho hc hd (by simpa using q)⟩
theorem Dens.reads (ok : HOk P w H h) : ∀ {vs : List V} {ds : List PyData} {us : List Value}, Dens H vs ds → Vals vs us → ∃ as, ReadsAll h us ds as
  | _, _, _, .nil, .nil => ⟨_, .nil⟩
  | _, _, _, .cons r t, .cons q s => by
    obtain ⟨a, x⟩ := Den.reads ok r q
    obtain ⟨b, y⟩ := Dens.reads ok t s
    exact ⟨_, .cons x y⟩
end
end

noncomputable def rEqD : R2 := fun x y H Q => ∃ d e, Den H x d ∧ Den H y e ∧ SeqAt.shaped d = true ∧ SeqAt.shaped e = true ∧ Q (.bl (PyData.eqv d e)) H
noncomputable def rNeD : R2 := fun x y H Q => ∃ d e, Den H x d ∧ Den H y e ∧ SeqAt.shaped d = true ∧ SeqAt.shaped e = true ∧ Q (.bl (!PyData.eqv d e)) H
section
variable {X : Cx}
theorem op_eqD (hu : X.A.units + 64 < cLine) : OpR X (compareOp .Eq) rEqD := by
  intro pins s σ H x y v u Q I rx ry h
  obtain ⟨d, e, hd, he, sd, se, q⟩ := h
  obtain ⟨as, r1⟩ := hd.reads I.hok rx
  obtain ⟨bs, r2⟩ := he.reads I.hok ry
  exact eq_dataH r1 r2 sd se hu ⟨.bl _, H, I, rfl, q⟩
theorem op_neD (hu : X.A.units + 64 < cLine) : OpR X (compareOp .NotEq) rNeD := by
  intro pins s σ H x y v u Q I rx ry h
  obtain ⟨d, e, hd, he, sd, se, q⟩ := h
  obtain ⟨as, r1⟩ := hd.reads I.hok rx
  obtain ⟨bs, r2⟩ := he.reads I.hok ry
  exact ne_dataH r1 r2 sd se hu ⟨.bl _, H, I, rfl, q⟩

noncomputable def tyD : PyData → String
  | .none => "NoneType" | .bool _ => "bool" | .int _ => "int" | .str _ => "str" | .list _ => "list" | .tuple _ => "tuple" | .dict _ => "dict"
theorem Den.ty {K : PySem.W.Frag} {H : Hp} {v : V} {d : PyData} (h : Den H v d) : TyOf K H v (.type (tyD d)) := by
  cases h with
  | non => exact .non
  | bl b => exact .bl b
  | int i => exact .int i
  | str x => exact .str x
  | lst e _ => exact .lst e
  | tup e _ => exact .tup e
theorem call_isi : CallR X (.builtin "isinstance") (fun xs H Q => ∃ x T d b, xs = [x, .ty T] ∧ Den H x d ∧ PySem.W.kitOne X.K (.type (tyD d)) (.type T) = some b ∧ Q (.bl b) H) := by
  intro pins s σ H xs us Q I r h
  obtain ⟨x, T, d, b, rfl, hd, e, q⟩ := h
  obtain ⟨u, v, rfl, r1, r2⟩ := r.two
  cases r2
  exact isinst_ok I r1 (hd.ty (K := X.K)) e fun tk => ⟨.bl b, H, I.tok tk, rfl, q⟩
theorem kitTup {P : Program} {w : World} {H : Hp} {s : Shared} {K : PySem.W.Frag} {x : V} {u : Value} {d : PyData} {A : Around} {E : Value → Shared → Prop} {tp : Addr} {its : List Value} {n : Nat} {b : Bool} {Q : Value → Shared → Prop} (ok : HOk P w H s.heap) (kin : K.In s.heap) (rx : RelV x u) (hd : Den H x d)
    (htp : ∃ o, s.heap.get? tp = some o ∧ o.cls = .type "tuple" ∧ o.data = .seq its.toArray n) (e : PySem.W.kitAny K (.type (tyD d)) its = some b) (h : ∀ tk, Q (.bool b) { s with toks := tk }) : wpAny (model P w) A (call (.builtin "isinstance") [u, .ref tp]) Q E s := by
  obtain ⟨⟨cls, dd, data, sl⟩, ho, hc, hda⟩ := htp
  simp only at hc hda
  subst hc hda
  cases hd with
  | non => cases rx; exact PySem.W.kia_tup PySem.W.kitx_none kin True.intro ho e (fun z => nomatch z) h
  | bl y => cases rx; exact PySem.W.kia_tup PySem.W.kitx_bool kin True.intro ho e (fun z => nomatch z) h
  | int i => obtain ⟨t, rfl⟩ := rx; exact PySem.W.kia_tup PySem.W.kitx_int kin True.intro ho e (fun z => nomatch z) h
  | str y => obtain ⟨t, rfl⟩ := rx; exact PySem.W.kia_tup PySem.W.kitx_str kin True.intro ho e (fun z => nomatch z) h
  | @lst a vs ds ea _ =>
    cases rx
    obtain ⟨_, _, n, _, h1⟩ := (show ObjOk P w H s.heap a (.lst vs) from ok a _ ea)
    exact PySem.W.kia_tup PySem.W.kitx_list kin ⟨_, h1, rfl⟩ ho e (fun z => nomatch z) h
  | @tup a vs ds ea _ =>
    cases rx
    obtain ⟨_, _, _, p⟩ := (show ObjOk P w H s.heap a (.tup vs) from ok a _ ea)
    obtain ⟨o, h1, h2, _⟩ := p
    exact PySem.W.kia_tup PySem.W.kitx_tuple kin ⟨o, h1, h2⟩ ho e (fun z => nomatch z) h
theorem vals_ty : ∀ {Ts : List String} {us : List Value}, Vals (Ts.map V.ty) us → us = Ts.map Value.type
  | [], _, .nil => rfl
  | T :: r, _, .cons q t => by
    have e : _ = Value.type T := q
    rw [List.map_cons, e, vals_ty t]
theorem call_isiT : CallR X (.builtin "isinstance") (fun xs H Q => ∃ (x : V) (tp : Addr) (Ts : List String) (d : PyData) (b : Bool), xs = [x, .ref tp] ∧ H tp = some (.tup (Ts.map V.ty)) ∧ Den H x d ∧ PySem.W.kitAny X.K (.type (tyD d)) (Ts.map Value.type) = some b ∧ Q (.bl b) H) := by
  intro pins s σ H xs us Q I r h
  obtain ⟨x, tp, Ts, d, b, rfl, ht, hd, e, q⟩ := h
  obtain ⟨u, v, rfl, r1, r2⟩ := r.two
  cases r2
  obtain ⟨_, its, rv, o, ho, hc, n, hda⟩ := (show ObjOk X.prog X.w H s.heap tp (.tup (Ts.map V.ty)) from I.hok tp _ ht)
  have e2 := vals_ty rv
  subst e2
  exact kitTup I.hok I.kIn r1 hd ⟨o, ho, hc, hda⟩ e fun tk => ⟨.bl b, H, I.tok tk, rfl, q⟩

theorem call_all (hc : X.calm = true) : CallR X (.builtin "all") (fun xs H Q => ∃ (p : Addr) (bs : List Bool), xs = [.ref p] ∧ H p = some (.lst (bs.map V.bl)) ∧ Q (.bl (bs.all id)) H) := by
  intro pins s σ H xs us Q I r h
  obtain ⟨p, bs, rfl, hp, q⟩ := h
  obtain ⟨u, rfl, rx⟩ := vals1 r
  cases rx
  obtain ⟨its, rv, pl, hz⟩ := I.list (SqL.of hp)
  have hl := pl.isList
  have hlt : p < s.heap.objs.size := by obtain ⟨_, e, _⟩ := hl; exact Heap.lt_size e
  have hlen : bs.length = its.length := by have := rv.length; simpa using this
  refine call_all_walk (wpAny_pyIter_list hl ?_)
  refine ⟨s.heap.objs.size, [s.heap.objs.size, p], [s.heap.objs.size], its.toArray.size, _, _, fun i => (bs[i]?).getD true, rfl, Walks.list (A := X.A.in1) (I.ok.hd hc) _ p (Nat.ne_of_lt hlt) its.toArray,
    ⟨⟨_, Heap.get?_push_size _ rfl, rfl, rfl⟩, hl.push _⟩, fun i v s' Q' E' hP hQ => ?_, fun h' tk hk => ?_⟩
  · have hv : its[i]? = some v := by simpa using hP
    have hi : i < its.length := (List.getElem?_eq_some_iff.mp hv).1
    have hb : (bs.map V.bl)[i]? = some (V.bl (bs[i]'(by omega))) := by simp [hlen, hi]
    obtain ⟨u, eu, ru⟩ := rv.get hb
    rw [hv] at eu
    cases eu
    cases ru
    have e : (bs[i]?).getD true = bs[i]'(by omega) := by simp [show i < bs.length by omega]
    have hQ' : Q' ((bs[i]?).getD true) s' := hQ
    rw [e] at hQ'
    exact wpAny_truthy_bool hQ'
  · have e : ((List.range its.toArray.size).all fun i => (bs[i]?).getD true) = bs.all id := by
      rw [List.size_toArray, ← hlen]; exact LSm.range_all bs
    rw [e]
    have kp : ∀ b x, s.heap.get? b = some x → h'.get? b = some x := LSm.kept_iter hk
    exact ⟨.bl _, H, I.kept kp, rfl, q⟩

end
end L2

set_option Elab.async false
set_option linter.all false
set_option maxRecDepth 100000
set_option maxHeartbeats 4000000
namespace L2
open PySem PySem.Spec PyProof.Rows
theorem boot_list : bootBuiltins "list" = some (.type "list") := by decide +kernel
theorem boot_tuple : bootBuiltins "tuple" = some (.type "tuple") := by decide +kernel
theorem boot_bool : bootBuiltins "bool" = some (.type "bool") := by decide +kernel
theorem boot_str : bootBuiltins "str" = some (.type "str") := by decide +kernel
theorem boot_int : bootBuiltins "int" = some (.type "int") := by decide +kernel
theorem boot_isinstance : bootBuiltins "isinstance" = some (.builtin "isinstance") := by decide +kernel
theorem boot_all : bootBuiltins "all" = some (.builtin "all") := by decide +kernel
theorem boot_max : bootBuiltins "max" = some (.builtin "max") := by decide +kernel
structure Bt (mg : Str → Option Value) : Prop where
  len : mg "len" = none
  range : mg "range" = none
  list : mg "list" = none
  tuple : mg "tuple" = none
  bool : mg "bool" = none
  str : mg "str" = none
  int : mg "int" = none
  isinstance : mg "isinstance" = none
  all : mg "all" = none
  sorted : mg "sorted" = none
  max : mg "max" = none
  min : mg "min" = none
  set : mg "set" = none
  reversed : mg "reversed" = none
  sum : mg "sum" = none
  enumerate : mg "enumerate" = none
  zip : mg "zip" = none
  any : mg "any" = none
  abs : mg "abs" = none
noncomputable def FnAt (P : Program) (w : World) (K : PySem.W.Frag) (mg : Str → Option Value) (base : Heap) (x : Str) (k : Nat) (ps : List Str) (sp : Sp) : Prop :=
  ∃ f fd, FnOk P w K mg base CX0 k f fd ps sp ∧ mg x = some (.ref f) ∧ PySem.W.keepIn K (.ref f) = true ∧ Binds K fd ps []
section
variable {X : Cx} {x : Str} {j k : Nat} {ps : List Str} {sp : Sp} {t : TA} {e : Expr} {es : List Expr} {p pos : Pos}
theorem pe_fn (F : FnAt X.prog X.w X.K X.mg X.base x j ps sp) (hr : Room k X.A) (hg : Gl X x) (ha : PA X (e :: es) t) (hj : j ≤ k := by decide) (hdb : (x == ("__debug__" : Str)) = false := by decide)
    (he : starEach (e :: es) X.env = (false, eval e X.env) :: starEach es X.env := by rfl) (hpl : (backTo pos (starEach es X.env)).any (·.1) = false := by rfl) :
    PE X (.Call (.Name x p) (e :: es) [] pos) (tCall sp [] E0 t) := by
  obtain ⟨f, fd, G, hm, hk, hb⟩ := F
  exact pe_call (hdb := hdb) (he := he) (hpl := hpl) G (hr.mono hj) hg hm hk hb .nil pass0 ha
theorem op_eqI : OpR X (compareOp .Eq) (rI0 fun i j => .bl (decide (i = j))) := opB0 fun i j _ _ _ _ _ q => eq_int (by
  have e : (i == j) = decide (i = j) := by rw [Bool.eq_iff_iff]; simp
  rw [e]; exact q)
theorem op_neI : OpR X (compareOp .NotEq) (rI0 fun i j => .bl (!decide (i = j))) := opB0 fun i j _ _ _ _ _ q => ne_int (by
  have e : (i != j) = !decide (i = j) := by rw [bne]; congr 1
  rw [e]; exact q)
end
noncomputable def tCut (t u : TS) : TS := fun D σ H => ∃ M : St → Hp → Prop, t { D with nx := M } σ H ∧ ∀ σ' H', M σ' H' → u D σ' H'
theorem pss_cut {X : Cx} {st : Stmt} {rest : List Stmt} {t u : TS} (h1 : PS X st t) (h2 : PSs X rest u) : PSs X (st :: rest) (tCut t u) := by
  intro pins s σ H D I h
  obtain ⟨M, h, hM⟩ := h
  refine wpAny_execs_cons (thn (h1 pins s σ H { D with nx := M } I h) fun f s1 q => ?_)
  cases f with
  | next =>
    obtain ⟨σ', H', I', q⟩ := q
    exact h2 pins s1 σ' H' D I' (hM σ' H' q)
  | ret v => exact q
  | brk => exact q
  | cont => exact q
noncomputable def tCutE (t : TE) : TE := fun σ H Q => ∃ R : VK, t σ H R ∧ ∀ v H', R v H' → Q v H'
theorem pe_cut {X : Cx} {e : Expr} {t : TE} (h : PE X e t) : PE X e (tCutE t) := by
  intro pins s σ H Q I hw
  obtain ⟨R, hw, hR⟩ := hw
  exact thn (h pins s σ H R I hw) fun u s1 ⟨v, H1, I1, r1, q1⟩ => ⟨v, H1, I1, r1, hR v H1 q1⟩
theorem iteD {c : Prop} [Decidable c] {A B : Prop} (h1 : c → A) (h2 : ¬ c → B) : if decide c = true then A else B := by
  by_cases h : c
  · rw [decide_eq_true h, if_pos rfl]; exact h1 h
  · rw [decide_eq_false h, if_neg Bool.false_ne_true]; exact h2 h
theorem iteDT {c : Prop} [Decidable c] {A B : Prop} (hc : c) (h1 : A) : if decide c = true then A else B := by
  rw [decide_eq_true hc, if_pos rfl]; exact h1
theorem iteDF {c : Prop} [Decidable c] {A B : Prop} (hc : ¬ c) (h1 : B) : if decide c = true then A else B := by
  rw [decide_eq_false hc, if_neg Bool.false_ne_true]; exact h1
section
variable {X : Cx} (K : PySem.W.Frag)
theorem ix_seqK (h : X.K = K) : IxR X (rIx K) := h ▸ ix_seq
theorem sl_listK (h : X.K = K) : SlR X (rSlL K) := h ▸ sl_list
end
end L2

set_option Elab.async false
set_option linter.all false
set_option maxRecDepth 100000
set_option maxHeartbeats 1000000
namespace L2
open PySem PySem.Spec PyProof.Rows
section
variable {prog : Program} {w : World} {A : Around} {R : Result → Shared → Prop} {l it S : Addr} {its : List Value} {ns : List Int} {d : Value}
end
section
variable {X : Cx} {e f : Expr} {te tf : TE} {p pos kp : Pos}
end
end L2

set_option Elab.async false
set_option linter.all false
set_option maxRecDepth 100000
set_option maxHeartbeats 1000000
namespace L2
open PySem PySem.Spec PyProof.Rows
section
variable {X : Cx}
end
end L2

set_option Elab.async false
set_option linter.all false
set_option maxRecDepth 100000
set_option maxHeartbeats 1000000
namespace L2
open PySem PySem.Spec PyProof.Rows
theorem boot_zip : bootBuiltins "zip" = some (.type "zip") := by decide +kernel
section
variable {X : Cx}
theorem Inv.turnedF {h' : Heap} {pins : List (Addr × Obj)} {σ : St} {H : Hp} {s : Shared} {t' : Nat} {fp : List Addr} (I : Inv X pins σ H s) (k : ∀ b o, b ∉ fp → s.heap.get? b = some o → h'.get? b = some o) (hf : ∀ b ∈ fp, FpOk X pins H b) : Inv X pins σ H { s with heap := h', toks := t' } := by
  have nit : ∀ b u, H b = some u → b ∉ fp := fun b u e z => by rw [(hf b z).1] at e; cases e
  refine I.step (g' := s.gens) (d' := s.drawn) (ch := fp) (fun b hb => ?_) (fun b o _ _ hc e _ => k b o hc e) (fun b o _ _ hc e _ => ⟨o.slots, k b o hc e⟩) (fun _ _ _ _ n => n)
    (fun b o hc e => ⟨o, k b o hc e⟩) (fun _ _ e => e) (fun _ _ _ e => e) (fun b ps e => ⟨#[], by rw [e]; simp⟩) (fun m hm => ?_) (fun b u e => ?_) I.bare
  · obtain ⟨_, h1, _, h3, h4, h5⟩ := hf b hb
    exact ⟨h3, h1, h4, h5⟩
  · obtain ⟨o, es, ep, ho, r⟩ := hm
    exact ⟨o, es, ep, k _ o (fun z => (hf _ z).2.1 rfl) ho, r⟩
  · refine (I.hok b u e).stay (fun c v hc q => k c v ?_ q) (fun _ q => q) fun _ _ q => q
    rcases hc with z | z
    · rw [z]; exact nit b u e
    · exact nit c _ z
theorem Inv.turnLaid {h' : Heap} {pins : List (Addr × Obj)} {σ : St} {H : Hp} {s : Shared} {t' : Nat} {fp : List Addr} {a : Addr} {o : HO} (I : Inv X pins σ H s) (k : ∀ b o, b ∉ fp → s.heap.get? b = some o → h'.get? b = some o) (hf : ∀ b ∈ fp, FpOk X pins H b) (hp : s.heap.objs.size ≤ a) (new : ObjOk X.prog X.w (upd H a o) h' a o) :
    Inv X pins σ (upd H a o) { s with heap := h', toks := t' } := by
  have hn : H a = none := I.hok.fresh hp
  have nit : ∀ b u, H b = some u → b ∉ fp := fun b u e z => by rw [(hf b z).1] at e; cases e
  have ne : ∀ b u, H b = some u → b ≠ a := fun b u e => ne_of_none e hn
  refine I.step (g' := s.gens) (d' := s.drawn) (ch := fp) (fun b hb => ?_) (fun b o _ _ hc e _ => k b o hc e) (fun b o _ _ hc e _ => ⟨o.slots, k b o hc e⟩) (fun b ob _ e n => ?_)
    (fun b o hc e => ⟨o, k b o hc e⟩) (fun b _ e => by rw [upd_ne (ne b _ e)]; exact e) (fun b _ _ e => by rw [upd_ne (ne b _ e)]; exact e) (fun b ps e => ⟨#[], by rw [upd_ne (ne b _ e), e]; simp⟩) (fun m hm => ?_) (fun b u e => ?_) I.bare
  · obtain ⟨_, h1, _, h3, h4, h5⟩ := hf b hb
    exact ⟨h3, h1, h4, h5⟩
  · have : b ≠ a := Nat.ne_of_lt (Nat.lt_of_lt_of_le (Heap.lt_size e) hp)
    rw [upd_ne this]; exact n
  · obtain ⟨o, es, ep, ho, r⟩ := hm
    exact ⟨o, es, ep, k _ o (fun z => (hf _ z).2.1 rfl) ho, r⟩
  · by_cases hb : b = a
    · subst hb
      rw [upd_same] at e
      cases e
      exact new
    · rw [upd_ne hb] at e
      refine (I.hok b u e).stay (fun c v hc q => k c v ?_ q) (fun c q => by rw [upd_ne (ne c _ q)]; exact q) fun c _ q => by rw [upd_ne (ne c _ q)]; exact q
      rcases hc with z | z
      · rw [z]; exact nit b u e
      · exact nit c _ z
end
end L2

set_option Elab.async false
set_option linter.all false
set_option maxRecDepth 100000
set_option maxHeartbeats 1000000
namespace L2
open PySem PySem.Spec PyProof.Rows
section
variable {X : Cx} {tg : Expr}
end
end L2

set_option Elab.async false
set_option linter.all false
set_option maxRecDepth 100000
set_option maxHeartbeats 1000000
namespace L2
open PySem PySem.W PySem.Spec PyProof.Rows
section
variable {O : KeyOrd} {key : Nat → O.α} {n : Nat} {cmp : Nat → Nat → (Bool → Shared → Prop) → Shared → Prop} {s : Shared}
noncomputable def KP (O : KeyOrd) (key : Nat → O.α) (p : Array Nat) (i : Nat) : O.α := key (p.getD i 0)
structure InR (n : Nat) (p : Array Nat) : Prop where
  pos : 0 < n
  size : p.size = n
  mem : ∀ x ∈ p, x < n
theorem InR.at {p : Array Nat} (h : InR n p) (i : Nat) : p.getD i 0 < n := by
  unfold Array.getD
  split
  · exact h.mem _ (Array.getElem_mem _)
  · exact h.pos
theorem InR.perm {p q : Array Nat} (h : InR n p) (e : q.Perm p) : InR n q := ⟨h.pos, e.size_eq.trans h.size, fun x hx => h.mem x (e.mem_iff.mp hx)⟩
noncomputable def Up (O : KeyOrd) (key : Nat → O.α) (p : Array Nat) (m : Nat) : Prop := ∀ i j, i ≤ j → j < m → O.kle (KP O key p i) (KP O key p j)
noncomputable def Dn (O : KeyOrd) (key : Nat → O.α) (p : Array Nat) (m : Nat) : Prop := ∀ i j, i ≤ j → j < m → O.kle (KP O key p j) (KP O key p i)
theorem Dn.same {p q : Array Nat} {m : Nat} (h : Dn O key p m) (e : ∀ k, KP O key q k = KP O key p k) : Dn O key q m := fun i j h1 h2 => by rw [e, e]; exact h i j h1 h2
theorem Up.same {p q : Array Nat} {m : Nat} (h : Up O key p m) (e : ∀ k, KP O key q k = KP O key p k) : Up O key q m := fun i j h1 h2 => by rw [e, e]; exact h i j h1 h2
end
end L2

set_option linter.all false
namespace CW
end CW

set_option linter.all false
namespace CW
noncomputable def stp (c : Int) (l : Nat) (x : Bool) : Nat × Bool :=
  if x then (if (l : Int) < c then (l + 1, false) else (l, true)) else (if 0 < l then (l - 1, true) else (0, false))
noncomputable def run (c : Int) : Nat → List Bool → Nat × List Bool
  | l, [] => (l, [])
  | l, x :: xs => ((run c (stp c l x).1 xs).1, (stp c l x).2 :: (run c (stp c l x).1 xs).2)
end CW

set_option Elab.async false
set_option linter.all false
set_option maxRecDepth 100000
set_option maxHeartbeats 4000000
namespace CW
open PySem L2

theorem at_mem {ns : List Int} {i : Int} (h0 : 0 ≤ i) (h1 : i < ns.length) : ∃ n, n ∈ ns ∧ ns[i.toNat]? = some n ∧ atI (ns.map V.int) i = some (.int n) := by
  have hj : i.toNat < ns.length := by omega
  refine ⟨ns[i.toNat], List.getElem_mem hj, by simp [hj], ?_⟩
  have q : atI (ns.map V.int) ((i.toNat : Nat) : Int) = some (.int ns[i.toNat]) := atI_nat (by simp [hj])
  rw [Int.toNat_of_nonneg h0] at q
  exact q
theorem line_of {n : Nat} (h : n ≤ 10000) : n < sizeLine := Nat.lt_of_le_of_lt h (by decide)
theorem line_le {n : Nat} (h : n ≤ 10000) : n ≤ sizeLine := Nat.le_of_lt (line_of h)
noncomputable def Nums (ns : List Int) : Prop := ∀ n ∈ ns, 0 ≤ n ∧ n < 9967
theorem cutV_ints (ns : List Int) (lo hi : Option Int) : ∃ ms : List Int, cutV (ns.map V.int) lo hi = ms.map V.int ∧ ms.length ≤ ns.length ∧ ∀ n ∈ ms, n ∈ ns := by
  refine ⟨(ns.drop (HT.sIx ns.length 0 lo)).take (HT.sIx ns.length ns.length hi - HT.sIx ns.length 0 lo), ?_, ?_, ?_⟩
  · unfold cutV
    simp only [List.length_map, List.map_take, List.map_drop]
  · simp only [List.length_take, List.length_drop]; omega
  · intro n hn
    exact List.mem_of_mem_drop (List.mem_of_mem_take hn)
theorem cut_to (ns : List Int) (k : Nat) (h : k ≤ ns.length) : cutV (ns.map V.int) none (some (k : Int)) = (ns.take k).map V.int := by
  unfold cutV
  rw [HT.sIx_none, HT.sIx_nat, List.length_map, List.drop_zero, Nat.sub_zero, Nat.min_eq_left h, List.map_take]
theorem cut_from (ns : List Int) (k : Nat) (h : k ≤ ns.length) : cutV (ns.map V.int) (some (k : Int)) none = (ns.drop k).map V.int := by
  unfold cutV
  rw [HT.sIx_none, HT.sIx_nat, List.length_map, Nat.min_eq_left h, ← List.map_drop, ← List.map_take, List.take_of_length_le (by simp)]
inductive spTen (vs : List V) (H : Hp) (Q : VK) (E_ : XK) : Prop
  | mk (n : Nat) (h0_ : vs = [.int n]) (h1_ : n ≤ 1000) (h2_ : Q (.int (10 ^ n)) H) : spTen vs H Q E_
noncomputable def sd1 (seed z : Int) : Int := (seed * 40014 + z % 999983 + 29) % 2147483563
noncomputable def sd2 (seed : Int) (ys : List Int) : Int := (seed * seed + 52774 * seed + 13 * ((List.map V.int ys).length : Int) + 7) % 2147483629
noncomputable def rs1 (z : Int) : Int := z - 10 ^ (18 : Int).toNat
inductive spNumbers (K : PySem.W.Frag) (vs : List V) (H : Hp) (Q : VK) (E_ : XK) : Prop
  | mk (a : Addr) (script : List Int) (m : Nat) (h0_ : vs = [.ref a, .int m]) (h1_ : SqL K H a (script.map V.int)) (h2_ : script.length ≤ 63) (h3_ : m ≤ 1000) (h4_ : ∀ (l : Addr) (ns : List Int) (H' : Hp), ns.length = m → Nums ns → H l = none → Same H H' → H' l = some (.lst (ns.map V.int)) → Q (.ref l) H') : spNumbers K vs H Q E_
noncomputable def Row (r : List Int) : Prop := r.Pairwise (· < ·)
theorem int_at {l : List Int} {i : Nat} {x : V} (h : (l.map V.int)[i]? = some x) : ∃ z, x = .int z ∧ l[i]? = some z := by
  rw [List.getElem?_map] at h
  cases e : l[i]? with
  | none => rw [e] at h; cases h
  | some z => rw [e] at h; exact ⟨z, (Option.some.inj h).symm, rfl⟩
noncomputable def PairAt (H : Hp) (v : V) (p : Int × Int) : Prop := ∃ t, v = .ref t ∧ H t = some (.tup [.int p.1, .int p.2])
noncomputable abbrev Prs (H : Hp) : List V → List (Int × Int) → Prop := Paired (PairAt H)
noncomputable def TupS (H H' : Hp) : Prop := ∀ t xs, H t = some (.tup xs) → H' t = some (.tup xs)
theorem Prs.mono {H H' : Hp} (h : TupS H H') {vs : List V} {ps : List (Int × Int)} (r : Prs H vs ps) : Prs H' vs ps := Paired.mapP r fun _ _ ⟨t, e, q⟩ => ⟨t, e, h _ _ q⟩
theorem TupS.new {H : Hp} {a : Addr} {o : HO} (h : H a = none) : TupS H (upd H a o) := fun t xs e => by rw [upd_ne (ne_of_none e h)]; exact e
theorem TupS.lst {H : Hp} {a : Addr} {xs ys : List V} (h : H a = some (.lst xs)) : TupS H (upd H a (.lst ys)) := fun t zs e => by rw [upd_ne (ne_of e h (by intro z; cases z))]; exact e
theorem TupS.same {H H' : Hp} (h : Same H H') : TupS H H' := fun t xs e => h _ _ e
theorem TupS.trans {H H1 H2 : Hp} (a : TupS H H1) (b : TupS H1 H2) : TupS H H2 := fun t xs e => b _ _ (a _ _ e)
noncomputable def stepR (ps : List (Int × Int)) (x : Int) : List (Int × Int) :=
  match ps.getLast? with
  | some p => if p.2 = x - 1 then ps.dropLast ++ [(p.1, x)] else ps ++ [(x, x)]
  | none => [(x, x)]
noncomputable def runsM (row : List Int) : List (Int × Int) := row.foldl stepR []
theorem canLay_ints (ns : List Int) : PyData.canLayAll0 (ns.map PyData.int) = true := by
  induction ns with
  | nil => rfl
  | cons p r ih => simp [PyData.canLayAll0, PyData.canLay0, ih]
theorem depth_ints (ns : List Int) : PyData.depthAll (ns.map PyData.int) = 0 := by
  induction ns with
  | nil => simp [PyData.depthAll]
  | cons p r ih => simp [PyData.depthAll, PyData.depth, ih]
mutual
noncomputable def sml : PyData → Bool
  | .list xs => decide (xs.length ≤ 5000) && smlAll xs
  | .tuple xs => decide (xs.length ≤ 5000) && smlAll xs
  | .dict _ => false
  | .none => true
  | .bool _ => true
  | .int _ => true
  | .str _ => true
noncomputable def smlAll : List PyData → Bool
  | [] => true
  | x :: xs => sml x && smlAll xs
end
theorem sml_mem {ds : List PyData} {d : PyData} (h : d ∈ ds) (hc : smlAll ds = true) : sml d = true := by
  induction ds with
  | nil => cases h
  | cons x r ih =>
    simp only [smlAll, Bool.and_eq_true] at hc
    rcases List.mem_cons.mp h with rfl | h
    · exact hc.1
    · exact ih h hc.2
inductive spSame (n : Nat) (vs : List V) (H : Hp) (Q : VK) (E_ : XK) : Prop
  | mk (x y : V) (d : PyData) (h0_ : vs = [x, y]) (h1_ : Den H x d) (h2_ : Den H y d) (h3_ : d.depth ≤ n) (h4_ : SeqAt.shaped d = true) (h5_ : sml d = true) (h6_ : ∀ H', Same H H' → Q (.bl true) H') : spSame n vs H Q E_
theorem depth_mem {ds : List PyData} {d : PyData} (h : d ∈ ds) : d.depth ≤ PyData.depthAll ds := by
  induction ds with
  | nil => cases h
  | cons x r ih =>
    simp only [PyData.depthAll]
    rcases List.mem_cons.mp h with rfl | h
    · omega
    · have := ih h; omega
theorem canLay_mem {ds : List PyData} {d : PyData} (h : d ∈ ds) (hc : PyData.canLayAll0 ds = true) : d.canLay0 = true := by
  induction ds with
  | nil => cases h
  | cons x r ih =>
    simp only [PyData.canLayAll0, Bool.and_eq_true] at hc
    rcases List.mem_cons.mp h with rfl | h
    · exact hc.1
    · exact ih h hc.2
theorem eqv_self {d : PyData} (h : SeqAt.shaped d = true) : PyData.eqv d d = true := SeqAt.eqv_refl d (SeqAt.canLay_of_shaped h)
inductive spLaw (K : PySem.W.Frag) (vs : List V) (H : Hp) (Q : VK) (E_ : XK) : Prop
  | mk (a : Addr) (ns : List Int) (h0_ : vs = [.ref a]) (h1_ : SqL K H a (ns.map V.int)) (h2_ : ns.length ≤ 63) (h3_ : ∀ H', Q (.bl true) H') : spLaw K vs H Q E_
end CW

set_option linter.all false
namespace CW
end CW

set_option Elab.async false
set_option linter.all false
set_option maxRecDepth 100000
set_option maxHeartbeats 4000000
namespace CW
open PySem L2
end CW

set_option Elab.async false
set_option linter.all false
set_option maxRecDepth 100000
set_option maxHeartbeats 4000000
namespace CW
open PySem L2
end CW

set_option Elab.async false
set_option linter.all false
set_option maxRecDepth 100000
set_option maxHeartbeats 4000000
namespace CW
open PySem L2
noncomputable def LP (H : Hp) (a : Addr) (ps : List (Int × Int)) : Prop := ∃ us, H a = some (.lst us) ∧ Prs H us ps
theorem LP.mono {H H' : Hp} (h : Same H H') {a : Addr} {ps : List (Int × Int)} (r : LP H a ps) : LP H' a ps := let ⟨us, e, p⟩ := r; ⟨us, h _ _ e, p.mono (TupS.same h)⟩
theorem Prs.len {H : Hp} {us : List V} {ps : List (Int × Int)} (h : Prs H us ps) : us.length = ps.length := Paired.length h
noncomputable def szs (ps : List (Int × Int)) : List Int := ps.map (·.1)
structure Trn (ps : List (Int × Int)) : Prop where
  pos : ∀ p ∈ ps, 1 ≤ p.1
  few : (szs ps).sum ≤ 60
theorem len_le_sum : ∀ {ps : List (Int × Int)}, (∀ p ∈ ps, 1 ≤ p.1) → (ps.length : Int) ≤ (szs ps).sum
  | [], _ => by simp [szs]
  | p :: r, h => by
    have h1 := h p (List.mem_cons_self)
    have h2 := len_le_sum (ps := r) fun q hq => h q (List.mem_cons_of_mem _ hq)
    simp only [szs, List.map_cons, List.sum_cons, List.length_cons] at h2 ⊢
    omega
theorem Trn.len {ps : List (Int × Int)} (h : Trn ps) : ps.length ≤ 60 := by
  have h1 := len_le_sum h.pos
  have := h.few
  omega
end CW

set_option Elab.async false
set_option linter.all false
set_option maxRecDepth 100000
set_option maxHeartbeats 4000000
namespace CW
open PySem L2
noncomputable def rkP (p q : Int × Int) : Prop := p.2 - p.1 ≤ q.2 - q.1 ∧ p.2 - p.1 + 1 ≤ q.1 - p.2 - 1
noncomputable def Rnk (ps : List (Int × Int)) : Prop := ∀ (j : Nat) (p q : Int × Int), ps[j]? = some p → ps[j + 1]? = some q → rkP p q
theorem cutV_from (us : List V) (k : Nat) : cutV us (some (k : Int)) none = us.drop k := by
  unfold cutV
  rw [HT.sIx_none, HT.sIx_nat]
  by_cases h : k ≤ us.length
  · rw [Nat.min_eq_left h, List.take_of_length_le (by simp)]
  · rw [Nat.min_eq_right (by omega), Nat.sub_self, List.take_zero, List.drop_eq_nil_of_le (by omega)]
theorem cutV_to (us : List V) (k : Nat) : cutV us none (some (k : Int)) = us.take k := by
  unfold cutV
  rw [HT.sIx_none, HT.sIx_nat, List.drop_zero, Nat.sub_zero]
  by_cases h : k ≤ us.length
  · rw [Nat.min_eq_left h]
  · rw [Nat.min_eq_right (by omega), List.take_of_length_le (by omega), List.take_of_length_le (by omega)]
theorem Rnk.nil : Rnk (runsM []) := fun j p q h => by simp [runsM] at h
theorem Rnk.snoc {ps : List (Int × Int)} {q : Int × Int} (h : Rnk ps) (hl : ∀ p, ps.getLast? = some p → rkP p q) : Rnk (ps ++ [q]) := by
  intro j a b ha hb
  have hj : j + 1 < (ps ++ [q]).length := (List.getElem?_eq_some_iff.mp hb).1
  simp only [List.length_append, List.length_singleton] at hj
  by_cases hlt : j + 1 < ps.length
  · rw [List.getElem?_append_left (by omega)] at ha
    rw [List.getElem?_append_left hlt] at hb
    exact h j a b ha hb
  · have e : j + 1 = ps.length := by omega
    rw [List.getElem?_append_left (by omega)] at ha
    rw [List.getElem?_append_right (by omega), e, Nat.sub_self] at hb
    have eb : q = b := by simpa using hb
    subst eb
    refine hl a ?_
    rw [List.getLast?_eq_getElem?, show ps.length - 1 = j by omega]
    exact ha
noncomputable def LastOk (ps : List (Int × Int)) (size place : Int) : Prop := ∀ q, ps.getLast? = some q → q.1 ≤ q.2 ∧ q.2 - q.1 + 1 ≤ size ∧ q.2 - q.1 + 1 ≤ place - q.2 - 1
theorem LastOk.mono {ps : List (Int × Int)} {size size' place : Int} (h : LastOk ps size place) (hs : size ≤ size') : LastOk ps size' place := fun q hq => by have := h q hq; omega
noncomputable def RowAt (H : Hp) (u : V) : Prop := ∃ l row, u = .ref l ∧ H l = some (.lst (row.map V.int)) ∧ Row row ∧ row.length ≤ 60
theorem RowAt.mono {H H' : Hp} (h : Same H H') {u : V} (r : RowAt H u) : RowAt H' u := let ⟨l, row, e, q, z⟩ := r; ⟨l, row, e, h _ _ q, z⟩
noncomputable def RowsOk (H : Hp) (lr : Addr) (us : List V) : Prop := H lr = some (.lst us) ∧ (∃ x r, us = .ref x :: r) ∧ ∀ u ∈ us, RowAt H u
theorem RowsOk.mono {H H' : Hp} (h : Same H H') {lr : Addr} {us : List V} (r : RowsOk H lr us) : RowsOk H' lr us := ⟨h _ _ r.1, r.2.1, fun u hu => (r.2.2 u hu).mono h⟩
theorem ints_ne {row : List Int} {x : Addr} {r : List V} : HO.lst (row.map V.int) ≠ HO.lst (.ref x :: r) := by
  intro z
  cases row with
  | nil => cases z
  | cons a b => cases z
theorem RowAt.set {H : Hp} {lr x : Addr} {r vs : List V} (h : H lr = some (.lst (.ref x :: r))) {u : V} (q : RowAt H u) : RowAt (upd H lr (.lst vs)) u := by
  obtain ⟨l, row, e, q, z⟩ := q
  exact ⟨l, row, e, by rw [upd_ne (ne_of q h ints_ne)]; exact q, z⟩
theorem RowsOk.snoc {H : Hp} {lr : Addr} {us : List V} {u : V} (h : RowsOk H lr us) (hu : RowAt H u) : RowsOk (upd H lr (.lst (us ++ [u]))) lr (us ++ [u]) := by
  obtain ⟨e, ⟨x, r, rfl⟩, q⟩ := h
  refine ⟨upd_same, ⟨x, r ++ [u], rfl⟩, fun v hv => ?_⟩
  rcases List.mem_append.mp hv with z | z
  · exact (q v z).set e
  · rw [List.mem_singleton.mp z]; exact hu.set e
end CW

set_option Elab.async false
set_option linter.all false
set_option maxRecDepth 100000
set_option maxHeartbeats 4000000
namespace CW
open PySem L2
end CW

set_option Elab.async false
set_option linter.all false
set_option maxRecDepth 100000
set_option maxHeartbeats 1000000
namespace L2
open PySem PySem.W PySem.Spec PyProof.Rows
noncomputable def plt (a b : Int × Int) : Bool := decide (a.1 < b.1) || (decide (a.1 = b.1) && decide (a.2 < b.2))
noncomputable def PairV (h : Heap) (v : Value) (p : Int × Int) : Prop := ∃ t o n k1 k2, v = .ref t ∧ h.get? t = some o ∧ o.cls = .type "tuple" ∧ o.data = .seq #[.int p.1 k1, .int p.2 k2] n
section
variable {prog : Program} {w : World} {A : Around} {E : Value → Shared → Prop} {s : Shared}
end
section
variable {X : Cx}
end
end L2

set_option Elab.async false
set_option linter.all false
set_option maxRecDepth 100000
set_option maxHeartbeats 4000000
namespace L2
open PySem PySem.Spec PyProof.Rows
noncomputable def stepL (m i : Nat) : Nat := (i * 5 + 1) % (m + 1)
noncomputable def distL (m : Nat) : Nat → Nat → Nat → Nat
  | 0, _, _ => 0
  | f + 1, i, j => if i = j then 0 else distL m f (stepL m i) j + 1
noncomputable def FullL (m : Nat) : Prop := ∀ i j : Fin (m + 1), i.val ≠ j.val → distL m (m + 1) i j = distL m (m + 1) (stepL m i) j + 1
noncomputable instance (m : Nat) : Decidable (FullL m) := by unfold FullL; infer_instance
section
variable {t : SetTable} {h : Int}
end
end L2

set_option Elab.async false
set_option linter.all false
set_option maxRecDepth 100000
set_option maxHeartbeats 4000000
namespace L2
open PySem PySem.Spec PyProof.Rows
end L2

set_option Elab.async false
set_option linter.all false
set_option maxRecDepth 100000
set_option maxHeartbeats 4000000
namespace L2
open PySem PySem.Spec PyProof.Rows
section
variable {prog : Program} {w : World} {A : Around} {E : Value → Shared → Prop} {s : Shared}
end
end L2

set_option Elab.async false
set_option linter.all false
set_option maxRecDepth 100000
set_option maxHeartbeats 4000000
namespace L2
open PySem PySem.Spec PyProof.Rows
section
variable {prog : Program} {w : World} {A : Around} {R : Result → Shared → Prop} {I : Addr} {fp wr : List Addr} {G : Array GenState → Array GenState → Prop} {n : Nat} {P : Nat → Value → Prop} {St : Nat → Shared → Prop}
end
section
variable {prog : Program} {w : World} {A : Around} {E : Value → Shared → Prop} {s : Shared}
end
end L2

set_option Elab.async false
set_option linter.all false
set_option maxRecDepth 100000
set_option maxHeartbeats 4000000
namespace L2
open PySem PySem.Spec PyProof.Rows
section
variable {prog : Program} {w : World} {A : Around} {E : Value → Shared → Prop} {s : Shared}
end
end L2

set_option Elab.async false
set_option linter.all false
set_option maxRecDepth 100000
set_option maxHeartbeats 4000000
namespace L2
open PySem PySem.Spec PyProof.Rows
section
variable {prog : Program} {w : World} {A : Around} {E : Value → Shared → Prop} {s : Shared}
end
end L2

set_option Elab.async false
set_option linter.all false
set_option maxRecDepth 100000
set_option maxHeartbeats 1000000
namespace L2
open PySem PySem.Spec PyProof.Rows
section
variable {X : Cx}
end
end L2

set_option Elab.async false
set_option linter.all false
set_option maxRecDepth 100000
set_option maxHeartbeats 4000000
namespace L2
open PySem PySem.Spec PyProof.Rows
section
variable {prog : Program} {w : World} {A : Around} {E : Value → Shared → Prop} {s : Shared}
variable {X : Cx} {e : Expr} {es : List Expr} {t : TA} {x y : Str} {p p2 pos pos2 : Pos}
end
end L2

set_option Elab.async false
set_option linter.all false
set_option maxRecDepth 100000
namespace L2
open PySem PySem.Spec PyProof.Rows
section
variable {K : PySem.W.Frag} {x qual : Str} {st : Stmt} {f : Addr} {fd : FuncData} {p1 p2 p3 p4 : Str}
theorem Fun.binds1 (F : Fun K x qual st f fd) (h : ∀ (kV doc pm : Value) (an : Option Addr) (cdv ct u : Value), bindArgs (PySem.W.fnOf x qual (defArgs st) (defBody st) (defScope st) .none kV doc pm an cdv ct) ⟨[u], []⟩ = pure [(p1, u)]) : Binds K fd [p1] [] :=
  F.binds fun a b c d e g us hl => match us, hl with | [u], _ => h a b c d e g u
theorem Fun.binds2 (F : Fun K x qual st f fd) (h : ∀ (kV doc pm : Value) (an : Option Addr) (cdv ct u v : Value), bindArgs (PySem.W.fnOf x qual (defArgs st) (defBody st) (defScope st) .none kV doc pm an cdv ct) ⟨[u, v], []⟩ = pure [(p1, u), (p2, v)]) : Binds K fd [p1, p2] [] :=
  F.binds fun a b c d e g us hl => match us, hl with | [u, v], _ => h a b c d e g u v
theorem Fun.binds3 (F : Fun K x qual st f fd) (h : ∀ (kV doc pm : Value) (an : Option Addr) (cdv ct u v w : Value), bindArgs (PySem.W.fnOf x qual (defArgs st) (defBody st) (defScope st) .none kV doc pm an cdv ct) ⟨[u, v, w], []⟩ = pure [(p1, u), (p2, v), (p3, w)]) : Binds K fd [p1, p2, p3] [] :=
  F.binds fun a b c d e g us hl => match us, hl with | [u, v, w], _ => h a b c d e g u v w
end
end L2

set_option Elab.async false
set_option linter.all false
set_option maxRecDepth 100000
namespace L2
open PySem PySem.Spec PyProof.Rows

section
variable {κ : Type} [DecidableEq κ]
noncomputable def valV (kvs : List (κ × V)) (k : κ) : Option V := (kvs.find? fun kv => decide (kv.1 = k)).map (·.2)
noncomputable def putK (kvs : List (κ × V)) (k : κ) (v : V) : List (κ × V) :=
  if (kvs.any fun kv => decide (kv.1 = k)) = true then kvs.map (fun kv => if kv.1 = k then (kv.1, v) else kv) else kvs ++ [(k, v)]
theorem valV_pos {p : κ × V} {r : List (κ × V)} {k : κ} (e : p.1 = k) : valV (p :: r) k = some p.2 := by simp [valV, List.find?_cons, e]
theorem valV_neg {p : κ × V} {r : List (κ × V)} {k : κ} (e : ¬ p.1 = k) : valV (p :: r) k = valV r k := by simp [valV, List.find?_cons, e]
theorem length_putK (kvs : List (κ × V)) (k : κ) (v : V) : (putK kvs k v).length ≤ kvs.length + 1 := by
  unfold putK
  split
  · rw [List.length_map]; omega
  · rw [List.length_append, List.length_cons, List.length_nil]; omega
theorem RelO.isSome_eq {o : Option V} {u : Option Value} (r : RelO o u) : o.isSome = u.isSome := by
  cases o with
  | none => cases u with
    | none => rfl
    | some _ => exact (show False from r).elim
  | some _ => cases u with
    | none => exact (show False from r).elim
    | some _ => rfl
theorem RelO.getD {o : Option V} {u : Option Value} {d : V} {d' : Value} (r : RelO o u) (rd : RelV d d') : RelV (o.getD d) (u.getD d') := by
  cases o with
  | none => cases u with
    | none => exact rd
    | some _ => exact (show False from r).elim
  | some _ => cases u with
    | none => exact (show False from r).elim
    | some _ => exact r

theorem KV.val {kvs : List (κ × V)} {vs : List (κ × Value)} (r : KV kvs vs) (k : κ) : RelO (valV kvs k) (valueAt vs k) := by
  unfold KV at r
  induction r with
  | nil => exact True.intro
  | @cons p q ps qs h t ih =>
    obtain ⟨h1, h2⟩ := h
    by_cases e : p.1 = k
    · have e' : q.1 = k := h1.symm.trans e
      have b : valueAt (q :: qs) k = some q.2 := by simp [valueAt, List.find?_cons, e']
      rw [valV_pos e, b]; exact h2
    · have e' : ¬ q.1 = k := fun z => e (h1.trans z)
      have b : valueAt (q :: qs) k = valueAt qs k := by simp [valueAt, List.find?_cons, e']
      rw [valV_neg e, b]; exact ih
theorem KV.any {kvs : List (κ × V)} {vs : List (κ × Value)} (r : KV kvs vs) (k : κ) : (kvs.any fun kv => decide (kv.1 = k)) = vs.any fun kv => decide (kv.1 = k) := by
  unfold KV at r
  induction r with
  | nil => rfl
  | cons h t ih => rw [List.any_cons, List.any_cons, ih, h.1]
theorem KV.repl {kvs : List (κ × V)} {vs : List (κ × Value)} (r : KV kvs vs) (k : κ) {y : V} {u : Value} (ry : RelV y u) :
    KV (kvs.map fun kv => if kv.1 = k then (kv.1, y) else kv) (vs.map fun kv => if kv.1 = k then (kv.1, u) else kv) := by
  unfold KV at r ⊢
  induction r with
  | nil => exact .nil
  | @cons p q ps qs h t ih =>
    rw [List.map_cons, List.map_cons]
    refine .cons ?_ ih
    obtain ⟨h1, h2⟩ := h
    by_cases e : p.1 = k
    · rw [if_pos e, if_pos (h1.symm.trans e)]; exact ⟨h1, ry⟩
    · rw [if_neg e, if_neg (fun z => e (h1.trans z))]; exact ⟨h1, h2⟩
theorem KV.put {kvs : List (κ × V)} {vs : List (κ × Value)} (r : KV kvs vs) (k : κ) {y : V} {u : Value} (ry : RelV y u) : KV (putK kvs k y) (stored vs k u) := by
  unfold putK stored
  rw [r.any k]
  by_cases e : (vs.any fun kv => decide (kv.1 = k)) = true
  · rw [if_pos e, if_pos e]; exact r.repl k ry
  · rw [if_neg e, if_neg e]; exact Paired.snoc r ⟨rfl, ry⟩
theorem KV.length {kvs : List (κ × V)} {vs : List (κ × Value)} (r : KV kvs vs) : kvs.length = vs.length := Paired.length r
end


theorem kV_is {P : Program} {w : World} {k : Key} {u : Value} (r : RelV (kV k) u) : (mixKind P w).is k u = true := by
  cases k with
  | inl i => obtain ⟨t, e⟩ := (show ∃ t, u = Value.int i t from r); subst e; exact mixKind_int P w i t
  | inr x => obtain ⟨t, e⟩ := (show ∃ t, u = Value.str x t from r); subst e; exact mixKind_str P w x t
theorem items_are {P : Program} {w : World} : ∀ {ks : List Key} {us : List Value}, Vals (ks.map kV) us → ItemsAre (mixKind P w) ks us
  | [], _, r => by rw [List.map_nil] at r; cases r; exact .nil
  | k :: ks, _, r => by
    rw [List.map_cons] at r
    cases r with
    | cons h t => exact .cons (kV_is h) (items_are t)

noncomputable abbrev KT (H : Hp) : List (List Key × V) → List (List Key × Addr × Value) → Prop := Paired fun p q => p.1 = q.1 ∧ H q.2.1 = some (.tup (p.1.map kV)) ∧ RelV p.2 q.2.2
theorem KT.val {H : Hp} {kvs : List (List Key × V)} {xs : List (List Key × Addr × Value)} (r : KT H kvs xs) (k : List Key) : RelO (valV kvs k) ((atKey xs k).map (·.2)) := by
  induction r with
  | nil => exact True.intro
  | @cons p q ps qs h t ih =>
    obtain ⟨h1, _, h2⟩ := h
    by_cases e : p.1 = k
    · have e' : q.1 = k := h1.symm.trans e
      have b : atKey (q :: qs) k = some q.2 := by simp [atKey, List.find?_cons, e']
      rw [valV_pos e, b]; exact h2
    · have e' : ¬ q.1 = k := fun z => e (h1.trans z)
      have b : atKey (q :: qs) k = atKey qs k := by simp [atKey, List.find?_cons, e']
      rw [valV_neg e, b]; exact ih
theorem KT.keeps {H H' : Hp} {kvs : List (List Key × V)} {xs : List (List Key × Addr × Value)} (r : KT H kvs xs) (ht : ∀ b ys, H b = some (.tup ys) → H' b = some (.tup ys)) : KT H' kvs xs :=
  Paired.mapP r fun _ _ z => ⟨z.1, ht _ _ z.2.1, z.2.2⟩

section
variable {P : Program} {w : World} {H : Hp} {h : Heap} {a : Addr}
theorem rd_of {u : HO} (ok : HOk P w H h) (e : Rd H a u) : ObjOk P w H h a u := e.ok ok
theorem dk_rd {kvs : List (Key × V)} (ok : HOk P w H h) (e : Rd H a (.dK kvs)) : kvs.length ≤ sizeLine ∧ (a == sysModules) = false ∧ ∃ vs, KV kvs vs ∧ h.DictOf (mixKind P w) a vs :=
  show ObjOk P w H h a (.dK kvs) from rd_of ok e
theorem dk_of {kvs : List (Key × V)} (ok : HOk P w H h) (e : H a = some (.dK kvs)) : kvs.length ≤ sizeLine ∧ (a == sysModules) = false ∧ ∃ vs, KV kvs vs ∧ h.DictOf (mixKind P w) a vs := dk_rd ok (.inl e)
theorem key_of {ks : List Key} (ok : HOk P w H h) (e : H a = some (.tup (ks.map kV))) : (tupleKind (mixKind P w)).is h ks a := by
  obtain ⟨_, its, r, o, h1, h2, n, h3⟩ := (show ObjOk P w H h a (.tup (ks.map kV)) from ok a _ e)
  exact ⟨o, its.toArray, n, h1, h2, h3, by simpa using items_are r⟩
theorem dt_rd {kvs : List (List Key × V)} (ok : HOk P w H h) (e : Rd H a (.dT kvs)) : kvs.length ≤ sizeLine ∧ (a == sysModules) = false ∧
    ∃ xs, KT H kvs xs ∧ h.DictOfH (tupleKind (mixKind P w)) a xs := by
  obtain ⟨z, y, xs, r, o, es, ep, h1, h2, h3, h4, h5⟩ := (show ObjOk P w H h a (.dT kvs) from rd_of ok e)
  refine ⟨z, y, xs, r, o, es, ep, h1, h2, h3, h4, fun x hx => ?_, h5⟩
  have all : ∀ {l : List (List Key × V)} {m : List (List Key × Addr × Value)}, KT H l m → ∀ x ∈ m, (tupleKind (mixKind P w)).is h x.1 x.2.1 := by
    intro l m q
    induction q with
    | nil => intro x hx; exact nomatch hx
    | @cons p q ps qs hq t ih =>
      intro x hx
      rcases List.mem_cons.mp hx with e | hx
      · subst e
        exact key_of ok (by rw [← hq.1]; exact hq.2.1)
      · exact ih x hx
  exact all r x hx
end

noncomputable def DGet (H : Hp) (a : Addr) (y : V) (r : Option V) : Prop :=
  (∃ kvs k, Rd H a (.dK kvs) ∧ y = kV k ∧ r = valV kvs k) ∨ ∃ kvs k b, Rd H a (.dT kvs) ∧ y = .ref b ∧ H b = some (.tup (k.map kV)) ∧ r = valV kvs k
theorem DGet.k {H : Hp} {a : Addr} {kvs : List (Key × V)} {k : Key} (e : H a = some (.dK kvs)) : DGet H a (kV k) (valV kvs k) := .inl ⟨kvs, k, .inl e, rfl, rfl⟩
section
variable {X : Cx} {pins : List (Addr × Obj)} {σ : St} {H : Hp} {s : Shared} {a : Addr} {y v : V} {u r : Value} {o : Option V} {A : Around} {E : Value → Shared → Prop}

theorem Inv.big (I : Inv X pins σ H s) : sysModules < s.heap.objs.size := by
  have h : mainGlobals < s.heap.objs.size := (I.mod.glob.keeps I.bk).lt
  exact Nat.lt_trans (by decide) h

theorem d_getItem {Q : Value → Shared → Prop} (hu : A.units + 1 < cLine) (I : Inv X pins σ H s) (g : DGet H a y (some v)) (ry : RelV y u) (h : ∀ w' s', Inv X pins σ H s' → RelV v w' → Q w' s') :
    wpAny (model X.prog X.w) A (getItem (.ref a) u) Q E s := by
  rcases g with ⟨kvs, k, e, ey, l⟩ | ⟨kvs, k, b, e, ey, eb, l⟩
  · subst ey
    obtain ⟨z, hd, vs, rel, dd⟩ := dk_rd I.hok e
    obtain ⟨w', hw, rw'⟩ := RelO.some_of (v := v) (o := valueAt vs k) (by rw [l]; exact rel.val k)
    exact wpAny_getItem_of (kV_is ry) dd.mapOf hw (h w' _ (I.tok _) rw')
  · subst ey
    cases (show u = Value.ref b from ry)
    obtain ⟨z, hd, xs, rel, dd⟩ := dt_rd I.hok e
    obtain ⟨w', hw, rw'⟩ := RelO.some_of (v := v) (o := (atKey xs k).map (·.2)) (by rw [l]; exact rel.val k)
    obtain ⟨p, hp, hp2⟩ := Option.map_eq_some_iff.mp hw
    refine wpAny_getItem_heap (tupleKind_room_in1 hu) (key_of I.hok eb) dd hp ?_
    rw [hp2]
    exact h w' _ (I.tok _) rw'
theorem d_notIn {Q : Value → Shared → Prop} (hu : A.units + 1 < cLine) (I : Inv X pins σ H s) (g : DGet H a y o) (ry : RelV y u) (h : ∀ s', Inv X pins σ H s' → Q (.bool (!o.isSome)) s') :
    wpAny (model X.prog X.w) A (compareOp .NotIn u (.ref a)) Q E s := by
  rcases g with ⟨kvs, k, e, ey, l⟩ | ⟨kvs, k, b, e, ey, eb, l⟩
  · subst ey
    obtain ⟨z, hd, vs, rel, dd⟩ := dk_rd I.hok e
    refine wpAny_notIn_of (kV_is ry) hd dd.mapOf ?_
    rw [← (rel.val k).isSome_eq, ← l]
    exact h _ (I.tok _)
  · subst ey
    cases (show u = Value.ref b from ry)
    obtain ⟨z, hd, xs, rel, dd⟩ := dt_rd I.hok e
    refine wpAny_notIn_heap (tupleKind_room_in1 hu) (key_of I.hok eb) hd dd ?_
    have q := (rel.val k).isSome_eq
    rw [Option.isSome_map] at q
    rw [← q, ← l]
    exact h _ (I.tok _)
theorem d_write {h' : Heap} {t' : Nat} {ob : HO} (I : Inv X pins σ H s) (mu : Mut (H a)) (hs : Heap.SameBut a s.heap h') (he : ∃ q, h'.get? a = some q) (new : ObjOk X.prog X.w (upd H a ob) h' a ob) :
    Inv X pins σ (upd H a ob) { s with heap := h', toks := t' } :=
  I.write (x := a) (e := a) mu (.inl rfl) (fun b q hb z => (hs.2 b hb).trans z) he new
theorem dk_new {P : Program} {w : World} {H' : Hp} {h' : Heap} {kvs : List (Key × V)} {vs : List (Key × Value)} (z : kvs.length ≤ sizeLine) (hd : (a == sysModules) = false) (rel : KV kvs vs) (dd : h'.DictOf (mixKind P w) a vs) :
    ObjOk P w H' h' a (.dK kvs) := ⟨z, hd, vs, rel, dd⟩
end

section
variable {X : Cx} {pins : List (Addr × Obj)} {σ : St} {H : Hp} {s : Shared} {a : Addr} {kvs : List (Key × V)} {k : Key} {u : Value} {A : Around} {E : Value → Shared → Prop}
end


noncomputable def NoSl (i : Expr) : Prop := ∀ ov iv, subscripted i false ov iv = operate [ov, iv] (getItem ov iv)
theorem subD_of {prog : Program} {w : World} {A : Around} {E : Value → Shared → Prop} {s : Shared} {env : Env} {value slice : Expr} {pos : Pos} {T id : String} {Q : Value → Shared → Prop}
    (hl : typeLookup (.type T) "__getitem__" = pure (some (.builtin id))) (hs : NoSl slice)
    (h : wpAny (model prog w) A (eval value env) (fun o s₁ => wpAny (model prog w) A (eval slice env) (fun i s₂ => s₂.TypeIs o T ∧ wpAny (model prog w) A (getItem o i) Q E s₂) E s₁) E s) :
    wpAny (model prog w) A (eval (.Subscript value slice pos) env) Q E s := by
  refine Subscript_ (wpAny_mono h (fun o s₁ h₁ => wpAny_mono h₁ (fun i s₂ h₂ => ?_) fun _ _ x => x) fun _ _ x => x)
  obtain ⟨hT, h₂⟩ := h₂
  unfold subscriptTail
  refine wpAny_bind ?_
  rw [getitemInPython_of_ne hT.not_modules]
  refine wpAny_bind (wpAny_specialOf hT hl ?_)
  have fin : wpAny (model prog w) A (subscripted slice false o i) (fun r s₃ => wpAny (model prog w) A (letTemporaryGo value o r >>= fun _ => pure r) Q E s₃) E s₂ := by
    rw [hs o i]
    exact wpAny_operating (wpAny_mono h₂ (fun r s₃ h₃ => wpAny_bind (wpAny_letTemporaryGo (wpAny_pure h₃))) fun _ _ x => x)
  first
    | exact wpAny_pure (wpAny_bind fin)
    | exact wpAny_bind (wpAny_pure (wpAny_bind fin))
    | exact wpAny_bind fin

theorem dict_typeIs {X : Cx} {pins : List (Addr × Obj)} {σ : St} {H : Hp} {s : Shared} {a : Addr} {y : V} {o : Option V} (I : Inv X pins σ H s) (g : DGet H a y o) : s.TypeIs (.ref a) "dict" := by
  rcases g with ⟨kvs, k, e, _, _⟩ | ⟨kvs, k, b, e, _, _, _⟩
  · obtain ⟨_, _, vs, _, dd⟩ := dk_rd I.hok e
    exact dd.typeIs
  · obtain ⟨_, _, xs, _, dd⟩ := dt_rd I.hok e
    exact dd.typeIs
noncomputable def tDGet (td ty : TE) : TE := fun σ H Q => td σ H fun x H1 => ty σ H1 fun y H2 => ∃ a v, x = .ref a ∧ DGet H2 a y (some v) ∧ Q v H2
noncomputable def tDNotIn (ty td : TE) : TE := fun σ H Q => ty σ H fun y H1 => td σ H1 fun x H2 => ∃ a o, x = .ref a ∧ DGet H2 a y o ∧ Q (.bl (!o.isSome)) H2
section
variable {X : Cx} {o i e value : Expr} {pos pos' tpos : Pos} {td ty tv : TE}
theorem pe_dget (hu : X.A.units + 1 < cLine) (ho : PE X o td) (hi : PE X i ty) (hs : NoSl i) : PE X (.Subscript o i pos) (tDGet td ty) := by
  intro pins s σ H Q I h
  refine subD_of PySem.F.slot_dict_getitem.lookup hs (thn (ho pins s σ H _ I h) fun u s1 ⟨x, H1, I1, rx, q1⟩ => thn (hi pins s1 σ H1 _ I1 q1) fun iv s2 ⟨y, H2, I2, ry, a, v, ex, g, q2⟩ => ?_)
  subst ex
  obtain rfl : u = Value.ref a := rx
  exact ⟨dict_typeIs I2 g, d_getItem hu I2 g ry fun w' s3 I3 rw' => ⟨v, H2, I3, rw', q2⟩⟩
theorem pc_dnotin (hu : X.A.units + 1 < cLine) (hi : PE X i ty) (ho : PE X o td) : PC X .NotIn i o (tDNotIn ty td) := by
  intro pins s σ H Q I h
  refine thn (hi pins s σ H _ I h) fun iv s1 ⟨y, H1, I1, ry, q1⟩ => thn (ho pins s1 σ H1 _ I1 q1) fun u s2 ⟨x, H2, I2, rx, a, ov, ex, g, q2⟩ => ?_
  subst ex
  obtain rfl : u = Value.ref a := rx
  exact d_notIn hu I2 g ry fun s3 I3 => ⟨.bl (!ov.isSome), H2, I3, rfl, q2⟩
end


theorem dk_empty {P : Program} {w : World} {H : Hp} (h : Heap) (hb : sysModules < h.objs.size) : ObjOk P w H (h.push { cls := .type "dict", data := .dict #[] }) h.objs.size (.dK []) :=
  ⟨Nat.zero_le _, beq_eq_false_iff_ne.mpr (Ne.symm (Nat.ne_of_lt hb)), [], .nil, Heap.DictOf.new h⟩
section
variable {X : Cx} {pos : Pos}
end

noncomputable def tPairs : List (TE × TE) → St → Hp → (List (V × V) → Hp → Prop) → Prop
  | [], _, H, Q => Q [] H
  | (tk, tv) :: r, σ, H, Q => tk σ H fun x H1 => tv σ H1 fun y H2 => tPairs r σ H2 fun ps H3 => Q ((x, y) :: ps) H3
noncomputable abbrev VV : List (V × V) → List (Value × Value) → Prop := Paired fun p q => RelV p.1 q.1 ∧ RelV p.2 q.2
noncomputable def PPs (X : Cx) (pos : Pos) (keys : List (Option Expr)) (values : List Expr) (trs : List (TE × TE)) : Prop :=
  ∀ (pins : List (Addr × Obj)) (s : Shared) (σ : St) (H : Hp) (Q : List (V × V) → Hp → Prop), Inv X pins σ H s → tPairs trs σ H Q →
    wpAny (model X.prog X.w) X.A (evalPairs (pairTrees keys values X.env pos)) (fun vs s' => ∃ ps H', Inv X pins σ H' s' ∧ VV ps vs ∧ Q ps H') X.xe s
theorem pps_nil {X : Cx} {pos : Pos} : PPs X pos [] [] [] := fun pins s σ H Q I h => pairTrees_nil_walk ⟨[], H, I, .nil, h⟩
theorem pps_cons {X : Cx} {pos : Pos} {k v : Expr} {ks : List (Option Expr)} {vs : List Expr} {tk tv : TE} {trs : List (TE × TE)} (hk : PE X k tk) (hv : PE X v tv) (hr : PPs X pos ks vs trs) :
    PPs X pos (some k :: ks) (v :: vs) ((tk, tv) :: trs) := fun pins s σ H Q I h =>
  pairTrees_cons_walk (thn (hk pins s σ H _ I h) fun u s1 ⟨x, H1, I1, rx, q1⟩ => thn (hv pins s1 σ H1 _ I1 q1) fun w2 s2 ⟨y, H2, I2, ry, q2⟩ =>
    thn (hr pins s2 σ H2 _ I2 q2) fun ws s3 ⟨ps, H3, I3, rel, q3⟩ => ⟨(x, y) :: ps, H3, I3, .cons ⟨rx, ry⟩ rel, q3⟩)

noncomputable def mergeK (kvs more : List (Key × V)) : List (Key × V) := more.foldl (fun acc kv => putK acc kv.1 kv.2) kvs
theorem KV.merge : ∀ {more : List (Key × V)} {rs : List (Key × Value)} {kvs : List (Key × V)} {vs : List (Key × Value)}, KV more rs → KV kvs vs → KV (mergeK kvs more) (merged vs rs) := by
  intro more rs kvs vs r
  unfold KV at r
  induction r generalizing kvs vs with
  | nil => intro q; exact q
  | @cons p q ps qs h t ih =>
    intro r0
    have e : KV (putK kvs p.1 p.2) (stored vs q.1 q.2) := by
      have := r0.put p.1 h.2
      rw [← h.1]; exact this
    exact ih e
theorem length_mergeK : ∀ (more kvs : List (Key × V)), (mergeK kvs more).length ≤ kvs.length + more.length
  | [], kvs => by show kvs.length ≤ kvs.length + 0; omega
  | p :: r, kvs => by
    have h1 := length_mergeK r (putK kvs p.1 p.2)
    have h2 := length_putK kvs p.1 p.2
    show (mergeK (putK kvs p.1 p.2) r).length ≤ _
    rw [List.length_cons]; omega
theorem carries_of {P : Program} {w : World} : ∀ {kvs : List (Key × V)} {ws : List (Value × Value)}, VV (kvs.map fun kv => (kV kv.1, kv.2)) ws → ∃ rs, Carries (mixKind P w) ws rs ∧ KV kvs rs
  | [], _, r => by rw [List.map_nil] at r; cases r; exact ⟨[], True.intro, .nil⟩
  | p :: kvs, _, r => by
    rw [List.map_cons] at r
    cases r with
    | @cons a b as bs h t =>
      obtain ⟨rs, c, q⟩ := carries_of (P := P) (w := w) t
      obtain ⟨b1, b2⟩ := b
      exact ⟨(p.1, b2) :: rs, ⟨kV_is h.1, rfl, c⟩, .cons ⟨rfl, h.2⟩ q⟩
noncomputable def tDisp (trs : List (TE × TE)) : TE := fun σ H Q => ∀ p, H p = none → tPairs trs σ (upd H p (.dK [])) fun ps H2 => H2 p = some (.dK []) ∧ ∃ kvs : List (Key × V), ps = kvs.map (fun kv => (kV kv.1, kv.2)) ∧ kvs.length ≤ 15 ∧ Q (.ref p) (upd H2 p (.dK (mergeK [] kvs)))
theorem pe_disp {X : Cx} {pos : Pos} {keys : List (Option Expr)} {values : List Expr} {trs : List (TE × TE)} (h : PPs X pos keys values trs) (hall : keys.all (·.isSome) = true) (hl : keys.length = values.length) (h0 : keys ≠ [])
    (h15 : keys.length ≤ 15) : PE X (.Dict keys values pos) (tDisp trs) := by
  intro pins s σ H Q I q
  have hn := I.hok.fresh (Nat.le_refl s.heap.objs.size)
  have I1 := I.laid (a := s.heap.objs.size) (o := .dK []) (h' := s.heap.push { cls := .type "dict", data := .dict #[] }) (t' := s.toks) (fun _ _ q => Heap.get?_push_of_some _ q) (Nat.le_refl _) (dk_empty s.heap I.big)
  refine wpAny_Dict_walk (knd := mixKind X.prog X.w) hall hl h0 h15 (thn (h pins _ σ _ _ I1 (q _ hn)) fun ws s2 ⟨ps, H2, I2, rel, e, kvs, ep, lk, q2⟩ => ?_)
  subst ep
  obtain ⟨rs, c, rk⟩ := carries_of (P := X.prog) (w := X.w) rel
  obtain ⟨z, hd, vs0, r0, dd⟩ := dk_of I2.hok e
  cases r0
  refine ⟨rs, c, dd, fun h' dd' hs => ⟨.ref s.heap.objs.size, _, ?_, rfl, q2⟩⟩
  have hz : (mergeK [] kvs).length ≤ sizeLine := by
    have h1 := length_mergeK kvs []
    rw [List.length_nil] at h1
    rw [sizeLine_eq]; omega
  have he : ∃ q, h'.get? s.heap.objs.size = some q := let ⟨q, _, _, hq, _⟩ := dd'; ⟨q, hq⟩
  exact d_write I2 (by rw [e]; exact True.intro) hs he (dk_new hz hd (rk.merge .nil) dd')


structure M1 (X : Cx) (o : Expr) (m : Str) (apos : Pos) (e : Expr) (cpos : Pos) : Prop where
  base : attributeBase o m X.env (eval o X.env) = eval o X.env
  few : ((backTo cpos (starEach [e] X.env)).all (fun x => !x.1) && (backToKw cpos (keywordEach [] X.env)).all (fun x => x.1.isSome)
    && decide (([e] : List Expr).length + ([] : List Keyword).length + (if ([] : List Keyword).isEmpty then 0 else 1) < 30)) = true
  line : (apos.endLine == cpos.line) = true
  trees : backTo cpos (starEach [e] X.env) = [(false, eval e X.env)]
structure M2 (X : Cx) (o : Expr) (m : Str) (apos : Pos) (e f : Expr) (cpos : Pos) : Prop where
  base : attributeBase o m X.env (eval o X.env) = eval o X.env
  few : ((backTo cpos (starEach [e, f] X.env)).all (fun x => !x.1) && (backToKw cpos (keywordEach [] X.env)).all (fun x => x.1.isSome)
    && decide (([e, f] : List Expr).length + ([] : List Keyword).length + (if ([] : List Keyword).isEmpty then 0 else 1) < 30)) = true
  line : (apos.endLine == cpos.line) = true
  trees : backTo cpos (starEach [e, f] X.env) = [(false, eval e X.env), (false, eval f X.env)]

noncomputable def IsD (H : Hp) (a : Addr) : Prop := (∃ kvs, Rd H a (.dK kvs)) ∨ ∃ kvs, Rd H a (.dT kvs)
theorem isD_at {X : Cx} {pins : List (Addr × Obj)} {σ : St} {H : Hp} {s : Shared} {a : Addr} (I : Inv X pins σ H s) (d : IsD H a) :
    s.TypeIs (.ref a) "dict" ∧ (∀ b, Value.ref a = .ref b → ∃ ob, s.heap.get? b = some ob ∧ ob.dict = none) ∧ (a == sysModules) = false := by
  rcases d with ⟨kvs, e⟩ | ⟨kvs, e⟩
  · obtain ⟨_, hd, vs, _, dd⟩ := dk_rd I.hok e
    refine ⟨dd.typeIs, fun b q => ?_, hd⟩
    cases q
    obtain ⟨ob, _, _, h1, h2, _⟩ := dd
    exact ⟨ob, h1, h2.2.1⟩
  · obtain ⟨_, hd, xs, _, dd⟩ := dt_rd I.hok e
    refine ⟨dd.typeIs, fun b q => ?_, hd⟩
    cases q
    obtain ⟨ob, _, _, h1, h2, _⟩ := dd
    exact ⟨ob, h1, h2.2.1⟩

section
variable {X : Cx} {pins : List (Addr × Obj)} {σ : St} {H : Hp} {s : Shared} {a : Addr} {y d : V} {u r : Value} {o : Option V} {A : Around} {E : Value → Shared → Prop}
end

section
variable {X : Cx} {o e f : Expr} {apos cpos : Pos} {td ty tx : TE}
end

section
variable {X : Cx} {pins : List (Addr × Obj)} {σ : St} {H : Hp} {s : Shared} {a : Addr} {kvs : List (Key × V)} {A : Around} {E : Value → Shared → Prop}
end


section
variable {X : Cx} {pins : List (Addr × Obj)} {σ : St} {H : Hp} {s : Shared} {a : Addr} {y : V} {u : Value} {A : Around} {E : Value → Shared → Prop}
end
end L2

set_option Elab.async false
set_option linter.all false
set_option maxRecDepth 100000
set_option maxHeartbeats 1000000
namespace L2
open PySem PySem.Spec PyProof.Rows
section
variable {X : Cx} {pins : List (Addr × Obj)} {σ : St} {H : Hp} {s : Shared} {d : Addr} {kvs : List (Key × V)}
end
theorem kv_at {kvs : List (Key × V)} {vs : List (Key × Value)} (r : KV kvs vs) {i : Nat} {k : Key} {x : V} (e : kvs[i]? = some (k, x)) : ∃ u, vs[i]? = some (k, u) ∧ RelV x u := by
  induction r generalizing i with
  | nil => simp at e
  | cons h _ ih =>
    cases i with
    | zero =>
      rename_i p q _ _ _
      obtain ⟨p1, p2⟩ := p
      obtain ⟨q1, q2⟩ := q
      simp only [List.getElem?_cons_zero, Option.some.injEq, Prod.mk.injEq] at e
      obtain ⟨rfl, rfl⟩ := e
      obtain ⟨h1, h2⟩ := h
      simp only at h1 h2
      subst h1
      exact ⟨_, rfl, h2⟩
    | succ i => exact ih e
theorem kV_rel {P : Program} {w : World} {k : Key} {u : Value} (h : (mixKind P w).is k u = true) : RelV (kV k) u := by
  rw [mixKind_is] at h
  rcases keyIs_shape h with ⟨i, t, rfl, rfl⟩ | ⟨x, t, rfl, rfl⟩
  · exact ⟨_, rfl⟩
  · exact ⟨_, rfl⟩
section
variable {X : Cx} {o e f : Expr} {apos cpos : Pos} {td ty tx : TE}
end
end L2

set_option Elab.async false
set_option linter.all false
set_option maxRecDepth 100000
set_option maxHeartbeats 1000000
namespace L2
open PySem PySem.Spec PyProof.Rows
end L2

set_option Elab.async false
set_option linter.all false
set_option maxRecDepth 100000
set_option maxHeartbeats 1000000
namespace L2
open PySem PySem.W PySem.Spec PyProof.Rows
section
variable {X : Cx}
end
end L2

set_option Elab.async false
set_option linter.all false
set_option maxRecDepth 100000
set_option maxHeartbeats 1000000
namespace L2
open PySem PySem.Spec PyProof.Rows
end L2

set_option Elab.async false
set_option linter.all false
set_option maxRecDepth 100000
set_option maxHeartbeats 1000000
namespace L2
open PySem PySem.Spec PyProof.Rows
section
open PySem.SeqAt
open PySem.AutoSeq1 (wpAny_loadPart')
open PySem.MeetsSeq PySem.MeetsSeq2 PySem.MeetsSeq3
end
section
variable {prog : Program} {w : World} {A : Around} {E : Value → Shared → Prop} {s : Shared}
end
noncomputable def Top (ps : List (Int × Int)) (i : Nat) (j : Nat) : Prop := j < i ∧ ∀ k, k < i → plt (ps.getD j (0, 0)) (ps.getD k (0, 0)) = false
theorem Top.keep {ps : List (Int × Int)} {i j : Nat} (h : Top ps i j) (g : plt (ps.getD j (0, 0)) (ps.getD i (0, 0)) = false) : Top ps (i + 1) j := ⟨Nat.lt_succ_of_lt h.1, fun k hk => by
  by_cases e : k = i
  · rw [e]; exact g
  · exact h.2 k (by omega)⟩
section
variable {prog : Program} {w : World} {A : Around} {R : Result → Shared → Prop} {l it S : Addr} {its : List Value} {ps : List (Int × Int)}
theorem PairV.at {h h' : Heap} {v : Value} {p : Int × Int} (x : PairV h v p) (k : ∀ t o, v = .ref t → h.get? t = some o → o.cls = .type "tuple" → h'.get? t = some o) : PairV h' v p := by
  obtain ⟨t, o, n, k1, k2, e, ho, hc, hd⟩ := x
  exact ⟨t, o, n, k1, k2, e, k t o e ho hc, hc, hd⟩
end
end L2

set_option Elab.async false
set_option linter.all false
set_option maxRecDepth 100000
set_option maxHeartbeats 1000000
namespace L2
open PySem PySem.Spec PyProof.Rows
section
variable {X : Cx} {pins : List (Addr × Obj)} {σ : St} {H : Hp} {s : Shared}
end
end L2
namespace L2
open PySem PySem.Spec PyProof.Rows
end L2

set_option Elab.async false
set_option linter.all false
set_option maxRecDepth 100000
set_option maxHeartbeats 1000000
namespace L2
open PySem PySem.Spec PyProof.Rows
section
variable {prog : Program} {w : World} {A : Around} {R : Result → Shared → Prop} {l it S : Addr} {its : List Value} {ns : List Int}
end
section
variable {X : Cx}
end
end L2

set_option Elab.async false
set_option linter.all false
set_option maxRecDepth 100000
set_option maxHeartbeats 1000000
namespace L2
open PySem PySem.Spec PyProof.Rows
end L2

set_option Elab.async false
set_option linter.all false
set_option maxRecDepth 100000
set_option maxHeartbeats 1000000
namespace L2
open PySem PySem.Spec PyProof.Rows
noncomputable def DK {α : Type} : Sem α → Prop
  | .pure _ => True
  | .raise _ => True
  | .unsupported _ => True
  | .finish _ => True
  | .rule _ k => ∀ u, DK (k u)
  | .at _ k => ∀ u, DK (k u)
  | .load _ _ k => ∀ o, DK (k o)
  | .update _ _ f k => (∀ o, (f o).dict = o.dict ∧ (f o).cls = o.cls ∧ (o.isFreed = false → (f o).isFreed = false)) ∧ ∀ u, DK (k u)
  | .alloc _ k => ∀ a, DK (k a)
  | .loadIfAlive _ k => ∀ o, DK (k o)
  | .point _ k => ∀ u, DK (k u)
  | .register _ _ => True
  | .fresh k => ∀ t, DK (k t)
  | .ask k => ∀ x, DK (k x)
  | .choose _ _ k => ∀ n, DK (k n)
  | .os _ _ _ => False
  | .call _ _ _ _ _ => False
  | .handled _ k => ∀ h, DK (k h)
  | .newGen _ _ => False
  | .genState _ k => ∀ g, DK (k g)
  | .resume _ _ _ _ => False
  | .yield _ _ _ _ => False
  | .stack k => ∀ l, DK (k l)
  | .fork _ _ => False
  | .thread k => ∀ n, DK (k n)
  | .await _ _ _ _ _ => False
theorem DK.bind {α β : Type} {f : α → Sem β} : ∀ {t : Sem α}, DK t → (∀ a, DK (f a)) → DK (t.bind f) := by
  intro t
  induction t with
  | pure a => intro _ hf; exact hf a
  | raise e => intro _ _; trivial
  | unsupported w => intro _ _; trivial
  | finish e => intro _ _; trivial
  | rule tag k ih => intro h hf u; exact ih u (h u) hf
  | «at» pos k ih => intro h hf u; exact ih u (h u) hf
  | load a part k ih => intro h hf o; exact ih o (h o) hf
  | update a part g k ih => intro h hf; exact ⟨h.1, fun u => ih u (h.2 u) hf⟩
  | alloc o k ih => intro h hf a; exact ih a (h a) hf
  | loadIfAlive a k ih => intro h hf o; exact ih o (h o) hf
  | point live k ih => intro h hf u; exact ih u (h u) hf
  | register a k ih => intro _ _; trivial
  | fresh k ih => intro h hf t; exact ih t (h t) hf
  | ask k ih => intro h hf x; exact ih x (h x) hf
  | choose src n k ih => intro h hf x; exact ih x (h x) hf
  | os req live k ih => intro h _; exact h.elim
  | call c hd gd live k ih => intro h _; exact h.elim
  | handled own k ih => intro h hf x; exact ih x (h x) hf
  | newGen c k ih => intro h _; exact h.elim
  | genState g k ih => intro h hf x; exact ih x (h x) hf
  | resume g r live k ih => intro h _; exact h.elim
  | yield v gd live k ih => intro h _; exact h.elim
  | stack k ih => intro h hf x; exact ih x (h x) hf
  | fork c k ih => intro h _; exact h.elim
  | thread k ih => intro h hf x; exact ih x (h x) hf
  | await a take timed live k ih => intro h _; exact h.elim
noncomputable def HD (h0 h : Heap) : Prop := ∀ b o, h0.get? b = some o → ∃ o', h.get? b = some o' ∧ o'.dict = o.dict ∧ o'.cls = o.cls
theorem HD.refl (h : Heap) : HD h h := fun b o e => ⟨o, e, rfl, rfl⟩
theorem HD.trans {a b c : Heap} (x : HD a b) (y : HD b c) : HD a c := fun d o e => by
  obtain ⟨o1, e1, d1, c1⟩ := x d o e
  obtain ⟨o2, e2, d2, c2⟩ := y d o1 e1
  exact ⟨o2, e2, d2.trans d1, c2.trans c1⟩
theorem HD.kept {h h' : Heap} (k : ∀ b o, h.get? b = some o → h'.get? b = some o) : HD h h' := fun b o e => ⟨o, k b o e, rfl, rfl⟩
theorem freed_none {h : Heap} {a : Addr} {o : Obj} (e : h.get? a = some o) : o.isFreed = false := (Heap.get?_some_iff.mp e).2
theorem HD.update {h : Heap} {a : Addr} {f : Obj → Obj} (hf : ∀ o, (f o).dict = o.dict ∧ (f o).cls = o.cls ∧ (o.isFreed = false → (f o).isFreed = false)) : HD h (h.update a f) := fun b o e => by
  by_cases q : b = a
  · subst q
    exact ⟨f o, Heap.get?_update_self f e ((hf o).2.2 (freed_none e)), (hf o).1, (hf o).2.1⟩
  · exact ⟨o, (Heap.get?_update_ne _ _ _ _ q).trans e, rfl, rfl⟩
theorem wp_dk {α : Type} {M : Model} {Γ : PySem.Ctx} {h0 : Heap} : ∀ (t : Sem α), DK t → ∀ {Q : α → Pos → Shared → Prop} {E : Value → Pos → Shared → Prop} {p : Pos} {s : Shared}, HD h0 s.heap → Sem.wp M Γ t Q E p s →
    Sem.wp M Γ t (fun a p s' => Q a p s' ∧ HD h0 s'.heap) (fun e p s' => E e p s' ∧ HD h0 s'.heap) p s := by
  intro t
  induction t with
  | pure a => intro _ Q E p s hd h; exact ⟨h, hd⟩
  | raise e => intro _ Q E p s hd h; exact ⟨h, hd⟩
  | unsupported w => intro _ Q E p s hd h; exact h
  | finish e => intro _ Q E p s hd h; exact h
  | rule tag k ih => intro d Q E p s hd h; exact ih () (d ()) hd h
  | «at» pos k ih => intro d Q E p s hd h; exact ih () (d ()) hd h
  | load a part k ih => intro d Q E p s hd h; obtain ⟨o, e, h⟩ := h; exact ⟨o, e, ih o (d o) hd h⟩
  | update a part g k ih => intro d Q E p s hd h; exact ⟨h.1, ih () (d.2 ()) (s := { s with heap := s.heap.update a g }) (hd.trans (HD.update d.1)) h.2⟩
  | alloc o k ih => intro d Q E p s hd h; exact ih _ (d _) (s := { s with heap := s.heap.push o }) (hd.trans (HD.kept fun b o e => Heap.get?_push_of_some _ e)) h
  | loadIfAlive a k ih => intro d Q E p s hd h; exact ih _ (d _) hd h
  | point live k ih => intro d Q E p s hd h; exact ih () (d ()) hd h
  | register a k ih => intro _ Q E p s hd h; exact h
  | fresh k ih => intro d Q E p s hd h; exact ih _ (d _) (s := { s with toks := s.toks + 1 }) hd h
  | ask k ih => intro d Q E p s hd h; exact ih _ (d _) hd h
  | choose src n k ih => intro d Q E p s hd h; exact ⟨h.1, ih _ (d _) (s := { s with drawn := s.drawn.bump src }) hd h.2⟩
  | os req live k ih => intro d; exact d.elim
  | call c hd gd live k ih => intro d; exact d.elim
  | handled own k ih => intro d Q E p s hd h; exact ih _ (d _) hd h
  | newGen c k ih => intro d; exact d.elim
  | genState g k ih => intro d Q E p s hd h; obtain ⟨st, e, h⟩ := h; exact ⟨st, e, ih _ (d _) hd h⟩
  | resume g r live k ih => intro d; exact d.elim
  | yield v gd live k ih => intro d; exact d.elim
  | stack k ih => intro d Q E p s hd h; exact ih _ (d _) hd h
  | fork c k ih => intro d; exact d.elim
  | thread k ih => intro d Q E p s hd h; exact ih _ (d _) hd h
  | await a take timed live k ih => intro d; exact d.elim
theorem wpAny_dk {α : Type} {M : Model} {A : Around} {t : Sem α} {Q : α → Shared → Prop} {E : Value → Shared → Prop} {s : Shared} (d : DK t) (h : wpAny M A t Q E s) :
    wpAny M A t (fun a s' => Q a s' ∧ HD s.heap s'.heap) (fun e s' => E e s' ∧ HD s.heap s'.heap) s := fun Γ p hΓ => wp_dk t d (HD.refl _) (h Γ p hΓ)
theorem dk_fieldsOf (v : Value) : DK (fieldsOf v) := by
  unfold fieldsOf
  split
  · intro o
    show DK (match o.data with | .fields vs => pure vs | _ => unsupported _)
    split <;> trivial
  · trivial
theorem dk_field (v : Value) (i : Nat) : DK (field v i) := DK.bind (dk_fieldsOf v) fun vs => by
  split <;> trivial
theorem mapFields_dk (f : Array Value → Array Value) (o : Obj) : (Obj.mapFields f o).dict = o.dict ∧ (Obj.mapFields f o).cls = o.cls ∧ (o.isFreed = false → (Obj.mapFields f o).isFreed = false) := by
  obtain ⟨c, d, data, sl⟩ := o
  cases data <;> first | exact ⟨rfl, rfl, fun h => h⟩ | exact ⟨rfl, rfl, fun _ => rfl⟩
theorem dk_setField (v : Value) (i : Nat) (x : Value) : DK (setField v i x) := by
  unfold setField
  split
  · unfold updateField
    intro o
    show DK (match o.data with | .fields vs => if i < vs.size then update _ (Obj.mapFields (·.setIfInBounds i x)) else unsupported _ | _ => unsupported _)
    split
    · split
      · exact ⟨mapFields_dk _, fun _ => trivial⟩
      · trivial
    · trivial
  · trivial
theorem dk_setFlight (e : Value) (f : Option Addr) : DK (setFlight e f) := DK.bind (dk_field e 1) fun tb => by
  split
  · exact dk_setField _ _ _
  · trivial
theorem dk_readyFrames : ∀ l : List Env, DK (readyFrames l)
  | [] => trivial
  | env :: outer => by
    unfold readyFrames
    split
    · intro o
      show DK (if ((o.slots.getD 3 none).isSome) = true then _ else _)
      split
      · trivial
      · refine DK.bind ?_ fun imp => DK.bind ?_ fun back => ⟨fun o => ⟨rfl, rfl, fun h => (by obtain ⟨c, d, dt, sl⟩ := o; cases dt <;> first | rfl | exact h)⟩, fun _ => dk_readyFrames outer⟩
        · unfold behindIsImport
          split
          · trivial
          · split
            · trivial
            · exact DK.bind (dk_field _ _) fun _ => trivial
        · cases outer with
          | nil =>
            show DK (if (env.scope.isGenerator || env.scope.isCoroutine) = true then pure Value.none else underTheClaimsCaller >>= _)
            split
            · trivial
            · refine DK.bind ?_ fun _ => trivial
              unfold underTheClaimsCaller
              intro l
              first | trivial | (dsimp only; first | trivial | (split <;> trivial))
          | cons c r => trivial
    · trivial
theorem dk_frameOf (env : Env) : DK (PySem.frameOf env) := by
  unfold PySem.frameOf
  refine DK.bind (t := frameEnvs) (fun l => trivial) fun l => DK.bind ?_ fun f => ?_
  · generalize l.dropWhile (·.frame != env.frame) = r
    cases r with
    | nil => trivial
    | cons e r => exact DK.bind (dk_readyFrames _) fun _ => trivial
  · split <;> trivial
theorem dk_noteFrame (e : Value) (env : Env) : DK (noteFrame e env) := by
  unfold noteFrame
  split
  · refine DK.bind (dk_field _ _) fun head => ?_
    have fin : ∀ f, DK (do setField e 1 (← EntryCells.newEntry head (← PySem.frameOf env) .none (rawInt f) .none (← entryPlaceOf f (head != .none)))) := fun f => by
      refine DK.bind (dk_frameOf env) fun fr => DK.bind ?_ fun pl => DK.bind ?_ fun en => dk_setField _ _ _
      · unfold entryPlaceOf
        intro l
        refine DK.bind (t := Sem.pure l) trivial fun acts => ?_
        split <;> trivial
      · unfold EntryCells.newEntry newFields newObj
        first | (intro a; trivial) | (split <;> (first | trivial | (intro a; trivial))) | (repeat' (first | trivial | split | intro))
    split
    · refine DK.bind (dk_field _ _) fun x => ?_
      split
      · trivial
      · exact DK.bind (dk_setField _ _ _) fun _ => fin _
    · exact fin _
  · trivial
theorem dk_leaving (env : Env) (e : Value) : DK (leaving env e) := DK.bind (dk_noteFrame e env) fun _ => dk_setFlight e none
end L2

set_option Elab.async false
set_option linter.all false
set_option maxRecDepth 100000
set_option maxHeartbeats 1000000
namespace L2
open PySem PySem.Spec PyProof.Rows
theorem ObjOk.there {P : Program} {w : World} {H : Hp} {h : Heap} {a : Addr} {u : HO} (x : ObjOk P w H h a u) : ∃ o, h.get? a = some o := by
  cases u with
  | lst xs => obtain ⟨_, _, _, _, e⟩ := x; exact ⟨_, e⟩
  | tup xs => obtain ⟨_, _, _, o, e, _⟩ := x; exact ⟨_, e⟩
  | dK kvs => obtain ⟨_, _, _, _, o, _, _, e, _⟩ := x; exact ⟨_, e⟩
  | dT kvs => obtain ⟨_, _, _, _, o, _, _, e, _⟩ := x; exact ⟨_, e⟩
  | set S n => obtain ⟨o, _, _, _, e, _⟩ := x; exact ⟨_, e⟩
  | ins C dx fs => obtain ⟨_, _, _, e, _⟩ := x; exact ⟨_, e⟩
  | own y => exact x
  | xd fs => obtain ⟨_, ⟨_, _, _, e, _⟩, _⟩ := x; exact ⟨_, e⟩
  | rng lo hi => obtain ⟨_, _, _, e⟩ := x; exact ⟨_, e⟩
  | frz ob u => obtain ⟨e, _⟩ := x; exact ⟨_, e⟩
  | tbl ps => exact ⟨_, show h.get? a = some _ from x⟩
  | met f y => exact ⟨_, show h.get? a = some _ from x⟩
  | ext φ => obtain ⟨_, e, _⟩ := x; exact e
noncomputable def CXR (P : Program) (w : World) : CXT := fun outer H s E ev s' => ∃ (e : Addr) (cls a0 : Value) (H' : Hp) (B : Heap) (oe : Obj), ev = .ref e ∧ s'.os = s.os ∧ AllBare s'.gens ∧ Un (frs outer) [] H H' s.heap s'.heap ∧ HOk P w H' s'.heap ∧ H' e = none ∧
  s'.heap.get? e = some oe ∧ Heap.FlyingW B outer e cls a0 s'.heap ∧ (∀ b u, H' b = some u → ∃ o, B.get? b = some o) ∧ (∀ b o, s.heap.get? b = some o → b ∉ frs outer → ∃ o', B.get? b = some o') ∧ E cls oe.dict H'
section
variable {X : Cx} {pins : List (Addr × Obj)} {σ : St} {H : Hp} {s : Shared} {E : XK}
structure Body (X : Cx) : Prop where
  ex : X.ex = []
  stk : X.stack = X.env :: X.outer
  fr : X.env.frame = some X.env.locals
theorem Body.mem (b : Body X) {c : Addr} : c ∈ frs X.stack ↔ c = X.env.locals ∨ c ∈ X.fs := by
  rw [b.stk]
  unfold frs
  rw [List.filterMap_cons, b.fr, List.mem_cons]
  rfl
theorem left_ok (Bd : Body X) (I : Inv X pins σ H s) {B : Heap} {e : Addr} {cls a0 : Value} {oe : Obj} {h' : Heap} (he : s.heap.get? e = some oe) (hHe : H e = none) (st : B.StaysIn s.heap) (cov : ∀ b u, H b = some u → ∃ o, B.get? b = some o)
    (olds : ∀ b o, X.s₀.heap.get? b = some o → b ∉ X.fs → ∃ o', B.get? b = some o') (fl : Heap.FlyingW B X.outer e cls a0 h') (ups : s.heap.UpToSlots h') (hd : HD s.heap h') (q : E cls oe.dict H) :
    CXR X.prog X.w X.outer X.H₀ X.s₀ E (.ref e) { s with heap := h' } := by
  have st' : B.StaysIn h' := fl.1
  have nx : ∀ b, b ∉ X.ex := fun b z => by rw [Bd.ex] at z; cases z
  have neL : ∀ b o, X.s₀.heap.get? b = some o → b ≠ X.env.locals := fun b o e => Nat.ne_of_lt (Nat.lt_of_lt_of_le (Heap.lt_size e) I.ok.above)
  have same : ∀ b o o', B.get? b = some o → s.heap.get? b = some o' → h'.get? b = some o' := fun b o o' e1 e2 => by
    have := st b o e1
    rw [e2] at this
    cases this
    exact st' b _ e1
  have frd : ∀ b ∈ X.fs, ∀ o, s.heap.get? b = some o → ∀ vs, o.data ≠ .fields vs := fun b hb o e vs => by
    obtain ⟨_, o', ho', hnf⟩ := I.funs.mem hb
    rw [e] at ho'
    cases ho'
    exact hnf vs
  obtain ⟨oe', he', de, ce⟩ := hd e oe he
  refine ⟨e, cls, a0, H, B, oe', rfl, I.os, I.bare, ⟨fun b o e1 n hb _ => ?_, fun b o e1 n hb _ => ?_, fun b o e1 n _ => I.base.free b o e1 n (nx b), fun b o e1 _ => ?_, I.base.tups, I.base.frzs, I.base.tbls⟩, fun b u e1 => ?_, hHe, he', fl, cov, olds, by rw [de]; exact q⟩
  · obtain ⟨o', eB⟩ := olds b o e1 hb
    exact same b o' o eB (I.base.keep b o e1 n hb (nx b))
  · obtain ⟨sl, e2⟩ := I.base.slot b o e1 n hb (nx b)
    obtain ⟨sl', e3⟩ := ups b _ e2 (frd b hb _ e2)
    exact ⟨sl', e3⟩
  · by_cases hb : b ∈ X.fs
    · obtain ⟨o', e2⟩ := I.base.there b o e1 (nx b)
      obtain ⟨sl, e3⟩ := ups b o' e2 (frd b hb o' e2)
      exact ⟨_, e3⟩
    · obtain ⟨o', eB⟩ := olds b o e1 hb
      exact ⟨o', st' b o' eB⟩
  · refine (I.hok b u e1).stay (fun c v hc e2 => ?_) (fun _ z => z) fun _ _ z => z
    have tr : ∃ o, B.get? c = some o := by
      rcases hc with z | z
      · rw [z]; exact cov b u e1
      · exact cov c _ z
    obtain ⟨o, eB⟩ := tr
    exact same c o v eB e2
theorem leave_new (Bd : Body X) (hfr : X.A.frames = some (X.env :: X.outer)) (I : Inv X pins σ H s) {e : Addr} {oe : Obj} {vs : Array Value} {a0 : Value} {E' : Value → Shared → Prop} (he : s.heap.get? e = some oe) (hHe : H e = none) (hold : ∀ b o, X.s₀.heap.get? b = some o → b ≠ e) (hd : oe.data = .fields vs) (h1 : vs[1]? = some .none) (h0 : vs[0]? = some a0) (q : E oe.cls oe.dict H) :
    wpAny (model X.prog X.w) X.A (leaving X.env (.ref e)) (fun _ s'' => CXR X.prog X.w X.outer X.H₀ X.s₀ E (.ref e) s'') E' s := by
  have stf : s.heap.FunFrames X.base (X.env :: X.outer) := by have := I.stack; rw [Bd.stk] at this; exact this
  have enf : e ∉ frs X.stack := fun z => by
    obtain ⟨_, o, ho, hnf⟩ := I.stack.mem z
    rw [he] at ho
    cases ho
    exact hnf vs hd
  have inB : ∀ b o, s.heap.get? b = some o → b ≠ e → b ∉ frs X.stack → (PySem.W.hideAll s.heap (e :: frs X.stack)).get? b = some o := fun b o e1 n1 n2 => PySem.W.hideAll_get _ e1 (by simp [n1, n2])
  have fr2 : s.heap.FunFrames (PySem.W.hideAll s.heap (e :: frs X.stack)) (X.env :: X.outer) := by
    refine PySem.W.funFrames_hide stf fun env hm a ha => List.mem_cons_of_mem _ ?_
    rw [Bd.stk]
    exact List.mem_filterMap.mpr ⟨env, hm, ha⟩
  have stB : (PySem.W.hideAll s.heap (e :: frs X.stack)).StaysIn s.heap := fun b o e1 => PySem.W.of_hideAll _ e1
  have w1 := wpAny_leaving_firstW (M := model X.prog X.w) (A := X.A) (E := fun _ _ => False) (s := s) (base := PySem.W.hideAll s.heap (e :: frs X.stack)) (Q := fun _ s'' => ∃ h', s'' = { s with heap := h' } ∧ Heap.LeftW (PySem.W.hideAll s.heap (e :: frs X.stack)) (X.env :: X.outer) e oe.cls a0 s.heap h') hfr fr2 Bd.fr he stB (PySem.W.hideAll_none _ (by simp)) hd h1 h0 fun h' z => ⟨h', rfl, z⟩
  refine wpAny_mono (wpAny_dk (dk_leaving X.env (.ref e)) w1) (fun _ s'' ⟨⟨h', e1, k1, ⟨_, _, k2⟩, k3, k4⟩, hdd⟩ => ?_) fun _ _ z => z.1.elim
  subst e1
  refine left_ok Bd I he hHe stB (fun b u e1 => ?_) (fun b o e1 hb => ?_) ⟨k1, PySem.W.hideAll_none _ (by simp), k2, k3⟩ k4 hdd q
  · obtain ⟨o, e2⟩ := (I.hok b u e1).there
    refine ⟨o, inB b o e2 (fun z => by rw [z, hHe] at e1; cases e1) fun z => ?_⟩
    rw [I.stkFree b z] at e1
    cases e1
  · obtain ⟨o', e2⟩ := I.base.there b o e1 (by rw [Bd.ex]; simp)
    have lt := Heap.lt_size e1
    refine ⟨o', inB b o' e2 (hold b o e1) fun z => ?_⟩
    · rcases Bd.mem.mp z with z | z
      · rw [z] at lt
        exact absurd (Nat.lt_of_lt_of_le lt I.ok.above) (Nat.lt_irrefl _)
      · exact hb z
end
end L2

set_option Elab.async false
set_option linter.all false
set_option maxRecDepth 100000
set_option maxHeartbeats 1000000
namespace L2
open PySem PySem.Spec PyProof.Rows
noncomputable def FP (X : Cx) (v : Expr) (n : Nat) (t : TE) : Prop := ∀ (pins : List (Addr × Obj)) (s : Shared) (σ : St) (H : Hp) (Q : Hp → Prop), Inv X pins σ H s → (t σ H fun _ H' => Q H') →
  wpAny (model X.prog X.w) X.A (eval v X.env) (fun u s' => ∃ y tk H', u = .str y tk ∧ y.length ≤ n ∧ Inv X pins σ H' s' ∧ Q H') X.xe s
noncomputable def FPs (X : Cx) (vs : List Expr) (n : Nat) (t : TA) : Prop := ∀ (pins : List (Addr × Obj)) (s : Shared) (σ : St) (H : Hp) (Q : Hp → Prop) (out : Str), out.length + n ≤ sizeLine → Inv X pins σ H s → (t σ H fun _ H' => Q H') →
  wpAny (model X.prog X.w) X.A (joinParts out (evalEach vs X.env)) (fun u s' => ∃ y tk H', u = .str y tk ∧ Inv X pins σ H' s' ∧ Q H') X.xe s
section
variable {X : Cx}
theorem fp_str {z : Str} {j pos} (h : z.length ≤ 1000) : FP X (.Constant (.str z) j pos) 1000 (tC (.str z)) := fun pins s σ H Q I q => by
  refine thn (pe_str pins s σ H (fun y H' => y = .str z ∧ Q H') I ⟨rfl, q⟩) fun u s' ⟨v, H', I', r, e, q'⟩ => ?_
  subst e
  obtain ⟨t, rfl⟩ := r
  exact ⟨z, t, H', rfl, h, I', q'⟩
noncomputable def tSmall (te : TE) : TE := fun σ H Q => te σ H fun x H1 => ∃ i : Int, x = .int i ∧ i.natAbs.log2 < 1920 ∧ (toString i : Str).length ≤ 1000 ∧ Q x H1
theorem fp_int {v : Expr} {te : TE} {pos : Pos} (h : PE X v te) : FP X (.FormattedValue v (-1) none pos) 1000 (tSmall te) := fun pins s σ H Q I q => by
  refine FormattedValue_plain (thn (h pins s σ H _ I q) fun u s' ⟨x, H', I', r, q'⟩ => ?_)
  obtain ⟨i, rfl, hd, hl, q'⟩ := q'
  obtain ⟨t, rfl⟩ := r
  exact formatField_int_small hd ⟨_, _, H', rfl, hl, I'.tok _, q'⟩
theorem fps_nil : FPs X [] 0 tNil := fun pins s σ H Q out hz I q => joinParts_nil ⟨out, _, H, rfl, I.tok _, q⟩ (by omega)
theorem fps_cons {v : Expr} {vs : List Expr} {n m : Nat} {te : TE} {t : TA} (h1 : FP X v n te) (h2 : FPs X vs m t) (he : evalEach (v :: vs) X.env = eval v X.env :: evalEach vs X.env := by rfl) : FPs X (v :: vs) (n + m) (tCons te t) := fun pins s σ H Q out hz I q => by
  rw [he]
  refine joinParts_cons (thn (h1 pins s σ H _ I q) fun u s' ⟨y, tk, H', e, hl, I', q'⟩ => ?_)
  subst e
  have ha : (out ++ y).length = out.length + y.length := strLen_append _ _
  exact ⟨by rw [ha]; omega, h2 pins s' σ H' Q (out ++ y) (by rw [ha]; omega) I' q'⟩
noncomputable def tText (t : TA) : TE := fun σ H Q => t σ H fun _ H' => ∀ z, Q (.str z) H'
theorem pe_fstr {v w : Expr} {vs : List Expr} {n : Nat} {t : TA} {pos : Pos} (h : FPs X (v :: w :: vs) n t) (hn : n ≤ 100000 := by decide) (he : evalEach (v :: w :: vs) X.env = eval v X.env :: eval w X.env :: evalEach vs X.env := by rfl) : PE X (.JoinedStr (v :: w :: vs) pos) (tText t) := fun pins s σ H Q I q => by
  refine JoinedStr_many ?_
  rw [← he]
  refine thn (h pins s σ H (fun H' => ∀ z, Q (.str z) H') Str.empty (by
    have : Str.empty.length = 0 := rfl
    rw [this]
    exact Nat.le_trans (by omega) (show 100000 ≤ sizeLine by decide)) I q) fun u s' ⟨y, tk, H', e, I', q'⟩ => ?_
  subst e
  exact ⟨.str y, H', I', ⟨_, rfl⟩, q' y⟩
end
noncomputable abbrev bmV : List Value := [.type "ValueError", .type "Exception", .type "BaseException", .type "object"]
noncomputable def Raises (X : Cx) (E : XK) : Prop := ∀ (pins : List (Addr × Obj)) (σ : St) (H : Hp) (s : Shared) (e : Addr) (oe : Obj) (vs : Array Value) (a0 : Value), Inv X pins σ H s → s.heap.get? e = some oe → H e = none → (∀ b o, X.s₀.heap.get? b = some o → b ≠ e) → oe.data = .fields vs → vs[1]? = some .none → vs[0]? = some a0 → E oe.cls oe.dict H → X.xe (.ref e) s
theorem raiseR {P : Program} {w : World} {K : PySem.W.Frag} {mg : Str → Option Value} {base : Heap} {N : List Str} {qual : Str} {scope : Scope} {f : Addr} {cd : Value} {A : Around} {outer : List Env} {s : Shared} {H : Hp} {E : XK} (hfr : A.frames = some outer) :
    Raises (cxOf (CXR P w) P w K mg base N qual scope f cd A outer s H E) E := fun pins σ H1 s1 e oe vs a0 I he hHe hold hd h1 h0 q =>
  leave_new (X := cxOf (CXR P w) P w K mg base N qual scope f cd A outer s H E) ⟨rfl, rfl, rfl⟩ (Around.frames_deeper hfr) I he hHe hold hd h1 h0 q
section
variable {X : Cx}
end
end L2

set_option Elab.async false
set_option linter.all false
set_option maxRecDepth 100000
set_option maxHeartbeats 4000000
namespace L2
open PySem PySem.Spec PyProof.Rows
section
variable {X : Cx}
noncomputable def IntS (i : Int) : Prop := i.natAbs.log2 < 1920 ∧ (toString i : Str).length ≤ 1000
theorem strs_of : ∀ {zs : List Str} {us : List Value}, Vals (zs.map V.str) us → ∃ l : List (Str × Tok), us = strValues l ∧ l.map (·.1) = zs
  | [], _, .nil => ⟨[], rfl, rfl⟩
  | z :: zs, _, .cons ⟨t, e⟩ r => by
    obtain ⟨l, e1, e2⟩ := strs_of r
    exact ⟨(z, t) :: l, by rw [e, e1]; rfl, by rw [List.map_cons, e2]⟩
noncomputable def rJoin : V → List V → Hp → VK → Prop := fun x vs H Q => ∃ (sep : Str) (l : Addr) (zs : List Str), x = .str sep ∧ vs = [.ref l] ∧ H l = some (.lst (zs.map V.str)) ∧ zs.foldl (fun n z => n + z.length + sep.length) 0 ≤ sizeLine ∧ (Builtin.Str.glued sep zs).length ≤ sizeLine ∧ Q (.str (Builtin.Str.glued sep zs)) H
theorem mt_join : MtM X "str.join" rJoin := by
  intro pins s σ H x vs v us Q I rx rv h
  obtain ⟨sep, l, zs, rfl, rfl, hH, hz, hg, q⟩ := h
  obtain ⟨t, rfl⟩ := rx
  obtain ⟨u, rfl, ru⟩ := rv.one
  cases ru
  obtain ⟨its, r, pl, _⟩ := I.list (SqL.of hH)
  obtain ⟨ps, e1, e2⟩ := strs_of r
  subst e1
  refine call_meets PySem.F.slot_str_join (typeIs_str _ _ _) PySem.F.entry_str_join (PySem.F.args_str_join_2 _ _) (meets_str_join_list sep t l ps (by rw [e2]; simp [Builtin.Str.tooLong]; exact hz)) ⟨pl.isList, ?_⟩
  rw [← e2] at q hg
  clear r hH hz pl e2
  cases ps with
  | nil => exact ⟨hg, .str _, H, I.tok _, ⟨_, rfl⟩, q⟩
  | cons p r =>
    cases r with
    | nil => exact ⟨.str p.1, H, I, ⟨p.2, rfl⟩, q⟩
    | cons p2 r => exact ⟨hg, .str _, H, I.tok _, ⟨_, rfl⟩, q⟩
end
end L2

set_option Elab.async false
set_option linter.all false
set_option maxRecDepth 100000
set_option maxHeartbeats 4000000
namespace L2
open PySem PySem.Spec PyProof.Rows
section
variable {M : Model} {A : Around} {E : Value → Shared → Prop} {s : Shared}
end
section
variable {X : Cx} {pins : List (Addr × Obj)} {σ : St} {H H' : Hp} {s : Shared} {inn : Scope} {js : List Nat} {cs ts : List Str} {nt : Nat}
end
section
variable {X : Cx} {pins : List (Addr × Obj)} {σ : St} {inn : Scope} {js : List Nat} {cs ts : List Str} {nt : Nat} {elt tg iter : Expr} {ifs : List Expr} {pos : Pos} {g : TG} {tt : TT} {te : TE}
end
section
variable {X : Cx} {inn : Scope} {js : List Nat} {cs ts : List Str} {nt : Nat} {elt tg iter : Expr} {ifs : List Expr} {pos : Pos} {g : TG} {tt : TT} {te : TE} {wi : TI}
end
end L2

set_option Elab.async false
set_option linter.all false
set_option maxRecDepth 100000
set_option maxHeartbeats 4000000
namespace L2
open PySem PySem.Spec PyProof.Rows PySem.MeetsSeq
section
variable {X : Cx}
end
end L2

set_option Elab.async false
set_option linter.all false
set_option maxRecDepth 100000
set_option maxHeartbeats 4000000
namespace L2
open PySem PySem.W PySem.Spec PyProof.Rows
section
variable {prog : Program} {w : World} {A : Around} {R : Result → Shared → Prop} {I S : Addr} {fp : List Addr} {P : Nat → Value → Prop} {St : Nat → Heap → Prop} {d : Value} {ns : List Int}
end
section
variable {X : Cx} {e f : Expr} {te tf : TE} {p pos kp : Pos}
end
end L2
namespace L2
open PySem PySem.Spec PyProof.Rows
end L2

set_option Elab.async false
set_option linter.all false
set_option maxRecDepth 100000
set_option maxHeartbeats 4000000
namespace L2
open PySem PySem.Spec PyProof.Rows
end L2
namespace L2
open PySem PySem.Spec PyProof.Rows
end L2

set_option Elab.async false
set_option linter.all false
set_option maxRecDepth 100000
set_option maxHeartbeats 4000000
namespace L2
open PySem PySem.Spec PyProof.Rows
section
variable {X : Cx}
theorem call_strM : CallR X (.type "str") (fun xs H Q => (∃ i : Int, xs = [.int i] ∧ IntS i ∧ Q (.str (toString i : Str)) H) ∨ ∃ x : Str, xs = [.str x] ∧ Q (.str x) H) := by
  intro pins s σ H xs us Q I r h
  rcases h with ⟨i, rfl, hi, q⟩ | ⟨x, rfl, q⟩
  · obtain ⟨u, rfl, t, rfl⟩ := vals1 r
    exact PySem.P.str_of_int hi.1 ⟨.str _, H, I.tok _, ⟨_, rfl⟩, q⟩
  · obtain ⟨u, rfl, t, rfl⟩ := vals1 r
    exact PySem.P.str_of_str ⟨.str _, H, I, ⟨_, rfl⟩, q⟩
theorem call_intT : CallR X (.type "int") (fun xs H Q => ∃ (x : Str) (n : Int), xs = [.str x] ∧ x.length ≤ 640 ∧ PySem.intText? x = some n ∧ Q (.int n) H) := by
  intro pins s σ H xs us Q I r h
  obtain ⟨x, n, rfl, hl, hn, q⟩ := h
  obtain ⟨u, rfl, t, rfl⟩ := vals1 r
  exact PySem.W.KIN.call_text hn hl ⟨.int n, H, I.tok _, ⟨_, rfl⟩, q⟩
theorem vals_strs : ∀ l : List (Str × Tok), Vals ((l.map (·.1)).map V.str) (strValues l)
  | [] => .nil
  | p :: l => .cons ⟨p.2, rfl⟩ (vals_strs l)
noncomputable def rSplit : V → List V → Hp → VK → Prop := fun x vs H Q => ∃ t y : Str, x = .str t ∧ vs = [.str y] ∧ (y.length == 0) = false ∧ t.length + 2 ≤ sizeLine ∧ (Txt.split t y).length ≤ sizeLine ∧ ∀ l, H l = none → Q (.ref l) (upd H l (.lst ((Txt.split t y).map V.str)))
theorem mt_split : MtM X "str.split" rSplit := by
  intro pins s σ H x vs v us Q I rx rv h
  obtain ⟨t, y, rfl, rfl, hy, hz, hn', q⟩ := h
  obtain ⟨tx, rfl⟩ := rx
  obtain ⟨u, rfl, ty, rfl⟩ := rv.one
  have fin : ∀ (l : List (Str × Tok)) (k : Nat), l.map (·.1) = Txt.split t y → EP X pins σ Q (.ref s.heap.objs.size) { s with toks := k, heap := s.heap.push { cls := .type "list", data := .seq (strValues l).toArray } } := fun l k e => by
    refine ⟨.ref s.heap.objs.size, upd H s.heap.objs.size (.lst ((Txt.split t y).map V.str)), I.laid (t' := k) (fun b o e => Heap.get?_push_of_some _ e) (Nat.le_refl _) ⟨by rw [List.length_map]; exact hn', strValues l, 0, ?_, Heap.get?_push_size _ rfl⟩, rfl, q _ I.fresh⟩
    rw [← e]
    exact vals_strs l
  have hn : (Builtin.Str.partsBetween t (Builtin.Str.occurrences t y 0 t.length (t.length + 1)) y.length).length ≤ sizeLine := by
    have e1 := StrLaws.occ_length_le t y 0 t.length (t.length + 1)
    rw [length_partsBetween]; omega
  cases h1 : (decide (t.length < y.length) || decide (Builtin.Str.strKind t < Builtin.Str.strKind y))
  · cases hf : (Builtin.Str.occurrences t y 0 t.length (t.length + 1)).isEmpty
    · refine call_meets F.slot_str_split (typeIs_str _ _ _) F.entry_str_split (F.args_str_split_2 _ _) (meets_str_split_sep t y tx ty h1 hy hf (by omega) hn) ?_
      show wants _ _ _ { s with toks := _, heap := s.heap.push { cls := .type "list", data := .seq (strsFrom s.toks (Builtin.Str.partsBetween t (Builtin.Str.occurrences t y 0 t.length (t.length + 1)) y.length)).toArray } }
      rw [strsFrom_eq]
      exact fin (numbered s.toks _) _ ((numbered_texts _ _).trans ((if_neg (ne_true_of_eq_false h1)).trans (if_neg (ne_true_of_eq_false hf))).symm)
    · exact call_meets F.slot_str_split (typeIs_str _ _ _) F.entry_str_split (F.args_str_split_2 _ _) (meets_str_split_not_found t y tx ty h1 hy hf)
        (fin [(t, tx)] s.toks ((if_neg (ne_true_of_eq_false h1)).trans (if_pos hf)).symm)
  · exact call_meets F.slot_str_split (typeIs_str _ _ _) F.entry_str_split (F.args_str_split_2 _ _) (meets_str_split_cannot_occur t y tx ty h1)
        (fin [(t, tx)] s.toks (if_pos h1).symm)
noncomputable def rRmp : V → List V → Hp → VK → Prop := fun x vs H Q => ∃ t y : Str, x = .str t ∧ vs = [.str y] ∧ t.length ≤ sizeLine ∧ Q (.str (Txt.removeprefix t y)) H
theorem mt_rmp : MtM X "str.removeprefix" rRmp := by
  intro pins s σ H x vs v us Q I rx rv h
  obtain ⟨t, y, rfl, rfl, hz, q⟩ := h
  obtain ⟨tx, rfl⟩ := rx
  obtain ⟨u, rfl, ty, rfl⟩ := rv.one
  exact PySem.SC.removeprefix (fun t' k => ⟨.str _, H, I.tok _, ⟨_, rfl⟩, q⟩) hz
noncomputable def Its (x : Str) : It := ⟨fun i _ => i < x.cps.size, fun i H v H' => H' = H ∧ ∃ c, x.cps[i]? = some c ∧ v = .str ⟨#[c]⟩, fun i _ => x.cps.size ≤ i⟩
theorem turn_str {P : Program} {w : World} {K : PySem.W.Frag} {tg : Expr} (x : Str) (t : Tok) (it : Addr) : Turn P w K tg (Its x) [it] it (fun i h => h.IsStrIter it "str_ascii_iterator" x t i) where
  mem := by simp
  obj := fun i h st b hb => by
    have e : b = it := by simpa using hb
    subst e
    obtain ⟨o, e, c, d⟩ := st
    exact ⟨o, e, fun v z => by rw [d] at z; cases z⟩
  keep := fun i h h' st k => let ⟨o, he, r⟩ := st; ⟨o, k it (by simp) _ he, r⟩
  item := by
    intro X hP hw hK hc i pins s σ H E I hf st hg
    subst hP hw hK
    obtain ⟨c, hx⟩ : ∃ c, x.cps[i]? = some c := ⟨_, Array.getElem?_eq_getElem hg⟩
    refine wpAny_pyNext_ascii_item st hx fun h' st' sb => ?_
    obtain ⟨o, e, cc, d⟩ := id st'
    exact ⟨_, rfl, go_of (s := { s with heap := h', toks := s.toks + 1 }) e cc d (by decide) ⟨.str ⟨#[c]⟩, H, I.turnedF (fp := [it]) (t' := s.toks + 1) (fun b o hb e => sb.extBut b o (fun z => hb (by simp [z])) e) hf, ⟨_, rfl⟩, ⟨rfl, c, hx, rfl⟩, st', fun b hb => (hf b hb).1⟩⟩
  done := by
    intro X hP hw hK hc i pins s σ H E I hf st hg
    subst hP hw hK
    exact wpAny_pyNext_ascii_end (I.ok.hd hc) st (Array.getElem?_eq_none hg) fun h' eb => ⟨rfl, I.turnedF (fp := [it]) (t' := s.toks) (fun b o hb e => eb b o (fun z => hb (by simp [z])) e) hf⟩
  self := fun _ _ _ _ _ st h => wpAny_pyIter_striter_ascii st h
noncomputable def iStr (td : TE) : TI := fun σ H R => td σ H fun x H1 => ∃ z : Str, x = .str z ∧ z.cps.all (· < 128) = true ∧ R (Its z) H1
theorem pi_str {tg : Expr} {o : Expr} {td : TE} (ho : PE X o td) : PI X tg o (iStr td) := by
  intro pins s σ H R I h
  refine thn (ho pins s σ H _ I h) fun u s1 ⟨x, H1, I1, rx, z, ex, ha, q⟩ => ?_
  subst ex
  obtain ⟨t, rfl⟩ := rx
  refine wpAny_pyIter_ascii ha ?_
  refine ⟨s1.heap.objs.size, [s1.heap.objs.size], _, _, H1, rfl, I1.kept (t' := s1.toks) fun b o e => Heap.get?_push_of_some _ e, turn_str z t _, ⟨_, Heap.get?_push_size _ rfl, rfl, rfl⟩, fun b hb => ?_, q⟩
  have e : b = s1.heap.objs.size := by simpa using hb
  subst e
  exact I1.fpOk (Nat.le_refl _) (I1.hok.fresh (Nat.le_refl _))
theorem comp_str {z : Str} {σ0 : St} {g : TG} {tt : TT} {te : TE} {H : Hp} {Q : VK} (Pv : Nat → List V → Hp → Prop) (h0 : Pv 0 [] H) (hl : ∀ i ys H, i ≤ z.cps.size → Pv i ys H → ys.length < sizeLine)
    (hs : ∀ i c ys H, z.cps[i]? = some c → Pv i ys H → g (.str ⟨#[c]⟩) σ0 H fun σ2 H2 => tt σ2 H2 fun b H3 => if b = true then te σ2 H3 fun y H4 => Pv (i + 1) (ys ++ [y]) H4 else Pv (i + 1) ys H3) (hd : ∀ ys H, Pv z.cps.size ys H → ∀ D, H D = none → Q (.ref D) (upd H D (.lst ys))) :
    CompR (Its z) σ0 g tt te Q H := by
  refine ⟨fun i m ys H => m = z.cps.size - i ∧ i ≤ z.cps.size ∧ Pv i ys H, ⟨z.cps.size, by simp, Nat.zero_le _, h0⟩, ?_⟩
  rintro i m ys H ⟨rfl, hi, p⟩
  refine ⟨hl i ys H hi p, ?_⟩
  by_cases hlt : i < z.cps.size
  · refine .inr ⟨hlt, Pv (i + 1), fun ys' H' p' => ⟨z.cps.size - (i + 1), by omega, rfl, hlt, p'⟩, fun x H' y => ?_⟩
    obtain ⟨e, c, hc, rfl⟩ := y
    subst e
    exact hs i c ys _ hc p
  · have e : i = z.cps.size := by omega
    subst e
    exact .inl ⟨Nat.le_refl _, hd ys H p⟩
end
end L2

set_option Elab.async false
set_option linter.all false
set_option maxRecDepth 100000
set_option maxHeartbeats 4000000
namespace L2
open PySem PySem.W PySem.Spec PyProof.Rows
section
variable {prog : Program} {w : World} {A : Around} {E : Value → Shared → Prop} {s : Shared}
theorem star_list {l : Addr} {items : Array Value} {n i : Nat} {Q : List Value → Shared → Prop} (hl : s.heap.IsList l items) (hh : A.handled = none) (hi : i < n) (hn : n ≤ items.size + 1) (hz : items.size ≤ 16384)
    (h : ∀ (h' : Heap) (tk : Nat), (∀ b o, s.heap.get? b = some o → h'.get? b = some o) → Q (items.toList.take i ++ [.ref h'.objs.size] ++ (items.toList.drop i).drop (items.size + 1 - n)) { s with heap := h'.push (seqObj "list" ((items.toList.drop i).take (items.size + 1 - n)).toArray 0), toks := tk }) : wpAny (model prog w) A (unpackItems (.ref l) n (some i)) Q E s := by
  have hlt : l ≠ s.heap.objs.size := by obtain ⟨o, ho, _⟩ := hl; exact Nat.ne_of_lt (Heap.lt_size ho)
  unfold unpackItems
  refine wpAny_bind ?_
  unfold notIterableAtAll
  refine wpAny_bind (wpAny_specialOf hl.typeIs slot_list_iter.lookup ?_)
  refine wpAny_pure ?_
  simp only [Bool.false_eq_true, if_false]
  refine wpAny_bind (wpAny_holding (wpAny_pyIter_list hl ?_))
  refine wpAny_bind (wpAny_holding (kun_draw hlt i 0 _ _ ⟨_, Heap.get?_push_size _ rfl, rfl, rfl⟩ (hl.push _) (by omega) fun h₁ hit₁ hs₁ => ?_))
  have hl₁ : h₁.IsList l items := (hl.push _).extBut hs₁.extBut hlt
  rw [Nat.zero_add] at hit₁
  have hit₁' := hit₁
  obtain ⟨oi, hoi, _⟩ := hit₁'
  have hl₁' := hl₁
  obtain ⟨ol, hol, _⟩ := hl₁'
  rw [List.drop_zero]
  have hfl : (items.toList.take i).length = i := by rw [List.length_take, Array.length_toList]; omega
  rw [if_neg (show ¬ ((items.toList.take i).length < i) by rw [hfl]; omega)]
  refine wpAny_bind (wpAny_holding (kun_collect (s := { s with heap := h₁ }) (T := "list_iterator") (.inr (.inr (.inl rfl))) (Walks.list (A := A.in1) hh s.heap.objs.size l hlt items) (fun j u st => st.1.typeIs) (k := i) (by omega) ⟨hit₁, hl₁⟩ (Heap.lt_size hoi) (Heap.lt_size hol) (fun h₂ tk hk => ?_) (by rw [sizeLine_eq]; omega)))
  have hrl : (items.toList.drop i).length = items.size - i := by rw [List.length_drop, Array.length_toList]
  have hmid : (items.toList.drop i).length - (n - 1 - i) = items.size + 1 - n := by rw [hrl]; omega
  show wpAny _ _ (if (items.toList.drop i).length < n - 1 - i then _ else _) _ _ _
  rw [if_neg (by rw [hrl]; omega)]
  show wpAny _ _ (newList ((items.toList.drop i).take ((items.toList.drop i).length - (n - 1 - i))) >>= fun d => pure (items.toList.take i ++ [d] ++ (items.toList.drop i).drop ((items.toList.drop i).length - (n - 1 - i)))) _ _ _
  rw [hmid]
  have he : ∀ b o, s.heap.get? b = some o → h₂.get? b = some o := fun b o e => hk b o (Nat.ne_of_lt (Heap.lt_size e)) (hs₁.extBut b o (Nat.ne_of_lt (Heap.lt_size e)) (Heap.get?_push_of_some _ e))
  exact wpAny_bind (wpAny_newList (wpAny_pure (h h₂ tk he)) (by rw [List.length_take, hrl, sizeLine_eq]; omega))
end
section
variable {X : Cx} {pos : Pos}
noncomputable def gStar (K : PySem.W.Frag) (n i : Nat) (t : TGs) : TG := fun v σ H Q => ∃ a xs, v = .ref a ∧ SqL K H a xs ∧ i < n ∧ n ≤ xs.length + 1 ∧ xs.length ≤ 16384 ∧ ∀ D, H D = none → t (xs.take i ++ [.ref D] ++ (xs.drop i).drop (xs.length + 1 - n)) σ (upd H D (.lst ((xs.drop i).take (xs.length + 1 - n)))) Q
theorem vals_take : ∀ {xs : List V} {us : List Value} (n : Nat), Vals xs us → Vals (xs.take n) (us.take n)
  | _, _, 0, _ => by simp; exact .nil
  | _, _, _ + 1, .nil => .nil
  | _, _, n + 1, .cons r t => .cons r (vals_take n t)
theorem vals_drop : ∀ {xs : List V} {us : List Value} (n : Nat), Vals xs us → Vals (xs.drop n) (us.drop n)
  | _, _, 0, h => h
  | _, _, _ + 1, .nil => .nil
  | _, _, n + 1, .cons _ t => vals_drop n t
theorem vals_app : ∀ {a : List V} {b : List Value} {a' : List V} {b' : List Value}, Vals a b → Vals a' b' → Vals (a ++ a') (b ++ b')
  | _, _, _, _, .nil, h => h
  | _, _, _, _, .cons r t, h => .cons r (vals_app t h)
theorem pgs_star {e : Expr} {es : List Expr} {t : TG} {u : TGs} {p : Pos} (h1 : PG X e t) (h2 : PGs X es u)
    (hs : (assignEach (.Starred e p :: es) X.env).map (·.2) = assign e X.env :: (assignEach es X.env).map (·.2) := by rfl) : PGs X (.Starred e p :: es) (gCons t u) := by
  intro pins s σ H vs us Q I r h
  obtain ⟨v, vr, e1, h⟩ := h
  subst e1
  cases r with
  | cons r1 r2 =>
    rw [hs]
    refine assignInOrder_cons (thn (h1 pins s σ H _ _ _ I r1 h) fun _ s1 ⟨σ1, H1, I1, q1⟩ => ?_)
    exact h2 pins s1 σ1 H1 _ _ Q I1 r2 q1
theorem pg_star {es : List Expr} {k : Nat} {t : TGs} {n i : Nat} (hc : X.calm = true) (h : PGs X es t) (hn : (assignEach es X.env).length = n := by rfl) (hst : (assignEach es X.env).findIdx? (·.1) = some i := by rfl) : PG X (.Tuple es k pos) (gStar X.K n i t) := by
  intro pins s σ H v u Q I r hw
  obtain ⟨a, xs, e1, hq, hi, hl, hz, hw⟩ := hw
  subst e1
  cases r
  obtain ⟨its, rv, ht, hz'⟩ := I.list hq
  have el := rv.length
  rw [assign_Tuple]
  refine wpAny_bind (wpAny_standAt ?_)
  unfold unpack
  rw [hn, hst]
  refine wpAny_bind (wpAny_holding (star_list ht.isList (I.ok.hd hc) hi (by rw [List.size_toArray]; omega) (by rw [List.size_toArray]; omega) fun h' tk kp => ?_))
  have I1 : Inv X pins σ H { s with heap := h', toks := tk } := I.kept kp
  simp only [List.size_toArray, ← el]
  have I2 : Inv X pins σ (upd H h'.objs.size (.lst ((xs.drop i).take (xs.length + 1 - n)))) { s with heap := h'.push (seqObj "list" ((its.drop i).take (xs.length + 1 - n)).toArray 0), toks := tk } :=
    I1.laid (fun b o e => Heap.get?_push_of_some _ e) (Nat.le_refl _) ⟨by rw [List.length_take, List.length_drop]; omega, _, 0, vals_take _ (vals_drop _ rv), Heap.get?_push_size _ rfl⟩
  exact h pins _ σ _ _ _ Q I2 (vals_app (vals_app (vals_take _ rv) (.cons (show RelV (.ref h'.objs.size) (.ref h'.objs.size) from rfl) .nil)) (vals_drop _ (vals_drop _ rv))) (hw _ (I1.hok.fresh (Nat.le_refl _)))
end
end L2

set_option Elab.async false
set_option linter.all false
set_option maxRecDepth 100000
set_option maxHeartbeats 4000000
namespace L2
open PySem PySem.Spec PyProof.Rows
structure GDict (P : Program) (w : World) (K : PySem.W.Frag) (d : Addr) (kvs : List (Key × Value)) : Prop where
  nsys : (d == sysModules) = false
  obj : ∃ es ep, K.lookup d = some ⟨.type "dict", none, .dict es ep, #[]⟩ ∧ KeysOf (mixKind P w) es ∧ Pairs (mixKind P w) es.toList kvs ∧ (kvs.map (·.1)).Nodup
theorem GDict.of {P : Program} {w : World} {K : PySem.W.Frag} {h : Heap} {d : Addr} {kvs : List (Key × Value)} (g : GDict P w K d kvs) (x : K.In h) : h.DictOf (mixKind P w) d kvs := by
  obtain ⟨es, ep, a, b, c, e⟩ := g.obj
  exact ⟨_, es, ep, x _ _ a, ⟨rfl, rfl, rfl⟩, rfl, b, c, e⟩
theorem isStr_self (x : Str) (t : Tok) : keyIs (Sum.inr x) (.str x t) = true := by
  show (x == x) = true
  exact beq_self_eq_true x
noncomputable abbrev entT (w : World) (p : Str × Tok × Addr) : DictEntry := ⟨PyData.keyHash w.params p.1, .str p.1 p.2.1, .ref p.2.2⟩
theorem gdict_mk {P : Program} {w : World} {K : PySem.W.Frag} {d : Addr} {ep : Nat} (l : List (Str × Tok × Addr)) (h : K.lookup d = some ⟨.type "dict", none, .dict (l.map (entT w)).toArray ep, #[]⟩) (hs : (d == sysModules) = false) (nd : (l.map (·.1)).Nodup) : GDict P w K d (l.map fun p => (Sum.inr p.1, .ref p.2.2)) := by
  refine ⟨hs, _, ep, h, fun e he => ?_, ?_, ?_⟩
  · have he' : e ∈ l.map (entT w) := by simpa using he
    obtain ⟨p, _, rfl⟩ := List.mem_map.mp he'
    exact ⟨Sum.inr p.1, isStr_self p.1 p.2.1, rfl⟩
  · rw [List.toList_toArray]
    clear h nd hs
    induction l with
    | nil => exact .nil
    | cons p l ih => exact .cons (isStr_self p.1 p.2.1) rfl ih
  · rw [List.map_map]
    have e : (l.map ((·.1) ∘ fun p : Str × Tok × Addr => ((Sum.inr p.1 : Key), Value.ref p.2.2))) = (l.map (·.1)).map (Sum.inr : Str → Key) := by rw [List.map_map]; rfl
    rw [e]
    exact nd.map (f := (Sum.inr : Str → Key)) fun a b h => by intro z; exact h (Sum.inr.inj z)
section
variable {X : Cx} {i : Expr} {ty : TE} {p pos : Pos}
noncomputable def tGIn (kvs : List (Key × Value)) (ty : TE) (neg : Bool) : TE := fun σ H Q => ty σ H fun y H1 => ∃ x : Str, y = .str x ∧ Q (.bl (neg ^^ (valueAt kvs (Sum.inr x)).isSome)) H1
theorem pc_gnotin {D : Str} {d : Addr} {kvs : List (Key × Value)} (g : GDict X.prog X.w X.K d kvs) (hg : Gl X D) (hm : X.mg D = some (.ref d)) (hi : PE X i ty) (hdb : (D == ("__debug__" : Str)) = false := by decide) : PC X .NotIn i (.Name D p) (tGIn kvs ty true) := by
  intro pins s σ H Q I h
  refine thn (hi pins s σ H _ I h) fun iv s1 ⟨y, H1, I1, ry, x, ey, q⟩ => ?_
  subst ey
  refine ld_glob I1 hg hm ?_ hdb
  refine wpAny_notIn_of (knd := mixKind X.prog X.w) (k := Sum.inr x) (kV_is (k := Sum.inr x) ry) g.nsys (g.of I1.kIn).mapOf ?_
  exact ⟨.bl _, H1, I1.tok _, by rfl, by simpa using q⟩
noncomputable def tGGet (kvs : List (Key × Value)) (ty : TE) : TE := fun σ H Q => ty σ H fun y H1 => ∃ (x : Str) (t : Addr), y = .str x ∧ valueAt kvs (Sum.inr x) = some (.ref t) ∧ Q (.ref t) H1
theorem pe_gget {D : Str} {d : Addr} {kvs : List (Key × Value)} (g : GDict X.prog X.w X.K d kvs) (hg : Gl X D) (hm : X.mg D = some (.ref d)) (hi : PE X i ty) (hs : NoSl i) (hdb : (D == ("__debug__" : Str)) = false := by decide) : PE X (.Subscript (.Name D p) i pos) (tGGet kvs ty) := by
  intro pins s σ H Q I h
  refine subD_of PySem.F.slot_dict_getitem.lookup hs (ld_glob I hg hm (thn (hi pins s σ H _ I h) fun iv s2 ⟨y, H2, I2, ry, x, t, ey, ht, q2⟩ => ?_) hdb)
  subst ey
  have dd := g.of I2.kIn
  refine ⟨?_, wpAny_getItem_of (knd := mixKind X.prog X.w) (k := Sum.inr x) (kV_is (k := Sum.inr x) ry) dd.mapOf ht ⟨.ref t, H2, I2.tok _, rfl, q2⟩⟩
  obtain ⟨o, es, ep, e, ex, _⟩ := dd
  exact ⟨o, e, ex.1⟩
end
end L2

set_option Elab.async false
set_option linter.all false
set_option maxRecDepth 100000
set_option maxHeartbeats 4000000
namespace CW
open PySem L2
noncomputable abbrev nT (n : Int) : Str := (toString n : Str)
noncomputable abbrev signs (x : Str) : List Nat := x.cps.toList
theorem str_ext {x y : Str} (h : signs x = signs y) : x = y := by
  cases x; cases y
  congr 1
  exact Array.toList_inj.mp h
theorem signs_append (x y : Str) : signs (x ++ y) = signs x ++ signs y := by
  show (x.cps ++ y.cps).toList = _
  simp [signs]
theorem signs_len (x : Str) : (signs x).length = x.length := Array.length_toList
noncomputable abbrev dg (m : Nat) : List Nat := (Nat.toDigits 10 m).map Char.toNat
theorem nT_nat (m : Nat) : signs (nT (m : Int)) = dg m := PySem.W.KIN.signs_num m
theorem nT_neg (m : Nat) : signs (nT (Int.negSucc m)) = 45 :: dg (m + 1) := by
  show signs (Str.ofString ("-" ++ toString (m + 1))) = _
  have := nT_nat (m + 1)
  have e1 : (Str.ofString ("-" ++ toString (m + 1))).cps.toList = ("-" ++ toString (m + 1)).toList.map Char.toNat := PyProof.Rows.signs_ofString _
  have e2 : (Str.ofString (toString ((m + 1 : Nat) : Int))).cps.toList = (toString ((m + 1 : Nat) : Int)).toList.map Char.toNat := PyProof.Rows.signs_ofString _
  have e3 : (toString ((m + 1 : Nat) : Int)).toList.map Char.toNat = dg (m + 1) := e2.symm.trans this
  show (Str.ofString ("-" ++ toString (m + 1))).cps.toList = _
  rw [e1, String.toList_append, List.map_append]
  exact congrArg (fun l => 45 :: l) e3
theorem dg_step {m : Nat} (h : 10 ≤ m) : dg m = dg (m / 10) ++ dg (m % 10) := by
  have hm : m % 10 < 10 := Nat.mod_lt m (by decide)
  have t : Nat.toDigits 10 (m / 10) ++ Nat.toDigits 10 (m % 10) = Nat.toDigits 10 (10 * (m / 10) + m % 10) := Nat.toDigits_append_toDigits (by decide) (by omega) hm
  rw [Nat.div_add_mod] at t
  unfold dg
  rw [← t, List.map_append]
theorem dg_one : ∀ m : Nat, m < 10 → dg m = [48 + m] := by decide
theorem dg_len : ∀ (k m : Nat), m < 10 ^ (k + 1) → 1 ≤ (dg m).length ∧ (dg m).length ≤ k + 1
  | 0, m, h => by rw [dg_one m (by simpa using h)]; exact ⟨Nat.le_refl _, Nat.le_refl _⟩
  | k + 1, m, h => by
    by_cases hm : m < 10
    · rw [dg_one m hm]; exact ⟨Nat.le_refl _, by simp⟩
    · have := dg_len k (m / 10) (by rw [Nat.pow_succ] at h; omega)
      rw [dg_step (by omega), dg_one (m % 10) (Nat.mod_lt m (by decide)), List.length_append]
      show 1 ≤ (dg (m / 10)).length + 1 ∧ (dg (m / 10)).length + 1 ≤ k + 1 + 1
      omega
theorem dg_all (m : Nat) : PySem.NumText.AllDigits (dg m) := by
  intro c hc
  obtain ⟨ch, hch, e⟩ := List.mem_map.mp hc
  have r := PyProof.Rows.digit_range (Nat.isDigit_of_mem_toDigits (by decide) (by decide) hch)
  rw [← e]
  exact r
end CW

set_option Elab.async false
set_option linter.all false
set_option maxRecDepth 100000
set_option maxHeartbeats 4000000
namespace CW
open PySem L2
noncomputable abbrev figS : Str := "0123456789"
noncomputable abbrev letS : Str := "abcdefghijklmnopqrstuvwxyz"
noncomputable def AscT (x : Str) : Prop := x.cps.all (· < 128) = true
theorem asc_of {x : Str} (h : ∀ c ∈ signs x, c < 128) : AscT x := by
  unfold AscT
  rw [← Array.all_toList, List.all_eq_true]
  intro c hc
  exact decide_eq_true (h c hc)
noncomputable def madeB (t sg : Str) (most : Int) : Bool := decide (t ≠ "") && (decide ((t.length : Int) ≤ most) && (signs t).all fun c => decide (c ∈ signs sg))
theorem madeB_true {t sg : Str} {most : Int} (h0 : signs t ≠ []) (h1 : ((signs t).length : Int) ≤ most) (h2 : ∀ c ∈ signs t, c ∈ signs sg) : madeB t sg most = true := by
  unfold madeB
  have e : t ≠ "" := fun z => h0 (by rw [z]; rfl)
  rw [decide_eq_true e, decide_eq_true (by rw [← signs_len]; exact h1), Bool.true_and, Bool.true_and, List.all_eq_true]
  exact fun c hc => decide_eq_true (h2 c hc)
noncomputable def rpM (t : Str) : Str := Txt.removeprefix t "-"
noncomputable def numB (t : Str) : Bool := madeB (rpM t) figS 60 && (decide ((⟨#[(signs (rpM t)).headD 0]⟩ : Str) ≠ "0") || decide (t = "0"))
theorem sub_minus (x : Str) : (decide (0 + ("-" : Str).length ≤ x.length) && Builtin.Str.subAt x "-" 0) = true ↔ (signs x)[0]? = some 45 := by
  have := StrLaws.subAt_one x 45 0
  rw [Bool.and_eq_true, decide_eq_true_iff]
  exact this
theorem rp_plain {x : Str} (h : (signs x)[0]? ≠ some 45) : rpM x = x := by
  unfold rpM
  rw [StrLaws.removeprefix_eq, if_neg (fun z => h ((sub_minus x).mp z))]
theorem rp_minus {x : Str} {r : List Nat} (h : signs x = 45 :: r) : signs (rpM x) = r := by
  unfold rpM
  rw [StrLaws.removeprefix_eq, if_pos ((sub_minus x).mpr (by rw [h]; rfl))]
  show ((x.cps.toList.drop 1).take (x.length - 1)).toArray.toList = r
  have e : x.length = r.length + 1 := by rw [← signs_len, h]; rfl
  have h' : x.cps.toList = 45 :: r := h
  rw [h', e]
  simp
theorem nT_signs {n : Int} {c : Nat} (h : c ∈ signs (nT n)) : c = 45 ∨ (48 ≤ c ∧ c ≤ 57) := by
  cases n with
  | ofNat m =>
    have e : signs (nT (Int.ofNat m)) = dg m := nT_nat m
    rw [e] at h
    exact .inr (dg_all m c h)
  | negSucc m =>
    rw [nT_neg] at h
    rcases List.mem_cons.mp h with z | z
    · exact .inl z
    · exact .inr (dg_all _ c z)
theorem abs_dg {n : Int} (h : n.natAbs < 10 ^ 60) : 1 ≤ (dg n.natAbs).length ∧ (dg n.natAbs).length ≤ 60 := dg_len 59 _ h
theorem nT_len {n : Int} (h : n.natAbs < 10 ^ 60) : 1 ≤ (signs (nT n)).length ∧ (signs (nT n)).length ≤ 61 := by
  have := abs_dg h
  cases n with
  | ofNat m =>
    have e : signs (nT (Int.ofNat m)) = dg m := nT_nat m
    rw [e]
    have h' : 1 ≤ (dg m).length ∧ (dg m).length ≤ 60 := this
    omega
  | negSucc m =>
    rw [nT_neg, List.length_cons]
    have h' : 1 ≤ (dg (m + 1)).length ∧ (dg (m + 1)).length ≤ 60 := this
    omega
end CW

set_option Elab.async false
set_option linter.all false
set_option maxRecDepth 100000
set_option maxHeartbeats 4000000
namespace CW
open PySem L2
theorem free_inj {c : Nat} : ∀ {a b r s : List Nat}, c ∉ a → c ∉ b → a ++ c :: r = b ++ c :: s → a = b ∧ r = s
  | [], [], _, _, _, _, h => ⟨rfl, (List.cons.inj h).2⟩
  | [], y :: b, _, _, _, hb, h => absurd ((List.cons.inj h).1 ▸ List.mem_cons_self) hb
  | x :: a, [], _, _, ha, _, h => absurd ((List.cons.inj h).1 ▸ List.mem_cons_self) ha
  | x :: a, y :: b, r, s, ha, hb, h => by
    obtain ⟨e, t⟩ := List.cons.inj h
    obtain ⟨e2, e3⟩ := free_inj (fun z => ha (List.mem_cons_of_mem _ z)) (fun z => hb (List.mem_cons_of_mem _ z)) t
    exact ⟨by rw [e, e2], e3⟩
theorem signs_join (z : Str) (rest : List Str) (h : rest ≠ []) : signs (Str.join " " (z :: rest)) = signs z ++ 32 :: signs (Str.join " " rest) := by
  cases rest with
  | nil => exact absurd rfl h
  | cons y ys =>
    show signs (z ++ " " ++ Str.join " " (y :: ys)) = _
    rw [signs_append, signs_append, List.append_assoc]
    rfl
theorem join_inj : ∀ {zs ws : List Str}, zs ≠ [] → ws ≠ [] → (∀ z ∈ zs, 32 ∉ signs z) → (∀ z ∈ ws, 32 ∉ signs z) → Str.join " " zs = Str.join " " ws → zs = ws
  | [], _, h, _, _, _, _ => absurd rfl h
  | _, [], _, h, _, _, _ => absurd rfl h
  | [z], [w], _, _, _, _, h => by rw [show z = w from h]
  | [z], w :: w2 :: ws, _, _, hz, hw, h => by
    have e := congrArg signs h
    rw [signs_join w (w2 :: ws) (by simp)] at e
    have : 32 ∈ signs z := by
      rw [show signs (Str.join " " [z]) = signs z from rfl] at e
      rw [e]
      simp
    exact absurd this (hz z List.mem_cons_self)
  | z :: z2 :: zs, [w], _, _, hz, hw, h => by
    have e := congrArg signs h
    rw [signs_join z (z2 :: zs) (by simp)] at e
    have : 32 ∈ signs w := by
      rw [show signs (Str.join " " [w]) = signs w from rfl] at e
      rw [← e]
      simp
    exact absurd this (hw w List.mem_cons_self)
  | z :: z2 :: zs, w :: w2 :: ws, _, _, hz, hw, h => by
    have e := congrArg signs h
    rw [signs_join z (z2 :: zs) (by simp), signs_join w (w2 :: ws) (by simp)] at e
    obtain ⟨e1, e2⟩ := free_inj (hz z List.mem_cons_self) (hw w List.mem_cons_self) e
    rw [str_ext e1, join_inj (by simp) (by simp) (fun x hx => hz x (List.mem_cons_of_mem _ hx)) (fun x hx => hw x (List.mem_cons_of_mem _ hx)) (str_ext e2)]
theorem split_ne (x y : Str) : Txt.split x y ≠ [] := by
  unfold Txt.split
  split
  · simp
  · split
    · simp
    · unfold Builtin.Str.partsBetween
      intro z
      have := congrArg List.length z
      simp at this
theorem split_glued {zs : List Str} (h : zs ≠ []) (hf : ∀ z ∈ zs, 32 ∉ signs z) : Txt.split (Builtin.Str.glued " " zs) " " = zs := by
  rw [StrLaws.glued_eq_join]
  exact join_inj (split_ne _ _) h (fun p hp => StrLaws.split_free (Str.join " " zs) 32 p hp) hf (StrLaws.join_split _ _)
theorem glued_len (zs : List Str) (n : Nat) (h : ∀ z ∈ zs, z.length ≤ n) : (Builtin.Str.glued " " zs).length ≤ zs.length * (n + 1) := by
  rw [StrLaws.glued_eq_join]
  induction zs with
  | nil => exact Nat.zero_le _
  | cons z r ih =>
    have h1 := h z List.mem_cons_self
    have h2 := ih fun w hw => h w (List.mem_cons_of_mem _ hw)
    cases r with
    | nil =>
      show z.length ≤ _
      simp
      omega
    | cons y ys =>
      rw [← signs_len, signs_join z (y :: ys) (by simp), List.length_append, List.length_cons, signs_len, signs_len, List.length_cons, Nat.succ_mul]
      omega
theorem glued_asc {zs : List Str} (h : ∀ z ∈ zs, ∀ c ∈ signs z, c < 128) : ∀ c ∈ signs (Builtin.Str.glued " " zs), c < 128 := by
  rw [StrLaws.glued_eq_join]
  induction zs with
  | nil => intro c hc; cases hc
  | cons z r ih =>
    cases r with
    | nil => exact h z List.mem_cons_self
    | cons y ys =>
      intro c hc
      rw [signs_join z (y :: ys) (by simp)] at hc
      rcases List.mem_append.mp hc with hc | hc
      · exact h z List.mem_cons_self c hc
      · rcases List.mem_cons.mp hc with e | hc
        · omega
        · exact ih (fun w hw => h w (List.mem_cons_of_mem _ hw)) c hc
theorem fold_len (zs : List Str) (n k : Nat) (h : ∀ z ∈ zs, z.length ≤ n) : zs.foldl (fun m z => m + z.length + (" " : Str).length) k ≤ k + zs.length * (n + 1) := by
  induction zs generalizing k with
  | nil => simp
  | cons z r ih =>
    have h1 := h z List.mem_cons_self
    have h2 := ih (k + z.length + (" " : Str).length) fun w hw => h w (List.mem_cons_of_mem _ hw)
    have h3 : (" " : Str).length = 1 := by decide
    rw [List.foldl_cons, List.length_cons, Nat.succ_mul]
    omega
end CW

set_option Elab.async false
set_option linter.all false
set_option maxRecDepth 100000
set_option maxHeartbeats 4000000
namespace L2
open PySem PySem.Spec PyProof.Rows
section
variable {X : Cx}
theorem pe_disp7 {pos : Pos} {k1 k2 k3 k4 k5 k6 k7 v1 v2 v3 v4 v5 v6 v7 : Expr} {trs : List (TE × TE)} (h : PPs X pos [some k1, some k2, some k3, some k4, some k5, some k6, some k7] [v1, v2, v3, v4, v5, v6, v7] trs) : PE X (.Dict [some k1, some k2, some k3, some k4, some k5, some k6, some k7] [v1, v2, v3, v4, v5, v6, v7] pos) (tDisp trs) := pe_disp h rfl rfl (List.cons_ne_nil _ _) (Nat.le_of_ble_eq_true rfl)
@[irreducible] noncomputable def PEi (X : Cx) (e : Expr) (t : TE) : Prop := PE X e t
theorem PEi.out {X : Cx} {e : Expr} {t : TE} (h : PEi X e t) : PE X e t := by unfold PEi at h; exact h
theorem PEi.of {X : Cx} {e : Expr} {t : TE} (h : PE X e t) : PEi X e t := by unfold PEi; exact h
theorem pe_disp7i {pos : Pos} {k1 k2 k3 k4 k5 k6 k7 v1 v2 v3 v4 v5 v6 v7 : Expr} {trs : List (TE × TE)} (h : PPs X pos [some k1, some k2, some k3, some k4, some k5, some k6, some k7] [v1, v2, v3, v4, v5, v6, v7] trs) : PEi X (.Dict [some k1, some k2, some k3, some k4, some k5, some k6, some k7] [v1, v2, v3, v4, v5, v6, v7] pos) (tDisp trs) := PEi.of (pe_disp7 h)
noncomputable def sbD : Stmt → Expr
  | .Assign _ (.Subscript d _ _) _ => d
  | _ => .Constant .none 0 ⟨0, 0, 0, 0⟩
noncomputable def sbI : Stmt → Expr
  | .Assign _ (.Subscript _ i _) _ => i
  | _ => .Constant .none 0 ⟨0, 0, 0, 0⟩
noncomputable def sbP : Stmt → Pos
  | .Assign _ (.Subscript _ _ p) _ => p
  | _ => ⟨0, 0, 0, 0⟩
noncomputable def asT : Stmt → List Expr
  | .Assign t _ _ => t
  | _ => []
noncomputable def asP : Stmt → Pos
  | .Assign _ _ p => p
  | _ => ⟨0, 0, 0, 0⟩
end
end L2
namespace CW
open PySem L2
structure Wd (mg : Str → Option Value) : Prop where
  LETTERS : ∃ t, mg "LETTERS" = some (.str letS t)
  FIGURES : ∃ t, mg "FIGURES" = some (.str figS t)
  MOST_LETTERS : ∃ t, mg "MOST_LETTERS" = some (.int 8 t)
  MOST_FIGURES : ∃ t, mg "MOST_FIGURES" = some (.int 60 t)
theorem pe_globS {X : Cx} {x z : Str} {pos : Pos} (hg : Gl X x) (hm : ∃ t, X.mg x = some (.str z t)) (hd : (x == ("__debug__" : Str)) = false := by decide) : PE X (.Name x pos) (tC (.str z)) := by
  obtain ⟨t, hm⟩ := hm
  exact pe_glob hg hm ⟨t, rfl⟩ hd
theorem pe_globI {X : Cx} {x : Str} {z : Int} {pos : Pos} (hg : Gl X x) (hm : ∃ t, X.mg x = some (.int z t)) (hd : (x == ("__debug__" : Str)) = false := by decide) : PE X (.Name x pos) (tC (.int z)) := by
  obtain ⟨t, hm⟩ := hm
  exact pe_glob hg hm ⟨t, rfl⟩ hd
noncomputable def formW (x : Str) : Option (Int × Int) := if x = "shut" then some (1, 0) else if x = "walk" then some (1, 2) else if x = "put" then some (1, 1) else if x = "take" then some (1, 1) else if x = "mirror" then some (1, 0) else if x = "lay" then some (2, 1) else if x = "late" then some (1, 3) else if x = "strike" then some (1, 1) else none
structure Forms (P : Program) (w : World) (K : PySem.W.Frag) (d : Addr) (kvs : List (Key × Value)) : Prop where
  dict : GDict P w K d kvs
  has : ∀ x, (PySem.valueAt kvs (Sum.inr x)).isSome = (formW x).isSome
  tup : ∀ x n m, formW x = Option.some (n, m) → ∃ t, PySem.valueAt kvs (Sum.inr x) = some (.ref t) ∧ ∀ H, SqT K H t [.int n, .int m]
end CW

set_option Elab.async false
set_option linter.all false
set_option maxRecDepth 100000
set_option maxHeartbeats 4000000
namespace L2
open PySem PySem.Spec PyProof.Rows
section
variable {X : Cx}
noncomputable def rSlS : V → Option Int → Option Int → Hp → VK → Prop := fun x lo hi H Q => ∃ z : Str, x = .str z ∧ z.length ≤ sizeLine ∧ Q (.str (Txt.slice z lo hi)) H
theorem sl_str : SlR X rSlS := by
  intro pins s σ H x v vl vu lo hi sl Q I rx hs pl pu h
  obtain ⟨z, rfl, hz, q⟩ := h
  obtain ⟨t, rfl⟩ := rx
  refine ⟨"str", _, slot_str_getitem.lookup, typeIs_str s z t, ?_⟩
  have fin : ∀ t' k, EP X pins σ Q (.str (Txt.slice z lo hi) t') { s with toks := k } := fun t' k => ⟨.str (Txt.slice z lo hi), H, I.tok _, ⟨_, rfl⟩, q⟩
  cases pl with
  | none =>
    cases pu with
    | none => exact wpAny_getItem_str_slice (l := none) (u := none) (st := none) hs rfl (post_val_or_str ⟨Nat.le_trans (Txt.slice_le z _ _) hz, fin⟩)
    | int j tj => exact wpAny_getItem_str_slice (l := none) (u := some (j, tj)) (st := none) hs rfl (post_val_or_str ⟨Nat.le_trans (Txt.slice_le z _ _) hz, fin⟩)
  | int i ti =>
    cases pu with
    | none => exact wpAny_getItem_str_slice (l := some (i, ti)) (u := none) (st := none) hs rfl (post_val_or_str ⟨Nat.le_trans (Txt.slice_le z _ _) hz, fin⟩)
    | int j tj => exact wpAny_getItem_str_slice (l := some (i, ti)) (u := some (j, tj)) (st := none) hs rfl (post_val_or_str ⟨Nat.le_trans (Txt.slice_le z _ _) hz, fin⟩)
noncomputable def rUpper : V → List V → Hp → VK → Prop := fun x vs H Q => ∃ t : Str, x = .str t ∧ vs = [] ∧ (Txt.upper t).length ≤ sizeLine ∧ Q (.str (Txt.upper t)) H
theorem mt_upper : MtM X "str.upper" rUpper := by
  intro pins s σ H x vs v us Q I rx rv h
  obtain ⟨t, rfl, rfl, hz, q⟩ := h
  obtain ⟨tx, rfl⟩ := rx
  have hus := rv.zero
  subst hus
  exact PySem.SC.upper (decide_eq_false (by omega)) ⟨.str _, H, I.tok _, ⟨_, rfl⟩, q⟩
theorem op_mulS : OpR X (binaryOp .Mult) (fun x y H Q => ∃ (z : Str) (n : Int), x = .str z ∧ y = .int n ∧ MulOk z n ∧ Q (.str (Txt.mul z n)) H) := by
  intro pins s σ H x y v u Q I rx ry h
  obtain ⟨z, n, rfl, rfl, hz, q⟩ := h
  obtain ⟨t, rfl⟩ := rx
  obtain ⟨t', rfl⟩ := ry
  exact PySem.SB.mul hz (fun t' tk => ⟨.str _, H, I.tok _, ⟨_, rfl⟩, q⟩)
end
end L2

set_option Elab.async false
set_option linter.all false
set_option maxRecDepth 100000
set_option maxHeartbeats 4000000
namespace L2
open PySem PySem.Spec PyProof.Rows
section
variable {X : Cx}
theorem ld_var {i : Nat} {x : Str} {pos : Pos} {pins : List (Addr × Obj)} {s : Shared} {σ : St} {H : Hp} {v : V} {Q : Value → Shared → Prop} {E : Value → Shared → Prop} (I : Inv X pins σ H s) (hN : X.N[i]? = some x) (hv : Vis X.env.scope x) (e : σ[i]? = some (some v)) (h : ∀ u, RelV v u → Q u s)
    (hd : (x == ("__debug__" : Str)) = false := by decide) (hcd : (x == ("__classdict__" : Str)) = false := by decide) : wpAny (model X.prog X.w) X.A (eval (.Name x pos) X.env) Q E s := by
  obtain ⟨m, hn, hl⟩ := I.loc
  obtain ⟨u, r, l⟩ := hl i x v hN e hv
  rcases l with ⟨hk, hm⟩ | ⟨hk, c, hc, hcell⟩
  · exact wpAny_Name (wpAny_loadName_local I.ok.kind hk hn hm (h u r)) hd
  · rcases hk with hk | hk
    · exact wpAny_Name (wpAny_loadName_cell I.ok.kind hk hc hcell (h u r)) hd
    · exact wpAny_Name (wpAny_loadName_free I.ok.kind hk hc hcell (h u r) hcd) hd
noncomputable def tRep (i : Nat) (t : TA) : TA := fun σ H Q => ∃ z : Str, σ[i]? = some (some (.str z)) ∧ z.length ≤ 100000 ∧ t σ H fun vs H1 => Q (.str (" " ++ z) :: .str (Txt.replace z " " "  ") :: vs) H1
theorem pa_rep {i : Nat} {x : Str} {t : TA} {es : List Expr} {j1 j2 j3} {p1 p2 p3 p4 p5 p6 apos cpos : Pos} (hN : X.N[i]? = some x) (hv : Vis X.env.scope x) (hr : PA X es t)
    (hd : (x == ("__debug__" : Str)) = false := by decide) (hcd : (x == ("__classdict__" : Str)) = false := by decide)
    (hs : starEach ((.BinOp (.Constant (.str " ") j1 p1) .Add (.Name x p2) p3) :: (.Call (.Attribute (.Name x p4) "replace" apos) [.Constant (.str " ") j2 p5, .Constant (.str "  ") j3 p6] [] cpos) :: es) X.env =
      (false, eval (.BinOp (.Constant (.str " ") j1 p1) .Add (.Name x p2) p3) X.env) :: (false, eval (.Call (.Attribute (.Name x p4) "replace" apos) [.Constant (.str " ") j2 p5, .Constant (.str "  ") j3 p6] [] cpos) X.env) :: starEach es X.env := by rfl)
    (hbase : attributeBase (.Name x p4) "replace" X.env (eval (.Name x p4) X.env) = eval (.Name x p4) X.env := by rfl)
    (hfew : ((backTo cpos (starEach [.Constant (.str " ") j2 p5, .Constant (.str "  ") j3 p6] X.env)).all (fun x => !x.1) && (backToKw cpos (keywordEach [] X.env)).all (fun x => x.1.isSome)
      && decide (([.Constant (.str " ") j2 p5, .Constant (.str "  ") j3 p6] : List Expr).length + ([] : List Keyword).length + (if ([] : List Keyword).isEmpty then 0 else 1) < 30)) = true := by rfl)
    (hline : (apos.endLine == cpos.line) = true := by rfl) :
    PA X ((.BinOp (.Constant (.str " ") j1 p1) .Add (.Name x p2) p3) :: (.Call (.Attribute (.Name x p4) "replace" apos) [.Constant (.str " ") j2 p5, .Constant (.str "  ") j3 p6] [] cpos) :: es) (tRep i t) := by
  intro pos pins s σ H Q I h
  obtain ⟨z, hz, hzl, q⟩ := h
  rw [hs]
  show wpAny _ _ (spliced ((false, _) :: (false, _) :: backTo pos (starEach es X.env))) _ _ s
  refine Calls.spliced_cons (wpAny_BinOp (Calls.Constant_str ?_))
  have I1 : Inv X pins σ H { s with toks := s.toks + 1 } := I.tok _
  refine ld_var I1 hN hv hz (fun u ru => ?_) hd hcd
  obtain ⟨tz, rfl⟩ := ru
  have hl1 : (" " : Str).length = 1 := by decide
  have h100 : (100002 : Nat) ≤ sizeLine := by decide
  -- the text behind a blank; the state has handed out a token
  have step : ∀ (s2 : Shared), Inv X pins σ H s2 → 0 < s2.toks → ∀ (u : Value), RelV (.str (" " ++ z)) u → wpAny (model X.prog X.w) X.A (spliced ((false, eval (.Call (.Attribute (.Name x p4) "replace" apos) [.Constant (.str " ") j2 p5, .Constant (.str "  ") j3 p6] [] cpos) X.env) :: backTo pos (starEach es X.env))) (fun us s' => AP X pins σ Q (u :: us) s') X.xe s2 := by
    intro s2 I2 ht u ru
    refine Calls.spliced_cons (wpAny_Call_method_late hbase hfew hline rfl (ld_var I2 hN hv hz (fun u2 ru2 => ?_) hd hcd))
    obtain ⟨tz2, rfl⟩ := ru2
    obtain ⟨t1, t2⟩ := tyV_is (T := "str") I2 (show RelV (.str z) (.str z tz2) from ⟨_, rfl⟩) rfl
    refine ⟨"str", "str.replace", PySem.F.plainAttrs_str, PySem.F.slot_str_replace, PySem.F.type_str_replace, t1, t2, ?_⟩
    refine Calls.callWith_builtin rfl (Calls.evalArgs_plain ?_)
    show wpAny _ _ (spliced [(false, eval (.Constant (.str " ") j2 p5) X.env), (false, eval (.Constant (.str "  ") j3 p6) X.env)]) _ _ _
    refine Calls.spliced_cons (Calls.Constant_str (Calls.spliced_cons (Calls.Constant_str (Calls.spliced_nil ?_))))
    refine PySem.SC.replaceW (by show s2.toks ≠ 0; omega) (by show s2.toks + 1 ≠ 0; omega) (by show s2.toks ≠ s2.toks + 1; omega) (by decide) (by omega) (by decide) fun t' k => ?_
    refine thn (hr pos pins _ σ H _ (I2.tok _) q) fun us s4 ⟨vs, H4, I4, r4, q4⟩ => ?_
    exact ⟨.str (" " ++ z) :: .str (Txt.replace z " " "  ") :: vs, H4, I4, .cons ru (.cons ⟨_, rfl⟩ r4), q4⟩
  refine PySem.P.add_str ?_
  rw [if_neg (by rw [hl1]; decide)]
  by_cases c : (z.length == 0) = true
  · rw [if_pos c]
    have hz0 : " " ++ z = (" " : Str) := by
      have : z = "" := by
        have h0 : z.cps.size = 0 := by simpa [Str.length] using c
        cases z
        congr 1
        exact Array.eq_empty_of_size_eq_zero h0
      rw [this]; decide
    exact step _ I1 (Nat.succ_pos _) _ (by rw [hz0]; exact ⟨_, rfl⟩)
  · rw [if_neg c]
    exact ⟨by rw [Str.length_append]; omega, step _ (I1.tok _) (Nat.succ_pos _) _ ⟨_, rfl⟩⟩
end
end L2

set_option Elab.async false
set_option linter.all false
set_option maxRecDepth 100000
set_option maxHeartbeats 4000000
namespace CW
open PySem L2
noncomputable abbrev Grp := Int × Addr × List Int
noncomputable def SameD (d : Addr) (H H' : Hp) : Prop := ∀ b o, b ≠ d → H b = some o → H' b = some o
theorem SameD.trans {d : Addr} {H H1 H2 : Hp} (a : SameD d H H1) (b : SameD d H1 H2) : SameD d H H2 := fun c o n h => b c o n (a c o n h)
section
variable {P : Program} {w : World} {K : PySem.W.Frag} {mg : Str → Option Value} {base : Heap}
end
end CW

set_option Elab.async false
set_option linter.all false
set_option maxRecDepth 100000
set_option maxHeartbeats 4000000
namespace CW
open PySem L2
noncomputable def StayG (d : Addr) (gs : List Grp) (H H' : Hp) : Prop := ∀ b o, b ≠ d → (∀ g ∈ gs, b ≠ g.2.1) → H b = some o → H' b = some o
section
variable {P : Program} {w : World} {K : PySem.W.Frag} {mg : Str → Option Value} {base : Heap}
end
end CW

set_option Elab.async false
set_option linter.all false
set_option maxRecDepth 100000
set_option maxHeartbeats 4000000
namespace CW
open PySem L2
noncomputable def GoodG (gs : List Grp) : Prop := ∀ g ∈ gs, 1 ≤ g.1 ∧ g.2.2 ≠ []
theorem GoodG.tail {g : Grp} {r : List Grp} (h : GoodG (g :: r)) : GoodG r := fun x hx => h x (List.mem_cons_of_mem _ hx)
end CW
namespace CW
open PySem L2
section
variable {P : Program} {w : World} {K : PySem.W.Frag} {mg : Str → Option Value} {base : Heap}
end
end CW
namespace CW
open PySem L2
theorem StayG.same {H H1 H2 : Hp} {d r : Addr} {gs : List Grp} (st : StayG d gs H1 H2) (sm : Same H H1) (hd : H d = none) (hfr : ∀ g ∈ gs, H g.2.1 = none ∧ g.2.1 ≠ r) : Same H H2 := fun b o e =>
  st b o (fun z => by rw [z, hd] at e; cases e) (fun g hg z => by rw [z, (hfr g hg).1] at e; cases e) (sm b o e)
end CW

set_option Elab.async false
set_option linter.all false
set_option maxHeartbeats 4000000
namespace CW
noncomputable abbrev Trs := List (Int × Int)
noncomputable def les (ps : Trs) (j : Int) : Int := (ps.map fun q => min j q.1).sum
theorem les_cons (q : Int × Int) (ps : Trs) (j : Int) : les (q :: ps) j = min j q.1 + les ps j := by simp [les]
theorem les_perm {ps qs : Trs} (h : ps.Perm qs) (j : Int) : les ps j = les qs j := by
  unfold les
  induction h with
  | nil => rfl
  | cons x _ ih => simp only [List.map_cons, List.sum_cons]; omega
  | swap x y l => simp only [List.map_cons, List.sum_cons]; omega
  | trans _ _ h1 h2 => exact h1.trans h2
noncomputable def Bd (ps : Trs) (n : Int) : Prop := ∀ q ∈ ps, 1 ≤ q.1 ∧ q.2 + 2 * les ps q.1 ≤ n
theorem Bd.perm {ps qs : Trs} {n : Int} (h : Bd ps n) (e : ps.Perm qs) : Bd qs n := fun q hq => by
  have := h q (e.mem_iff.mpr hq)
  rw [les_perm e] at this
  exact this
theorem Bd.mono {ps : Trs} {n m : Int} (h : Bd ps n) (e : n ≤ m) : Bd ps m := fun q hq => ⟨(h q hq).1, Int.le_trans (h q hq).2 e⟩
noncomputable def Add (ps : Trs) (p : Int) (qs : Trs) : Prop := ∃ (s : Int) (rest : Trs), 0 ≤ s ∧ (s = 0 ∧ ps.Perm rest ∨ 1 ≤ s ∧ ps.Perm ((s, p - 1 - 2 * les ps s) :: rest)) ∧ (∀ q ∈ ps, s < q.1 → q.2 + 2 * les ps q.1 ≠ p - 1) ∧ qs.Perm ((s + 1, p - 2 * les rest (s + 1) - 2 * (s + 1)) :: rest)
theorem Add.perm {ps ps' qs qs' : Trs} {p : Int} (h : Add ps p qs) (e : ps.Perm ps') (f : qs.Perm qs') : Add ps' p qs' := by
  obtain ⟨s, rest, h0, h1, h2, h3⟩ := h
  refine ⟨s, rest, h0, ?_, fun q hq hs => ?_, f.symm.trans h3⟩
  · rcases h1 with ⟨a, b⟩ | ⟨a, b⟩
    · exact .inl ⟨a, e.symm.trans b⟩
    · refine .inr ⟨a, ?_⟩
      rw [← les_perm e]
      exact e.symm.trans b
  · rw [← les_perm e]
    exact h2 q (e.mem_iff.mpr hq) hs
theorem Add.uniq {ps qs qs' : Trs} {p : Int} (h : Add ps p qs) (h' : Add ps p qs') : qs.Perm qs' := by
  obtain ⟨s, rest, h0, h1, h2, h3⟩ := h
  obtain ⟨s', rest', h0', h1', h2', h3'⟩ := h'
  have hs : s = s' := by
    rcases h1 with ⟨a, b⟩ | ⟨a, b⟩ <;> rcases h1' with ⟨a', b'⟩ | ⟨a', b'⟩
    · omega
    · exact absurd (show (p - 1 - 2 * les ps s') + 2 * les ps s' = p - 1 by omega) (h2 _ (b'.mem_iff.mpr List.mem_cons_self) (show s < s' by omega))
    · exact absurd (show (p - 1 - 2 * les ps s) + 2 * les ps s = p - 1 by omega) (h2' _ (b.mem_iff.mpr List.mem_cons_self) (show s' < s by omega))
    · rcases Int.lt_trichotomy s s' with l | l | l
      · exact absurd (show (p - 1 - 2 * les ps s') + 2 * les ps s' = p - 1 by omega) (h2 _ (b'.mem_iff.mpr List.mem_cons_self) l)
      · exact l
      · exact absurd (show (p - 1 - 2 * les ps s) + 2 * les ps s = p - 1 by omega) (h2' _ (b.mem_iff.mpr List.mem_cons_self) l)
  subst hs
  have hr : rest.Perm rest' := by
    rcases h1 with ⟨a, b⟩ | ⟨a, b⟩ <;> rcases h1' with ⟨a', b'⟩ | ⟨a', b'⟩
    · exact b.symm.trans b'
    · omega
    · omega
    · exact List.Perm.cons_inv (b.symm.trans b')
  refine h3.trans (List.Perm.trans ?_ h3'.symm)
  rw [les_perm hr]
  exact hr.cons _
theorem Add.bd {ps qs : Trs} {p : Int} (h : Add ps p qs) (b : Bd ps (p - 1)) : Bd qs p := by
  obtain ⟨s, rest, h0, h1, h2, h3⟩ := h
  have hl : ∀ j, 1 ≤ j → les qs j = les ps j + if s < j then 1 else 0 := fun j hj => by
    rw [les_perm h3, les_cons]
    rcases h1 with ⟨a, b⟩ | ⟨a, b⟩
    · rw [les_perm b]
      simp only
      split <;> omega
    · rw [les_perm b, les_cons]
      simp only
      split <;> omega
  intro q hq
  rcases List.mem_cons.mp (h3.mem_iff.mp hq) with rfl | hq
  · refine ⟨show 1 ≤ s + 1 by omega, ?_⟩
    have : les qs (s + 1) = s + 1 + les rest (s + 1) := by
      rw [les_perm h3, les_cons]
      simp only
      omega
    show (p - 2 * les rest (s + 1) - 2 * (s + 1)) + 2 * les qs (s + 1) ≤ p
    omega
  · have hm : q ∈ ps := by
      rcases h1 with ⟨_, e⟩ | ⟨_, e⟩
      · exact e.mem_iff.mpr hq
      · exact e.mem_iff.mpr (List.mem_cons_of_mem _ hq)
    obtain ⟨b1, b2⟩ := b q hm
    refine ⟨b1, ?_⟩
    have := h2 q hm
    rw [hl q.1 b1]
    split <;> omega
noncomputable def Tak (ps : Trs) (p : Int) (qs : Trs) : Prop := ∃ (s : Int) (rest : Trs), 1 ≤ s ∧ ps.Perm ((s, p - 2 * les ps s) :: rest) ∧ (∀ q ∈ ps, q.2 + 2 * les ps q.1 ≤ p) ∧ (∀ q ∈ ps, q.1 < s → q.2 + 2 * les ps q.1 < p) ∧
  (s = 1 ∧ qs.Perm rest ∨ 2 ≤ s ∧ qs.Perm ((s - 1, p - 1 - 2 * les rest (s - 1) - 2 * (s - 1)) :: rest))
theorem Tak.add {ps qs : Trs} {p : Int} (h : Tak ps p qs) (hp : ∀ q ∈ ps, 1 ≤ q.1) : Bd qs (p - 1) ∧ Add qs p ps := by
  obtain ⟨s, rest, h0, h1, h2, h3, h4⟩ := h
  have hl : ∀ j, 0 ≤ j → les ps j = les qs j + if s ≤ j then 1 else 0 := fun j hj => by
    rw [les_perm h1, les_cons]
    rcases h4 with ⟨a, b⟩ | ⟨a, b⟩
    · rw [les_perm b]; simp only; split <;> omega
    · rw [les_perm b, les_cons]; simp only; split <;> omega
  have hold : ∀ q ∈ rest, 1 ≤ q.1 ∧ q.2 + 2 * les qs q.1 ≤ p - 1 ∧ (s ≤ q.1 → q.2 + 2 * les qs q.1 ≤ p - 2) := fun q hq => by
    have hm : q ∈ ps := h1.mem_iff.mpr (List.mem_cons_of_mem _ hq)
    have a1 := hp q hm
    have a2 := h2 q hm
    have a3 := h3 q hm
    have a4 := hl q.1 (by omega)
    refine ⟨a1, ?_, fun hs => ?_⟩
    · by_cases hs : s ≤ q.1
      · rw [if_pos hs] at a4; omega
      · rw [if_neg hs] at a4; have := a3 (by omega); omega
    · rw [if_pos hs] at a4; omega
  have hnew : 2 ≤ s → les qs (s - 1) = (s - 1) + les rest (s - 1) := fun h => by
    rcases h4 with ⟨a, b⟩ | ⟨a, b⟩
    · omega
    · rw [les_perm b, les_cons]; simp only; omega
  refine ⟨fun q hq => ?_, s - 1, rest, by omega, ?_, fun q hq hs => ?_, ?_⟩
  · rcases h4 with ⟨a, b⟩ | ⟨a, b⟩
    · have := hold q (b.mem_iff.mp hq); exact ⟨this.1, this.2.1⟩
    · rcases List.mem_cons.mp (b.mem_iff.mp hq) with rfl | hq
      · refine ⟨show 1 ≤ s - 1 by omega, ?_⟩
        have := hnew a
        show (p - 1 - 2 * les rest (s - 1) - 2 * (s - 1)) + 2 * les qs (s - 1) ≤ p - 1
        omega
      · have := hold q hq; exact ⟨this.1, this.2.1⟩
  · rcases h4 with ⟨a, b⟩ | ⟨a, b⟩
    · exact .inl ⟨by omega, b⟩
    · refine .inr ⟨by omega, ?_⟩
      have e : p - 1 - 2 * les qs (s - 1) = p - 1 - 2 * les rest (s - 1) - 2 * (s - 1) := by have := hnew a; omega
      rw [e]
      exact b
  · have hq' : q ∈ rest := by
      rcases h4 with ⟨a, b⟩ | ⟨a, b⟩
      · exact b.mem_iff.mp hq
      · rcases List.mem_cons.mp (b.mem_iff.mp hq) with rfl | hq
        · exact absurd hs (by show ¬ (s - 1 < s - 1); omega)
        · exact hq
    have := (hold q hq').2.2 (by omega)
    omega
  · have e : s - 1 + 1 = s := by omega
    rw [e]
    have e2 : p - 2 * les rest s - 2 * s = p - 2 * les ps s := by rw [les_perm h1, les_cons]; simp only; omega
    rw [e2]
    exact h1
theorem Add.tak {ps qs : Trs} {p : Int} (h : Add ps p qs) (b : Bd ps (p - 1)) : Tak qs p ps := by
  have hb := h.bd b
  obtain ⟨s, rest, h0, h1, h2, h3⟩ := h
  have hl : ∀ j, 0 ≤ j → les qs j = les ps j + if s < j then 1 else 0 := fun j hj => by
    rw [les_perm h3, les_cons]
    rcases h1 with ⟨a, b⟩ | ⟨a, b⟩
    · rw [les_perm b]; simp only; split <;> omega
    · rw [les_perm b, les_cons]; simp only; split <;> omega
  have e2 : p - 2 * les qs (s + 1) = p - 2 * les rest (s + 1) - 2 * (s + 1) := by rw [les_perm h3, les_cons]; simp only; omega
  refine ⟨s + 1, rest, by omega, by rw [e2]; exact h3, fun q hq => (hb q hq).2, fun q hq hs => ?_, ?_⟩
  · rcases List.mem_cons.mp (h3.mem_iff.mp hq) with rfl | hq
    · exact absurd hs (by show ¬ (s + 1 < s + 1); omega)
    · have hm : q ∈ ps := by
        rcases h1 with ⟨_, e⟩ | ⟨_, e⟩
        · exact e.mem_iff.mpr hq
        · exact e.mem_iff.mpr (List.mem_cons_of_mem _ hq)
      obtain ⟨b1, b2⟩ := b q hm
      have := hl q.1 (by omega)
      rw [if_neg (by omega)] at this
      omega
  · rcases h1 with ⟨a, e⟩ | ⟨a, e⟩
    · exact .inl ⟨by omega, e⟩
    · refine .inr ⟨by omega, ?_⟩
      have e3 : s + 1 - 1 = s := by omega
      rw [e3]
      have e4 : p - 1 - 2 * les rest s - 2 * s = p - 1 - 2 * les ps s := by rw [les_perm e, les_cons]; simp only; omega
      rw [e4]
      exact e
theorem Tak.uniq {ps ps' qs qs' : Trs} {p p' : Int} (h : Tak ps p qs) (h' : Tak ps' p' qs') (e : ps.Perm ps') : p = p' ∧ qs.Perm qs' := by
  obtain ⟨s, rest, h0, h1, h2, h3, h4⟩ := h
  obtain ⟨s', rest', h0', h1', h2', h3', h4'⟩ := h'
  have m1 : (s, p - 2 * les ps s) ∈ ps := h1.mem_iff.mpr List.mem_cons_self
  have m2 : (s', p' - 2 * les ps' s') ∈ ps' := h1'.mem_iff.mpr List.mem_cons_self
  have a1 := h2' _ (e.mem_iff.mp m1)
  have a2 := h2 _ (e.mem_iff.mpr m2)
  have l1 := les_perm e s
  have l2 := les_perm e s'
  simp only at a1 a2
  have hp : p = p' := by omega
  subst hp
  have b1 := h3' _ (e.mem_iff.mp m1)
  have b2 := h3 _ (e.mem_iff.mpr m2)
  simp only at b1 b2
  have hs : s = s' := by
    rcases Int.lt_trichotomy s s' with l | l | l
    · have := b1 l; omega
    · exact l
    · have := b2 l; omega
  subst hs
  rw [← l1] at h1'
  have hr : rest.Perm rest' := List.Perm.cons_inv ((h1.symm.trans e).trans h1')
  refine ⟨rfl, ?_⟩
  rcases h4 with ⟨a, b⟩ | ⟨a, b⟩ <;> rcases h4' with ⟨a', b'⟩ | ⟨a', b'⟩
  · exact b.trans (hr.trans b'.symm)
  · omega
  · omega
  · refine b.trans (List.Perm.trans ?_ b'.symm)
    rw [les_perm hr]
    exact hr.cons _
inductive Lst : List Int → Trs → Prop
  | nil : Lst [] []
  | snoc {r : List Int} {ps : Trs} {p : Int} {qs : Trs} : Lst r ps → (∀ x ∈ r, x < p) → Add ps p qs → Lst (r ++ [p]) qs
theorem Add.ne {ps qs : Trs} {p : Int} (h : Add ps p qs) : qs ≠ [] := by
  obtain ⟨s, rest, _, _, _, h3⟩ := h
  intro e
  rw [e] at h3
  exact absurd h3.symm.eq_nil (by simp)
theorem Lst.perm {r : List Int} {ps qs : Trs} (h : Lst r ps) (e : ps.Perm qs) : Lst r qs := by
  cases h with
  | nil => rw [e.symm.eq_nil]; exact .nil
  | snoc a b c => exact .snoc a b (c.perm (.refl _) e)
theorem Lst.inv {r : List Int} {p : Int} {qs : Trs} (h : Lst (r ++ [p]) qs) : ∃ ps, Lst r ps ∧ (∀ x ∈ r, x < p) ∧ Add ps p qs := by
  generalize e : r ++ [p] = t at h
  cases h with
  | nil => simp at e
  | snoc a b c =>
    obtain ⟨rfl, e2⟩ := List.append_inj' e rfl
    obtain rfl : p = _ := by simpa using e2
    exact ⟨_, a, b, c⟩
theorem Lst.nilr {qs : Trs} (h : Lst [] qs) : qs = [] := by
  generalize e : ([] : List Int) = t at h
  cases h with
  | nil => rfl
  | snoc a b c => simp at e
theorem Lst.bd {r : List Int} {ps : Trs} (h : Lst r ps) {n : Int} : (∀ x ∈ r, x ≤ n) → Bd ps n := by
  induction h generalizing n with
  | nil => intro _ q hq; cases hq
  | snoc a b c ih =>
    intro hn
    rename_i r ps p qs
    have hp : p ≤ n := hn p (by simp)
    have := ih (n := p - 1) fun x hx => by have := b x hx; omega
    exact (c.bd this).mono hp
theorem Lst.uniq {r : List Int} {ps qs : Trs} (h : Lst r ps) (h' : Lst r qs) : ps.Perm qs := by
  induction h generalizing qs with
  | nil => rw [h'.nilr]
  | snoc a b c ih =>
    obtain ⟨ps', a', b', c'⟩ := h'.inv
    exact (c.perm (ih a') (.refl _)).uniq c'
theorem Lst.row {r : List Int} {ps : Trs} (h : Lst r ps) {r' : List Int} {qs : Trs} (h' : Lst r' qs) (e : ps.Perm qs) : r = r' := by
  induction h generalizing r' qs with
  | nil =>
    cases h' with
    | nil => rfl
    | snoc a b c => exact absurd e.symm.eq_nil c.ne
  | snoc a b c ih =>
    cases h' with
    | nil => exact absurd e.eq_nil c.ne
    | snoc a' b' c' =>
      rename_i r ps p qs r' ps' p'
      have bd := a.bd (n := p - 1) fun x hx => by have := b x hx; omega
      have bd' := a'.bd (n := p' - 1) fun x hx => by have := b' x hx; omega
      obtain ⟨rfl, e2⟩ := (c.tak bd).uniq (c'.tak bd') e
      rw [ih a' e2]
theorem Lst.tak {r : List Int} {ps qs : Trs} {p : Int} (h : Lst r qs) (t : Tak ps p qs) (hp : ∀ q ∈ ps, 1 ≤ q.1) (hr : ∀ x ∈ r, x < p) : Lst (r ++ [p]) ps := .snoc h hr (t.add hp).2
noncomputable def siz (ps : Trs) : Int := (ps.map (·.1)).sum
theorem siz_perm {ps qs : Trs} (h : ps.Perm qs) : siz ps = siz qs := by
  unfold siz
  induction h with
  | nil => rfl
  | cons x _ ih => simp only [List.map_cons, List.sum_cons]; omega
  | swap x y l => simp only [List.map_cons, List.sum_cons]; omega
  | trans _ _ h1 h2 => exact h1.trans h2
theorem siz_cons (q : Int × Int) (ps : Trs) : siz (q :: ps) = q.1 + siz ps := by simp [siz]
theorem Add.sizx {ps qs : Trs} {p : Int} (h : Add ps p qs) : siz qs = siz ps + 1 := by
  obtain ⟨s, rest, h0, h1, h2, h3⟩ := h
  rw [siz_perm h3, siz_cons]
  rcases h1 with ⟨a, b⟩ | ⟨a, b⟩
  · rw [siz_perm b]; simp only; omega
  · rw [siz_perm b, siz_cons]; simp only; omega
theorem Lst.sizx {r : List Int} {ps : Trs} (h : Lst r ps) : siz ps = (r.length : Int) := by
  induction h with
  | nil => rfl
  | snoc a b c ih => rw [c.sizx, ih]; simp
theorem Lst.pos {r : List Int} {ps : Trs} (h : Lst r ps) : ∀ q ∈ ps, 1 ≤ q.1 := by
  obtain ⟨n, hn⟩ : ∃ n : Int, ∀ x ∈ r, x ≤ n := by
    clear h
    induction r with
    | nil => exact ⟨0, fun x hx => (nomatch hx)⟩
    | cons a r ih =>
      obtain ⟨n, hn⟩ := ih
      refine ⟨max a n, fun x hx => ?_⟩
      rcases List.mem_cons.mp hx with rfl | hx
      · omega
      · have := hn x hx; omega
  exact fun q hq => (h.bd hn q hq).1
end CW

set_option Elab.async false
set_option linter.all false
set_option maxRecDepth 100000
set_option maxHeartbeats 4000000
namespace CW
open PySem L2
end CW

set_option Elab.async false
set_option linter.all false
set_option maxRecDepth 100000
set_option maxHeartbeats 4000000
namespace L2
open PySem PySem.Spec PyProof.Rows
end L2

namespace L2
open PySem PySem.Spec PyProof.Rows
section
variable {X : Cx} {pins : List (Addr × Obj)} {σ : St} {inn : Scope} {js : List Nat} {cs ts : List Str} {nt lo : Nat} {elt tg iter t2 i2 : Expr} {ifs f2 : List Expr} {pos : Pos} {g g2 : TG} {tt tt2 : TT} {te : TE} {wi wi2 : TI}
end
end L2

set_option Elab.async false
set_option linter.all false
set_option maxRecDepth 100000
set_option maxHeartbeats 4000000
namespace L2
open PySem PySem.Spec PyProof.Rows
noncomputable def tSeqO (t u : TS) : TS := fun D σ H => ∀ M : St → Hp → Prop, (∀ σ' H', u D σ' H' → M σ' H') → t { D with nx := M } σ H
theorem pss_consO {X : Cx} {st : Stmt} {rest : List Stmt} {t u : TS} (h1 : PS X st t) (h2 : PSs X rest u) : PSs X (st :: rest) (tSeqO t u) := fun pins s σ H D I h => pss_cons h1 h2 pins s σ H D I (h (u D) fun _ _ z => z)
end L2
namespace L2
open PySem
noncomputable def stAt (b : List Stmt) (i : Nat) : Stmt := b.getD i (.Pass ⟨0, 0, 0, 0⟩)
end L2

set_option Elab.async false
set_option linter.all false
set_option maxRecDepth 100000
set_option maxHeartbeats 1000000
namespace L2
open PySem PySem.Spec PyProof.Rows PySem.SeqAt PySem.MeetsSeq
open PySem.AutoSeq1 (wpAny_loadPart')
theorem PairV.inj {h : Heap} {v : Value} {p q : Int × Int} (a : PairV h v p) (b : PairV h v q) : p = q := by
  obtain ⟨t, o, n, k1, k2, rfl, ho, _, hd⟩ := a
  obtain ⟨t', o', n', k1', k2', e, ho', _, hd'⟩ := b
  cases e
  rw [ho] at ho'
  cases ho'
  rw [hd] at hd'
  obtain ⟨p1, p2⟩ := p
  obtain ⟨q1, q2⟩ := q
  simp only [Data.seq.injEq, Array.mk.injEq, List.cons.injEq, Value.int.injEq, and_true] at hd'
  obtain ⟨⟨⟨rfl, _⟩, rfl, _⟩, _⟩ := hd'
  rfl
theorem EqAt.pairs {A : Around} {s : Shared} {x y : Value} {p q : Int × Int} (hx : PairV s.heap x p) (hy : PairV s.heap y q) (hu : A.units + 1 < cLine) : EqAt A s x y (decide (p = q)) := by
  obtain ⟨t, o, n, k1, k2, rfl, ho, hc, hd⟩ := id hx
  obtain ⟨t', o', n', k1', k2', rfl, ho', hc', hd'⟩ := id hy
  by_cases ht : t = t'
  · subst ht
    have : p = q := hx.inj hy
    rw [decide_eq_true this]
    exact EqAt.same _
  · refine EqAt.of_refs ht ?_
    have h := RcAt.tuples (A := A) (s := s) (l := t) (b := t') (e := fun j => if j = 0 then p.1 == q.1 else p.2 == q.2) ⟨o, ho, hc, n, hd⟩ ⟨o', ho', hc', n', hd'⟩ (by omega) fun j h1 h2 => ?_
    · have e : ((List.range (min (#[Value.int p.1 k1, Value.int p.2 k2] : Array Value).size (#[Value.int q.1 k1', Value.int q.2 k2'] : Array Value).size)).all (fun j => if j = 0 then p.1 == q.1 else p.2 == q.2) && (#[Value.int p.1 k1, Value.int p.2 k2] : Array Value).size == (#[Value.int q.1 k1', Value.int q.2 k2'] : Array Value).size) = decide (p = q) := by
        show ((p.1 == q.1) && ((p.2 == q.2) && true) && true) = decide (p = q)
        obtain ⟨p1, p2⟩ := p
        obtain ⟨q1, q2⟩ := q
        rw [Bool.eq_iff_iff]
        simp
      rw [e] at h
      exact h
    · match j, h1, h2 with
      | 0, _, _ => exact EqAt.int_int p.1 k1 q.1 k1'
      | 1, _, _ => exact EqAt.int_int p.2 k2 q.2 k2'
section
variable {X : Cx}
end
end L2

set_option Elab.async false
set_option linter.all false
set_option maxRecDepth 100000
set_option maxHeartbeats 4000000
namespace CW
open PySem L2
section
variable {P : Program} {w : World} {K : PySem.W.Frag} {mg : Str → Option Value} {base : Heap}
end
end CW
namespace CW
open PySem L2
end CW
namespace CW
open PySem L2
end CW
namespace CW
open PySem L2
theorem Lst.few {row : List Int} {qs : Trs} (h : Lst row qs) (hl : row.length ≤ 60) : qs.length ≤ 60 := by
  have h3 := len_le_sum h.pos
  have h4 : (szs qs).sum = siz qs := rfl
  have h5 := h.sizx
  omega
end CW

set_option Elab.async false
set_option linter.all false
set_option maxRecDepth 100000
set_option maxHeartbeats 4000000
namespace CW
open PySem L2
theorem strOk_asc {x : Str} (h : AscT x) : PyData.strOk x = true := by
  unfold AscT at h
  unfold PyData.strOk
  rw [← Array.all_toList, List.all_eq_true] at *
  intro c hc
  have := of_decide_eq_true (h c hc)
  exact decide_eq_true (by omega)
theorem shaped_s {x : Str} (h : AscT x) : SeqAt.shaped (.str x) = true := by
  simp [SeqAt.shaped, PyData.canLay0, PyData.depth, strOk_asc h]
theorem eqv_s (x y : Str) : PyData.eqv (.str x) (.str y) = decide (x = y) := by
  simp only [PyData.eqv]
  by_cases h : x = y
  · rw [decide_eq_true h, h]; exact beq_self_eq_true y
  · rw [decide_eq_false h]; exact beq_eq_false_iff_ne.mpr h
structure Txs (x : Str) : Prop where
  asc : AscT x
  len : x.length ≤ 5000
inductive spMade (vs : List V) (H : Hp) (Q : VK) (E_ : XK) : Prop
  | mk (t sg : Str) (most : Int) (h0_ : vs = [.str t, .str sg, .int most]) (h1_ : Txs t) (h2_ : ∀ H', Same H H' → Q (.bl (madeB t sg most)) H') : spMade vs H Q E_
inductive spNameT (vs : List V) (H : Hp) (Q : VK) (E_ : XK) : Prop
  | mk (t : Str) (h0_ : vs = [.str t]) (h1_ : Txs t) (h2_ : ∀ H', Same H H' → Q (.bl (madeB t letS 8)) H') : spNameT vs H Q E_
inductive spNumT (vs : List V) (H : Hp) (Q : VK) (E_ : XK) : Prop
  | mk (t : Str) (h0_ : vs = [.str t]) (h1_ : Txs t) (h2_ : ∀ H', Same H H' → Q (.bl (numB t)) H') : spNumT vs H Q E_
theorem rp_txs {t : Str} (h : Txs t) : Txs (rpM t) := by
  by_cases c : (signs t)[0]? = some 45
  · obtain ⟨r, e⟩ : ∃ r, signs t = 45 :: r := by
      cases hs : signs t with
      | nil => rw [hs] at c; cases c
      | cons x r => rw [hs] at c; exact ⟨r, by rw [show x = 45 by simpa using c]⟩
    have e2 := rp_minus e
    have ha := h.asc
    unfold AscT at ha
    rw [← Array.all_toList, List.all_eq_true] at ha
    refine ⟨asc_of fun d hd => ?_, ?_⟩
    · rw [e2] at hd
      exact of_decide_eq_true (ha d (by show d ∈ signs t; rw [e]; exact List.mem_cons_of_mem _ hd))
    · rw [← signs_len, e2]
      have := h.len
      rw [← signs_len, e] at this
      simp at this
      omega
  · rw [rp_plain c]
    exact h
theorem made_ne {t sg : Str} {most : Int} (h : madeB t sg most = true) : ∃ c r, signs t = c :: r := by
  cases hs : signs t with
  | nil =>
    have : t = "" := str_ext (by rw [hs]; rfl)
    unfold madeB at h
    rw [this] at h
    simp at h
  | cons c r => exact ⟨c, r, rfl⟩
structure Dd where
  word : Str
  names : List Str
  nums : List Int
  b : Bool
inductive DeedAt (H : Hp) : V → Dd → Prop
  | plain {a : Addr} {w : Str} {ns : List Str} {xs : List Int} : H a = some (.tup (.str w :: (ns.map V.str ++ xs.map V.int))) → DeedAt H (.ref a) ⟨w, ns, xs, false⟩
  | build {a t : Addr} {w n : Str} {xs : List Int} : H a = some (.tup [.str w, .str n, .ref t]) → H t = some (.tup (xs.map V.int)) → DeedAt H (.ref a) ⟨w, [n], xs, true⟩
theorem DeedAt.same {H H' : Hp} {v : V} {d : Dd} (g : Same H H') (h : DeedAt H v d) : DeedAt H' v d := by
  cases h with
  | plain e => exact .plain (g _ _ e)
  | build e1 e2 => exact .build (g _ _ e1) (g _ _ e2)
structure OkD (d : Dd) : Prop where
  bld : d.b = true → d.word = "build" ∧ d.names.length = 1
  frm : d.b = false → formW d.word = some ((d.names.length : Int), (d.nums.length : Int))
  nms : ∀ n ∈ d.names, Txs n ∧ madeB n letS 8 = true
  nmb : ∀ x ∈ d.nums, x.natAbs < 10 ^ 60
  few : d.nums.length ≤ 10
  two : d.names.length ≤ 2
noncomputable def txs (d : Dd) : List Str := d.word :: (d.names ++ d.nums.map nT)
noncomputable def txt (d : Dd) : Str := Builtin.Str.glued " " (txs d)
noncomputable def wordsW : List Str := ["build", "shut", "walk", "put", "take", "mirror", "lay", "late", "strike"]
theorem formW_mem {w : Str} {p : Int × Int} (h : formW w = some p) : w ∈ wordsW ∧ w ≠ "build" ∧ (1 : Int) ≤ p.1 := by
  unfold formW at h
  repeat' split at h
  all_goals first
    | (rename_i e; subst e; cases h; exact ⟨by simp [wordsW], by decide +kernel, by decide⟩)
    | cases h
theorem words_ok : ∀ w ∈ wordsW, (∀ c ∈ signs w, 97 ≤ c ∧ c ≤ 122) ∧ w.length ≤ 6 := by decide +kernel
theorem OkD.word {d : Dd} (h : OkD d) : d.word ∈ wordsW := by
  cases hb : d.b with
  | true => rw [(h.bld hb).1]; simp [wordsW]
  | false => exact (formW_mem (h.frm hb)).1
theorem lets_in {c : Nat} (h : c ∈ signs letS) : 97 ≤ c ∧ c ≤ 122 := by
  have : ∀ c ∈ signs letS, 97 ≤ c ∧ c ≤ 122 := by decide +kernel
  exact this c h
theorem made_lets {n : Str} (h : madeB n letS 8 = true) : (∀ c ∈ signs n, 97 ≤ c ∧ c ≤ 122) ∧ n.length ≤ 8 := by
  unfold madeB at h
  rw [Bool.and_eq_true, Bool.and_eq_true, List.all_eq_true] at h
  obtain ⟨_, h1, h2⟩ := h
  exact ⟨fun c hc => lets_in (of_decide_eq_true (h2 c hc)), by have := of_decide_eq_true h1; omega⟩
theorem OkD.parts {d : Dd} (h : OkD d) : ∀ z ∈ txs d, (∀ c ∈ signs z, c ≠ 32 ∧ c < 128) ∧ z.length ≤ 61 := by
  intro z hz
  rcases List.mem_cons.mp hz with e | hz
  · rw [e]
    obtain ⟨h1, h2⟩ := words_ok _ h.word
    exact ⟨fun c hc => by have := h1 c hc; omega, by omega⟩
  · rcases List.mem_append.mp hz with hz | hz
    · obtain ⟨h1, h2⟩ := made_lets (h.nms z hz).2
      exact ⟨fun c hc => by have := h1 c hc; omega, by omega⟩
    · obtain ⟨x, hx, rfl⟩ := List.mem_map.mp hz
      have := nT_len (h.nmb x hx)
      rw [signs_len] at this
      exact ⟨fun c hc => by rcases nT_signs hc with z | z <;> omega, by omega⟩
theorem OkD.len {d : Dd} (h : OkD d) : (txs d).length ≤ 13 := by
  have h1 := h.few
  have h2 := h.two
  unfold txs
  simp
  omega
theorem OkD.txs {d : Dd} (h : OkD d) : Txs (txt d) := by
  refine ⟨asc_of (glued_asc fun z hz c hc => ((h.parts z hz).1 c hc).2), ?_⟩
  have h1 := glued_len (CW.txs d) 61 fun z hz => (h.parts z hz).2
  have h2 := h.len
  have h3 : (CW.txs d).length * (61 + 1) ≤ 13 * 62 := Nat.mul_le_mul_right _ h2
  unfold txt
  omega
inductive spText (vs : List V) (H : Hp) (Q : VK) (E_ : XK) : Prop
  | mk (d : Dd) (v : V) (h0_ : vs = [v]) (h1_ : DeedAt H v d) (h2_ : OkD d) (h3_ : ∀ H', Same H H' → Q (.str (txt d)) H') : spText vs H Q E_
noncomputable def sT : V → Str
  | .str z => z
  | .int z => nT z
  | _ => ""
noncomputable def pvs (d : Dd) : List V := .str d.word :: (d.names.map V.str ++ d.nums.map V.int)
theorem txs_pvs (d : Dd) : txs d = (pvs d).map sT := by
  unfold txs pvs
  rw [List.map_cons, List.map_append, List.map_map, List.map_map]
  congr 1
  congr 1
  exact (List.map_id'' (fun z => rfl) _).symm
noncomputable def Prt (x : V) : Prop := (∃ z, x = .str z) ∨ ∃ z : Int, x = .int z ∧ IntS z
theorem log2_lt {m k : Nat} (h : m < 2 ^ k) (h0 : 0 < k) : m.log2 < k := by
  by_cases z : m = 0
  · subst z; simpa using h0
  · exact (Nat.log2_lt z).mpr h
theorem intS_of {n : Int} (h : n.natAbs < 10 ^ 60) : IntS n := by
  refine ⟨Nat.lt_trans (log2_lt (k := 200) (Nat.lt_trans h (by decide)) (by decide)) (by decide), ?_⟩
  have := nT_len h
  rw [signs_len] at this
  exact Nat.le_trans this.2 (by decide)
theorem pvs_prt {d : Dd} (h : OkD d) : ∀ x ∈ pvs d, Prt x := by
  intro x hx
  rcases List.mem_cons.mp hx with e | hx
  · exact .inl ⟨_, e⟩
  · rcases List.mem_append.mp hx with hx | hx
    · obtain ⟨z, _, e⟩ := List.mem_map.mp hx
      exact .inl ⟨z, e.symm⟩
    · obtain ⟨z, hz, e⟩ := List.mem_map.mp hx
      exact .inr ⟨z, e.symm, intS_of (h.nmb z hz)⟩
theorem prt_str {x : V} (h : Prt x) {H : Hp} {Q : VK} (q : Q (.str (sT x)) H) : (∃ i : Int, [x] = [V.int i] ∧ IntS i ∧ Q (.str (toString i : Str)) H) ∨ ∃ z : Str, [x] = [V.str z] ∧ Q (.str z) H := by
  rcases h with ⟨z, rfl⟩ | ⟨z, rfl, hz⟩
  · exact .inr ⟨z, rfl, q⟩
  · exact .inl ⟨z, rfl, hz, q⟩
theorem glued_ok {d : Dd} (h : OkD d) : (txs d).foldl (fun n z => n + z.length + (" " : Str).length) 0 ≤ sizeLine ∧ (Builtin.Str.glued " " (txs d)).length ≤ sizeLine := by
  have h1 := fold_len (txs d) 61 0 fun z hz => (h.parts z hz).2
  have h2 := h.len
  have h3 : (txs d).length * (61 + 1) ≤ 13 * 62 := Nat.mul_le_mul_right _ h2
  have h4 : (5000 : Nat) ≤ sizeLine := by decide
  have h5 := h.txs.len
  unfold txt at h5
  omega
end CW

set_option Elab.async false
set_option linter.all false
set_option maxRecDepth 100000
set_option maxHeartbeats 4000000
namespace CW
open PySem L2
inductive spAnyNum (vs : List V) (H : Hp) (Q : VK) (E_ : XK) : Prop
  | mk (a : Addr) (ns : List Int) (h0_ : vs = [.ref a]) (h1_ : H a = some (.lst (ns.map V.int))) (h2_ : Nums ns) (h3_ : 3 ≤ ns.length) (h4_ : ∀ x : Int, x.natAbs < 10 ^ 60 → Q (.int x) H) : spAnyNum vs H Q E_
inductive spWord (vs : List V) (H : Hp) (Q : VK) (E_ : XK) : Prop
  | mk (a : Addr) (ns : List Int) (h0_ : vs = [.ref a]) (h1_ : H a = some (.lst (ns.map V.int))) (h2_ : Nums ns) (h3_ : 10 ≤ ns.length) (h4_ : ∀ z : Str, Txs z → madeB z letS 8 = true → ∀ H', Same H H' → Q (.str z) H') : spWord vs H Q E_
inductive spAnyDeed (vs : List V) (H : Hp) (Q : VK) (E_ : XK) : Prop
  | mk (a : Addr) (ns : List Int) (h0_ : vs = [.ref a]) (h1_ : H a = some (.lst (ns.map V.int))) (h2_ : Nums ns) (h3_ : 50 ≤ ns.length) (h4_ : ∀ d v H', OkD d → DeedAt H' v d → Same H H' → Q v H') : spAnyDeed vs H Q E_
theorem any_bound {a b c : Int} {k : Nat} (ha : -1 ≤ a ∧ a ≤ 1) (hb : 0 ≤ b ∧ b < 9967) (hk : k ≤ 56) (hc : 0 ≤ c ∧ c < 10) : (a * (b * 10 ^ k + c)).natAbs < 10 ^ 60 := by
  have h1 : (10 : Int) ^ k ≤ 10 ^ 56 := by
    have : (10 : Nat) ^ k ≤ 10 ^ 56 := Nat.pow_le_pow_right (by decide) hk
    have h := Int.ofNat_le.mpr this
    rw [Int.natCast_pow, Int.natCast_pow] at h
    exact h
  have h0 : (0 : Int) ≤ 10 ^ k := Int.le_of_lt (Int.pow_pos (by decide))
  have h2 : b * 10 ^ k ≤ 9966 * 10 ^ 56 := Int.le_trans (Int.mul_le_mul_of_nonneg_right (by omega) h0) (Int.mul_le_mul_of_nonneg_left h1 (by decide))
  have h3 : 0 ≤ b * 10 ^ k := Int.mul_nonneg hb.1 h0
  have e : (10 : Int) ^ 56 * 10000 = 10 ^ 60 := by decide
  have h4 : b * 10 ^ k + c < 10 ^ 60 := by
    have : (9966 : Int) * 10 ^ 56 + 10 < 10 ^ 60 := by decide
    omega
  have h5 : 0 ≤ b * 10 ^ k + c := by omega
  generalize b * 10 ^ k + c = z at h4 h5
  have h6 : z.natAbs < 10 ^ 60 := by
    have : ((z.natAbs : Nat) : Int) < ((10 ^ 60 : Nat) : Int) := by rw [Int.natAbs_of_nonneg h5, Int.natCast_pow]; exact h4
    exact Int.ofNat_lt.mp this
  rcases (show a = -1 ∨ a = 0 ∨ a = 1 by omega) with rfl | rfl | rfl
  · rw [Int.neg_one_mul, Int.natAbs_neg]; exact h6
  · rw [Int.zero_mul]; exact Nat.pow_pos (by decide)
  · rw [Int.one_mul]; exact h6
theorem signs_join0 : ∀ zs : List Str, signs (Str.join "" zs) = (zs.map signs).flatten
  | [] => rfl
  | [z] => by simp [Str.join]
  | z :: y :: ys => by
    show signs (z ++ "" ++ Str.join "" (y :: ys)) = _
    rw [signs_append, signs_append, signs_join0 (y :: ys)]
    have : signs ("" : Str) = [] := rfl
    rw [this, List.append_nil]
    rfl
noncomputable def chS (c : Nat) : Str := ⟨#[c]⟩
theorem glued_ch (cs : List Nat) : signs (Builtin.Str.glued "" (cs.map chS)) = cs := by
  rw [StrLaws.glued_eq_join, signs_join0, List.map_map]
  induction cs with
  | nil => rfl
  | cons c r ih => rw [List.map_cons, List.flatten_cons, ih]; rfl
theorem let_at {i : Int} (h0 : 0 ≤ i) (h1 : i < 26) : ∃ c, atI letS.cps.toList i = some c ∧ c ∈ signs letS := by
  obtain ⟨n, rfl⟩ : ∃ n : Nat, i = (n : Int) := ⟨i.toNat, by omega⟩
  have hn : n < letS.cps.toList.length := by
    have : letS.cps.toList.length = 26 := by decide +kernel
    omega
  exact ⟨letS.cps.toList[n], atI_nat (List.getElem?_eq_getElem hn), List.getElem_mem _⟩
theorem fold0 (cs : List Nat) (k : Nat) : (cs.map chS).foldl (fun n z => n + z.length + ("" : Str).length) k = k + cs.length := by
  induction cs generalizing k with
  | nil => rfl
  | cons c r ih =>
    rw [List.map_cons, List.foldl_cons, ih]
    have : (chS c).length = 1 := rfl
    have h0 : ("" : Str).length = 0 := rfl
    rw [this, h0, List.length_cons]
    omega
theorem nums_drop {ns : List Int} (h : Nums ns) (k : Nat) : Nums (ns.drop k) := fun n hn => h n (List.mem_of_mem_drop hn)
noncomputable def allW : Str := "build shut walk put take mirror lay late strike"
theorem split_words : Txt.split allW " " = wordsW := by
  rw [show allW = Builtin.Str.glued " " wordsW by decide +kernel]
  exact split_glued (by decide) (by decide +kernel)
theorem cutV_mid (us : List V) (i j : Nat) (hi : i ≤ us.length) (hj : j ≤ us.length) : cutV us (some (i : Int)) (some (j : Int)) = (us.drop i).take (j - i) := by
  unfold cutV
  rw [HT.sIx_nat, HT.sIx_nat, Nat.min_eq_left hi, Nat.min_eq_left hj]
theorem allW_len : allW.length + 2 ≤ sizeLine := by
  have : allW.length = 47 := by decide +kernel
  rw [this]
  decide
theorem split_wl : (Txt.split allW " ").length ≤ sizeLine := by
  rw [split_words]
  decide
theorem sp_words {H : Hp} {Q : VK} (q : ∀ l, H l = none → Q (.ref l) (upd H l (.lst (wordsW.map V.str)))) : rSplit (.str "build shut walk put take mirror lay late strike") [.str " "] H Q := by
  refine ⟨allW, " ", rfl, rfl, by decide, allW_len, split_wl, fun l hl => ?_⟩
  rw [split_words]
  exact q l hl
theorem word_at {i : Int} (h0 : 0 ≤ i) (h1 : i < 9) : ∃ w ∈ wordsW, atI (wordsW.map V.str) i = some (.str w) := by
  obtain ⟨n, rfl⟩ : ∃ n : Nat, i = (n : Int) := ⟨i.toNat, by omega⟩
  have hn : n < wordsW.length := by
    have : wordsW.length = 9 := rfl
    omega
  refine ⟨wordsW[n], List.getElem_mem _, atI_nat ?_⟩
  rw [List.getElem?_map, List.getElem?_eq_getElem hn]
  rfl
noncomputable def manyK : List (Key × V) := [(Sum.inr "shut", .int 0), (Sum.inr "walk", .int 2), (Sum.inr "put", .int 1), (Sum.inr "take", .int 1), (Sum.inr "mirror", .int 0), (Sum.inr "late", .int 3), (Sum.inr "strike", .int 1)]
theorem many_at {w : Str} (h : w ∈ wordsW) (h1 : w ≠ "build") (h2 : w ≠ "lay") : ∃ m : Nat, m ≤ 3 ∧ formW w = some (1, (m : Int)) ∧ valV (mergeK [] manyK) (Sum.inr w) = some (.int (m : Int)) := by
  simp only [wordsW, List.mem_cons, List.not_mem_nil, or_false] at h
  rcases h with rfl | rfl | rfl | rfl | rfl | rfl | rfl | rfl | rfl
  · exact absurd rfl h1
  · exact ⟨0, by decide, by decide +kernel, rfl⟩
  · exact ⟨2, by decide, by decide +kernel, rfl⟩
  · exact ⟨1, by decide, by decide +kernel, rfl⟩
  · exact ⟨1, by decide, by decide +kernel, rfl⟩
  · exact ⟨0, by decide, by decide +kernel, rfl⟩
  · exact absurd rfl h2
  · exact ⟨3, by decide, by decide +kernel, rfl⟩
  · exact ⟨1, by decide, by decide +kernel, rfl⟩
end CW

set_option Elab.async false
set_option linter.all false
set_option maxRecDepth 100000
set_option maxHeartbeats 4000000
namespace CW
open PySem L2
noncomputable def deedD (d : Dd) : PyData := if d.b = true then .tuple [.str d.word, .str (d.names.headD ""), .tuple (d.nums.map PyData.int)] else .tuple (.str d.word :: (d.names.map PyData.str ++ d.nums.map PyData.int))
theorem Dens.strs {H : Hp} : ∀ ns : List Str, Dens H (ns.map V.str) (ns.map PyData.str)
  | [] => .nil
  | n :: r => .cons (.str n) (Dens.strs r)
theorem DeedAt.den {H : Hp} {v : V} {d : Dd} (h : DeedAt H v d) : Den H v (deedD d) := by
  cases h with
  | plain e => exact .tup e (.cons (.str _) (Dens.append (Dens.strs _) (Dens.ints _)))
  | build e1 e2 => exact .tup e1 (.cons (.str _) (.cons (.str _) (.cons (.tup e2 (Dens.ints _)) .nil)))
theorem canLay_strs {ns : List Str} (h : ∀ n ∈ ns, PyData.strOk n = true) : PyData.canLayAll0 (ns.map PyData.str) = true := by
  induction ns with
  | nil => rfl
  | cons p r ih => simp [PyData.canLayAll0, PyData.canLay0, h p List.mem_cons_self, ih fun n hn => h n (List.mem_cons_of_mem _ hn)]
theorem canLay_app {a b : List PyData} (ha : PyData.canLayAll0 a = true) (hb : PyData.canLayAll0 b = true) : PyData.canLayAll0 (a ++ b) = true := by
  induction a with
  | nil => exact hb
  | cons p r ih =>
    simp only [PyData.canLayAll0, Bool.and_eq_true, List.cons_append] at ha ⊢
    exact ⟨ha.1, ih ha.2⟩
theorem depth_app {a b : List PyData} {n : Nat} (ha : PyData.depthAll a ≤ n) (hb : PyData.depthAll b ≤ n) : PyData.depthAll (a ++ b) ≤ n := by
  induction a with
  | nil => exact hb
  | cons p r ih =>
    simp only [PyData.depthAll, List.cons_append] at ha ⊢
    have := ih (by omega)
    omega
theorem depth_strs (ns : List Str) : PyData.depthAll (ns.map PyData.str) ≤ 0 := by
  induction ns with
  | nil => simp [PyData.depthAll]
  | cons p r ih => simp [PyData.depthAll, PyData.depth]; omega
theorem deed_depth (d : Dd) : (deedD d).depth ≤ 2 := by
  have h1 := depth_ints d.nums
  unfold deedD
  split
  · simp [PyData.depth, PyData.depthAll, h1]
  · have := depth_app (n := 0) (depth_strs d.names) (Nat.le_of_eq h1)
    simp only [PyData.depth, PyData.depthAll]
    omega
theorem smlAll_app {a b : List PyData} (ha : smlAll a = true) (hb : smlAll b = true) : smlAll (a ++ b) = true := by
  induction a with
  | nil => exact hb
  | cons p r ih =>
    simp only [smlAll, Bool.and_eq_true, List.cons_append] at ha ⊢
    exact ⟨ha.1, ih ha.2⟩
theorem smlAll_i (ns : List Int) : smlAll (ns.map PyData.int) = true := by
  induction ns with
  | nil => rfl
  | cons x r ih => simp [smlAll, sml, ih]
theorem smlAll_s (ns : List Str) : smlAll (ns.map PyData.str) = true := by
  induction ns with
  | nil => rfl
  | cons x r ih => simp [smlAll, sml, ih]
noncomputable def DeedsAt (H : Hp) : List V → List Dd → Prop := Paired fun v d => DeedAt H v d ∧ OkD d
theorem DeedsAt.same {H H' : Hp} {vs : List V} {ds : List Dd} (g : Same H H') (h : DeedsAt H vs ds) : DeedsAt H' vs ds := Paired.mapP h fun v d x => ⟨x.1.same g, x.2⟩
theorem DeedsAt.at {H : Hp} {vs : List V} {ds : List Dd} (h : DeedsAt H vs ds) {i : Nat} {v : V} (e : vs[i]? = some v) : ∃ d, DeedAt H v d ∧ OkD d := by
  unfold DeedsAt at h
  induction h generalizing i with
  | nil => cases e
  | cons r t ih =>
    cases i with
    | zero => cases e; exact ⟨_, r⟩
    | succ i => exact ih e
theorem forms_mk {P : Program} {w : World} {K : PySem.W.Frag} {d : Addr} {ep : Nat} {t0 t1 t2 t3 t4 t5 t6 t7 : Tok} {r0 r1 r2 r3 r4 r5 r6 r7 : Addr}
    (h : K.lookup d = some ⟨.type "dict", none, .dict #[entT w ("shut", t0, r0), entT w ("walk", t1, r1), entT w ("put", t2, r2), entT w ("take", t3, r3), entT w ("mirror", t4, r4), entT w ("lay", t5, r5), entT w ("late", t6, r6), entT w ("strike", t7, r7)] ep, #[]⟩) (hs : (d == sysModules) = false)
    (e0 : ∀ H, SqT K H r0 [.int 1, .int 0]) (e1 : ∀ H, SqT K H r1 [.int 1, .int 2]) (e2 : ∀ H, SqT K H r2 [.int 1, .int 1]) (e3 : ∀ H, SqT K H r3 [.int 1, .int 1]) (e4 : ∀ H, SqT K H r4 [.int 1, .int 0]) (e5 : ∀ H, SqT K H r5 [.int 2, .int 1]) (e6 : ∀ H, SqT K H r6 [.int 1, .int 3]) (e7 : ∀ H, SqT K H r7 [.int 1, .int 1]) :
    ∃ kvs, Forms P w K d kvs := by
  have g := gdict_mk (P := P) (w := w) [("shut", t0, r0), ("walk", t1, r1), ("put", t2, r2), ("take", t3, r3), ("mirror", t4, r4), ("lay", t5, r5), ("late", t6, r6), ("strike", t7, r7)] h hs (show (["shut", "walk", "put", "take", "mirror", "lay", "late", "strike"] : List Str).Nodup by decide +kernel)
  have fnd : ∀ x : Str, PySem.valueAt (([("shut", t0, r0), ("walk", t1, r1), ("put", t2, r2), ("take", t3, r3), ("mirror", t4, r4), ("lay", t5, r5), ("late", t6, r6), ("strike", t7, r7)] : List (Str × Tok × Addr)).map fun p => ((Sum.inr p.1 : Key), Value.ref p.2.2)) (Sum.inr x) =
      if x = "shut" then some (.ref r0) else if x = "walk" then some (.ref r1) else if x = "put" then some (.ref r2) else if x = "take" then some (.ref r3) else if x = "mirror" then some (.ref r4) else if x = "lay" then some (.ref r5) else if x = "late" then some (.ref r6) else if x = "strike" then some (.ref r7) else none := fun x => by
    have st : ∀ (y : Str) (v : Value) (l : List (Key × Value)), PySem.valueAt (((Sum.inr y : Key), v) :: l) (Sum.inr x) = if x = y then some v else PySem.valueAt l (Sum.inr x) := fun y v l => by
      unfold PySem.valueAt
      rw [List.find?_cons]
      by_cases c : x = y
      · rw [if_pos c, c]; simp
      · rw [if_neg c]
        have : decide ((Sum.inr y : Key) = Sum.inr x) = false := decide_eq_false fun z => c (Sum.inr.inj z).symm
        simp only [this]
    simp only [List.map_cons, List.map_nil]
    rw [st, st, st, st, st, st, st, st]
    rfl
  refine ⟨_, g, fun x => ?_, fun x n m hx => ?_⟩
  · rw [fnd]
    unfold formW
    repeat' split
    all_goals rfl
  · rw [fnd]
    unfold formW at hx
    split at hx
    · rename_i c; rw [if_pos c]; cases hx; exact ⟨_, rfl, e0⟩
    rename_i c0
    rw [if_neg c0]
    split at hx
    · rename_i c; rw [if_pos c]; cases hx; exact ⟨_, rfl, e1⟩
    rename_i c0
    rw [if_neg c0]
    split at hx
    · rename_i c; rw [if_pos c]; cases hx; exact ⟨_, rfl, e2⟩
    rename_i c0
    rw [if_neg c0]
    split at hx
    · rename_i c; rw [if_pos c]; cases hx; exact ⟨_, rfl, e3⟩
    rename_i c0
    rw [if_neg c0]
    split at hx
    · rename_i c; rw [if_pos c]; cases hx; exact ⟨_, rfl, e4⟩
    rename_i c0
    rw [if_neg c0]
    split at hx
    · rename_i c; rw [if_pos c]; cases hx; exact ⟨_, rfl, e5⟩
    rename_i c0
    rw [if_neg c0]
    split at hx
    · rename_i c; rw [if_pos c]; cases hx; exact ⟨_, rfl, e6⟩
    rename_i c0
    rw [if_neg c0]
    split at hx
    · rename_i c; rw [if_pos c]; cases hx; exact ⟨_, rfl, e7⟩
    · cases hx
theorem sqt_of {K : PySem.W.Frag} {r : Addr} {od : Option Addr} {sl : Array (Option Value)} {a b : Int} {ta tb : Tok} {n : Nat} (h : K.lookup r = some ⟨.type "tuple", od, .seq #[.int a ta, .int b tb] n, sl⟩) (H : Hp) : SqT K H r [.int a, .int b] :=
  .inr ⟨_, _, n, h, rfl, rfl, by show 2 ≤ sizeLine; decide, .cons ⟨_, rfl⟩ (.cons ⟨_, rfl⟩ .nil)⟩
end CW

set_option Elab.async false
set_option linter.all false
set_option maxRecDepth 100000
set_option maxHeartbeats 4000000
namespace CW
open PySem L2
noncomputable def numV (t : Str) : Int := (PySem.intText? t).getD 0
theorem dv_lt : ∀ (cs : List Nat) (acc k : Nat), PySem.NumText.AllDigits cs → acc < 10 ^ k → cs.foldl (fun acc c => acc * 10 + (c - 48)) acc < 10 ^ (k + cs.length)
  | [], acc, k, _, h => by simpa using h
  | c :: cs, acc, k, hd, h => by
    have hc := hd.head
    have := dv_lt cs (acc * 10 + (c - 48)) (k + 1) hd.tail (by rw [Nat.pow_succ]; omega)
    rw [List.foldl_cons, List.length_cons, show k + (cs.length + 1) = k + 1 + cs.length by omega]
    exact this
theorem made_figs {n : Str} {m : Int} (h : madeB n figS m = true) : PySem.NumText.AllDigits (signs n) ∧ (n.length : Int) ≤ m ∧ signs n ≠ [] := by
  obtain ⟨c, r, e⟩ := made_ne h
  unfold madeB at h
  rw [Bool.and_eq_true, Bool.and_eq_true, List.all_eq_true] at h
  obtain ⟨_, h1, h2⟩ := h
  refine ⟨fun c hc => ?_, of_decide_eq_true h1, by rw [e]; simp⟩
  have h3 := of_decide_eq_true (h2 c hc)
  have : signs figS = [48, 49, 50, 51, 52, 53, 54, 55, 56, 57] := by decide +kernel
  rw [this] at h3
  simp at h3
  omega
theorem numB_reads {t : Str} (h : numB t = true) : PySem.intText? t = some (numV t) ∧ (numV t).natAbs < 10 ^ 60 ∧ t.length ≤ 61 := by
  unfold numB at h
  rw [Bool.and_eq_true] at h
  obtain ⟨hd, hl, hn⟩ := made_figs h.1
  have hl' : (signs (rpM t)).length ≤ 60 := by rw [signs_len]; omega
  have hv : PySem.NumText.digitsVal (signs (rpM t)) < 10 ^ 60 := Nat.lt_of_lt_of_le (dv_lt _ 0 0 hd (by decide)) (Nat.pow_le_pow_right (by decide) (by omega))
  by_cases c : (signs t)[0]? = some 45
  · obtain ⟨r, e⟩ : ∃ r, signs t = 45 :: r := by
      cases hs : signs t with
      | nil => rw [hs] at c; cases c
      | cons x r => rw [hs] at c; exact ⟨r, by rw [show x = 45 by simpa using c]⟩
    have e2 := rp_minus e
    rw [e2] at hd hn hl' hv
    have hl3 : t.length ≤ 61 := by rw [← signs_len, e, List.length_cons]; omega
    have := PySem.intText_neg (x := t) e hd hn (by omega)
    refine ⟨by unfold numV; rw [this]; rfl, ?_, hl3⟩
    unfold numV
    rw [this]
    show (-((PySem.NumText.digitsVal r : Nat) : Int)).natAbs < _
    rw [Int.natAbs_neg]
    exact hv
  · rw [rp_plain c] at hd hn hl' hv
    have hl3 : t.length ≤ 60 := by rw [← signs_len]; omega
    have := PySem.intText_digits (x := t) hd hn (by omega)
    refine ⟨by unfold numV; rw [this]; rfl, ?_, by omega⟩
    unfold numV
    rw [this]
    exact hv
noncomputable def readW (w : Str) (ps : List Str) : Option Dd :=
  if w = "build" then
    (match ps with
     | [] => none
     | n :: xs => if madeB n letS 8 = true ∧ xs.all numB = true then some ⟨w, [n], xs.map numV, true⟩ else none)
  else match formW w with
    | none => none
    | some (a, b) => if (ps.length : Int) = a + b ∧ (ps.take a.toNat).all (fun n => madeB n letS 8) = true ∧ (ps.drop a.toNat).all numB = true then some ⟨w, ps.take a.toNat, (ps.drop a.toNat).map numV, false⟩ else none
noncomputable def readD (t : Str) : Option Dd := match Txt.split t " " with
  | [] => none
  | w :: ps => readW w ps
theorem formW_nat {w : Str} {p : Int × Int} (h : formW w = some p) : ∃ a b : Nat, p = ((a : Int), (b : Int)) ∧ 1 ≤ a ∧ a ≤ 2 ∧ b ≤ 3 := by
  unfold formW at h
  repeat' split at h
  all_goals first
    | (rename_i e; subst e; cases h; first | exact ⟨1, 0, rfl, by decide, by decide, by decide⟩ | exact ⟨1, 1, rfl, by decide, by decide, by decide⟩ | exact ⟨1, 2, rfl, by decide, by decide, by decide⟩ | exact ⟨1, 3, rfl, by decide, by decide, by decide⟩ | exact ⟨2, 1, rfl, by decide, by decide, by decide⟩)
    | cases h
end CW

set_option Elab.async false
set_option linter.all false
set_option maxRecDepth 100000
set_option maxHeartbeats 4000000
namespace CW
open PySem L2
structure TxB (n : Nat) (t : Str) : Prop where
  asc : ∀ c ∈ signs t, c < 128
  len : t.length ≤ n
theorem TxB.txs {n : Nat} {t : Str} (h : TxB n t) (hn : n ≤ 5000) : Txs t := ⟨asc_of h.asc, Nat.le_trans h.len hn⟩
theorem TxB.of {t : Str} (h : Txs t) {n : Nat} (hn : t.length ≤ n) : TxB n t := by
  refine ⟨fun c hc => ?_, hn⟩
  have ha := h.asc
  unfold AscT at ha
  rw [← Array.all_toList, List.all_eq_true] at ha
  exact of_decide_eq_true (ha c hc)
theorem TxB.le {n m : Nat} {t : Str} (h : TxB n t) (hn : n ≤ m) : TxB m t := ⟨h.asc, Nat.le_trans h.len hn⟩
theorem TxB.app {n m : Nat} {a b : Str} (h : TxB n a) (g : TxB m b) : TxB (n + m) (a ++ b) := by
  refine ⟨fun c hc => ?_, by rw [Str.length_append]; have := h.len; have := g.len; omega⟩
  rw [signs_append] at hc
  rcases List.mem_append.mp hc with z | z
  · exact h.asc c z
  · exact g.asc c z
theorem TxB.slice {n : Nat} {t : Str} (h : TxB n t) (lo hi : Option Int) : TxB n (Txt.slice t lo hi) := by
  refine ⟨fun c hc => ?_, Nat.le_trans (Txt.slice_le t _ _) h.len⟩
  unfold Txt.slice at hc
  split at hc
  · exact h.asc c hc
  · have hc' : c ∈ List.filterMap (fun j => t.cps[j]?) (Builtin.Str.strSliceIndices lo hi 1 t.length) := by simpa [signs] using hc
    obtain ⟨j, _, e⟩ := List.mem_filterMap.mp hc'
    exact h.asc c (by show c ∈ t.cps.toList; exact List.mem_of_getElem? (by rw [Array.getElem?_toList]; exact e))
theorem up1 : ∀ c < 128, (Unicode.upperOf c).length = 1 ∧ ∀ d ∈ Unicode.upperOf c, d < 128 := by decide +kernel
theorem flat_one : ∀ (cs : List Nat), (∀ c ∈ cs, c < 128) → ((cs.map Unicode.upperOf).flatten.length = cs.length ∧ ∀ d ∈ (cs.map Unicode.upperOf).flatten, d < 128)
  | [], _ => ⟨rfl, fun d h => by simp at h⟩
  | c :: cs, h => by
    obtain ⟨a1, a2⟩ := flat_one cs fun d hd => h d (List.mem_cons_of_mem _ hd)
    obtain ⟨b1, b2⟩ := up1 c (h c List.mem_cons_self)
    refine ⟨by rw [List.map_cons, List.flatten_cons, List.length_append, b1, a1, List.length_cons]; omega, fun d hd => ?_⟩
    rw [List.map_cons, List.flatten_cons] at hd
    rcases List.mem_append.mp hd with z | z
    · exact b2 d z
    · exact a2 d z
theorem upper_signs (t : Str) : signs (Txt.upper t) = ((signs t).map Unicode.upperOf).flatten := by
  unfold Txt.upper placed
  simp [signs]
  congr 1
  rw [show (fun (i : Nat) (c : Nat) => (Unicode.upperOf c).toArray) = fun _ c => (Unicode.upperOf c).toArray from rfl]
  apply List.ext_getElem
  · simp
  · intro j h1 h2
    simp
theorem TxB.upper {n : Nat} {t : Str} (h : TxB n t) : TxB n (Txt.upper t) := by
  obtain ⟨a, b⟩ := flat_one (signs t) h.asc
  refine ⟨by rw [upper_signs]; exact b, ?_⟩
  rw [← signs_len, upper_signs, a, signs_len]
  exact h.len
theorem dbl_le (c : Nat) : ∀ xs : List Nat, (StrLaws.dbl c xs).length ≤ 2 * xs.length ∧ ∀ d ∈ StrLaws.dbl c xs, d ∈ xs
  | [] => ⟨Nat.le_refl _, fun d h => h⟩
  | k :: r => by
    obtain ⟨a, b⟩ := dbl_le c r
    unfold StrLaws.dbl
    split
    · refine ⟨by simp; omega, fun d hd => ?_⟩
      rcases List.mem_cons.mp hd with z | z
      · rw [z]; exact List.mem_cons_self
      · rcases List.mem_cons.mp z with z | z
        · rw [z]; exact List.mem_cons_self
        · exact List.mem_cons_of_mem _ (b d z)
    · refine ⟨by simp; omega, fun d hd => ?_⟩
      rcases List.mem_cons.mp hd with z | z
      · rw [z]; exact List.mem_cons_self
      · exact List.mem_cons_of_mem _ (b d z)
theorem TxB.rep {n : Nat} {t : Str} (h : TxB n t) : TxB (2 * n) (Txt.replace t " " "  ") := by
  have e : signs (Txt.replace t " " "  ") = StrLaws.dbl 32 (signs t) := StrLaws.replace_double t 32
  obtain ⟨a, b⟩ := dbl_le 32 (signs t)
  refine ⟨fun c hc => ?_, ?_⟩
  · rw [e] at hc
    exact h.asc c (b c hc)
  · rw [← signs_len, e]
    have := h.len
    rw [← signs_len] at this
    omega
noncomputable def wt (ws : List Str) : Nat := (ws.map fun z => z.length + 1).sum
theorem wt_app (a b : List Str) : wt (a ++ b) = wt a + wt b := by unfold wt; rw [List.map_append, List.sum_append]
theorem wt_cons (a : Str) (b : List Str) : wt (a :: b) = a.length + 1 + wt b := by unfold wt; rw [List.map_cons, List.sum_cons]
theorem join_wt : ∀ (z : Str) (ws : List Str), (Str.join " " (z :: ws)).length + 1 = wt (z :: ws)
  | z, [] => by show z.length + 1 = _; simp [wt]
  | z, y :: ws => by
    have := join_wt y ws
    rw [← signs_len, signs_join z (y :: ws) (by simp), List.length_append, List.length_cons, signs_len, signs_len, wt_cons]
    omega
theorem glued_wt (ws : List Str) : (Builtin.Str.glued " " ws).length ≤ wt ws := by
  rw [StrLaws.glued_eq_join]
  cases ws with
  | nil => exact Nat.zero_le _
  | cons z ws => have := join_wt z ws; omega
theorem split_wt (t : Str) : wt (Txt.split t " ") = t.length + 1 := by
  have h := StrLaws.join_split t " "
  cases hs : Txt.split t " " with
  | nil => exact absurd hs (split_ne t " ")
  | cons z ws =>
    have h2 : Str.join " " (z :: ws) = t := by rw [← hs]; exact h
    rw [← join_wt, h2]
theorem join_mem : ∀ {ws : List Str} {z : Str} {c : Nat}, z ∈ ws → c ∈ signs z → c ∈ signs (Str.join " " ws)
  | [w], z, c, hz, hc => by rw [List.mem_singleton.mp hz] at hc; exact hc
  | w :: y :: ws, z, c, hz, hc => by
    rw [signs_join w (y :: ws) (by simp)]
    rcases List.mem_cons.mp hz with e | hz
    · rw [e] at hc; exact List.mem_append_left _ hc
    · exact List.mem_append_right _ (List.mem_cons_of_mem _ (join_mem hz hc))
theorem mem_wt : ∀ {ws : List Str} {z : Str}, z ∈ ws → z.length + 1 ≤ wt ws
  | w :: ws, z, h => by
    rw [wt_cons]
    rcases List.mem_cons.mp h with e | h
    · rw [e]; omega
    · have := mem_wt h; omega
theorem len_wt : ∀ (ws : List Str), ws.length ≤ wt ws
  | [] => Nat.le_refl _
  | w :: ws => by have := len_wt ws; rw [wt_cons, List.length_cons]; omega
theorem TxB.split {n : Nat} {t : Str} (h : TxB n t) : (∀ z ∈ Txt.split t " ", TxB n z) ∧ (Txt.split t " ").length ≤ n + 1 ∧ wt (Txt.split t " ") ≤ n + 1 := by
  have hw := split_wt t
  have hl := h.len
  refine ⟨fun z hz => ⟨fun c hc => h.asc c ?_, ?_⟩, by have := len_wt (Txt.split t " "); omega, by omega⟩
  · have := join_mem hz hc
    rw [show Str.join " " (Txt.split t " ") = t from StrLaws.join_split t " "] at this
    exact this
  · have := mem_wt hz
    omega
theorem glued_tb {ws : List Str} {n m : Nat} (h : ∀ z ∈ ws, TxB n z) (hw : wt ws ≤ m) : TxB m (Builtin.Str.glued " " ws) :=
  ⟨glued_asc fun z hz c hc => (h z hz).asc c hc, Nat.le_trans (glued_wt ws) hw⟩
theorem sl_none (x : Str) (l : Option Int) : Txt.slice x l none = Txt.slice x l (some (x.length : Int)) := by
  unfold Txt.slice
  have : Builtin.Str.strSliceIndices l none 1 x.length = Builtin.Str.strSliceIndices l (some (x.length : Int)) 1 x.length := by
    unfold Builtin.Str.strSliceIndices
    simp only [show (1 : Int) > 0 by decide, if_true]
    rw [if_neg (by omega), Int.min_self, Int.max_eq_right (by omega)]
  rw [this]
theorem sl_nonel (x : Str) (u : Option Int) : Txt.slice x none u = Txt.slice x (some 0) u := by
  unfold Txt.slice
  have : Builtin.Str.strSliceIndices none u 1 x.length = Builtin.Str.strSliceIndices (some 0) u 1 x.length := by
    unfold Builtin.Str.strSliceIndices
    simp only [show (1 : Int) > 0 by decide, if_true]
    rw [if_neg (by omega), Int.min_eq_left (by omega), Int.max_self]
  rw [this]
theorem sl_signs (x : Str) {a b : Nat} (hab : a ≤ b) (hb : b ≤ x.length) : signs (Txt.slice x (some (a : Int)) (some (b : Int))) = ((signs x).drop a).take (b - a) := by
  have h := StrLaws.sliced_plain x hab hb
  unfold Txt.slice
  split
  · rename_i c
    have hl : (Builtin.Str.strSliceIndices (some (a : Int)) (some (b : Int)) 1 x.length).length = x.length := by simpa using c
    rw [StrLaws.strSliceIndices_plain hab hb] at hl
    simp at hl
    have h0 : a = 0 := by omega
    have h1 : b = x.length := by omega
    rw [h0, h1, List.drop_zero, Nat.sub_zero, ← signs_len, List.take_length]
  · show (List.filterMap _ _).toArray.toList = _
    exact h
theorem sl_head (x : Str) : Txt.slice x none (some 1) = "-" ↔ (signs x)[0]? = some 45 := by
  rw [sl_nonel]
  cases hs : signs x with
  | nil =>
    have hx : x = "" := str_ext (by rw [hs]; rfl)
    rw [hx]
    exact ⟨fun z => absurd z (by decide +kernel), fun z => by cases z⟩
  | cons c r =>
    have hl : 1 ≤ x.length := by rw [← signs_len, hs]; simp
    have e := sl_signs x (a := 0) (b := 1) (by omega) hl
    rw [hs] at e
    constructor
    · intro z
      have e2 : signs (Txt.slice x (some 0) (some 1)) = [45] := by rw [z]; rfl
      have : [c] = [45] := by rw [← e2]; exact e.symm
      rw [(List.cons.inj this).1]
      rfl
    · intro z
      have hc : c = 45 := by simpa using z
      exact str_ext (by rw [show signs (Txt.slice x (some 0) (some 1)) = _ from e, hc]; rfl)
theorem sl_tail {x : Str} {c : Nat} {r : List Nat} (h : signs x = c :: r) : signs (Txt.slice x (some 1) none) = r := by
  have hl : 1 ≤ x.length := by rw [← signs_len, h]; simp
  rw [sl_none]
  have e := sl_signs x (a := 1) (b := x.length) hl (Nat.le_refl _)
  rw [h, List.drop_one, List.tail_cons, List.take_of_length_le (by rw [← signs_len, h]; simp)] at e
  exact e
theorem figs_eq (x : Str) : (if Txt.slice x none (some 1) = "-" then Txt.slice x (some 1) none else x) = rpM x := by
  by_cases h : (signs x)[0]? = some 45
  · rw [if_pos ((sl_head x).mpr h)]
    obtain ⟨r, e⟩ : ∃ r, signs x = 45 :: r := by
      cases hs : signs x with
      | nil => rw [hs] at h; cases h
      | cons y r => rw [hs] at h; exact ⟨r, by rw [show y = 45 by simpa using h]⟩
    exact str_ext (by rw [sl_tail e, rp_minus e])
  · rw [if_neg (fun z => h ((sl_head x).mp z)), rp_plain h]
end CW

set_option Elab.async false
set_option linter.all false
set_option maxRecDepth 100000
set_option maxHeartbeats 1000000
namespace L2
open PySem PySem.Spec PyProof.Rows
open Sem (wp)
noncomputable def TailH (bmB bm : List Value) : Prop := ∀ {X : String} {b : Bool}, bmB.contains (.type X) = b → bm.contains (.type X) = b
noncomputable def noRefs : List Value → List Value
  | .ref _ :: r => noRefs r
  | l => l
theorem tailH_of {bmB : List Value} : ∀ {bm : List Value}, noRefs bm = bmB → TailH bmB bm
  | [], e => fun hb => by
    have e' : ([] : List Value) = bmB := e
    rw [e']
    exact hb
  | v :: r, e => fun hb => by
    cases v
    case ref a =>
      have ih := tailH_of (bm := r) e hb
      rw [List.contains_cons, ih]
      rfl
    all_goals (rw [show _ :: r = bmB from e]; exact hb)
section
variable {prog : Program} {w : World} {A : Around} {E : Value → Shared → Prop} {h : Heap} {g : Array GenState} {d : Drawn} {t : Nat} {os : OsState}
variable {nm q : Str} {C N : Addr} {bs bm bmB : List Value} {hdct : Bool} {sn : List Str} {sub : List Value} {ab : Bool} {col : Option Bool} {dd : Option Addr} {k0 k1 k2 k3 k5 : Option Value} {B newId initId : String}
theorem check_newH {M : Model} (F : ExcBaseFacts B newId initId bmB) (T : TailH bmB bm) {rest : List Value} {Q : Unit → Shared → Prop} (oC : h.get? C = some (excClassObj nm q C N bs bm hdct sn sub ab col dd k0 k1 k2 k3 k5 newId))
    (kq : Q () ⟨h, g, d, t, os⟩) : wpAny M A (checkBuiltinCall newId ⟨.ref C :: rest, []⟩) Q E ⟨h, g, d, t, os⟩ := by
  have hasIt : (Value.ref C :: bm).contains (.type B) = true := by
    rw [List.contains_cons, T F.hasB]
    exact Bool.or_true _
  have ns := F.noStar
  simp only [checkBuiltinCall, F.newRow, F.newSplit, F.newKind]
  repeat (first
    | refine wpAny_loadPart_at oC ?_
    | (refine wpAny_isSubtype_exc oC ?_; rw [hasIt])
    | refine wpAny_staticBase_exc oC ?_
    | refine wpAny_madeBy_exc oC ?_
    | simp only [bne_self_eq_false, if_false, Bool.false_eq_true]
    | wp_step)
  exact kq
theorem exc_newH {R : Result → Shared → Prop} (F : ExcBaseFacts B newId initId bmB) (T : TailH bmB bm) {rest : List Value} (oC : h.get? C = some (excClassObj nm q C N bs bm hdct sn sub ab col dd k0 k1 k2 k3 k5 newId))
    (kq : R (.ok (.ret (.ref (h.objs.size + 1)))) ⟨(h.push { cls := .type "tuple", data := .seq rest.toArray }).push { cls := .ref C, data := .fields #[.ref h.objs.size, .none, .none, .none, .bool false, .none] }, g, d, t, os⟩) (hrest : rest.length ≤ sizeLine := by size_fits) :
    codeAny (model prog w) A (.builtin newId ⟨.ref C :: rest, []⟩) R ⟨h, g, d, t, os⟩ := by
  have ends := F.ends
  have has1 : (Value.ref C :: bm).contains (.type B) = true := by
    rw [List.contains_cons, T F.hasB]
    exact Bool.or_true _
  have has2 : (Value.ref C :: bm).contains (.type "AttributeError") = false := by
    rw [List.contains_cons, T F.noAttr]
    rfl
  have has3 : (Value.ref C :: bm).contains (.type "NameError") = false := by
    rw [List.contains_cons, T F.noName]
    rfl
  refine codeAny_builtinAt F.entry ?_
  unfold Builtin.«BaseException.__new__»
  refine PySem.wpAt_bind ?_
  show PySem.wpAt _ _ _ (stack >>= _) _ _ _
  refine PySem.wpAt_bind (PySem.wpAt_stack fun _ _ => PySem.wpAt_of_wpAny ?_)
  wp_walk
  refine PySem.wpAt_of_wpAny ?_
  rw [F.owner]
  repeat (first
    | with_reducible refine wpAny_madeHere_exc F.canon oC ?_
    | with_reducible refine wpAny_loadPart_at oC ?_
    | (with_reducible refine wpAny_isSubtype_exc oC ?_; first | rw [has1] | rw [has2] | rw [has3])
    | wp_step)
  show R _ _
  rw [Heap.size_push]
  exact kq
theorem check_initH {M : Model} (F : ExcBaseFacts B newId initId bmB) (T : TailH bmB bm) {e : Addr} {oe : Obj} {rest : List Value} {Q : Unit → Shared → Prop}
    (oC : h.get? C = some (excClassObj nm q C N bs bm hdct sn sub ab col dd k0 k1 k2 k3 k5 newId)) (oE : h.get? e = some oe) (ocl : oe.cls = .ref C) (kq : Q () ⟨h, g, d, t, os⟩) :
    wpAny M A (checkBuiltinCall initId ⟨.ref e :: rest, []⟩) Q E ⟨h, g, d, t, os⟩ := by
  have hasIt : (Value.ref C :: bm).contains (.type B) = true := by
    rw [List.contains_cons, T F.hasB]
    exact Bool.or_true _
  have ns := F.noStar
  simp only [checkBuiltinCall, F.initRow, F.initSplit, F.initKind]
  repeat (first
    | (with_reducible refine wpAny_loadPart_at oE ?_; rw [ocl])
    | with_reducible refine wpAny_loadPart_at oC ?_
    | (with_reducible refine wpAny_isSubtype_exc oC ?_; rw [hasIt])
    | wp_step)
  refine wpAny_onRaise ?_
  rw [show ∀ (a b : String) (n : Nat), Bind.check ⟨.positional, "*", B, .self, [⟨"args", .varPos, false⟩]⟩ a b n (List.map (fun x => x.fst) ({ pos := Value.ref e :: rest } : Args).kw) = pure () from fun a b n => check_star_args _ _ _ _ _ _]
  exact wpAny_pure kq
theorem type_call_initT (F : ExcBaseFacts B newId initId bmB) (T : TailH bmB bm) {mN : Str → Option Value} {rest : List Value} {fI : Addr} {oI : Obj} {Q : Fin → Shared → Prop}
    (hC : h.get? C = some (excClassObj nm q C N bs bm hdct sn sub ab col dd k0 k1 k2 k3 k5 newId)) (hn : h.Ns N mN) (hi : mN "__init__" = some (.ref fI))
    (hfI : h.get? fI = some oI) (hfc : oI.cls = .type "function")
    (hq : ∀ h' e, Heap.MadeExcOf h h' e (.ref C) rest →
      wpAny (model prog w) A (call (.ref fI) (.ref e :: rest)) (fun r s' => r = .none ∧ Q (.done (.ret (.ref e))) s') E ⟨h', g, d, t, os⟩) (hrest : rest.length ≤ sizeLine := by size_fits) :
    wpAny (model prog w) A (Builtin.«type.__call__» ⟨.ref C :: rest, []⟩) Q E ⟨h, g, d, t, os⟩ := by
  repeat (first | with_reducible refine wpAny_loadPart_at hC ?_ | with_reducible refine wpAny_madeBy_exc hC ?_ | wp_step)
  refine codeAny_call_builtin_code (Code.quiet_builtin _ F.quiet) (check_newH F T hC ?_)
  refine exc_newH F T hC ?_ hrest
  show wpAny _ _ _ _ _ _
  have k2 : ∀ b o, h.get? b = some o → ((h.push { cls := .type "tuple", data := .seq rest.toArray }).push { cls := .ref C, data := .fields #[.ref h.objs.size, .none, .none, .none, .bool false, .none] }).get? b = some o :=
    fun b o e => Heap.get?_push_of_some _ (Heap.get?_push_of_some _ e)
  have hC₁ := k2 _ _ hC
  have hfI₁ := k2 _ _ hfI
  have hn₁ := hn.keeps k2
  have hget : ((h.push { cls := .type "tuple", data := .seq rest.toArray }).push
      { cls := .ref C, data := .fields #[.ref h.objs.size, .none, .none, .none, .bool false, .none] }).get? (h.objs.size + 1) = some
      { cls := .ref C, data := .fields #[.ref h.objs.size, .none, .none, .none, .bool false, .none] } := by heap_get
  have hcC : (Value.ref C :: bm).contains (.ref C) = true := by simp
  unfold isInstance
  repeat (first | with_reducible refine wpAny_loadPart_at hget ?_ | (with_reducible refine wpAny_isSubtype_exc hC₁ ?_; rw [hcC]) | wp_step)
  show wpAny _ _ (typeLookup (.ref C) _) _ _ _
  rw [typeLookup_eq]
  refine wpAny_bind (wpAny_mroOf_exc hC₁ ?_)
  rw [lookupAlong_cons]
  refine wpAny_bind (wpAny_classOwn_exc hC₁ hn₁ ?_)
  rw [hi]
  refine wpAny_pure ?_
  refine wpAny_holding (wpAny_bind ?_)
  unfold bindSpecial
  refine wpAny_bind (wpAny_typeOf (T := "function") ⟨_, hfI₁, hfc⟩ ?_)
  rw [if_pos (by decide)]
  refine wpAny_pure (wpAny_bind (wpAny_mono (hq _ (h.objs.size + 1) ⟨k2, Heap.get?_none_of_le (Nat.le_succ _), h.objs.size, hget, Heap.get?_none_of_le (Nat.le_refl _), ?_⟩) (fun r s' hr => ?_) fun _ _ x => x))
  · exact Heap.get?_push_of_some _ (Heap.get?_push_at rfl rfl)
  · obtain ⟨rfl, hQ⟩ := hr
    wp_walk
    exact hQ
theorem call_initT (F : ExcBaseFacts B newId initId bmB) (T : TailH bmB bm) {mN : Str → Option Value} {rest : List Value} {fI : Addr} {oI : Obj} {Q : Value → Shared → Prop}
    (hC : h.get? C = some (excClassObj nm q C N bs bm hdct sn sub ab col dd k0 k1 k2 k3 k5 newId)) (hn : h.Ns N mN) (hi : mN "__init__" = some (.ref fI))
    (hfI : h.get? fI = some oI) (hfc : oI.cls = .type "function")
    (hq : ∀ h' e, Heap.MadeExcOf h h' e (.ref C) rest →
      wpAny (model prog w) (A.under (.builtin "type.__call__" ⟨.ref C :: rest, []⟩)) (call (.ref fI) (.ref e :: rest)) (fun r s' => r = .none ∧ Q (.ref e) s') E ⟨h', g, d, t, os⟩) (hrest : rest.length ≤ sizeLine := by size_fits) :
    wpAny (model prog w) A (call (.ref C) rest) Q E ⟨h, g, d, t, os⟩ := by
  have f1 := tc_lookup
  have f2 := tc_bind (.ref C)
  have hT : (⟨h, g, d, t, os⟩ : Shared).TypeIs (.ref C) "type" := ⟨_, hC, rfl⟩
  refine wpAny_call (codeAny_of_tree ?_)
  show wpAny _ _ (callAny (.ref C) _) _ _ _
  repeat (any_goals (first | assumption | with_reducible refine wpAny_loadPart_at hC ?_ | wp_step))
  refine ⟨rfl, ?_⟩
  refine codeAny_call_builtin_at (Code.quiet_builtin _ (by decide +kernel)) entry_typeCall (wpAny_check_type_call_sub hC (type_call_initT (hrest := hrest) F T hC hn hi hfI hfc fun h' e hm => ?_))
  exact hq h' e hm
theorem raise_made_od {M : Model} {s : Shared} {env : Env} {x : Sem Value} {Q : Flow → Shared → Prop} (hbase : bm.contains (.type "BaseException") = true) (hh : A.handled = none)
    (h : wpAny M A x (fun v s₁ => ∃ e od t, v = .ref e ∧ s₁.heap.get? C = some (excClassObj nm q C N bs bm hdct sn sub ab col dd k0 k1 k2 k3 k5 newId) ∧
      s₁.heap.get? e = some { cls := .ref C, dict := od, data := .fields #[.ref t, .none, .none, .none, .bool false, .none] } ∧ E (.ref e) s₁) E s) :
    wpAny M A (raiseStmt env (some x) none) Q E s := by
  have hcB : (Value.ref C :: bm).contains (.type "BaseException") = true := by rw [List.contains_cons, hbase, Bool.or_true]
  unfold raiseStmt
  refine wpAny_bind (wpAny_mono h (fun v s₁ h₁ => ?_) fun _ _ x => x)
  obtain ⟨e, od, t, rfl, hC, he, hE⟩ := h₁
  obtain ⟨hp, g, d, tk, os⟩ := s₁
  repeat (first | with_reducible refine wpAny_loadPart_at he ?_ | with_reducible refine wpAny_loadPart_at hC ?_ | (with_reducible refine wpAny_isSubtype_exc hC ?_; rw [hcB]) | wp_step)
  exact wpAny_raiseNew_none hh hE
theorem raise_initT {s : Shared} {env : Env} (F : ExcBaseFacts B newId initId bmB) {mN : Str → Option Value} {x : Str} {np cpos pos : Pos} {args : List Expr} {fI : Addr} {oI : Obj} {Q : Flow → Shared → Prop}
    (hbase : bm.contains (.type "BaseException") = true) (hh : A.handled = none) (hplain : (backTo cpos (starEach args env)).any (·.1) = false) (hi : mN "__init__" = some (.ref fI)) (hfc : oI.cls = .type "function")
    (h : wpAny (model prog w) A (eval (.Name x np) env) (fun f s₁ => f = .ref C ∧ wpAny (model prog w) A (evalArgs (.ref C) true (backTo cpos (starEach args env)) [])
      (fun a s₂ => a.kw = [] ∧ a.pos.length ≤ sizeLine ∧ s₂.heap.get? C = some (excClassObj nm q C N bs bm hdct sn sub ab col dd k0 k1 k2 k3 k5 newId) ∧ s₂.heap.Ns N mN ∧ TailH bmB bm ∧ s₂.heap.get? fI = some oI ∧
        ∀ h' e, Heap.MadeExcOf s₂.heap h' e (.ref C) a.pos → wpAny (model prog w) (A.under (.builtin "type.__call__" ⟨.ref C :: a.pos, []⟩)) (call (.ref fI) (.ref e :: a.pos)) (fun r s' => r = .none ∧
          (s'.heap.get? C = some (excClassObj nm q C N bs bm hdct sn sub ab col dd k0 k1 k2 k3 k5 newId)) ∧ (∃ od t, s'.heap.get? e = some { cls := .ref C, dict := od, data := .fields #[.ref t, .none, .none, .none, .bool false, .none] }) ∧ E (.ref e) s') E { s₂ with heap := h' }) E s₁) E s) :
    wpAny (model prog w) A (exec (.Raise (some (.Call (.Name x np) args [] cpos)) none pos) env) Q E s := by
  rw [arm_exec_Raise]
  simp only [evalOpt, Option.map]
  refine wpAny_bind (wpAny_standAt (raise_made_od (C := C) (nm := nm) (q := q) (N := N) (bs := bs) (bm := bm) (hdct := hdct) (sn := sn) (sub := sub) (ab := ab) (col := col) (dd := dd) (k0 := k0) (k1 := k1) (k2 := k2) (k3 := k3) (k5 := k5) (newId := newId) hbase hh (wpAny_bind (wpAny_mono (wpAny_Call_ofName (wpAny_mono h (fun f s₁ h₁ => ?_) fun _ _ x => x)) (fun v s₃ h₃ => wpAny_bind (wpAny_standAt (wpAny_pure h₃))) fun _ _ x => x))))
  obtain ⟨rfl, h₁⟩ := h₁
  unfold callWith
  refine wpAny_bind (wpAny_holding (wpAny_mono h₁ (fun a s₂ h₂ => wpAny_bind (wpAny_standAt ?_)) fun _ _ x => x))
  obtain ⟨apos, akw⟩ := a
  obtain ⟨hkw, hlen, hC, hn, T, hfI, h₂⟩ := h₂
  obtain rfl : akw = [] := hkw
  obtain ⟨hp, g, d, tk, os⟩ := s₂
  simp only [hplain]
  refine wpAny_bind (wpAny_keeperOf_exc hC ?_)
  refine wpAny_bind (call_initT (hrest := hlen) F T hC hn hi hfI hfc fun h' e hm => wpAny_mono (h₂ h' e hm) (fun r s' ⟨hr, z1, ⟨od, vs, z2⟩, z3⟩ => ⟨hr, ?_⟩) fun _ _ z => z)
  refine wpAny_bind (wpAny_holding (wpAny_point (wpAny_pure ?_)))
  exact ⟨e, od, vs, rfl, z1, z2, z3⟩
theorem call_binit (F : ExcBaseFacts B newId initId bmB) (T : TailH bmB bm) {rest : List Value} {e t0 : Addr} {od : Option Addr} {Q : Value → Shared → Prop}
    (hC : h.get? C = some (excClassObj nm q C N bs bm hdct sn sub ab col dd k0 k1 k2 k3 k5 newId)) (he : h.get? e = some { cls := .ref C, dict := od, data := .fields #[.ref t0, .none, .none, .none, .bool false, .none] })
    (hq : ∀ h' t1, (∀ b o, b ≠ e → h.get? b = some o → h'.get? b = some o) → h'.get? e = some { cls := .ref C, dict := od, data := .fields #[.ref t1, .none, .none, .none, .bool false, .none] } → Q .none ⟨h', g, d, t, os⟩) (hrest : rest.length ≤ sizeLine := by size_fits) :
    wpAny (model prog w) A (call (.builtin initId) (.ref e :: rest)) Q E ⟨h, g, d, t, os⟩ := by
  refine wpAny_call (codeAny_call_builtin F.init.plain F.initEntry (check_initH F T hC he rfl ?_))
  have he1 := Heap.get?_push_of_some { cls := .type "tuple", data := .seq rest.toArray } he
  wp_walk
  refine hq _ h.objs.size (fun b o n hb => ?_) ?_
  · rw [Heap.get?_update_other _ _ n.symm]
    exact Heap.get?_push_of_some _ hb
  · rw [Heap.get?_update_self _ he1 rfl]
    rfl
end
end L2

set_option Elab.async false
set_option linter.all false
set_option maxRecDepth 100000
set_option maxHeartbeats 1000000
namespace L2
open PySem PySem.Spec PyProof.Rows
open Sem (wp)
open Builtin Builtin.ObjectAttr
structure XStore (K : PySem.W.Frag) (C : Addr) (name : Str) : Prop where
  cls : ∃ cd bm, PySem.W.clsIn K C = some cd ∧ cd.mro = .ref C :: bm ∧ (∀ self, refuseLoop self "__setattr__" bm = pure ()) ∧ bm.contains (.type "object") = true ∧ cd.hasDict = true
  set : PySem.W.findIn K (.ref C) "__setattr__" = some (some (.builtin "object.__setattr__"))
  free : PySem.W.findIn K (.ref C) name = some none
section
variable {prog : Program} {w : World} {A : Around} {E : Value → Shared → Prop} {h : Heap} {g : Array GenState} {d : Drawn} {t : Nat} {os : OsState} {K : PySem.W.Frag} {C e : Addr} {name : Str} {v : Value} {vs : Array Value}
theorem store_exc {Q : Unit → Shared → Prop} (X : K.In h) (S : XStore K C name) (hx : h.get? e = some { cls := .ref C, dict := none, data := .fields vs })
    (hq : ∀ h' dx tk', h.get? dx = none → (∀ b o, b ≠ e → h.get? b = some o → h'.get? b = some o) → h'.get? e = some { cls := .ref C, dict := some dx, data := .fields vs } → h'.Ns1 dx (fun y => if y = name then some v else none) → Q () ⟨h', g, d, tk', os⟩) :
    wpAny (model prog w) A (setAttr (.ref e) name v) Q E ⟨h, g, d, t, os⟩ := by
  obtain ⟨⟨cd, bm, hc, hm, href, hob, hdct⟩, hs, hfree⟩ := S
  have SF := PySem.F.store_ValueError
  have I : PySem.W.InstAt h e { cls := .ref C, dict := none, data := .fields vs } C none := ⟨hx, rfl, rfl, trivial⟩
  have hmro : PySem.W.Looks (model prog w) h (mroOf (.ref C)) cd.mro := (PySem.W.looks_clsIn X hc).andThen .now
  have hsub : PySem.W.Looks (model prog w) h (isInstance (.ref e) (.type "object")) true := I.type.andThen (PySem.W.looks_mroIn X (by
    unfold PySem.W.mroIn
    rw [hc, Option.bind_some, hm, if_neg (by simp), List.contains_cons, hob, Bool.or_true]))
  refine PySem.W.set_plain (s := ⟨h, g, d, t, os⟩) X I hs ?_
  refine codeAny_call_builtin SF.slot.plain SF.entry (@PySem.W.check_slot (model prog w) _ _ _ "object.__setattr__" "object" "__setattr__" (.ref e) [.str name t, v] [] _ SF.kind SF.split hsub (SF.args (.ref e) (.str name t) v) ?_)
  rw [PySem.W.osa_eq, refuse_eq]
  refine wpAny_bind (wpAny_bind (I.type.at (wpAny_bind (hmro.at ?_))))
  rw [hm, refuseLoop_ref, href]
  refine wpAny_pure (wpAny_bind (I.type.at (wpAny_bind ((PySem.W.looks_findIn X hfree).at (wpAny_bind ?_)))))
  refine wpAny_pure ?_
  dsimp only
  have hx₁ : (h.push { cls := .type "dict", data := .dict #[] }).get? e = some { cls := .ref C, dict := none, data := .fields vs } := Heap.get?_push_of_some _ hx
  have hxs : e ≠ h.objs.size := Nat.ne_of_lt (Heap.lt_size hx)
  refine wpAny_bind (wpAny_pure (wpAny_bind (wpAny_bind (wpAny_loadPart hx (wpAny_bind ((PySem.W.looks_clsIn X hc).at ?_))))))
  rw [hdct]
  rw [if_neg (by decide)]
  dsimp only
  rw [if_neg (by simp [typeHasDict])]
  refine wpAny_bind (wpAny_alloc' ?_)
  refine wpAny_bind (wpAny_update' hx₁ ?_)
  refine wpAny_pure ?_
  dsimp only
  have hgd : ((h.push { cls := .type "dict", data := .dict #[] }).update e fun o => { cls := o.cls, dict := some h.objs.size, data := o.data, slots := o.slots }).get? h.objs.size
      = some { cls := .type "dict", data := .dict #[] } := (Heap.get?_update_ne _ _ _ _ hxs.symm).trans (Heap.get?_push_at rfl rfl)
  have hnd : ((h.push { cls := .type "dict", data := .dict #[] }).update e fun o => { cls := o.cls, dict := some h.objs.size, data := o.data, slots := o.slots }).Ns h.objs.size (fun _ => none) :=
    ⟨_, #[], _, hgd, rfl, fun e he => absurd he (by simp), fun _ => rfl⟩
  unfold storeInDict newKeyGuard
  refine wpAny_bind (wpAny_pure (wpAny_bind (wpAny_nsSet1 (Heap.Ns1.of_empty hnd) fun h' hn' hs => ?_)))
  obtain ⟨oD, esD, epD, hoD, hdD, hcD⟩ := hn'.count (Within.cons name v Within.nil)
  refine wpAny_bind (wpAny_lookBehind hoD (by rw [hdD]; exact pastItsLine_dict (Nat.le_trans hcD (by rw [List.length_cons, List.length_nil, sizeLine_eq]; omega))) ?_)
  wp_walk
  refine hq h' h.objs.size _ (Heap.get?_none_of_le (Nat.le_refl _)) (fun b o n hb => ?_) ?_ hn'
  · exact (hs.2 b (Nat.ne_of_lt (Heap.lt_size hb))).trans ((Heap.get?_update_ne _ _ _ _ n).trans (Heap.get?_push_of_some _ hb))
  · exact (hs.2 e hxs).trans (Heap.get?_update_self _ hx₁ rfl)
end
end L2

set_option Elab.async false
set_option linter.all false
set_option maxRecDepth 100000
set_option maxHeartbeats 1000000
namespace L2
open PySem PySem.Spec PyProof.Rows
noncomputable def XO (C e : Addr) (od : Option Addr) : HO := .ext fun h => ∃ t, h.get? e = some { cls := .ref C, dict := od, data := .fields #[.ref t, .none, .none, .none, .bool false, .none] }
theorem XO.mk {P : Program} {w : World} {H : Hp} {h : Heap} {C e t : Addr} {od : Option Addr} (x : h.get? e = some { cls := .ref C, dict := od, data := .fields #[.ref t, .none, .none, .none, .bool false, .none] }) : ObjOk P w H h e (XO C e od) :=
  ⟨⟨t, x⟩, ⟨_, x⟩, fun h1 h2 ⟨t, z⟩ k => ⟨t, k _ z⟩⟩
noncomputable def del (H : Hp) (a : Addr) : Hp := fun b => if b = a then none else H b
theorem del_same {H : Hp} {a : Addr} : del H a a = none := by unfold del; rw [if_pos rfl]
theorem del_ne {H : Hp} {a b : Addr} (h : b ≠ a) : del H a b = H b := by unfold del; rw [if_neg h]
section
variable {X : Cx} {pins : List (Addr × Obj)} {σ : St} {H : Hp} {s : Shared} {h' : Heap} {C e dx : Addr} {od : Option Addr} {φ : Heap → Prop}
theorem Inv.forget (I : Inv X pins σ H s) (he : H e = some (.ext φ)) : Inv X pins σ (del H e) s := by
  have ne : ∀ b u, H b = some u → (∀ ψ, u ≠ .ext ψ) → b ≠ e := fun b u q n z => by rw [z, he] at q; cases q; exact n _ rfl
  have un : Un X.fs [] H (del H e) s.heap s.heap := ⟨fun _ _ q _ _ _ => q, fun _ o q _ _ _ => ⟨o.slots, q⟩, fun b _ _ n _ => by unfold del; split <;> first | rfl | exact n, fun _ o q _ => ⟨o, q⟩,
    fun b xs q => by rw [del_ne (ne b _ q fun _ z => by cases z)]; exact q, fun b o u q => by rw [del_ne (ne b _ q fun _ z => by cases z)]; exact q, fun b ps q => ⟨#[], by rw [del_ne (ne b _ q fun _ z => by cases z), q]; simp⟩⟩
  exact I.un (t' := s.toks) un fun b u q => by
    by_cases hb : b = e
    · rw [hb, del_same] at q; cases q
    · rw [del_ne hb] at q
      exact (I.hok b u q).stay (fun _ _ _ z => z) (fun c z => by rw [del_ne (ne c _ z fun _ z => by cases z)]; exact z) fun c xs z => by rw [del_ne (ne c _ z fun _ z => by cases z)]; exact z
theorem Inv.unthere (I : Inv X pins σ H s) {a : Addr} (hn : s.heap.get? a = none) : H a = none := by
  cases hu : H a with
  | none => rfl
  | some u =>
    obtain ⟨o, ho⟩ := (I.hok a u hu).there
    rw [hn] at ho
    cases ho
theorem Inv.newX (I : Inv X pins σ H s) {args : List Value} (hm : Heap.MadeExcOf s.heap h' e (.ref C) args) : Inv X pins σ (upd H e (XO C e none)) { s with heap := h' } := by
  have hn := I.unthere hm.new
  have ne : ∀ b u, H b = some u → b ≠ e := fun b u q z => by rw [z, hn] at q; cases q
  have nh : ∀ b o, s.heap.get? b = some o → b ≠ e := fun b o q z => by rw [z, hm.new] at q; cases q
  obtain ⟨t, ht, _, _⟩ := hm.there
  have un : Un X.fs [] H (upd H e (XO C e none)) s.heap h' := ⟨fun b o q _ _ _ => hm.keeps b o q, fun b o q _ _ _ => ⟨o.slots, hm.keeps b o q⟩, fun b o q n _ => by rw [upd_ne (nh b o q)]; exact n, fun b o q _ => ⟨o, hm.keeps b o q⟩,
    fun b xs q => by rw [upd_ne (ne b _ q)]; exact q, fun b o u q => by rw [upd_ne (ne b _ q)]; exact q, fun b ps q => ⟨#[], by rw [upd_ne (ne b _ q), q]; simp⟩⟩
  exact I.un (t' := s.toks) un fun b u q => by
    by_cases hb : b = e
    · subst hb; rw [upd_same] at q; cases q; exact XO.mk ht
    · rw [upd_ne hb] at q
      exact (I.hok b u q).stay (fun c v _ z => hm.keeps c v z) (fun c z => by rw [upd_ne (ne c _ z)]; exact z) fun c xs z => by rw [upd_ne (ne c _ z)]; exact z
theorem Inv.dictX (I : Inv X pins σ H s) {t' : Nat} {fs : List (Str × V)} (he : H e = some (XO C e none)) (hdx : s.heap.get? dx = none) (k : ∀ b o, b ≠ e → s.heap.get? b = some o → h'.get? b = some o) {t : Addr}
    (hx : h'.get? e = some { cls := .ref C, dict := some dx, data := .fields #[.ref t, .none, .none, .none, .bool false, .none] }) (hd : ∃ mA, h'.Ns1 dx mA ∧ ∀ f, RelO (fs.lookup f) (mA f)) :
    Inv X pins σ (upd (upd H dx (.xd fs)) e (XO C e (some dx))) { s with heap := h', toks := t' } := by
  have hn := I.unthere hdx
  have ne : ∀ b u, H b = some u → (∀ ψ, u ≠ .ext ψ) → b ≠ e := fun b u q n z => by rw [z, he] at q; cases q; exact n _ rfl
  have nd : ∀ b u, H b = some u → b ≠ dx := fun b u q z => by rw [z, hn] at q; cases q
  have nb : ∀ b, H b = none → b ≠ e := fun b q z => by rw [z, he] at q; cases q
  have nh : ∀ b o, s.heap.get? b = some o → b ≠ dx := fun b o q z => by rw [z, hdx] at q; cases q
  have up : ∀ b u, H b = some u → (∀ ψ, u ≠ .ext ψ) → upd (upd H dx (.xd fs)) e (XO C e (some dx)) b = some u := fun b u q n => by rw [upd_ne (ne b u q n), upd_ne (nd b u q)]; exact q
  have un : Un X.fs [] H (upd (upd H dx (.xd fs)) e (XO C e (some dx))) s.heap h' := ⟨fun b o q n _ _ => k b o (nb b n) q, fun b o q n _ _ => ⟨o.slots, k b o (nb b n) q⟩, fun b o q n _ => by rw [upd_ne (nb b n), upd_ne (nh b o q)]; exact n,
    fun b o q _ => by
      by_cases hb : b = e
      · rw [hb]; exact ⟨_, hx⟩
      · exact ⟨o, k b o hb q⟩,
    fun b xs q => up b _ q (fun _ z => by cases z), fun b o u q => up b _ q (fun _ z => by cases z), fun b ps q => ⟨#[], by rw [up b _ q (fun _ z => by cases z)]; simp⟩⟩
  exact I.un (t' := t') un fun b u q => by
    by_cases hb : b = e
    · subst hb; rw [upd_same] at q; cases q; exact XO.mk hx
    · rw [upd_ne hb] at q
      by_cases hc : b = dx
      · subst hc; rw [upd_same] at q; cases q; exact hd
      · rw [upd_ne hc] at q
        refine (I.hok b u q).stay (fun c v hcv z => k c v (fun z' => ?_) z) (fun c z => up c _ z fun _ z => by cases z) fun c xs z => up c _ z fun _ z => by cases z
        subst z'
        rcases hcv with z1 | z1
        · exact hb z1.symm
        · rw [he] at z1; cases z1
end
noncomputable def XCls (K : PySem.W.Frag) (C : Addr) (i : Option Value) : Prop := ∀ h : Heap, K.In h → ∃ bm N nm q bs hdct sn sub ab col dd k0 k1 k2 k3 k5 mN, h.get? C = some (excClassObj nm q C N bs bm hdct sn sub ab col dd k0 k1 k2 k3 k5 "ValueError.__new__") ∧ h.Ns N mN ∧ mN "__init__" = i ∧ TailH bmV bm
noncomputable def excInI (K : PySem.W.Frag) (C : Addr) (i : Option Value) : Bool := match K.lookup C with
  | some ⟨.type "type", _, .cls cd, sl⟩ => (match cd.mro, sl.toList with
    | .ref C' :: bm, [_, _, _, _, some (.builtin n), _] => C' == C && n == "ValueError.__new__" && !cd.hasDel && noRefs bm == bmV && PySem.W.nsOkIn K cd.ns && PySem.W.nsIn K cd.ns "__init__" == some i
    | _, _ => false)
  | _ => false
theorem nsMap_of_in {K : PySem.W.Frag} {h : Heap} {N : Addr} {x : Str} {v : Value} (X : K.In h) (e : PySem.W.nsOkIn K N = true) (q : PySem.W.nsIn K N x = some (some v)) : h.nsMap N x = some v := by
  obtain ⟨o, es, ep, ho, hd, _, hf⟩ := Heap.Ns.of_isNs (PySem.W.isNs_of_in X e)
  unfold PySem.W.nsIn at q
  split at q
  · rename_i c d es' n' sl z
    have := X _ _ z
    rw [ho] at this
    cases this
    cases hd
    split at q
    · rename_i en he
      cases q
      rw [← hf]
      unfold nsFind findBy
      rw [← Array.find?_toList, he]
      rfl
    · split at q <;> cases q
  · cases q
theorem xcls_of {K : PySem.W.Frag} {C : Addr} {i : Option Value} (q : excInI K C i = true) : XCls K C i := fun h kin => by
  unfold excInI at q
  split at q
  · rename_i dd cd sl ho
    split at q
    · rename_i C' bm k0 k1 k2 k3 n k5 hm hs
      simp only [Bool.and_eq_true, beq_iff_eq, Bool.not_eq_true'] at q
      obtain ⟨⟨⟨⟨⟨e1, e2⟩, hdel⟩, ht⟩, hok⟩, hni⟩ := q
      subst e1 e2
      obtain ⟨nm, bs, mro, ns, qn, hd, sn, sub, ab, col, del⟩ := cd
      dsimp only at hm hdel hok hni
      subst hm hdel
      obtain ⟨l⟩ := sl
      dsimp only at hs
      subst hs
      refine ⟨bm, ns, nm, qn, bs, hd, sn, sub, ab, col, dd, k0, k1, k2, k3, k5, _, kin _ _ ho, .of_isNs (PySem.W.isNs_of_in kin hok), ?_, tailH_of ht⟩
      cases i with
      | none => exact PySem.W.nsMap_none_of_in kin hok hni
      | some v => exact nsMap_of_in kin hok hni
    · cases q
  · cases q
end L2

set_option Elab.async false
set_option linter.all false
set_option maxRecDepth 100000
set_option maxHeartbeats 1000000
namespace L2
open PySem PySem.Spec PyProof.Rows
theorem isFn_at {K : PySem.W.Frag} {h : Heap} {f : Addr} (kin : K.In h) (hf : PySem.W.isFn K (.ref f) = true) : ∃ o, h.get? f = some o ∧ o.cls = .type "function" := by
  unfold PySem.W.isFn at hf
  have e := beq_iff_eq.mp hf
  unfold PySem.W.typeIn at e
  cases q : K.lookup f with
  | none => simp [q] at e
  | some o => exact ⟨o, kin _ _ q, by simpa [q] using e⟩
noncomputable def tBInit (K : PySem.W.Frag) (t : TA) : TE := fun σ H Q => t σ H fun vs H1 => ∃ a C i od rest, vs = .ref a :: rest ∧ rest.length ≤ sizeLine ∧ H1 a = some (XO C a od) ∧ XCls K C i ∧ Q .non H1
section
variable {X : Cx}
noncomputable def sXat (K : PySem.W.Frag) (ta tv : TE) (f : Str) : TS := fun D σ H => tv σ H fun y H1 => ta σ H1 fun x H2 => ∃ a C, x = .ref a ∧ H2 a = some (XO C a none) ∧ XStore K C f ∧
  ∀ dx, H2 dx = none → dx ≠ a → D.nx σ (upd (upd H2 dx (.xd [(f, y)])) a (XO C a (some dx)))
theorem ps_xat {o value : Expr} {f : Str} {ta tv : TE} {pos pos' : Pos} (ha : PE X o ta) (hv : PE X value tv) (hs : swapsWith value (some (.Attribute o f pos')) pos.line X.env = pure false) : PS X (.Assign [.Attribute o f pos'] value pos) (sXat X.K ta tv f) := by
  intro pins s σ H D I h
  refine plainObj_wpAny_Assign_Attribute (thn (hv pins s σ H _ I h) fun u s1 ⟨y, H1, I1, ry, q⟩ => thn (ha pins s1 σ H1 _ I1 q) fun ov s2 ⟨x, H2, I2, rx, a, C, ex, ea, S, q2⟩ => ?_) hs
  subst ex
  obtain rfl : ov = Value.ref a := rx
  obtain ⟨⟨t0, ho⟩, _⟩ := I2.hok a _ ea
  refine store_exc I2.kIn S ho fun h' dx tk' hdx k he' hns => ?_
  have ne : dx ≠ a := fun z => by rw [z, ho] at hdx; cases hdx
  refine ⟨σ, _, I2.dictX (t' := tk') (fs := [(f, y)]) ea hdx k he' ⟨_, hns, fun g => ?_⟩, q2 dx (I2.unthere hdx) ne⟩
  by_cases hg : g = f
  · subst hg
    rw [List.lookup_cons_self, if_pos rfl]
    exact ry
  · have hgf : (g == f) = false := by simpa using hg
    rw [List.lookup_cons, hgf, if_neg hg]
    exact True.intro
noncomputable def tRaiseI (C : Addr) (sp : Sp) (E : XK) (t : TA) : TS := fun _ σ H => t σ H fun vs H1 => vs.length ≤ sizeLine ∧ ∀ e, H1 e = none →
  sp (.ref e :: vs) (upd H1 e (XO C e none)) (fun v H2 => v = .non ∧ ∃ od, H2 e = some (XO C e od) ∧ E (.ref C) od (del H2 e)) E0
theorem ps_raiseI {E : XK} {C fI : Addr} {fd : FuncData} {ps : List Str} {sp : Sp} {k : Nat} {x : Str} {e : Expr} {es : List Expr} {t : TA} {np cpos pos : Pos} (RX : Raises X E) (hx : X.ex = []) (hcalm : X.calm = true) (hc : XCls X.K C (some (.ref fI)))
    (hf : PySem.W.isFn X.K (.ref fI) = true) (F : FnOk X.prog X.w X.K X.mg X.base CX0 k fI fd ps sp) (hr : Room (k + 1) X.A) (hb : Binds X.K fd ps [])
    (hg : Gl X x) (hm : X.mg x = some (.ref C)) (ha : PA X (e :: es) t) (hdb : (x == ("__debug__" : Str)) = false := by decide)
    (he : starEach (e :: es) X.env = (false, eval e X.env) :: starEach es X.env := by rfl) (hpl : (backTo cpos (starEach es X.env)).any (·.1) = false := by rfl) : PS X (.Raise (some (.Call (.Name x np) (e :: es) [] cpos)) none pos) (tRaiseI C sp E t) := by
  intro pins s σ H D I h
  obtain ⟨bm, N, nm, q, bs, hdct, sn, sub, ab, col, dd, k0, k1, k2, k3, k5, mN, hC, hN, hi, T⟩ := hc X.base I.mod.kin
  obtain ⟨oI, hoI, hoc⟩ := isFn_at I.mod.kin hf
  have hplain : (backTo cpos (starEach (e :: es) X.env)).any (·.1) = false := by
    rw [he]
    show (false || (backTo cpos (starEach es X.env)).any (·.1)) = false
    rw [hpl]
    rfl
  refine raise_initT (C := C) (nm := nm) (q := q) (N := N) (bs := bs) (bm := bm) (hdct := hdct) (sn := sn) (sub := sub) (ab := ab) (col := col) (dd := dd) (k0 := k0) (k1 := k1) (k2 := k2) (k3 := k3) (k5 := k5) (mN := mN) (fI := fI) (oI := oI) PySem.F.excBase_ValueError (T PySem.F.excBase_ValueError.hasBase) (I.ok.hd hcalm) hplain hi hoc (ld_glob I hg hm ⟨rfl, ?_⟩ hdb)
  have sp' := ha cpos pins s σ H _ I h
  rw [he] at sp' ⊢
  refine Calls.evalArgs_plain (thn sp' fun us s2 ⟨vs, H2, I2, r, hz, q2⟩ => ?_)
  refine ⟨rfl, by have := r.length; show us.length ≤ _; omega, I2.bk _ _ hC, hN.keeps I2.bk, T, I2.bk _ _ hoI, fun h' e' hm' => ?_⟩
  have I3 := Inv.newX (C := C) I2 hm'
  have hq := q2 e' (I2.unthere hm'.new)
  have r2 : Vals (V.ref e' :: (vs ++ [])) (Value.ref e' :: (us ++ [])) := .cons rfl (r.append .nil)
  rw [List.append_nil, List.append_nil] at r2
  have hl : ((Value.ref e' :: us) ++ []).length = ps.length := by
    rw [List.append_nil, ← r2.length]
    exact F.len _ _ _ _ hq
  have hb' := hb { s2 with heap := h' } (Value.ref e' :: us) I3.kIn hl
  rw [List.append_nil] at hb'
  refine wpAny_call (codeAny_mono (F.run _ X.stack _ _ ⟨Value.ref e' :: us, []⟩ (Value.ref e' :: us) _ _ E0 (hr.make C us []) (I3.env0.make C us []) hb' r2 hq) fun rr s' hq' => ?_)
  cases rr with
  | error ev => exact hq'.elim
  | ok fl =>
    cases fl with
    | ret u =>
      obtain ⟨v, H', I4, rv, ev, od, ho, q3⟩ := I3.after hq'
      subst ev
      obtain ⟨⟨t0, hox⟩, _⟩ := I4.hok e' _ ho
      refine ⟨rv, I4.bk _ _ hC, ⟨od, t0, hox⟩, RX pins σ (del H' e') s' e' _ _ (.ref t0) (I4.forget ho) hox del_same (fun b o e1 z => ?_) rfl rfl rfl q3⟩
      obtain ⟨o', e2⟩ := I2.base.there b o e1 (by rw [hx]; simp)
      rw [z, hm'.new] at e2
      cases e2
    | next => exact False.elim hq'
    | brk => exact False.elim hq'
    | cont => exact False.elim hq'
end
end L2

set_option Elab.async false
set_option linter.all false
set_option maxRecDepth 100000
set_option maxHeartbeats 1000000
namespace L2
open PySem PySem.Spec PyProof.Rows
section
variable {P : Program} {w : World} {l : List Env} {H : Hp} {s s' : Shared} {E : XK} {e : Addr}
structure Fly (P : Program) (w : World) (l : List Env) (H : Hp) (s : Shared) (e : Addr) (cls a0 : Value) (od : Option Addr) (H' : Hp) (B : Heap) (s' : Shared) : Prop where
  os : s'.os = s.os
  bare : AllBare s'.gens
  un : Un (frs l) [] H H' s.heap s'.heap
  hok : HOk P w H' s'.heap
  no : H' e = none
  at_ : ∃ oe, s'.heap.get? e = some oe ∧ oe.dict = od
  fl : Heap.FlyingW B l e cls a0 s'.heap
  cov : ∀ b u, H' b = some u → ∃ o, B.get? b = some o
  olds : ∀ b o, s.heap.get? b = some o → b ∉ frs l → ∃ o', B.get? b = some o'
theorem CXR.fly {ev : Value} (h : CXR P w l H s E ev s') : ∃ e cls a0 od H' B, ev = .ref e ∧ Fly P w l H s e cls a0 od H' B s' ∧ E cls od H' := by
  obtain ⟨e, cls, a0, H', B, oe, rfl, os, bare, un, hok, hHe, he, fl, cov, olds, q⟩ := h
  exact ⟨e, cls, a0, oe.dict, H', B, rfl, ⟨os, bare, un, hok, hHe, ⟨oe, he, rfl⟩, fl, cov, olds⟩, q⟩
variable {cls a0 : Value} {od : Option Addr} {H' : Hp} {B : Heap}
theorem Fly.frame (f : Fly P w l H s e cls a0 od H' B s') {b : Addr} (hb : b ∈ frs l) {o : Obj} (ho : s'.heap.get? b = some o) : ∀ vs, o.data ≠ .fields vs := by
  obtain ⟨_, o', ho', hnf⟩ := f.fl.2.2.1.mem hb
  rw [ho] at ho'
  cases ho'
  exact hnf
theorem Fly.turn (f : Fly P w l H s e cls a0 od H' B s') {h' : Heap} {t' : Nat} (fl : Heap.FlyingW B l e cls a0 h') (ups : s'.heap.UpToSlots h') (hd : HD s'.heap h') : Fly P w l H s e cls a0 od H' B { s' with heap := h', toks := t' } := by
  have same : ∀ b o o', B.get? b = some o → s'.heap.get? b = some o' → h'.get? b = some o' := fun b o o' e1 e2 => by
    have := f.fl.1 b o e1
    rw [e2] at this
    cases this
    exact fl.1 b _ e1
  obtain ⟨oe, he, hdct⟩ := f.at_
  obtain ⟨oe', he', de, ce⟩ := hd e oe he
  refine ⟨f.os, f.bare, ⟨fun b o e1 n hb hx => ?_, fun b o e1 n hb hx => ?_, f.un.free, fun b o e1 hx => ?_, f.un.tups, f.un.frzs, f.un.tbls⟩, fun b u e1 => ?_, f.no, ⟨oe', he', de.trans hdct⟩, fl, f.cov, f.olds⟩
  · obtain ⟨o', eB⟩ := f.olds b o e1 hb
    exact same b o' o eB (f.un.keep b o e1 n hb hx)
  · obtain ⟨sl, e2⟩ := f.un.slot b o e1 n hb hx
    obtain ⟨sl', e3⟩ := ups b _ e2 (f.frame hb e2)
    exact ⟨sl', e3⟩
  · by_cases hb : b ∈ frs l
    · obtain ⟨o', e2⟩ := f.un.there b o e1 hx
      obtain ⟨sl, e3⟩ := ups b o' e2 (f.frame hb e2)
      exact ⟨_, e3⟩
    · obtain ⟨o', eB⟩ := f.olds b o e1 hb
      exact ⟨o', fl.1 b o' eB⟩
  · refine (f.hok b u e1).stay (fun c v hc e2 => ?_) (fun _ z => z) fun _ _ z => z
    have tr : ∃ o, B.get? c = some o := by
      rcases hc with z | z
      · rw [z]; exact f.cov b u e1
      · exact f.cov c _ z
    obtain ⟨o, eB⟩ := tr
    exact same c o v eB e2
theorem Fly.fresh (f : Fly P w l H s e cls a0 od H' B s') {b : Addr} {o : Obj} (e1 : s.heap.get? b = some o) : b ≠ e := fun z => by
  subst z
  by_cases hb : b ∈ frs l
  · obtain ⟨o', e2⟩ := f.un.there b o e1 (by simp)
    obtain ⟨oe, vs, he, _, hd, _⟩ := f.fl.first
    exact f.frame hb he vs hd
  · obtain ⟨o', eB⟩ := f.olds b o e1 hb
    rw [f.fl.2.1] at eB
    cases eB
end
noncomputable def XH (e : Addr) (cls : Value) (od : Option Addr) : HO := .ext fun h => ∃ o vs, h.get? e = some o ∧ o.cls = cls ∧ o.dict = od ∧ o.data = .fields vs
section
variable {X : Cx} {pins : List (Addr × Obj)} {σ : St} {H : Hp} {s s' : Shared} {e : Addr} {cls a0 : Value} {od : Option Addr} {H' : Hp} {B : Heap}
theorem Fly.inv (I : Inv X pins σ H s) (f : Fly X.prog X.w X.stack H s e cls a0 od H' B s') : Inv X pins σ H' s' := I.call' f.os f.un f.hok f.bare fun b z => absurd z (by simp)
theorem Fly.held (I : Inv X pins σ H s) (f : Fly X.prog X.w X.stack H s e cls a0 od H' B s') : Inv X pins σ (upd H' e (XH e cls od)) s' := by
  have ne : ∀ b u, H' b = some u → b ≠ e := fun b u q z => by rw [z, f.no] at q; cases q
  obtain ⟨oe, vs, he, hcl, hd, _⟩ := f.fl.first
  obtain ⟨oe', he', hdct⟩ := f.at_
  rw [he] at he'
  cases he'
  refine I.call' f.os ⟨f.un.keep, f.un.slot, fun b o e1 n hx => ?_, f.un.there, fun b xs q => ?_, fun b o u q => ?_, fun b ps q => ?_⟩ (fun b u q => ?_) f.bare fun b z => absurd z (by simp)
  · rw [upd_ne (f.fresh e1)]; exact f.un.free b o e1 n hx
  · have := f.un.tups b xs q; rw [upd_ne (ne b _ this)]; exact this
  · have := f.un.frzs b o u q; rw [upd_ne (ne b _ this)]; exact this
  · obtain ⟨more, this⟩ := f.un.tbls b ps q; exact ⟨more, by rw [upd_ne (ne b _ this)]; exact this⟩
  · by_cases hb : b = e
    · subst hb
      rw [upd_same] at q
      cases q
      exact ⟨⟨oe, vs, he, hcl, hdct, hd⟩, ⟨_, he⟩, fun h1 h2 ⟨o, vs, z, zz⟩ k => ⟨o, vs, k _ z, zz⟩⟩
    · rw [upd_ne hb] at q
      exact (f.hok b u q).stay (fun _ _ _ z => z) (fun c z => by rw [upd_ne (ne c _ z)]; exact z) fun c xs z => by rw [upd_ne (ne c _ z)]; exact z
end
end L2

set_option Elab.async false
set_option linter.all false
set_option maxRecDepth 100000
set_option maxHeartbeats 1000000
namespace L2
open PySem PySem.Spec PyProof.Rows
theorem HD.trans' {a b c : Heap} (x : HD a b) (y : HD b c) : HD a c := fun p o e => by
  obtain ⟨o1, e1, d1, c1⟩ := x p o e
  obtain ⟨o2, e2, d2, c2⟩ := y p o1 e1
  exact ⟨o2, e2, d2.trans d1, c2.trans c1⟩
noncomputable def Cx.inX (X : Cx) (e : Addr) : Cx := { X with A := X.A.mark (some (.ref e)), calm := false, xe := fun _ _ => False }
section
variable {X : Cx} {pins : List (Addr × Obj)} {σ : St} {H : Hp} {s s' : Shared} {e : Addr} {cls a0 : Value} {od : Option Addr} {H' : Hp} {B : Heap}
theorem Cx.Ok.inX (o : X.Ok) : (X.inX e).Ok := ⟨o.mod, o.kind, o.glob, o.blt, o.above, o.inj, o.has, o.cab, (fun z => by cases z), o.frames, o.stk, o.exf, o.bs, o.bsz, o.noex, o.exfs, o.funs, o.frf⟩
theorem Inv.inX (I : Inv X pins σ H s) : Inv (X.inX e) pins σ H s := ⟨I.ok.inX, I.os, I.bare, I.base, I.loc, I.cell, I.free, I.freeC, I.pin, I.hok, I.len⟩
theorem Inv.outX (ok : X.Ok) (I : Inv (X.inX e) pins σ H s) : Inv X pins σ H s := ⟨ok, I.os, I.bare, I.base, I.loc, I.cell, I.free, I.freeC, I.pin, I.hok, I.len⟩
theorem fly_note (Bd : Body X) (I : Inv X pins σ H s) (f : Fly X.prog X.w X.stack H s e cls a0 od H' B s') {hs : List ExceptHandler} {Q : Flow → Shared → Prop} {E : Value → Shared → Prop}
    (k : ∀ s'', Fly X.prog X.w X.stack H s e cls a0 od H' B s'' → wpAny (model X.prog X.w) X.A (handleBy (.ref e) X.env hs) Q E s'') :
    wpAny (model X.prog X.w) X.A (noteFrame (.ref e) X.env) (fun _ s₂ => wpAny (model X.prog X.w) X.A (setFlight (.ref e) none) (fun _ s₃ => wpAny (model X.prog X.w) X.A (handleBy (.ref e) X.env hs) Q E s₃) E s₂) E s' := by
  have hfr : X.A.frames = some (X.env :: X.outer) := by rw [I.ok.frames, Bd.stk]
  have fl' : Heap.FlyingW B (X.env :: X.outer) e cls a0 s'.heap := by rw [← Bd.stk]; exact f.fl
  have w1 := wpAny_looks_onW (M := model X.prog X.w) (A := X.A) (E := fun _ _ => False) (s := s') (Q := fun _ s'' => ∃ h', s'' = { s' with heap := h' } ∧ Heap.HeldW B (X.env :: X.outer) e cls a0 X.env.locals h' ∧ s'.heap.UpToSlots h') hfr Bd.fr fl' fun h' a b => ⟨h', rfl, a, b⟩
  refine wpAny_mono (wpAny_dk (dk_noteFrame (.ref e) X.env) w1) (fun _ s2 ⟨⟨h4, e4, held, u4⟩, hd4⟩ => ?_) fun _ _ z => z.1.elim
  subst e4
  have w2 := wpAny_landsW (M := model X.prog X.w) (A := X.A) (E := fun _ _ => False) (s := { s' with heap := h4 }) (Q := fun _ s'' => ∃ h', s'' = { s' with heap := h' } ∧ Heap.FlyingW B (X.env :: X.outer) e cls a0 h' ∧ h4.UpToSlots h') held fun h' a b => ⟨h', rfl, a, b⟩
  refine wpAny_mono (wpAny_dk (dk_setFlight (.ref e) none) w2) (fun _ s3 ⟨⟨h5, e5, fl5, u5⟩, hd5⟩ => ?_) fun _ _ z => z.1.elim
  subst e5
  exact k _ (f.turn (t' := s'.toks) (by rw [Bd.stk]; exact fl5) (u4.trans u5) (HD.trans' hd4 hd5))
theorem fly_again (f : Fly X.prog X.w X.stack H s e cls a0 od H' B s') {A : Around} {Q : Unit → Shared → Prop} {E : Value → Shared → Prop} (k : ∀ s'', Fly X.prog X.w X.stack H s e cls a0 od H' B s'' → Q () s'') : wpAny (model X.prog X.w) A (setFlight (.ref e) none) Q E s' := by
  have w2 := lands_againW (M := model X.prog X.w) (A := A) (E := fun _ _ => False) (s := s') (Q := fun _ s'' => ∃ h', s'' = { s' with heap := h' } ∧ Heap.FlyingW B X.stack e cls a0 h' ∧ s'.heap.UpToSlots h') f.fl fun h' a b => ⟨h', rfl, a, b⟩
  refine wpAny_mono (wpAny_dk (dk_setFlight (.ref e) none) w2) (fun _ s3 ⟨⟨h5, e5, fl5, u5⟩, hd5⟩ => ?_) fun _ _ z => z.1.elim
  subst e5
  exact k _ (f.turn (t' := s'.toks) fl5 u5 hd5)
theorem fly_test (I : Inv X pins σ H s) (f : Fly X.prog X.w X.stack H s e cls a0 od H' B s') {A : Around} {x : Str} {c : Value} {b : Bool} {np : Pos} {Q : Bool → Shared → Prop} {E E' : Value → Shared → Prop} (hg : Gl X x) (hm : X.mg x = some c) (hx : PySem.W.exmOne X.K cls c = some b) (q : Q b s') (hd : (x == ("__debug__" : Str)) = false := by decide) :
    wpAny (model X.prog X.w) A (eval (.Name x np) X.env) (fun c s₁ => wpAny (model X.prog X.w) A (excMatches (.ref e) c) Q E s₁) E' s' := by
  have I' := f.inv I
  refine Calls.Name_function_global I'.ok.kind hg (Calls.loadGlobal_global (by rw [I'.ok.glob]; exact I'.mod.glob.keeps I'.bk) hm ?_) hd
  obtain ⟨oe, vs, he, hcl, _, _⟩ := f.fl.first
  have LT : PySem.W.Looks (model X.prog X.w) s'.heap (typeOf (.ref e)) cls := hcl ▸ (PySem.W.Looks.ld he).andThen .now
  exact (PySem.W.exm_one I'.kIn LT hx).here q
end
noncomputable abbrev HR := Value → Option Addr → Addr → Ends → St → Hp → Prop
noncomputable def PH (X : Cx) (hs : List ExceptHandler) (r : HR) : Prop := ∀ (pins : List (Addr × Obj)) (H0 : Hp) (s0 : Shared) (σ : St) (e : Addr) (cls a0 : Value) (od : Option Addr) (H' : Hp) (B : Heap) (s' : Shared) (D : Ends), Inv X pins σ H0 s0 →
  Fly X.prog X.w X.stack H0 s0 e cls a0 od H' B s' → r cls od e D σ H' → wpAny (model X.prog X.w) X.A (handleBy (.ref e) X.env hs) (SP X pins D) X.xe s'
noncomputable def hOne (K : PySem.W.Frag) (c : Value) (ts : TS) (r : HR) : HR := fun cls od e D σ H => ∃ b, PySem.W.exmOne K cls c = some b ∧ if b = true then ts D σ H else r cls od e D σ H
noncomputable def hOneAs (K : PySem.W.Frag) (c : Value) (i : Nat) (ts : TS) (r : HR) : HR := fun cls od e D σ H => ∃ b, PySem.W.exmOne K cls c = some b ∧ if b = true then
  ts { nx := fun σ2 H2 => D.nx (σ2.set i none) H2, rt := D.rt, bk := fun σ2 H2 => D.bk (σ2.set i none) H2, ct := fun σ2 H2 => D.ct (σ2.set i none) H2 } (σ.set i (some (.ref e))) (upd H e (XH e cls od)) else r cls od e D σ H
noncomputable def hEnd : HR := fun _ _ _ _ _ _ => False
section
variable {X : Cx} {x : Str} {c : Value} {np pos : Pos} {b₀ : Stmt} {suite : List Stmt} {rest : List ExceptHandler} {ts : TS} {r : HR}
theorem ph_end : PH X [] hEnd := fun _ _ _ _ _ _ _ _ _ _ _ _ _ _ q => q.elim
theorem SP.outX {pins : List (Addr × Obj)} {D : Ends} {f : Flow} {s : Shared} {e : Addr} (ok : X.Ok) (h : SP (X.inX e) pins D f s) : SP X pins D f s := by
  cases f with
  | next => obtain ⟨σ', H', I, q⟩ := h; exact ⟨σ', H', I.outX ok, q⟩
  | brk => obtain ⟨σ', H', I, q⟩ := h; exact ⟨σ', H', I.outX ok, q⟩
  | cont => obtain ⟨σ', H', I, q⟩ := h; exact ⟨σ', H', I.outX ok, q⟩
  | ret u => obtain ⟨v, σ', H', I, q⟩ := h; exact ⟨v, σ', H', I.outX ok, q⟩
theorem ph_one (hg : Gl X x) (hm : X.mg x = some c) (hs : ∀ e, PSs (X.inX e) (b₀ :: suite) ts) (hr : PH X rest r) (hd : (x == ("__debug__" : Str)) = false := by decide) :
    PH X (.ExceptHandler (some (.Name x np)) none (b₀ :: suite) pos :: rest) (hOne X.K c ts r) := fun pins H0 s0 σ e cls a0 od H' B s' D I f q => by
  obtain ⟨b, hb, q⟩ := q
  refine wpAny_handleBy_cons (codeAny_handlers_test (fly_test I f hg hm hb ?_ hd)) (by intro q; cases q)
  cases b with
  | false =>
    rw [if_neg (by decide)] at q
    exact hr pins H0 s0 σ e cls a0 od H' B s' D I f q
  | true =>
    rw [if_pos rfl] at q
    refine codeAny_handlers_suite (fly_again f fun s'' f'' => ?_)
    exact wpAny_mono (hs e pins s'' σ H' D (f''.inv I).inX q) (fun fl s3 z => z.outX I.ok) fun _ _ z => z.elim
end
end L2

set_option Elab.async false
set_option linter.all false
set_option maxRecDepth 100000
set_option maxHeartbeats 1000000
namespace L2
open PySem PySem.Spec PyProof.Rows
section
variable {X : Cx} {pins : List (Addr × Obj)} {σ : St} {H : Hp} {s : Shared}
theorem name_goes {M : Model} {A : Around} {E : Value → Shared → Prop} {i : Nat} {x : Str} {pos : Pos} {Q : Unit → Shared → Prop} (I : Inv X pins σ H s) (hN : X.N.Nodup) (hi : X.N[i]? = some x) (hk : X.env.scope.names.lookup x = some .local)
    (h : ∀ s', Inv X pins (σ.set i none) H s' → Q () s') : wpAny M A (do bindName X.env x .none; unbindBehindTheSuite X.env x pos) Q E s := by
  obtain ⟨m, hn, hl⟩ := id I.loc
  have hcls : (X.env.scope.kind == .class || (X.env.scope.kind == .module && X.env.locals != X.env.globals)) = false := by rw [I.ok.kind]; rfl
  have hiσ : i < σ.length := by rw [I.len]; exact (List.getElem?_eq_some_iff.mp hi).1
  have cne := I.cne
  refine wpAny_nameGoes_keeps hk hn hcls fun h' v hn' hs => ?_
  have tracked : HOk X.prog X.w H h' := fun b ob e => by
    refine (I.hok b ob e).stay (fun c w' hc q => (hs.2 c ?_).trans q) (fun _ q => q) fun _ _ q => q
    rintro rfl
    rcases hc with z | hc
    · rw [← z, I.free] at e; cases e
    · rw [I.free] at hc; cases hc
  refine h _ ⟨I.ok, I.os, I.bare, ⟨fun b o e n hb hx => ?_, fun b o e n hb hx => ?_, I.base.free, fun b o e hx => ?_, I.base.tups, I.base.frzs, I.base.tbls⟩, ⟨_, hn', fun j y v' e1 e2 e3 => ?_⟩, fun y c e => ?_, I.free, I.freeC, fun p hp => ?_, tracked, by simpa using I.len⟩
  · exact (hs.2 b (Nat.ne_of_lt (Nat.lt_of_lt_of_le (Heap.lt_size e) I.ok.above))).trans (I.base.keep b o e n hb hx)
  · obtain ⟨sl, e1⟩ := I.base.slot b o e n hb hx
    exact ⟨sl, (hs.2 b (Nat.ne_of_lt (Nat.lt_of_lt_of_le (Heap.lt_size e) I.ok.above))).trans e1⟩
  · obtain ⟨o', e1⟩ := I.base.there b o e hx
    exact ⟨o', (hs.2 b (Nat.ne_of_lt (Nat.lt_of_lt_of_le (Heap.lt_size e) I.ok.above))).trans e1⟩
  · by_cases hj : j = i
    · subst hj
      rw [List.getElem?_set_self hiσ] at e2
      cases e2
    · rw [List.getElem?_set_ne (Ne.symm hj)] at e2
      obtain ⟨u', r', q⟩ := hl j y v' e1 e2 e3
      refine ⟨u', r', ?_⟩
      rcases q with ⟨k, e⟩ | ⟨k, c, e, z⟩
      · refine .inl ⟨k, ?_⟩
        have : y ≠ x := fun e => hj (nodup_ix hN e1 (e ▸ hi))
        simp [this, e]
      · exact .inr ⟨k, c, e, z.sameBut hs (cne y c e)⟩
  · obtain ⟨w', z⟩ := I.cell y c e
    exact ⟨w', z.sameBut hs (cne y c e)⟩
  · obtain ⟨e, n, ne, nf, d⟩ := I.pin p hp
    exact ⟨(hs.2 p.1 ne).trans e, n, ne, nf, d⟩
end
section
variable {X : Cx} {x n : Str} {c : Value} {np pos : Pos} {b₀ : Stmt} {suite : List Stmt} {rest : List ExceptHandler} {ts : TS} {r : HR} {i : Nat}
theorem ph_oneAs (hg : Gl X x) (hm : X.mg x = some c) (hN : X.N.Nodup) (hi : X.N[i]? = some n) (hk : X.env.scope.names.lookup n = some .local) (hs : ∀ e, PSs (X.inX e) (b₀ :: suite) ts) (hr : PH X rest r) (hd : (x == ("__debug__" : Str)) = false := by decide) :
    PH X (.ExceptHandler (some (.Name x np)) (some n) (b₀ :: suite) pos :: rest) (hOneAs X.K c i ts r) := fun pins H0 s0 σ e cls a0 od H' B s' D I f q => by
  obtain ⟨b, hb, q⟩ := q
  refine wpAny_handleBy_cons (codeAny_handlers_test (fly_test I f hg hm hb ?_ hd)) (by intro q; cases q)
  cases b with
  | false =>
    rw [if_neg (by decide)] at q
    exact hr pins H0 s0 σ e cls a0 od H' B s' D I f q
  | true =>
    rw [if_pos rfl] at q
    refine codeAny_handlers_suite_as (fly_again f fun s'' f'' => ?_)
    refine store_ok2 (f''.held I) hN hi (.inl hk) (v := .ref e) (u := .ref e) rfl (fun s3 I3 _ => ?_) (.inr hk)
    refine wpAny_mono (hs e pins s3 _ _ _ I3.inX q) (fun fl s4 z => ?_) fun _ _ z => z.elim
    have z := z.outX I.ok
    cases fl with
    | next => obtain ⟨σ2, H2, I4, q4⟩ := z; exact name_goes I4 hN hi hk fun s5 I5 => ⟨_, _, I5, q4⟩
    | brk => obtain ⟨σ2, H2, I4, q4⟩ := z; exact name_goes I4 hN hi hk fun s5 I5 => ⟨_, _, I5, q4⟩
    | cont => obtain ⟨σ2, H2, I4, q4⟩ := z; exact name_goes I4 hN hi hk fun s5 I5 => ⟨_, _, I5, q4⟩
    | ret u => obtain ⟨v, σ2, H2, I4, rv, q4⟩ := z; exact name_goes I4 hN hi hk fun s5 I5 => ⟨v, _, _, I5, rv, q4⟩
end
end L2

set_option Elab.async false
set_option linter.all false
set_option maxRecDepth 100000
set_option maxHeartbeats 1000000
namespace L2
open PySem PySem.Spec PyProof.Rows
noncomputable abbrev SpS := Shared → List Env → List V → Hp → VK → XK → Prop
structure FnOkS (P : Program) (w : World) (K : PySem.W.Frag) (mg : Str → Option Value) (base : Heap) (CX : CXT) (k : Nat) (f : Addr) (fd : FuncData) (ps : List Str) (sp : SpS) : Prop where
  len : ∀ s o vs H Q E, sp s o vs H Q E → vs.length = ps.length
  run : ∀ (A : Around) (outer : List Env) (s : Shared) (H : Hp) (args : Args) (us : List Value) (vs : List V) (Q : VK) (E : XK), Room k A → Env0 P w K mg base A outer s H → BindsTo s fd args (ps.zip us) → Vals vs us → sp s outer vs H Q E →
    codeAny (model P w) A (.call (.ref f) args) (CR CX outer P w H s Q E) s
theorem fn_ofS {CX : CXT} {P : Program} {w : World} {K : PySem.W.Frag} {mg : Str → Option Value} {base : Heap} {k : Nat} {f : Addr} {name qual : Str} {params : Arguments} {body : List Stmt} {scope : Scope} {dV kV doc pm cdv ct oc : Value} {an od : Option Addr}
    {osl : Array (Option Value)} {N ps : List Str} {sp : SpS} (lk : K.lookup f = some ⟨oc, od, .func (PySem.W.fnOf name qual params body scope dV kV doc pm an cdv ct), osl⟩) (hcd : PySem.W.codeIn K cdv qual = true) (S : FnScope N ps scope)
    (len : ∀ s o vs H Q E, sp s o vs H Q E → vs.length = ps.length)
    (hbody : ∀ (A : Around) (outer : List Env) (s : Shared) (H : Hp) (vs : List V) (Q : VK) (E : XK), A.frames = some outer → Room k (A.deeper (envOfC qual scope s.heap.objs.size f cdv)) → sp s outer vs H Q E →
      ∃ t, PSs (cxOf CX P w K mg base N qual scope f cdv A outer s H E) body t ∧ t { nx := fun _ H' => Q .non H', rt := Q } (start N vs) H) :
    FnOkS P w K mg base CX (k + 1) f (PySem.W.fnOf name qual params body scope dV kV doc pm an cdv ct) ps sp := by
  refine ⟨len, fun A outer s H args us vs Q E hr e0 hb r hsp => ?_⟩
  have kp : ∀ b o, base.get? b = some o → s.heap.get? b = some o := fun b o e => (e0.bs b o e).1
  have KX : K.In s.heap := e0.mod.kin.keeps kp
  refine codeAny_call_function hr.depth (KX _ _ lk) rfl S.co S.gen rfl (PySem.W.codeRec_of KX hcd) (hb _ _ _ _ (wpAny_newFunctionEnv_cells S.kind (fun ⟨n, v⟩ hy => ?_) fun env he s1 x => ?_))
  · exact (S.par n (List.of_mem_zip hy).1).imp (fun q => q) fun q => ⟨q, PySem.W.cellsFrom_some _ _ _ (.inl q)⟩
  · subst he
    obtain ⟨t, ht, hq⟩ := hbody A outer s H vs Q E e0.frames (hr.deeper _) hsp
    have I : Inv (cxOf CX P w K mg base N qual scope f cdv A outer s H E) [] (start N vs) H s1 := inv_start S hr.hd e0 (len _ _ _ _ _ _ hsp) r x
    refine ⟨(e0.mod.nolimit.keeps kp).keeps x.toInCall.keep, codeAny_func (wpAny_mono (ht [] s1 (start N vs) H _ I hq) (fun fl s' hs => ?_) fun _ _ hs => hs)⟩
    cases fl with
    | ret u => obtain ⟨v, σ', H', J, rv, q⟩ := hs; exact ⟨v, H', J.os, J.bare, J.base, J.hok, rv, q⟩
    | next => obtain ⟨σ', H', J, q⟩ := hs; exact ⟨.non, H', J.os, J.bare, J.base, J.hok, rfl, q⟩
    | brk => obtain ⟨_, _, _, q⟩ := hs; exact q.elim
    | cont => obtain ⟨_, _, _, q⟩ := hs; exact q.elim
end L2

set_option Elab.async false
set_option linter.all false
set_option maxRecDepth 100000
set_option maxHeartbeats 1000000
namespace L2
open PySem PySem.Spec PyProof.Rows
theorem passN {P : Program} {w : World} {X : Cx} : Passes (CXR P w) X E0 := fun _ _ _ _ _ _ _ h => by
  obtain ⟨_, _, _, _, _, _, _, _, _, _, _, _, _, _, _, _, q⟩ := h
  exact q.elim
noncomputable def FnAtX (P : Program) (w : World) (K : PySem.W.Frag) (mg : Str → Option Value) (base : Heap) (x : Str) (k : Nat) (ps : List Str) (sp : Sp) : Prop :=
  ∃ f fd, FnOk P w K mg base (CXR P w) k f fd ps sp ∧ mg x = some (.ref f) ∧ PySem.W.keepIn K (.ref f) = true ∧ Binds K fd ps []
section
variable {X : Cx} {x : Str} {j k : Nat} {ps : List Str} {sp : Sp} {t : TA} {e : Expr} {es : List Expr} {p pos : Pos}
theorem pe_fnX {E : XK} (F : FnAtX X.prog X.w X.K X.mg X.base x j ps sp) (hr : Room k X.A) (hg : Gl X x) (hx : Passes (CXR X.prog X.w) X E) (ha : PA X (e :: es) t) (hj : j ≤ k := by decide) (hdb : (x == ("__debug__" : Str)) = false := by decide)
    (he : starEach (e :: es) X.env = (false, eval e X.env) :: starEach es X.env := by rfl) (hpl : (backTo pos (starEach es X.env)).any (·.1) = false := by rfl) :
    PE X (.Call (.Name x p) (e :: es) [] pos) (tCall sp [] E t) := by
  obtain ⟨f, fd, G, hm, hk, hb⟩ := F
  exact pe_call (hdb := hdb) (he := he) (hpl := hpl) G (hr.mono hj) hg hm hk hb .nil hx ha
end
noncomputable def Cx.withE (X : Cx) (E : Value → Shared → Prop) : Cx := { X with xe := E }
theorem Inv.withE {X : Cx} {pins : List (Addr × Obj)} {σ : St} {H : Hp} {s : Shared} {E : Value → Shared → Prop} (I : Inv X pins σ H s) : Inv (X.withE E) pins σ H s :=
  ⟨⟨I.ok.mod, I.ok.kind, I.ok.glob, I.ok.blt, I.ok.above, I.ok.inj, I.ok.has, I.ok.cab, I.ok.hd, I.ok.frames, I.ok.stk, I.ok.exf, I.ok.bs, I.ok.bsz, I.ok.noex, I.ok.exfs, I.ok.funs, I.ok.frf⟩, I.os, I.bare, I.base, I.loc, I.cell, I.free, I.freeC, I.pin, I.hok, I.len⟩
theorem Inv.noE {X : Cx} {pins : List (Addr × Obj)} {σ : St} {H : Hp} {s : Shared} {E : Value → Shared → Prop} (ok : X.Ok) (I : Inv (X.withE E) pins σ H s) : Inv X pins σ H s :=
  ⟨ok, I.os, I.bare, I.base, I.loc, I.cell, I.free, I.freeC, I.pin, I.hok, I.len⟩
end L2

set_option Elab.async false
set_option linter.all false
set_option maxRecDepth 100000
set_option maxHeartbeats 1000000
namespace L2
open PySem PySem.Spec PyProof.Rows
section
variable {X : Cx}
end
end L2

set_option Elab.async false
set_option linter.all false
set_option maxRecDepth 100000
set_option maxHeartbeats 1000000
namespace L2
open PySem PySem.Spec PyProof.Rows
end L2

set_option Elab.async false
set_option linter.all false
set_option maxRecDepth 100000
set_option maxHeartbeats 1000000
namespace L2
open PySem PySem.Spec PyProof.Rows
section
variable {prog : Program} {w : World} {A : Around} {E : Value → Shared → Prop} {s : Shared} {K : PySem.W.Frag} {x C : Addr} {ox : Obj} {od : Option Obj} {name : Str} {expr : Bool} {Q : Value → Shared → Prop}
theorem get_exc {v : Value} (X : K.In s.heap) (I : PySem.W.InstAt s.heap x ox C od) (hga : PySem.W.findIn K (.ref C) "__getattribute__" = some (some (.builtin "BaseException.__getattribute__"))) (hk : PySem.W.findIn K (.ref C) "__getattr__" = some none)
    (hs : PySem.W.subIn K (.ref C) (.type "BaseException") = some true) (hf : PySem.W.findObj K C od name = some (.value v)) (hh : PySem.W.handedIn v = true) (h : Q v { s with toks := s.toks + 1 }) : wpAny (model prog w) A (getAttr (.ref x) name expr) Q E s := by
  have FB := PySem.F.attrBase_ValueError
  have L0 := I.type (M := model prog w)
  have L1 := PySem.W.looks_find (M := model prog w) X I hf
  have ht : PySem.W.Looks (model prog w) s.heap (isInstance (.ref x) (.type "BaseException")) true := L0.andThen (PySem.W.looks_subIn X hs)
  have hook : PySem.W.Looks (model prog w) s.heap (hookBefore (.ref C)) none := PySem.W.looks_hook X (by rw [if_pos (show onTheHeap (Value.ref C) = true from rfl)]; exact hk)
  obtain ⟨hh', g, d, t, os⟩ := s
  refine wpAny_bind (wpAny_mkText (wpAny_holding (wpAny_bind (L0.at (wpAny_bind ((PySem.W.looks_findIn X hga).at ?_))))))
  dsimp only
  rw [show (onTheHeap (Value.ref C) && Value.builtin "BaseException.__getattribute__" == Value.builtin "object.__getattribute__") = false from by rw [show (Value.builtin "BaseException.__getattribute__" == Value.builtin "object.__getattribute__") = false from by decide +kernel, Bool.and_false], if_neg (by decide)]
  refine wpAny_bind (hook.at (wpAny_bind (wpAny_attempt (wpAny_holding ?_))))
  unfold callGetattribute
  rw [show (expr && onTheHeap (Value.builtin "BaseException.__getattribute__")) = false from Bool.and_false _, if_neg (by decide)]
  unfold boundAndCalled
  rw [FB.ga.bind]
  refine wpAny_bind (wpAny_pure ?_)
  show wpAny _ _ (call (.builtin "BaseException.__getattribute__") [.ref x, .str name t]) _ _ _
  refine wpAny_call ?_
  refine codeAny_call_builtin FB.ga.plain PySem.F.entry_bexc_ga ?_
  refine @PySem.W.check_slot (model prog w) _ _ ⟨hh', g, d, t + 1, os⟩ "BaseException.__getattribute__" "BaseException" "__getattribute__" (.ref x) [.str name t] [] _ (by decide +kernel) (by decide +kernel) ht (PySem.F.args_bexc_ga (.ref x) (.str name t)) ?_
  refine wpAny_bind (wpAny_pure (wpAny_bind (wpAny_pure (wpAny_bind (L0.at (wpAny_bind (L1.at ?_)))))))
  refine wpAny_pure ?_
  show wpAny _ _ (handedOut v) _ _ _
  rw [PySem.W.handedOut_of hh]
  exact wpAny_pure h
end
structure XGetE (K : PySem.W.Frag) (C : Addr) (f : Str) : Prop where
  ga : PySem.W.findIn K (.ref C) "__getattribute__" = some (some (.builtin "BaseException.__getattribute__"))
  hook : PySem.W.findIn K (.ref C) "__getattr__" = some none
  sub : PySem.W.subIn K (.ref C) (.type "BaseException") = some true
  hd : PySem.W.hasDictIn K C = true
  free : PySem.W.findIn K (.ref C) f = some none
noncomputable def tXatE (K : PySem.W.Frag) (ta : TE) (f : Str) : TE := fun σ H Q => ta σ H fun x H1 => ∃ a C dx fs v, x = .ref a ∧ H1 a = some (XH a (.ref C) (some dx)) ∧ H1 dx = some (.xd fs) ∧ XGetE K C f ∧ fs.lookup f = some v ∧ Q v H1
theorem pe_xatE {X : Cx} {e : Expr} {ta : TE} {f : Str} {pos : Pos} (he : PE X e ta) (hb : attributeBase e f X.env (eval e X.env) = eval e X.env) : PE X (.Attribute e f pos) (tXatE X.K ta f) := by
  intro pins s σ H Q I h
  refine attr_of hb (thn (he pins s σ H _ I h) fun u s1 ⟨x, H1, I1, rx, a, C, dx, fs, v, ex, ea, ed, G, l, q⟩ => ?_)
  subst ex
  obtain rfl : u = Value.ref a := rx
  obtain ⟨⟨o, vs, ho, hcl, hdct, hdat⟩, _⟩ := I1.hok a _ ea
  obtain ⟨mA, hns, rel⟩ := I1.hok dx _ ed
  obtain ⟨od, hod, hl⟩ := lookIn_ns hns
  obtain ⟨u, hu, ru⟩ := RelO.some_of (v := v) (o := mA f) (by rw [← l]; exact rel f)
  have J : PySem.W.InstAt s1.heap a o C (some od) := ⟨ho, hcl, by unfold PySem.W.notCls; rw [hdat], by rw [hdct]; exact hod⟩
  exact get_exc I1.kIn J G.ga G.hook G.sub (PySem.W.findObj_own G.hd G.free rfl (by rw [hl, hu])) (handed_of ru) ⟨v, H1, I1.tok _, ru, q⟩
end L2

set_option Elab.async false
set_option linter.all false
set_option maxRecDepth 100000
set_option maxHeartbeats 1000000
namespace L2
open PySem PySem.Spec PyProof.Rows
section
variable {P : Program} {w : World} {K : PySem.W.Frag} {mg : Str → Option Value} {base : Heap}
theorem Fun.okX {x qual : Str} {st : Stmt} {f : Addr} {fd : FuncData} {N ps : List Str} {k : Nat} {sp : Sp} (F : Fun K x qual st f fd) (S : FnScope N ps (defScope st)) (len : ∀ vs H Q E, sp vs H Q E → vs.length = ps.length)
    (hbody : ∀ (cdv : Value) (A : Around) (outer : List Env) (s : Shared) (H : Hp) (vs : List V) (Q : VK) (E : XK), A.frames = some outer → Room k (A.deeper (envOfC qual (defScope st) s.heap.objs.size f cdv)) → sp vs H Q E →
      ∃ t, PSs (cxOf (CXR P w) P w K mg base N qual (defScope st) f cdv A outer s H E) (defBody st) t ∧ t { nx := fun _ H' => Q .non H', rt := Q } (start N vs) H) : FnOk P w K mg base (CXR P w) (k + 1) f fd ps sp := by
  obtain ⟨oc, od, kV, doc, pm, an, cdv, ct, osl, rfl, lk, hcd⟩ := F.ex
  have G := fn_ofS (CX := CXR P w) (P := P) (w := w) (mg := mg) (base := base) (k := k) (sp := fun _ _ vs H Q E => sp vs H Q E) lk hcd S (fun _ _ vs H Q E h => len vs H Q E h) fun A outer s H vs Q E hfr hr hsp => hbody cdv A outer s H vs Q E hfr hr hsp
  exact ⟨len, G.run⟩
end
end L2

set_option Elab.async false
set_option linter.all false
set_option maxRecDepth 100000
set_option maxHeartbeats 1000000
namespace L2
open PySem PySem.Spec PyProof.Rows
open Sem (wp)
open Builtin Builtin.ObjectAttr
section
variable {prog : Program} {w : World} {A : Around} {E : Value → Shared → Prop} {h : Heap} {g : Array GenState} {d : Drawn} {t : Nat} {os : OsState} {K : PySem.W.Frag} {C e : Addr} {name : Str} {v : Value} {vs : Array Value}
theorem store_exc2 {Q : Unit → Shared → Prop} {dx : Addr} {mA : Str → Option Value} {ns : List Str} (X : K.In h) (S : XStore K C name) (hx : h.get? e = some { cls := .ref C, dict := some dx, data := .fields vs }) (hn : h.Ns1 dx mA) (ne : e ≠ dx)
    (hw : Within mA ns) (hsz : ns.length ≤ 1000)
    (hq : ∀ h' tk', Heap.SameBut dx h h' → h'.Ns1 dx (fun y => if y = name then some v else mA y) → Q () ⟨h', g, d, tk', os⟩) :
    wpAny (model prog w) A (setAttr (.ref e) name v) Q E ⟨h, g, d, t, os⟩ := by
  obtain ⟨⟨cd, bm, hc, hm, href, hob, hdct⟩, hs, hfree⟩ := S
  have SF := PySem.F.store_ValueError
  obtain ⟨oD0, esD0, epD0, hoD0, hdD0, hcD0⟩ := hn.count hw
  have I : PySem.W.InstAt h e { cls := .ref C, dict := some dx, data := .fields vs } C (some oD0) := ⟨hx, rfl, rfl, hoD0⟩
  have hmro : PySem.W.Looks (model prog w) h (mroOf (.ref C)) cd.mro := (PySem.W.looks_clsIn X hc).andThen .now
  have hsub : PySem.W.Looks (model prog w) h (isInstance (.ref e) (.type "object")) true := I.type.andThen (PySem.W.looks_mroIn X (by
    unfold PySem.W.mroIn
    rw [hc, Option.bind_some, hm, if_neg (by simp), List.contains_cons, hob, Bool.or_true]))
  refine PySem.W.set_plain (s := ⟨h, g, d, t, os⟩) X I hs ?_
  refine codeAny_call_builtin SF.slot.plain SF.entry (@PySem.W.check_slot (model prog w) _ _ _ "object.__setattr__" "object" "__setattr__" (.ref e) [.str name t, v] [] _ SF.kind SF.split hsub (SF.args (.ref e) (.str name t) v) ?_)
  rw [PySem.W.osa_eq, refuse_eq]
  refine wpAny_bind (wpAny_bind (I.type.at (wpAny_bind (hmro.at ?_))))
  rw [hm, refuseLoop_ref, href]
  refine wpAny_pure (wpAny_bind (I.type.at (wpAny_bind ((PySem.W.looks_findIn X hfree).at (wpAny_bind ?_)))))
  refine wpAny_pure ?_
  dsimp only
  refine wpAny_bind (wpAny_pure (wpAny_bind (wpAny_bind (wpAny_loadPart hx (wpAny_bind ((PySem.W.looks_clsIn X hc).at ?_))))))
  rw [hdct]
  refine wpAny_pure (a := some dx) (wpAny_bind (wpAny_pure (wpAny_bind ?_)))
  refine wpAny_nsSet1 hn fun h' hn' hs => ?_
  obtain ⟨oD, esD, epD, hoD, hdD, hcD⟩ := hn'.count (Within.cons name v hw)
  refine wpAny_bind (wpAny_lookBehind hoD (by rw [hdD]; exact pastItsLine_dict (Nat.le_trans hcD (by rw [List.length_cons, sizeLine_eq]; omega))) ?_)
  exact wpAny_pure (hq h' _ hs hn')
end
section
variable {X : Cx} {pins : List (Addr × Obj)} {σ : St} {H : Hp} {s : Shared} {h' : Heap} {dx : Addr}
theorem Inv.xdPut (I : Inv X pins σ H s) {t' : Nat} {fs fs' : List (Str × V)} (hx : H dx = some (.xd fs)) (k : ∀ b o, b ≠ dx → s.heap.get? b = some o → h'.get? b = some o) (hd : ∃ mA, h'.Ns1 dx mA ∧ ∀ f, RelO (fs'.lookup f) (mA f)) :
    Inv X pins σ (upd H dx (.xd fs')) { s with heap := h', toks := t' } := by
  have ne : ∀ b u, H b = some u → (∀ ψ, u ≠ .xd ψ) → b ≠ dx := fun b u q n z => by rw [z, hx] at q; cases q; exact n _ rfl
  have nb : ∀ b, H b = none → b ≠ dx := fun b q z => by rw [z, hx] at q; cases q
  have up : ∀ b u, H b = some u → (∀ ψ, u ≠ .xd ψ) → upd H dx (.xd fs') b = some u := fun b u q n => by rw [upd_ne (ne b u q n)]; exact q
  have th : ∃ u, h'.get? dx = some u := by
    obtain ⟨mA, ⟨o, es, ep, e, _⟩, _⟩ := hd
    exact ⟨o, e⟩
  have un : Un X.fs [] H (upd H dx (.xd fs')) s.heap h' := ⟨fun b o q n _ _ => k b o (nb b n) q, fun b o q n _ _ => ⟨o.slots, k b o (nb b n) q⟩, fun b o q n _ => by rw [upd_ne (nb b n)]; exact n,
    fun b o q _ => by
      by_cases hb : b = dx
      · rw [hb]; exact th
      · exact ⟨o, k b o hb q⟩,
    fun b xs q => up b _ q (fun _ z => by cases z), fun b o u q => up b _ q (fun _ z => by cases z), fun b ps q => ⟨#[], by rw [up b _ q (fun _ z => by cases z)]; simp⟩⟩
  exact I.un (t' := t') un fun b u q => by
    by_cases hb : b = dx
    · subst hb; rw [upd_same] at q; cases q; exact hd
    · rw [upd_ne hb] at q
      refine (I.hok b u q).stay (fun c v hcv z => k c v (fun z' => ?_) z) (fun c z => up c _ z fun _ z => by cases z) fun c xs z => up c _ z fun _ z => by cases z
      subst z'
      rcases hcv with z1 | z1
      · exact hb z1.symm
      · rw [hx] at z1; cases z1
theorem within_of {mA : Str → Option Value} : ∀ {fs : List (Str × V)}, (∀ f, RelO (fs.lookup f) (mA f)) → Within mA (fs.map (·.1)) := by
  intro fs r y hy
  have := r y
  cases q : fs.lookup y with
  | none => rw [q] at this; exact absurd this.none_of hy
  | some v =>
    clear this r hy
    induction fs with
    | nil => cases q
    | cons p r ih =>
      obtain ⟨a, b⟩ := p
      rw [List.lookup_cons] at q
      by_cases h : (y == a) = true
      · rw [beq_iff_eq] at h; subst h; simp
      · rw [Bool.not_eq_true] at h; rw [h] at q; exact List.mem_cons_of_mem _ (ih q)
end
section
variable {X : Cx}
noncomputable def sXat2 (K : PySem.W.Frag) (ta tv : TE) (f : Str) : TS := fun D σ H => tv σ H fun y H1 => ta σ H1 fun x H2 => ∃ a C dx fs, x = .ref a ∧ H2 a = some (XO C a (some dx)) ∧ H2 dx = some (.xd fs) ∧ fs.length ≤ 1000 ∧ XStore K C f ∧
  D.nx σ (upd H2 dx (.xd ((f, y) :: fs)))
theorem ps_xat2 {o value : Expr} {f : Str} {ta tv : TE} {pos pos' : Pos} (ha : PE X o ta) (hv : PE X value tv) (hs : swapsWith value (some (.Attribute o f pos')) pos.line X.env = pure false) : PS X (.Assign [.Attribute o f pos'] value pos) (sXat2 X.K ta tv f) := by
  intro pins s σ H D I h
  refine plainObj_wpAny_Assign_Attribute (thn (hv pins s σ H _ I h) fun u s1 ⟨y, H1, I1, ry, q⟩ => thn (ha pins s1 σ H1 _ I1 q) fun ov s2 ⟨x, H2, I2, rx, a, C, dx, fs, ex, ea, ed, hl, S, q2⟩ => ?_) hs
  subst ex
  obtain rfl : ov = Value.ref a := rx
  obtain ⟨⟨t0, ho⟩, _⟩ := I2.hok a _ ea
  obtain ⟨mA, hns, hrel⟩ := I2.hok dx _ ed
  have ne : a ≠ dx := fun z => by rw [z, ed] at ea; cases ea
  refine store_exc2 I2.kIn S ho hns ne (within_of hrel) (by rw [List.length_map]; exact hl) fun h' tk' sb hns' => ?_
  refine ⟨σ, _, I2.xdPut (t' := tk') (fs' := (f, y) :: fs) ed (fun b o n z => (sb.2 b n).trans z) ⟨_, hns', fun g => ?_⟩, q2⟩
  by_cases hg : g = f
  · subst hg
    rw [List.lookup_cons_self, if_pos rfl]
    exact ry
  · have hgf : (g == f) = false := by simpa using hg
    rw [List.lookup_cons, hgf, if_neg hg]
    exact hrel g
structure OInit (K : PySem.W.Frag) (D fB : Addr) : Prop where
  ga : PySem.W.specialIn K (.ref D) "__getattribute__" = some (some (.builtin "type.__getattribute__"))
  reads : PySem.W.readsIn K D (.type "type") = true
  find : PySem.W.findCls K (.ref D) (.type "type") "__init__" = some (.val (.ref fB))
  keep : PySem.W.keepIn K (.ref fB) = true
theorem pe_oinit {CX : CXT} {k : Nat} {D fB : Addr} {fd : FuncData} {ps : List Str} {sp : Sp} {E : XK} {x : Str} {e : Expr} {es : List Expr} {t : TA} {np apos pos : Pos} {pl : Sem Bool} (B : OInit X.K D fB) (F : FnOk X.prog X.w X.K X.mg X.base CX k fB fd ps sp) (hr : Room k X.A) (hb : Binds X.K fd ps []) (hx : Passes CX X E)
    (hg : Gl X x) (hm : X.mg x = some (.ref D)) (ha : PA X (e :: es) t) (hdb : (x == ("__debug__" : Str)) = false := by decide)
    (hst : starEach (e :: es) X.env = (false, eval e X.env) :: starEach es X.env := by rfl) (hpl : (backTo pos (starEach es X.env)).any (·.1) = false := by rfl)
    (ht : eval (.Call (.Attribute (.Name x np) "__init__" apos) (e :: es) [] pos) X.env = (do
      let ov ← eval (.Name x np) X.env
      standAt apos.atName
      let (f, first) ← holding [ov] (getMethod ov "__init__" pl)
      callWith pos f first (backTo pos (starEach (e :: es) X.env)) (backToKw pos (keywordEach [] X.env))) := by rfl) :
    PE X (.Call (.Attribute (.Name x np) "__init__" apos) (e :: es) [] pos) (tCall sp [] E t) := by
  intro pins s σ H Q I h
  refine PySem.W.methodCall_KW (pl := pl) (ld_glob I hg hm ?_ hdb) ht
  refine PySem.W.method_cls I.kIn B.ga (PySem.W.cls_value I.kIn B.reads B.find rfl ?_)
  refine PySem.W.callWith_K (h₀ := X.base) I.ok.mod.kin B.keep (thn (ha pos pins { s with toks := s.toks + 1 } σ H _ (I.tok _) h) fun us s1 ⟨vs, H1, I1, r, q⟩ => ⟨I1.kIn, ?_⟩) hst hpl
  exact run_fn F hr hb .nil hx I1 r q
theorem find_VE (K : PySem.W.Frag) : PySem.W.findCls K (.type "ValueError") (.type "type") "__init__" = some (.val (.builtin "ValueError.__init__")) := by kernel_rfl
theorem method_typeX {prog : Program} {w : World} {A : Around} {E : Value → Shared → Prop} {s : Shared} {K : PySem.W.Frag} {name : Str} {v : Value} {T : String} {pl : Sem Bool} {Q : Value × List Value → Shared → Prop} (X : K.In s.heap) (ht : typeOf (.type T) = pure (.type "type")) (hs : Manifest.isStub T = false)
    (e : PySem.W.findCls K (.type T) (.type "type") name = some (.val v)) (hh : PySem.W.handedIn v = true) (h : Q (v, []) { s with toks := s.toks + 1 }) : wpAny (model prog w) A (getMethod (.type T) name pl) Q E s := by
  have hstub : opaqueClassAbove (.type T) = pure none := by unfold opaqueClassAbove; dsimp only; rw [hs]; rfl
  have L0 : PySem.W.Looks (model prog w) s.heap (typeOf (.type T)) (.type "type") := PySem.W.Looks.of_pure ht
  have hg : PySem.W.findIn K (.type "type") "__getattribute__" = some (some (.builtin "type.__getattribute__")) := PySem.W.type_tga
  unfold getMethod specialOf
  refine wpAny_bind (wpAny_bind (L0.here ((PySem.W.looks_findIn X hg).here ?_)))
  dsimp only
  rw [if_pos PySem.W.canon_tga]
  refine wpAny_bind (wpAny_mono (Q := fun v => Q (v, [])) (E := E) ?_ (fun _ _ z => wpAny_pure z) fun _ _ z => z)
  have LO : PySem.W.Looks (model prog w) s.heap (opaqueClassAbove (.type T)) none := PySem.W.Looks.of_pure hstub
  refine PySem.W.cls_open X LO L0 hg (PySem.W.looks_hook X (r := none) (by rfl)) (by show PySem.W.subIn K _ _ = _; rfl) e
    (wpAny_pure (by show wpAny _ _ (handedOut v) _ _ _; rw [PySem.W.handedOut_of hh]; exact wpAny_pure h))
theorem pe_vinit {e : Expr} {es : List Expr} {t : TA} {np apos pos : Pos} {pl : Sem Bool} (hg : Gl X "ValueError") (hm : X.mg "ValueError" = none) (ha : PA X (e :: es) t)
    (hst : starEach (e :: es) X.env = (false, eval e X.env) :: starEach es X.env := by rfl) (hpl : (backTo pos (starEach es X.env)).any (·.1) = false := by rfl)
    (ht : eval (.Call (.Attribute (.Name "ValueError" np) "__init__" apos) (e :: es) [] pos) X.env = (do
      let ov ← eval (.Name "ValueError" np) X.env
      standAt apos.atName
      let (f, first) ← holding [ov] (getMethod ov "__init__" pl)
      callWith pos f first (backTo pos (starEach (e :: es) X.env)) (backToKw pos (keywordEach [] X.env))) := by rfl) :
    PE X (.Call (.Attribute (.Name "ValueError" np) "__init__" apos) (e :: es) [] pos) (tBInit X.K t) := by
  intro pins s σ H Q I h
  refine PySem.W.methodCall_KW (pl := pl) (ld_blt I hg hm (u := .type "ValueError") (by kernel_rfl) ?_) ht
  refine method_typeX I.kIn (by kernel_rfl) (by decide +kernel) (find_VE X.K) (by decide +kernel) ?_
  have hplain : (backTo pos (starEach (e :: es) X.env)).any (·.1) = false := by
    rw [hst]
    show (false || (backTo pos (starEach es X.env)).any (·.1)) = false
    rw [hpl]
    rfl
  refine Calls.callWith_builtin hplain ?_
  have sp := ha pos pins { s with toks := s.toks + 1 } σ H _ (I.tok _) h
  rw [hst] at sp ⊢
  refine Calls.evalArgs_plain (thn sp fun us s2 ⟨vs, H2, I2, r, a, C, i, od, rest, ev, hz, hx, hC, q⟩ => ?_)
  subst ev
  cases r with
  | cons r0 rr =>
    rename_i u us _
    obtain rfl : u = Value.ref a := r0
    obtain ⟨bm, N, nm, qn, bs, hdct, sn, sub, ab, col, dd, k0, k1, k2, k3, k5, mN, hC', hN, hni, T⟩ := hC s2.heap I2.kIn
    obtain ⟨⟨t0, ho⟩, _⟩ := I2.hok a _ hx
    refine call_binit (hrest := by have := rr.length; show us.length ≤ _; omega) PySem.F.excBase_ValueError T hC' ho fun h' t1 k he' => ?_
    refine ⟨.non, H2, ?_, rfl, q⟩
    have := I2.write (x := a) (e := a) (o := XO C a od) (t' := s2.toks) (by rw [hx]; exact True.intro) (.inl rfl) k ⟨_, he'⟩ (XO.mk he')
    rwa [show upd H2 a (XO C a od) = H2 from by funext b; unfold upd; split <;> simp_all] at this
end
structure FunD (K : PySem.W.Frag) (x qual : Str) (st : Stmt) (f : Addr) (fd : FuncData) : Prop where
  ex : ∃ (oc : Value) (od : Option Addr) (dV kV doc pm : Value) (an : Option Addr) (cdv ct : Value) (osl : Array (Option Value)),
    fd = PySem.W.fnOf x qual (defArgs st) (defBody st) (defScope st) dV kV doc pm an cdv ct ∧ K.lookup f = some ⟨oc, od, .func fd, osl⟩ ∧ PySem.W.codeIn K cdv qual = true
  kp : PySem.W.keepIn K (.ref f) = true
section
variable {P : Program} {w : World} {K : PySem.W.Frag} {mg : Str → Option Value} {base : Heap}
theorem FunD.ok {x qual : Str} {st : Stmt} {f : Addr} {fd : FuncData} {N ps : List Str} {k : Nat} {sp : Sp} (F : FunD K x qual st f fd) (S : FnScope N ps (defScope st)) (len : ∀ vs H Q E, sp vs H Q E → vs.length = ps.length)
    (hbody : ∀ (cdv : Value) (A : Around) (outer : List Env) (s : Shared) (H : Hp) (vs : List V) (Q : VK) (E : XK), Room k (A.deeper (envOfC qual (defScope st) s.heap.objs.size f cdv)) → sp vs H Q E →
      ∃ t, PSs (cxOf CX0 P w K mg base N qual (defScope st) f cdv A outer s H E).nox (defBody st) t ∧ t { nx := fun _ H' => Q .non H', rt := Q } (start N vs) H) : FnOk P w K mg base CX0 (k + 1) f fd ps sp := by
  obtain ⟨oc, od, dV, kV, doc, pm, an, cdv, ct, osl, rfl, lk, hcd⟩ := F.ex
  refine fn_of lk hcd S len fun A outer s H vs Q E hr hsp => ?_
  obtain ⟨t, h, q⟩ := hbody cdv A outer s H vs Q E hr hsp
  exact ⟨t, h.nox, q⟩
theorem funD_mk {x qual : Str} {st : Stmt} {f : Addr} {oc : Value} {od an : Option Addr} {osl : Array (Option Value)} {dV kV doc pm cdv ct : Value} (l : K.lookup f = some ⟨oc, od, .func (PySem.W.fnOf x qual (defArgs st) (defBody st) (defScope st) dV kV doc pm an cdv ct), osl⟩)
    (c : PySem.W.codeIn K cdv qual = true) (k : PySem.W.keepIn K (.ref f) = true) : FunD K x qual st f (PySem.W.fnOf x qual (defArgs st) (defBody st) (defScope st) dV kV doc pm an cdv ct) := ⟨⟨oc, od, dV, kV, doc, pm, an, cdv, ct, osl, rfl, l, c⟩, k⟩
end
end L2

set_option Elab.async false
set_option linter.all false
set_option maxRecDepth 100000
set_option maxHeartbeats 1000000
namespace L2
open PySem PySem.Spec PyProof.Rows
open PySem.W PySem.Calls
section
variable {K : PySem.W.Frag} {x t c : Value}
end
section
variable {X : Cx}
noncomputable abbrev TC2 := St → Hp → (St → Hp → Prop) → XK → Prop
noncomputable def PCall2 (X : Cx) (st : Stmt) (t : TC2) : Prop := ∀ (pins : List (Addr × Obj)) (s : Shared) (σ : St) (H : Hp) (Q : St → Hp → Prop) (E : XK), Inv X pins σ H s → t σ H Q E →
  wpAny (model X.prog X.w) X.A (exec st X.env) (fun f s1 => f = .next ∧ ∃ σ' H', Inv X pins σ' H' s1 ∧ Q σ' H') (fun ev s1 => ∃ H0 s0, Inv X pins σ H0 s0 ∧ CXR X.prog X.w X.stack H0 s0 E ev s1) s
noncomputable def tTry2 (t : TC2) (r : HR) : TS := fun D σ H => t σ H (fun σ' H' => D.nx σ' H') fun cls od H' => ∀ e, H' e = none → r cls od e D σ H'
theorem ps_try2 {st : Stmt} {h : ExceptHandler} {hs : List ExceptHandler} {t : TC2} {r : HR} {pos : Pos} (Bd : Body X) (hc : PCall2 X st t) (hh : PH X (h :: hs) r) : PS X (.Try [st] (h :: hs) [] [] pos) (tTry2 t r) := by
  intro pins s σ H D I q
  refine wpAny_Try_except (wpAny_execs_cons (wpAny_mono (hc pins s σ H _ _ I q) (fun f s1 z => ?_) fun ev s1 z => ?_))
  · obtain ⟨rfl, σ', H', I', q'⟩ := z
    exact wpAny_execs_nil (wpAny_execs_nil ⟨σ', H', I', q'⟩)
  · obtain ⟨H0, s0, I0, z⟩ := z
    obtain ⟨e, cls, a0, od, H', B, rfl, f, q'⟩ := z.fly
    exact fly_note Bd I0 f fun s'' f'' => hh pins H0 s0 σ e cls a0 od H' B s'' D I0 f'' (q' e f.no)
end
end L2

set_option Elab.async false
set_option linter.all false
set_option maxRecDepth 100000
set_option maxHeartbeats 4000000
namespace CW
open PySem L2
section
variable {P : Program} {w : World} {K : PySem.W.Frag} {mg : Str → Option Value} {base : Heap}
noncomputable def SmallI (i : Int) : Prop := i.natAbs.log2 < 1920 ∧ (toString i : Str).length ≤ 1000
theorem smallI {i : Int} (h0 : 0 ≤ i) (h1 : i < 256) : SmallI i := by
  have : ∀ n : Nat, n < 256 → ((n : Int).natAbs.log2 < 1920 ∧ (toString (n : Int) : Str).length ≤ 1000) := by decide +kernel
  have := this i.toNat (by omega)
  rwa [show ((i.toNat : Nat) : Int) = i from by omega] at this
noncomputable def spXB (K : PySem.W.Frag) : Sp := fun vs H Q E => ∃ e C i a b, vs = [.ref e, .str a, .str b] ∧ H e = some (XO C e none) ∧ XCls K C i ∧ XStore K C "word" ∧
  ∀ dx, H dx = none → dx ≠ e → Q .non (upd (upd H dx (.xd [("word", .str b)])) e (XO C e (some dx)))
noncomputable def spXI (nm : Str) (C : Addr) : Sp := fun vs H Q E => ∃ e i, vs = [.ref e, .int i] ∧ SmallI i ∧ H e = some (XO C e none) ∧
  ∀ dx, H dx = none → dx ≠ e → Q .non (upd (upd H dx (.xd [("at", .int i), ("word", .str nm)])) e (XO C e (some dx)))
theorem upd_again {H : Hp} {e dx : Addr} {o o1 o2 : HO} (n : dx ≠ e) : upd (upd (upd H dx o) e o1) dx o2 = upd (upd H dx o2) e o1 := by
  funext b
  unfold upd
  by_cases h1 : b = dx
  · subst h1
    rw [if_pos rfl, if_neg n, if_pos rfl]
  · rw [if_neg h1]
    by_cases h2 : b = e
    · rw [if_pos h2, if_pos h2]
    · rw [if_neg h2, if_neg h2, if_neg h1, if_neg h1]
theorem del_upd {H : Hp} {e dx : Addr} {o o' o'' : HO} (he : H e = none) (n : dx ≠ e) : del (upd (upd (upd H e o) dx o') e o'') e = upd H dx o' := by
  funext b
  unfold del upd
  by_cases h1 : b = e
  · subst h1
    rw [if_pos rfl, if_neg (Ne.symm n), he]
  · rw [if_neg h1, if_neg h1]
    by_cases h2 : b = dx
    · rw [if_pos h2, if_pos h2]
    · rw [if_neg h2, if_neg h2, if_neg h1]
noncomputable def Rf (E : XK) (C : Addr) (fs : List (Str × V)) (H : Hp) : Prop := ∀ dx, H dx = none → E (.ref C) (some dx) (upd H dx (.xd fs))
noncomputable def RfI (E : XK) (C : Addr) (nm : Str) (i : Int) (H : Hp) : Prop := Rf E C [("at", .int i), ("word", .str nm)] H
theorem rdI {E : XK} {C : Addr} {nm : Str} {i : Int} {H : Hp} (hi : SmallI i) (k : RfI E C nm i H) : [V.int i].length ≤ sizeLine ∧ ∀ e, H e = none → spXI nm C (.ref e :: [V.int i]) (upd H e (XO C e none)) (fun v H2 => v = .non ∧ ∃ od, H2 e = some (XO C e od) ∧ E (.ref C) od (del H2 e)) E0 :=
  ⟨by show 1 ≤ sizeLine; decide, fun e he => ⟨e, i, rfl, hi, upd_same, fun dx h1 h2 => ⟨rfl, some dx, upd_same, by
    rw [upd_ne h2] at h1
    rw [del_upd he h2]
    exact k dx h1⟩⟩⟩
structure RaisesAs (P : Program) (w : World) (K : PySem.W.Frag) (mg : Str → Option Value) (base : Heap) (x : Str) (C : Addr) (ps : List Str) (sp : Sp) : Prop where
  m : mg x = some (.ref C)
  i : ∃ fI fd, XCls K C (some (.ref fI)) ∧ PySem.W.isFn K (.ref fI) = true ∧ FnOk P w K mg base CX0 2 fI fd ps sp ∧ Binds K fd ps []
theorem ps_raiseR {X : Cx} {E : XK} {C : Addr} {ps : List Str} {sp : Sp} {k : Nat} {x : Str} {e : Expr} {es : List Expr} {t : TA} {np cpos pos : Pos} (RX : Raises X E) (R : RaisesAs X.prog X.w X.K X.mg X.base x C ps sp) (hx : X.ex = []) (hcalm : X.calm = true)
    (hr : Room k X.A) (hg : Gl X x) (ha : PA X (e :: es) t) (hk : 3 ≤ k := by decide) (hdb : (x == ("__debug__" : Str)) = false := by decide)
    (he : starEach (e :: es) X.env = (false, eval e X.env) :: starEach es X.env := by rfl) (hpl : (backTo cpos (starEach es X.env)).any (·.1) = false := by rfl) : PS X (.Raise (some (.Call (.Name x np) (e :: es) [] cpos)) none pos) (tRaiseI C sp E t) := by
  obtain ⟨m, fI, fd, h1, h2, h3, h4⟩ := R
  exact ps_raiseI (hdb := hdb) (he := he) (hpl := hpl) RX hx hcalm h1 h2 h3 (hr.mono hk) h4 hg m ha
noncomputable def xsIn (K : PySem.W.Frag) (C D : Addr) (name : Str) : Bool := (match PySem.W.clsIn K C with
  | some cd => cd.mro == .ref C :: .ref D :: bmV && cd.hasDict
  | none => false) && PySem.W.findIn K (.ref C) "__setattr__" == some (some (.builtin "object.__setattr__")) && PySem.W.findIn K (.ref C) name == some none
theorem refuse_tail (D : Addr) (self : Value) : PySem.refuseLoop self "__setattr__" (.ref D :: bmV) = pure () := by
  rw [PySem.refuseLoop_ref]
  rfl
theorem xs_of {C D : Addr} {name : Str} (h : xsIn K C D name = true) : XStore K C name := by
  simp only [xsIn, Bool.and_eq_true, beq_iff_eq] at h
  obtain ⟨⟨h1, h2⟩, h3⟩ := h
  split at h1
  · rename_i cd hc
    rw [Bool.and_eq_true, beq_iff_eq] at h1
    exact ⟨⟨cd, .ref D :: bmV, hc, h1.1, refuse_tail D, by rw [List.contains_cons]; rfl, h1.2⟩, h2, h3⟩
  · cases h1
noncomputable def xgIn (K : PySem.W.Frag) (C : Addr) (f : Str) : Bool := PySem.W.findIn K (.ref C) "__getattribute__" == some (some (.builtin "BaseException.__getattribute__")) && PySem.W.findIn K (.ref C) "__getattr__" == some none &&
  PySem.W.subIn K (.ref C) (.type "BaseException") == some true && PySem.W.hasDictIn K C && PySem.W.findIn K (.ref C) f == some none
theorem xg_of {C : Addr} {f : Str} (h : xgIn K C f = true) : XGetE K C f := by
  simp only [xgIn, Bool.and_eq_true, beq_iff_eq] at h
  exact ⟨h.1.1.1.1, h.1.1.1.2, h.1.1.2, h.1.2, h.2⟩
structure Errs (K : PySem.W.Frag) (mg : Str → Option Value) where
  row : Addr
  trains : Addr
  sizes : Addr
  many : Addr
  creel : Addr
  number : Addr
  near : Addr
  bare : Addr
  err : Addr
  m_row : mg "BadRow" = some (.ref row)
  m_trains : mg "BadTrains" = some (.ref trains)
  m_sizes : mg "BadSizes" = some (.ref sizes)
  m_many : mg "TooMany" = some (.ref many)
  m_creel : mg "BadCreel" = some (.ref creel)
  m_number : mg "BadNumber" = some (.ref number)
  m_near : mg "TooNear" = some (.ref near)
  m_bare : mg "Bare" = some (.ref bare)
  m_err : mg "CreelError" = some (.ref err)
noncomputable def metIn (K : PySem.W.Frag) : List Addr → Bool
  | [] => true
  | a :: l => PySem.W.exmOne K (.ref a) (.ref a) == some true && l.all (fun b => PySem.W.exmOne K (.ref b) (.ref a) == some false) && metIn K l
structure Sees (X : Errs K mg) : Prop where
  met : metIn K [X.row, X.trains, X.sizes, X.many, X.creel, X.number, X.near, X.bare] = true
  g1 : xgIn K X.row "at" = true
  g2 : xgIn K X.trains "at" = true
  g3 : xgIn K X.sizes "at" = true
  e1 : PySem.W.exmOne K (.ref X.row) (.ref X.err) = some true
  e4 : PySem.W.exmOne K (.ref X.many) (.ref X.err) = some true
theorem Sees.all {X : Errs K mg} (Z : Sees X) : PySem.W.exmOne K (.ref X.row) (.ref X.row) = some true ∧ PySem.W.exmOne K (.ref X.trains) (.ref X.trains) = some true ∧ PySem.W.exmOne K (.ref X.sizes) (.ref X.sizes) = some true ∧ PySem.W.exmOne K (.ref X.many) (.ref X.many) = some true ∧ PySem.W.exmOne K (.ref X.creel) (.ref X.creel) = some true ∧ PySem.W.exmOne K (.ref X.number) (.ref X.number) = some true ∧ PySem.W.exmOne K (.ref X.near) (.ref X.near) = some true ∧ PySem.W.exmOne K (.ref X.bare) (.ref X.bare) = some true ∧ PySem.W.exmOne K (.ref X.trains) (.ref X.row) = some false ∧ PySem.W.exmOne K (.ref X.sizes) (.ref X.row) = some false ∧ PySem.W.exmOne K (.ref X.sizes) (.ref X.trains) = some false ∧ PySem.W.exmOne K (.ref X.many) (.ref X.row) = some false ∧ PySem.W.exmOne K (.ref X.many) (.ref X.trains) = some false ∧ PySem.W.exmOne K (.ref X.many) (.ref X.sizes) = some false ∧ PySem.W.exmOne K (.ref X.creel) (.ref X.row) = some false ∧ PySem.W.exmOne K (.ref X.creel) (.ref X.trains) = some false ∧ PySem.W.exmOne K (.ref X.creel) (.ref X.sizes) = some false ∧ PySem.W.exmOne K (.ref X.creel) (.ref X.many) = some false ∧ PySem.W.exmOne K (.ref X.number) (.ref X.row) = some false ∧ PySem.W.exmOne K (.ref X.number) (.ref X.trains) = some false ∧ PySem.W.exmOne K (.ref X.number) (.ref X.sizes) = some false ∧ PySem.W.exmOne K (.ref X.number) (.ref X.many) = some false ∧ PySem.W.exmOne K (.ref X.number) (.ref X.creel) = some false ∧ PySem.W.exmOne K (.ref X.near) (.ref X.row) = some false ∧ PySem.W.exmOne K (.ref X.near) (.ref X.trains) = some false ∧ PySem.W.exmOne K (.ref X.near) (.ref X.sizes) = some false ∧ PySem.W.exmOne K (.ref X.near) (.ref X.many) = some false ∧ PySem.W.exmOne K (.ref X.near) (.ref X.creel) = some false ∧ PySem.W.exmOne K (.ref X.near) (.ref X.number) = some false ∧ PySem.W.exmOne K (.ref X.bare) (.ref X.row) = some false ∧ PySem.W.exmOne K (.ref X.bare) (.ref X.trains) = some false ∧ PySem.W.exmOne K (.ref X.bare) (.ref X.sizes) = some false ∧ PySem.W.exmOne K (.ref X.bare) (.ref X.many) = some false ∧ PySem.W.exmOne K (.ref X.bare) (.ref X.creel) = some false ∧ PySem.W.exmOne K (.ref X.bare) (.ref X.number) = some false ∧ PySem.W.exmOne K (.ref X.bare) (.ref X.near) = some false := by
  have h := Z.met
  simp only [metIn, List.all_cons, List.all_nil, Bool.and_eq_true, Bool.and_true, beq_iff_eq] at h
  simp only [h, and_self]
theorem pe_xatK (K : PySem.W.Frag) {X : Cx} {e : Expr} {ta : TE} {f : Str} {pos : Pos} (hK : X.K = K) (he : PE X e ta) (hb : attributeBase e f X.env (eval e X.env) = eval e X.env) : PE X (.Attribute e f pos) (tXatE K ta f) := by
  subst hK
  exact pe_xatE he hb
noncomputable def Good (row : List Int) : Prop := ∀ j, 1 ≤ j → j < row.length → row.getD (j - 1) 0 < row.getD j 0
noncomputable def BadAt (row : List Int) (i : Nat) : Prop := 1 ≤ i ∧ i < row.length ∧ row.getD i 0 ≤ row.getD (i - 1) 0 ∧ ∀ j, 1 ≤ j → j < i → row.getD (j - 1) 0 < row.getD j 0
inductive WhyRow (row : List Int) : Str → Int → Prop where
  | many : 60 < row.length → WhyRow row "TooMany" 0
  | good : row.length ≤ 60 → Good row → WhyRow row "" 0
  | bad {i : Nat} : row.length ≤ 60 → BadAt row i → WhyRow row "BadRow" i
structure FunC (K : PySem.W.Frag) (x qual : Str) (st : Stmt) (f : Addr) (fd : FuncData) (c : Addr) : Prop where
  ex : ∃ (oc : Value) (od : Option Addr) (kV doc pm : Value) (an : Option Addr) (ct : Value) (osl : Array (Option Value)),
    fd = PySem.W.fnOf x qual (defArgs st) (defBody st) (defScope st) .none kV doc pm an (.ref c) ct ∧ K.lookup f = some ⟨oc, od, .func fd, osl⟩ ∧ PySem.W.codeIn K (.ref c) qual = true
theorem FunC.ok {x qual : Str} {st : Stmt} {f c : Addr} {fd : FuncData} {N ps : List Str} {k : Nat} {sp : Sp} (F : FunC K x qual st f fd c) (S : FnScope N ps (defScope st)) (len : ∀ vs H Q E, sp vs H Q E → vs.length = ps.length)
    (hbody : ∀ (A : Around) (outer : List Env) (s : Shared) (H : Hp) (vs : List V) (Q : VK) (E : XK), Room k (A.deeper (PyProof.Rows.envOfC qual (defScope st) s.heap.objs.size f (.ref c))) → sp vs H Q E →
      ∃ t, PSs (cxOf CX0 P w K mg base N qual (defScope st) f (.ref c) A outer s H E).nox (defBody st) t ∧ t { nx := fun _ H' => Q .non H', rt := Q } (start N vs) H) : FnOk P w K mg base CX0 (k + 1) f fd ps sp := by
  obtain ⟨oc, od, kV, doc, pm, an, ct, osl, rfl, lk, hcd⟩ := F.ex
  refine fn_of lk hcd S len fun A outer s H vs Q E hr hsp => ?_
  obtain ⟨t, h, q⟩ := hbody A outer s H vs Q E hr hsp
  exact ⟨t, h.nox, q⟩
noncomputable def SameP (P : Addr) (H H' : Hp) : Prop := ∀ b o, b ≠ P → H b = some o → H' b = some o
theorem SameP.trans {P : Addr} {H H1 H2 : Hp} (a : SameP P H H1) (b : SameP P H1 H2) : SameP P H H2 := fun c o n h => b c o n (a c o n h)
theorem SameP.tbl {P : Addr} {H : Hp} {o : HO} : SameP P H (upd H P o) := fun b o n h => by rw [upd_ne n]; exact h
theorem WhyRow.ok {row : List Int} {nm : Str} {i : Int} (W : WhyRow row nm i) : PyData.strOk nm = true := by
  cases W <;> decide +kernel
theorem WhyRow.eqv {row : List Int} {nm : Str} {i : Int} (W : WhyRow row nm i) : PyData.eqv (.str nm) (.str "") = decide (nm = "") := by
  cases W <;> decide +kernel
end
end CW

set_option Elab.async false
set_option linter.all false
set_option maxRecDepth 100000
set_option maxHeartbeats 4000000
namespace L2
open PySem PySem.Spec PyProof.Rows
section
variable {X : Cx}
noncomputable def XW (X : Cx) (pins : List (Addr × Obj)) (σ : St) (E : XK) (ev : Value) (s1 : Shared) : Prop := ∃ H0 s0, Inv X pins σ H0 s0 ∧ CXR X.prog X.w X.stack H0 s0 E ev s1
noncomputable abbrev TEX := St → Hp → VK → XK → Prop
noncomputable def PEX (X : Cx) (e : Expr) (t : TEX) : Prop := ∀ (pins : List (Addr × Obj)) (s : Shared) (σ : St) (H : Hp) (Q : VK) (E : XK), Inv X pins σ H s → t σ H Q E →
  wpAny (model X.prog X.w) X.A (eval e X.env) (EP X pins σ Q) (XW X pins σ E) s
theorem pex_of {e : Expr} {t : TE} (h : ∀ E', PE (X.withE E') e t) : PEX X e (fun σ H Q _ => t σ H Q) := fun pins s σ H Q E I q =>
  thn (h (XW X pins σ E) pins s σ H Q I.withE q) fun u s1 ⟨v, H1, I1, r, q1⟩ => ⟨v, H1, I1.noE I.ok, r, q1⟩
noncomputable def tFX (sp : Sp) (t : TA) : TEX := fun σ H Q E => t σ H fun vs H1 => sp vs H1 Q E
theorem pex_fn {k j : Nat} {f : Str} {ps : List Str} {sp : Sp} {e : Expr} {es : List Expr} {t : TA} {np cpos : Pos} (F : FnAtX X.prog X.w X.K X.mg X.base f j ps sp) (hr : Room k X.A) (hg : Gl X f)
    (ha : ∀ E', PA (X.withE E') (e :: es) t) (hj : j ≤ k := by decide) (hdb : (f == ("__debug__" : Str)) = false := by decide)
    (he : starEach (e :: es) X.env = (false, eval e X.env) :: starEach es X.env := by rfl) (hpl : (backTo cpos (starEach es X.env)).any (·.1) = false := by rfl) :
    PEX X (.Call (.Name f np) (e :: es) [] cpos) (tFX sp t) := by
  obtain ⟨fa, fd, G, hm, hk, hb⟩ := F
  intro pins s σ H Q E I h
  refine wpAny_Call_Name_kw (ld_glob I hg hm ?_ hdb)
  refine PySem.W.callWith_K (h₀ := X.base) I.ok.mod.kin hk (thn (ha (XW X pins σ E) cpos pins s σ H _ I.withE h) fun us s1 ⟨vs, H1, I1, r, q⟩ => ⟨I1.kIn, ?_⟩) he hpl
  have J := I1.noE I.ok
  have hl : (us ++ []).length = ps.length := by rw [List.append_nil, ← r.length]; exact G.len _ _ _ _ q
  have hb' := hb s1 us J.kIn hl
  rw [List.append_nil] at hb'
  refine wpAny_call (codeAny_mono (G.run X.A X.stack s1 H1 ⟨us, []⟩ us vs _ E (hr.mono hj) J.env0 hb' r q) fun r s' hq => ?_)
  cases r with
  | error ev => exact ⟨H1, s1, J, hq⟩
  | ok fl =>
    cases fl with
    | ret u => exact J.after hq
    | next => exact False.elim hq
    | brk => exact False.elim hq
    | cont => exact False.elim hq
noncomputable def tTX (ta tb : TEX) : TEX := fun σ H Q E => ta σ H (fun x H1 => tb σ H1 (fun y H2 => ∀ p, H2 p = none → Q (.ref p) (upd H2 p (.tup [x, y]))) E) E
theorem pex_tup2 {a b : Expr} {ta tb : TEX} {x1} {pos : Pos} (ha : PEX X a ta) (hb : PEX X b tb)
    (hs : starEach [a, b] X.env = [(false, eval a X.env), (false, eval b X.env)] := by rfl) : PEX X (.Tuple [a, b] x1 pos) (tTX ta tb) := by
  intro pins s σ H Q E I h
  have two : (2 : Nat) ≤ sizeLine := by decide
  refine wpAny_Tuple_spliced ?_
  rw [hs]
  show wpAny _ _ (spliced ((false, eval a X.env) :: (false, eval b X.env) :: backTo pos [])) _ _ s
  refine Calls.spliced_cons (thn (ha pins s σ H _ E I h) fun u s1 ⟨x, H1, I1, r1, q1⟩ => ?_)
  refine Calls.spliced_cons (thn (hb pins s1 σ H1 _ E I1 q1) fun v s2 ⟨y, H2, I2, r2, q2⟩ => ?_)
  refine thn (pa_nil (X := X.withE (XW X pins σ E)) pos pins s2 σ H2 (fun vs H' => vs = [] ∧ H' = H2) I2.withE ⟨rfl, rfl⟩) fun us s3 ⟨zs, H3, I3, r3, ez, eH⟩ => ?_
  subst ez eH
  have hus := r3.zero
  subst hus
  have J := I3.noE I2.ok
  refine ⟨two, ?_⟩
  have hf : H3 s3.heap.objs.size = none := J.hok.fresh (Nat.le_refl _)
  refine ⟨.ref s3.heap.objs.size, upd H3 s3.heap.objs.size (.tup [x, y]), J.laid (t' := s3.toks) (fun b u e => Heap.get?_push_of_some _ e) (Nat.le_refl _) ?_, rfl, q2 _ hf⟩
  exact ⟨two, _, .cons r1 (.cons r2 .nil), ⟨_, Heap.get?_push_size _ rfl, rfl, _, rfl⟩⟩
noncomputable def tSX (i : Nat) (t : TEX) : TC2 := fun σ H Q E => t σ H (fun v H' => Q (σ.set i (some v)) H') E
theorem pc_setX {i : Nat} {x : Str} {e : Expr} {t : TEX} {px pos : Pos} (hN : X.N.Nodup) (hi : X.N[i]? = some x) (hx : Loc X.env.scope x) (he : PEX X e t)
    (hs : swapsWith e (some (.Name x px)) pos.line X.env = pure false := by rfl) (hf : X.fn x = true ∨ X.env.scope.names.lookup x = some .local := by first | exact .inl rfl | exact .inr rfl | assumption) :
    PCall2 X (.Assign [.Name x px] e pos) (tSX i t) := by
  intro pins s σ H Q E I h
  refine wpAny_Assign_Name ?_ hs
  refine thn (he pins s σ H _ E I h) fun u s1 ⟨v, H', I', rv, q'⟩ => ?_
  exact store_ok I' hN hi hx rv (fun s2 I2 => ⟨rfl, _, H', I2, q'⟩) hf
end
end L2

set_option Elab.async false
set_option linter.all false
set_option maxRecDepth 100000
set_option maxHeartbeats 4000000
namespace L2
open PySem PySem.Spec PyProof.Rows
section
variable {prog : Program} {w : World} {A : Around} {E : Value → Shared → Prop} {s : Shared}
noncomputable abbrev AI (h : Heap) (i : Addr) (x : Str) (t : Tok) (k : Nat) : Prop := h.IsStrIter i "str_ascii_iterator" x t k
theorem zs_item {z TI TO i1 i2 l : Addr} {x : Str} {t : Tok} {k c m : Nat} {ys : Array Value} {y a b : Value} {Q : Option Value → Shared → Prop} (D : ZipApart z TI TO i1 i2 l l) (hz : IsZip s.heap z TI TO .none) (hTI : IsPair s.heap TI (.ref i1) (.ref i2)) (hTO : IsPair s.heap TO a b)
    (h1 : AI s.heap i1 x t k) (h2 : s.heap.IsListIter i2 l m) (hl : s.heap.IsList l ys) (hx : x.cps[k]? = some c) (hy : ys[m]? = some y)
    (hQ : ∀ h' tc, IsZip h' z TI TO (rawInt s.heap.objs.size) → IsPair h' TO (.str ⟨#[c]⟩ tc) y → AI h' i1 x t (k + 1) → h'.IsListIter i2 l (m + 1) → IsPair h' s.heap.objs.size (.str ⟨#[c]⟩ tc) y → h'.objs.size = s.heap.objs.size + 1 →
      (∀ e o, e ≠ z → e ≠ TO → e ≠ i1 → e ≠ i2 → s.heap.get? e = some o → h'.get? e = some o) → Q (some (.ref s.heap.objs.size)) { s with heap := h', toks := s.toks + 1 }) : wpAny (model prog w) A (pyNext (.ref z)) Q E s := by
  have hT : s.TypeIs (.ref z) "zip" := ⟨_, hz, rfl⟩
  unfold pyNext
  refine wpAny_bind (wpAny_attempt (wpAny_callSpecial?_slot (name := Str.ofString "__next__") hT F.slot_zip_next (wpAny_call_entry F.slot_zip_next hT F.entry_zip_next ?_ (F.args_zip_next_1 _))))
  show wpAny _ _ (field (.ref z) 2 >>= _) _ _ _; refine wpAny_bind (wpAny_field hz rfl (x := .bool false) rfl ?_)
  show wpAny _ _ (field (.ref z) 3 >>= _) _ _ _; refine wpAny_bind (wpAny_field hz rfl (x := .ref TI) rfl (wpAny_bind (wpAny_seqItems hTI rfl ?_)))
  show wpAny _ _ (Builtin.SmallTypes.ownedTupleIsFree (.ref z) >>= _) _ _ _; refine wpAny_bind ?_
  unfold Builtin.SmallTypes.ownedTupleIsFree; refine wpAny_bind (wpAny_field hz rfl (x := .none) rfl (wpAny_pure ?_))
  simp only [if_true]; refine wpAny_bind (wpAny_rule (wpAny_bind (wpAny_field hz rfl (x := .ref TO) rfl (wpAny_bind (wpAny_setField_rec hz (by simp) fun g1 z1 b1 => ?_)))))
  replace z1 : IsZip g1 z TI TO .ellipsis := z1
  refine wpAny_bind ?_; simp only [List.zipIdx_cons, List.zipIdx_nil, List.forIn_cons, List.forIn_nil]
  refine wpAny_bind (wpAny_bind (wpAny_onRaise ?_)); show wpAny _ _ (Builtin.SmallTypes.nextOf (.ref i1) >>= _) _ _ _
  refine wpAny_bind (wpAny_nextOf_ascii_item (h1.extBut b1.extBut D.i1z) hx fun g2 a2 b2 => wpAny_pure ?_)
  generalize htc : Shared.toks _ = tc
  have p2 : IsPair g2 TO a b := b2.extBut _ _ D.TOi1 (b1.extBut _ _ D.TOz hTO)
  refine wpAny_bind (wpAny_seqItems p2 rfl (wpAny_bind (wpAny_updateSeq_pair p2 fun g3 p3 b3 => ?_))); replace p3 : IsPair g3 TO (.str ⟨#[c]⟩ tc) b := p3
  refine wpAny_bind (wpAny_letGo (wpAny_pure (wpAny_bind (wpAny_bind (wpAny_onRaise ?_))))); show wpAny _ _ (Builtin.SmallTypes.nextOf (.ref i2) >>= _) _ _ _
  refine wpAny_bind (wpAny_nextOf_list_item (((h2.extBut b1.extBut D.i2z).extBut b2.extBut D.i12.symm).extBut b3.extBut D.TOi2.symm) (((hl.extBut b1.extBut D.l2z).extBut b2.extBut D.l2i1).extBut b3.extBut D.l2TO) hy fun g4 a4 b4 => wpAny_pure ?_)
  have p4 : IsPair g4 TO (.str ⟨#[c]⟩ tc) b := b4.extBut _ _ D.TOi2 p3
  refine wpAny_bind (wpAny_seqItems p4 rfl (wpAny_bind (wpAny_updateSeq_pair p4 fun g5 p5 b5 => ?_))); replace p5 : IsPair g5 TO (.str ⟨#[c]⟩ tc) y := p5
  refine wpAny_bind (wpAny_letGo (wpAny_pure (wpAny_pure (wpAny_bind (wpAny_seqItems p5 rfl (wpAny_bind (wpAny_newTuple ?_)))))))
  have zz : g5.objs.size = s.heap.objs.size := by rw [b5.1, b4.1, b3.1, b2.1, b1.1]
  have z5 : IsZip g5 z TI TO .ellipsis := b5.extBut _ _ D.TOz.symm (b4.extBut _ _ D.i2z.symm (b3.extBut _ _ D.TOz.symm (b2.extBut _ _ D.i1z.symm z1)))
  have a5 : AI g5 i1 x t (k + 1) := ((a2.extBut b3.extBut D.TOi1.symm).extBut b4.extBut D.i12).extBut b5.extBut D.TOi1.symm
  have lz := Heap.lt_size (show g5.get? z = some _ from z5)
  show wpAny _ _ (Builtin.SmallTypes.ownedTupleHandOut (.ref z) (.ref g5.objs.size) >>= _) _ _ _; refine wpAny_bind ?_
  unfold Builtin.SmallTypes.ownedTupleHandOut
  refine wpAny_bind (wpAny_setField_rec (show IsZip (g5.push { cls := .type "tuple", data := .seq #[.str ⟨#[c]⟩ tc, y] }) z TI TO .ellipsis from Heap.get?_push_of_some _ z5) (by simp) fun g7 z7 b7 => ?_); replace z7 : IsZip g7 z TI TO (rawInt g5.objs.size) := z7
  refine wpAny_setField_rec z7 (by simp) fun g8 z8 b8 => ?_; replace z8 : IsZip g8 z TI TO (rawInt g5.objs.size) := z8
  have up : ∀ e o, e ≠ z → g5.get? e = some o → g8.get? e = some o := fun e o e1 q => b8.extBut _ _ e1 (b7.extBut _ _ e1 (Heap.get?_push_of_some _ q))
  have t8 : IsPair g8 g5.objs.size (.str ⟨#[c]⟩ tc) y := b8.extBut _ _ (Nat.ne_of_gt lz) (b7.extBut _ _ (Nat.ne_of_gt lz) (Heap.get?_push_size _ rfl))
  have s8 : g8.objs.size = g5.objs.size + 1 := by rw [b8.1, b7.1, Heap.size_push]
  rw [zz] at z8 t8 s8
  subst htc
  refine wpAny_pure ⟨_, rfl, wpAny_pure ?_⟩; show Q (some (.ref g5.objs.size)) _; rw [zz]
  exact hQ g8 _ z8 (up _ _ D.TOz p5) (let ⟨o, e, r⟩ := a5; ⟨o, up _ o D.i1z e, r⟩) (a4.extBut b5.extBut D.TOi2.symm |>.at fun o e => up _ o D.i2z e) t8 s8 fun e o e1 e2 e3 e4 q => up e o e1 (b5.extBut _ _ e2 (b4.extBut _ _ e4 (b3.extBut _ _ e2 (b2.extBut _ _ e3 (b1.extBut _ _ e1 q)))))
theorem zs_end {z TI TO i1 i2 l : Addr} {x : Str} {t : Tok} {k : Nat} {Q : Option Value → Shared → Prop} (hh : A.handled = none) (D : ZipApart z TI TO i1 i2 l l) (hz : IsZip s.heap z TI TO .none) (hTI : IsPair s.heap TI (.ref i1) (.ref i2))
    (h1 : AI s.heap i1 x t k) (hx : x.cps[k]? = none)
    (hQ : ∀ h', (∀ e o, e ≠ z → e ≠ TO → e ≠ i1 → e ≠ i2 → s.heap.get? e = some o → h'.get? e = some o) → Q none { s with heap := h' }) : wpAny (model prog w) A (pyNext (.ref z)) Q E s := by
  have hT : s.TypeIs (.ref z) "zip" := ⟨_, hz, rfl⟩
  unfold pyNext
  refine wpAny_bind (wpAny_attempt (wpAny_callSpecial?_slot (name := Str.ofString "__next__") hT F.slot_zip_next (wpAny_call_entry F.slot_zip_next hT F.entry_zip_next ?_ (F.args_zip_next_1 _))))
  show wpAny _ _ (field (.ref z) 2 >>= _) _ _ _; refine wpAny_bind (wpAny_field hz rfl (x := .bool false) rfl ?_)
  show wpAny _ _ (field (.ref z) 3 >>= _) _ _ _; refine wpAny_bind (wpAny_field hz rfl (x := .ref TI) rfl (wpAny_bind (wpAny_seqItems hTI rfl ?_)))
  show wpAny _ _ (Builtin.SmallTypes.ownedTupleIsFree (.ref z) >>= _) _ _ _; refine wpAny_bind ?_
  unfold Builtin.SmallTypes.ownedTupleIsFree; refine wpAny_bind (wpAny_field hz rfl (x := .none) rfl (wpAny_pure ?_))
  simp only [if_true]; refine wpAny_bind (wpAny_rule (wpAny_bind (wpAny_field hz rfl (x := .ref TO) rfl (wpAny_bind (wpAny_setField_rec hz (by simp) fun g1 z1 b1 => ?_)))))
  replace z1 : IsZip g1 z TI TO .ellipsis := z1
  refine wpAny_bind ?_; simp only [List.zipIdx_cons, List.zipIdx_nil, List.forIn_cons, List.forIn_nil]
  refine wpAny_bind (wpAny_bind (wpAny_onRaise ?_)); show wpAny _ _ (Builtin.SmallTypes.nextOf (.ref i1) >>= _) _ _ _
  refine wpAny_bind (wpAny_nextOf_ascii_end hh (h1.extBut b1.extBut D.i1z) hx fun g2 e b2 he => ?_)
  obtain ⟨oe, hoe, hce⟩ := he
  have z2 : IsZip g2 z TI TO .ellipsis := b2 _ _ D.i1z.symm z1
  have hez : e ≠ z := fun q => by subst q; rw [z2] at hoe; cases hoe; simp at hce
  refine wpAny_setField_rec z2 (by simp) fun g3 _ b3 => ?_
  refine wpAny_bind (wpAny_isInstance (T := "StopIteration") (b := true) ⟨oe, b3.extBut _ _ hez hoe, hce⟩ isSubtype_stop (wpAny_pure (hQ _ fun c o c1 _ c3 _ q => b3.extBut _ _ c1 (b2 _ _ c3 (b1.extBut _ _ c1 q)))))
noncomputable abbrev zsA (h : Heap) (x : Str) (t : Tok) : Heap := h.push { cls := .type "str_ascii_iterator", data := .fields #[.str x t, .int 0 0] }
noncomputable abbrev zsB (h : Heap) (x : Str) (t : Tok) (l : Addr) : Heap := (zsA h x t).push { cls := .type "list_iterator", data := .fields #[.ref l, .int 0 0] }
noncomputable abbrev zsC (h : Heap) (x : Str) (t : Tok) (l : Addr) : Heap := (zsB h x t l).push { cls := .type "tuple", data := .seq #[.ref h.objs.size, .ref (zsA h x t).objs.size] }
noncomputable abbrev zsD (h : Heap) (x : Str) (t : Tok) (l : Addr) : Heap := (zsC h x t l).push { cls := .type "tuple", data := .seq #[.none, .none] }
noncomputable abbrev zsE (h : Heap) (x : Str) (t : Tok) (l : Addr) : Heap := (zsD h x t l).push { cls := .type "zip", data := .fields #[.none, .bool false, .bool false, .ref (zsB h x t l).objs.size, .ref (zsC h x t l).objs.size] }
theorem zs_new (x : Str) (t : Tok) (l : Addr) (ys : Array Value) (ha : x.cps.all (· < 128) = true) : Meets (Builtin.«zip.__new__» ⟨[.type "zip", .str x t, .ref l], []⟩) (fun _ R s => s.heap.IsList l ys ∧ R (.ok (.ret (.ref (zsD s.heap x t l).objs.size))) { s with heap := zsE s.heap x t l }) :=
  .of_wp fun prog w A R s h => by
    obtain ⟨hp, g, d, tk, os⟩ := s
    obtain ⟨hl2, h⟩ := h
    have hsub := sub_zip
    have hL2 : Heap.IsList (Shared.heap ⟨hp.push { cls := .type "str_ascii_iterator", data := .fields #[.str x t, .int 0 0] }, g, d, tk, os⟩) l ys := Heap.IsList.push hl2 _
    wp_walk using wpAny_pyIter_ascii ha, wpAny_pyIter_list hL2
    exact ⟨_, rfl, h⟩
theorem zs_call {x : Str} {t : Tok} {l : Addr} {ys : Array Value} {Q : Value → Shared → Prop} (ha : x.cps.all (· < 128) = true) (hl : s.heap.IsList l ys)
    (h : ∀ h', IsZip h' (s.heap.objs.size + 4) (s.heap.objs.size + 2) (s.heap.objs.size + 3) .none → IsPair h' (s.heap.objs.size + 2) (.ref s.heap.objs.size) (.ref (s.heap.objs.size + 1)) →
      IsPair h' (s.heap.objs.size + 3) .none .none → AI h' s.heap.objs.size x t 0 → h'.IsListIter (s.heap.objs.size + 1) l 0 → h'.objs.size = s.heap.objs.size + 5 →
      (∀ c o, s.heap.get? c = some o → h'.get? c = some o) → Q (.ref (s.heap.objs.size + 4)) { s with heap := h' }) : wpAny (model prog w) A (call (.type "zip") [.str x t, .ref l]) Q E s := by
  refine callType_new F.called_zip (by decide) (F.typeCall_zip_2 _ _) (F.newCall_zip_2 _ _) (fun obj => F.args_object_init_3 obj _ _) F.entry_zip_new (zs_new x t l ys ha) ⟨hl, ?_⟩
  have z1 : (zsA s.heap x t).objs.size = s.heap.objs.size + 1 := Heap.size_push ..
  have z2 : (zsB s.heap x t l).objs.size = s.heap.objs.size + 2 := by rw [Heap.size_push, z1]
  have z3 : (zsC s.heap x t l).objs.size = s.heap.objs.size + 3 := by rw [Heap.size_push, z2]
  have z4 : (zsD s.heap x t l).objs.size = s.heap.objs.size + 4 := by rw [Heap.size_push, z3]
  have z5 : (zsE s.heap x t l).objs.size = s.heap.objs.size + 5 := by rw [Heap.size_push, z4]
  have g5 : (zsE s.heap x t l).get? (zsD s.heap x t l).objs.size = some _ := Heap.get?_push_size _ rfl
  have g4 : (zsE s.heap x t l).get? (zsC s.heap x t l).objs.size = some _ := Heap.get?_push_of_some _ (Heap.get?_push_size _ rfl)
  have g3 : (zsE s.heap x t l).get? (zsB s.heap x t l).objs.size = some _ := Heap.get?_push_of_some _ (Heap.get?_push_of_some _ (Heap.get?_push_size _ rfl))
  have g2 : (zsE s.heap x t l).get? (zsA s.heap x t).objs.size = some _ := Heap.get?_push_of_some _ (Heap.get?_push_of_some _ (Heap.get?_push_of_some _ (Heap.get?_push_size _ rfl)))
  have g1 : (zsE s.heap x t l).get? s.heap.objs.size = some _ := Heap.get?_push_of_some _ (Heap.get?_push_of_some _ (Heap.get?_push_of_some _ (Heap.get?_push_of_some _ (Heap.get?_push_size _ rfl))))
  show _ ∧ _
  rw [z2, z3, z4] at g5; rw [z1, z2] at g3; rw [z3] at g4; rw [z1] at g2; rw [z4]
  exact ⟨⟨_, g5, rfl⟩, h _ g5 g3 g4 ⟨_, g1, rfl, rfl⟩ ⟨_, g2, rfl, rfl⟩ z5 fun c o q => Heap.get?_push_of_some _ (Heap.get?_push_of_some _ (Heap.get?_push_of_some _ (Heap.get?_push_of_some _ (Heap.get?_push_of_some _ q))))⟩
end
noncomputable def Itzs (K : PySem.W.Frag) (x : Str) (b : Addr) : It :=
  ⟨fun i H => ∃ ys y c, SqL K H b ys ∧ x.cps[i]? = some c ∧ ys[i]? = some y, fun i H v H' => ∃ t c y, v = .ref t ∧ H t = none ∧ x.cps[i]? = some c ∧ (∀ ys, SqL K H b ys → ys[i]? = some y) ∧ H' = upd H t (.tup [.str ⟨#[c]⟩, y]),
    fun i H => x.cps.size ≤ i⟩
theorem turn_zs {P : Program} {w : World} {K : PySem.W.Frag} {elts : List Expr} {x1} {pos : Pos} (x : Str) (t : Tok) (b z TI TO i1 i2 : Addr) (D : ZipApart z TI TO i1 i2 b b) : Turn P w K (.Tuple elts x1 pos) (Itzs K x b) [z, TO, i1, i2, TI] z
    (fun i h => IsZip h z TI TO .none ∧ IsPair h TI (.ref i1) (.ref i2) ∧ (∃ u v, IsPair h TO u v) ∧ AI h i1 x t i ∧ h.IsListIter i2 b i) where
  mem := by simp
  obj := fun i h st c hc => by
    obtain ⟨hz, hTI, ⟨u, v, hTO⟩, ⟨o1, ho1, c1, d1⟩, o2, ho2, c2, d2⟩ := st
    simp only [List.mem_cons, List.not_mem_nil, or_false] at hc
    rcases hc with q | q | q | q | q
    · subst q; exact ⟨_, hz, fun v z => by have z' : Data.fields _ = Data.cell v := z; cases z'⟩
    · subst q; exact ⟨_, hTO, fun v z => by have z' : Data.seq _ _ = Data.cell v := z; cases z'⟩
    · subst q; exact ⟨o1, ho1, fun v z => by rw [d1] at z; cases z⟩
    · subst q; exact ⟨o2, ho2, fun v z => by rw [d2] at z; cases z⟩
    · subst q; exact ⟨_, hTI, fun v z => by have z' : Data.seq _ _ = Data.cell v := z; cases z'⟩
  keep := fun i h h' st k => by
    obtain ⟨hz, hTI, ⟨u, v, hTO⟩, ⟨o1, ho1, r1⟩, h2⟩ := st
    exact ⟨k z (by simp) _ hz, k TI (by simp) _ hTI, ⟨u, v, k TO (by simp) _ hTO⟩, ⟨o1, k i1 (by simp) _ ho1, r1⟩, h2.at fun o e => k i2 (by simp) o e⟩
  item := by
    intro X hP hw hK hc i pins s σ H E I hf st hg
    subst hP hw hK
    obtain ⟨ys, y, c, hq2, hx, hy⟩ := hg
    obtain ⟨its2, rv2, p2, _⟩ := I.list hq2
    obtain ⟨v, hv, rv'⟩ := rv2.get hy
    obtain ⟨hz, hTI, ⟨u0, v0, hTO⟩, h1, h2⟩ := st
    have lz : z < s.heap.objs.size := Heap.lt_size hz
    refine zs_item D hz hTI hTO h1 h2 p2.isList (y := v) hx (by simpa using hv) fun h' tc e1 e2 e3 e4 e5 e6 kp => ?_
    refine ⟨_, rfl, ?_⟩
    have hn : H s.heap.objs.size = none := I.hok.fresh (Nat.le_refl _)
    have k1 : ∀ c o, c ∉ [z, TO, i1, i2, TI] → s.heap.get? c = some o → h'.get? c = some o := fun c o hb q => kp c o (fun z => hb (by simp [z])) (fun z => hb (by simp [z])) (fun z => hb (by simp [z])) (fun z => hb (by simp [z])) q
    refine wpAny_letOwnedTupleGo_zip e1 fun h2' f1 sb => ?_
    have k2 : ∀ c o, c ∉ [z, TO, i1, i2, TI] → s.heap.get? c = some o → h2'.get? c = some o := fun c o hb q => sb.extBut c o (fun z => hb (by simp [z])) (k1 c o hb q)
    have n1 : s.heap.objs.size ≠ z := Nat.ne_of_gt lz
    refine ⟨.ref s.heap.objs.size, _, I.turnLaid (t' := s.toks + 1) (h' := h2') (o := .tup [.str ⟨#[c]⟩, y]) k2 hf (Nat.le_refl _) ⟨by show 2 ≤ sizeLine; decide, [.str ⟨#[c]⟩ tc, v], .cons ⟨_, rfl⟩ (.cons rv' .nil), _, sb.extBut _ _ n1 e5, rfl, _, rfl⟩, rfl,
      ⟨_, c, y, rfl, hn, hx, fun zs h => by rw [I.list_inj h hq2]; exact hy, rfl⟩, ⟨f1, sb.extBut _ _ D.TIz (kp TI _ D.TIz D.TITO D.TIi1 D.TIi2 hTI), ⟨_, _, sb.extBut _ _ D.TOz e2⟩, e3.extBut sb.extBut D.i1z, e4.extBut sb.extBut D.i2z⟩, fun c hb => ?_⟩
    have hb' : c ≠ s.heap.objs.size := by
      have lc : c < s.heap.objs.size := by
        simp only [List.mem_cons, List.not_mem_nil, or_false] at hb
        rcases hb with q | q | q | q | q
        · subst q; exact lz
        · subst q; exact Heap.lt_size hTO
        · subst q; obtain ⟨_, z, _⟩ := h1; exact Heap.lt_size z
        · subst q; obtain ⟨_, z, _⟩ := h2; exact Heap.lt_size z
        · subst q; exact Heap.lt_size hTI
      exact Nat.ne_of_lt lc
    rw [upd_ne hb']; exact (hf c hb).1
  done := by
    intro X hP hw hK hc i pins s σ H E I hf st hg
    subst hP hw hK
    obtain ⟨hz, hTI, ⟨u0, v0, hTO⟩, h1, h2⟩ := st
    exact zs_end (I.ok.hd hc) D hz hTI h1 (Array.getElem?_eq_none hg) fun h' kp => ⟨rfl, I.turnedF (fp := [z, TO, i1, i2, TI]) (t' := s.toks) (fun c o hb e => kp c o (fun z => hb (by simp [z])) (fun z => hb (by simp [z])) (fun z => hb (by simp [z])) (fun z => hb (by simp [z])) e) hf⟩
  self := fun _ _ _ _ _ st h => wpAny_pyIter_zip st.1 h
noncomputable def iZipS (K : PySem.W.Frag) (ta : TA) : TI := fun σ H R => ta σ H fun vs H1 => ∃ (x : Str) (b : Addr) (ys : List V), vs = [.str x, .ref b] ∧ x.cps.all (· < 128) = true ∧ SqL K H1 b ys ∧ R (Itzs K x b) H1
theorem pi_zipS {X : Cx} {elts : List Expr} {x1} {tpos : Pos} {a b : Expr} {ta : TA} {p pos : Pos} (hg : Gl X "zip") (hm : X.mg "zip" = none) (ha : PA X [a, b] ta) (hs : starEach [a, b] X.env = [(false, eval a X.env), (false, eval b X.env)] := by rfl) (hs2 : starEach [b] X.env = [(false, eval b X.env)] := by rfl) : PI X (.Tuple elts x1 tpos) (.Call (.Name "zip" p) [a, b] [] pos) (iZipS X.K ta) := by
  intro pins s σ H R I h
  refine Call_ (ld_blt I hg hm boot_zip (PyProof.Rows.callWith_type1 (thn (ha pos pins s σ H _ I h) fun us s1 ⟨vs, H1, I1, r1, q1⟩ => ?_) (by rw [hs, hs2]) (by rw [hs2]; rfl)))
  obtain ⟨x, b, ys, rfl, hasc, hq2, q⟩ := q1
  obtain ⟨u, v, rfl, rx, ry⟩ := r1.two
  obtain ⟨t, rfl⟩ := rx
  cases ry
  obtain ⟨its2, rv2, pl2, _⟩ := I1.list hq2
  have lb : b < s1.heap.objs.size := by obtain ⟨_, _, z, _⟩ := pl2; exact Heap.lt_size z
  generalize hn : s1.heap.objs.size = n at lb
  refine zs_call hasc pl2.isList fun h' g1 g2 g3 g4 g5 g6 kp => ?_
  rw [hn] at g1 g2 g3 g4 g5 g6
  have I2 : Inv X pins σ H1 { s1 with heap := h' } := I1.kept (t' := s1.toks) kp
  rw [hn]
  refine wpAny_pyIter_zip g1 ?_
  have ne : ∀ i j : Nat, i ≠ j → (n + i : Nat) ≠ n + j := fun i j h z => h (Nat.add_left_cancel z)
  have nb : ∀ i : Nat, b ≠ n + i := fun i => Nat.ne_of_lt (Nat.lt_of_lt_of_le lb (Nat.le_add_right _ _))
  have D : ZipApart (n + 4) (n + 2) (n + 3) n (n + 1) b b :=
    ⟨ne 2 4 (by decide), ne 3 4 (by decide), ne 0 4 (by decide), ne 1 4 (by decide), ne 2 3 (by decide), ne 2 0 (by decide), ne 2 1 (by decide), ne 3 0 (by decide), ne 3 1 (by decide), ne 0 1 (by decide), nb 4, nb 3, nb 0, nb 1, nb 4, nb 3, nb 0, nb 1⟩
  refine ⟨n + 4, [n + 4, n + 3, n, n + 1, n + 2], _, _, H1, rfl, I2, turn_zs x t b _ _ _ _ _ D, ⟨g1, g2, ⟨_, _, g3⟩, g4, g5⟩, fun c hb => ?_, q⟩
  have e : s1.heap.objs.size ≤ c := by
    rw [hn]
    simp only [List.mem_cons, List.not_mem_nil, or_false] at hb
    rcases hb with z | z | z | z | z <;> rw [z]
    · exact Nat.le_add_right _ _
    · exact Nat.le_add_right _ _
    · exact Nat.le_refl _
    · exact Nat.le_add_right _ _
    · exact Nat.le_add_right _ _
  exact I1.fpOk e (I1.hok.fresh e)
theorem for_zipS {K : PySem.W.Frag} {x : Str} {b : Addr} {ys : List V} {g : TG} {tb : TS} {D : Ends} {σ : St} {H : Hp} (hn : x.cps.size = ys.length) (Pv : Nat → St → Hp → Prop) (h0 : Pv 0 σ H) (hl : ∀ i σ H, i ≤ ys.length → Pv i σ H → SqL K H b ys)
    (hs : ∀ i c y σ H t, x.cps[i]? = some c → ys[i]? = some y → Pv i σ H → H t = none → g (.ref t) σ (upd H t (.tup [.str ⟨#[c]⟩, y])) fun σ2 H2 => tb { D with nx := Pv (i + 1), ct := Pv (i + 1), bk := D.nx } σ2 H2) (hd : ∀ σ H, Pv ys.length σ H → D.nx σ H) :
    ∃ W : Nat → Nat → St → Hp → Prop, (∃ m, W 0 m σ H) ∧ ∀ i m σ H, W i m σ H →
      ((Itzs K x b).stop i H ∧ D.nx σ H) ∨ ((Itzs K x b).go i H ∧ ∃ N : St → Hp → Prop, (∀ σ' H', N σ' H' → ∃ m', m' < m ∧ W (i + 1) m' σ' H') ∧ ∀ x' H', (Itzs K x b).yld i H x' H' → g x' σ H' fun σ2 H2 => tb { D with nx := N, ct := N, bk := D.nx } σ2 H2) := by
  refine ⟨fun i m σ H => m = ys.length - i ∧ i ≤ ys.length ∧ Pv i σ H, ⟨ys.length, by simp, Nat.zero_le _, h0⟩, ?_⟩
  rintro i m σ H ⟨rfl, hi, p⟩
  have q := hl i σ H hi p
  by_cases hlt : i < ys.length
  · refine .inr ⟨⟨ys, ys[i], x.cps[i]'(by omega), q, Array.getElem?_eq_getElem (by omega), List.getElem?_eq_getElem hlt⟩, Pv (i + 1), fun σ' H' p' => ⟨ys.length - (i + 1), by omega, rfl, hlt, p'⟩, fun x' H' y => ?_⟩
    obtain ⟨t, c, y, rfl, hn', hc, hy, rfl⟩ := y
    exact hs i c y σ _ t hc (hy ys q) p hn'
  · have e : i = ys.length := by omega
    subst e
    exact .inl ⟨by show x.cps.size ≤ _; omega, hd σ H p⟩
end L2

set_option Elab.async false
set_option linter.all false
set_option maxRecDepth 100000
set_option maxHeartbeats 4000000
namespace L2
open PySem PySem.Spec PyProof.Rows
section
variable {X : Cx}
end
end L2

set_option Elab.async false
set_option linter.all false
set_option maxRecDepth 100000
set_option maxHeartbeats 4000000
namespace L2
open PySem PySem.Spec PyProof.Rows
section
variable {X : Cx} {pins : List (Addr × Obj)} {σ : St} {H H' : Hp} {s : Shared} {h' : Heap}
theorem Inv.many {t' : Nat} (I : Inv X pins σ H s) (k : ∀ b u, s.heap.get? b = some u → h'.get? b = some u) (ext : ∀ b o, H b = some o → H' b = some o) (new : ∀ b o, H' b = some o → H b = none → s.heap.objs.size ≤ b) (hok : ∀ b o, H' b = some o → H b = none → ObjOk X.prog X.w H' h' b o)
    (old : ∀ b o, H b = some o → ObjOk X.prog X.w H' h' b o) : Inv X pins σ H' { s with heap := h', toks := t' } := by
  refine I.un (H' := H') ⟨fun b o e n _ _ => k b o e, fun b o e n _ _ => ⟨o.slots, k b o e⟩, fun b o e n _ => ?_, fun b o e _ => ⟨o, k b o e⟩, fun b xs e => ext b _ e, fun b o u e => ext b _ e, fun b ps e => ⟨#[], by rw [ext b _ e]; simp⟩⟩ (fun b o e => ?_)
  · cases q : H' b with
    | none => rfl
    | some o' => exact absurd (Heap.lt_size e) (Nat.not_lt.mpr (new b o' q n))
  · cases q : H b with
    | none => exact hok b o e q
    | some o' =>
      have := ext b o' q
      rw [e] at this
      cases this
      exact old b o q
end
end L2

set_option Elab.async false
set_option linter.all false
set_option maxRecDepth 100000
set_option maxHeartbeats 4000000
namespace L2
open PySem PySem.Spec PyProof.Rows
section
variable {prog : Program} {w : World} {A : Around} {E : Value → Shared → Prop} {s : Shared}
end
end L2

set_option Elab.async false
set_option linter.all false
set_option maxRecDepth 100000
set_option maxHeartbeats 4000000
namespace L2
open PySem PySem.Spec PyProof.Rows
structure TsOk (h : Heap) (b0 : Nat) (no : List Addr) (xs ys : Array Value) (Ts : List Addr) : Prop where
  at_ : ∀ (j : Nat) (T : Addr), Ts[j]? = some T → ∃ x y, xs[j]? = some x ∧ ys[j]? = some y ∧ IsPair h T x y
  new : ∀ T ∈ Ts, b0 ≤ T ∧ T ∉ no
  nd : Ts.Nodup
theorem TsOk.keep {h h' : Heap} {b0 : Nat} {no : List Addr} {xs ys : Array Value} {Ts : List Addr} (t : TsOk h b0 no xs ys Ts) (k : ∀ c o, c ∉ no → h.get? c = some o → h'.get? c = some o) : TsOk h' b0 no xs ys Ts :=
  ⟨fun j T e => let ⟨x, y, h1, h2, h3⟩ := t.at_ j T e; ⟨x, y, h1, h2, k T _ (t.new T (List.mem_of_getElem? e)).2 h3⟩, t.new, t.nd⟩
theorem TsOk.snoc {h : Heap} {b0 : Nat} {no : List Addr} {xs ys : Array Value} {Ts : List Addr} {T : Addr} {x y : Value} (t : TsOk h b0 no xs ys Ts) (hx : xs[Ts.length]? = some x) (hy : ys[Ts.length]? = some y) (hT : IsPair h T x y) (hb : b0 ≤ T) (hno : T ∉ no) (hn : T ∉ Ts) : TsOk h b0 no xs ys (Ts ++ [T]) := by
  refine ⟨fun j T' e => ?_, fun T' e => ?_, ?_⟩
  · rw [List.getElem?_append] at e
    split at e
    · exact t.at_ j T' e
    · rename_i q
      have : j = Ts.length := by
        rcases Nat.lt_or_ge (j - Ts.length) 1 with z | z
        · omega
        · rw [List.getElem?_eq_none (by simpa using z)] at e; cases e
      subst this
      rw [Nat.sub_self] at e
      cases e
      exact ⟨x, y, hx, hy, hT⟩
  · rcases List.mem_append.mp e with q | q
    · exact t.new T' q
    · rw [List.mem_singleton.mp q]; exact ⟨hb, hno⟩
  · rw [List.nodup_append]
    exact ⟨t.nd, by simp, fun a ha b hb' e => hn (by rw [List.mem_singleton] at hb'; rw [← hb', ← e]; exact ha)⟩
section
variable {prog : Program} {w : World} {A : Around} {R : Result → Shared → Prop}
end
end L2

set_option Elab.async false
set_option linter.all false
set_option maxRecDepth 100000
set_option maxHeartbeats 4000000
namespace L2
open PySem PySem.W PySem.Spec PyProof.Rows
section
variable {prog : Program} {w : World} {A : Around} {E : Value → Shared → Prop} {R : Result → Shared → Prop} {s : Shared}
end
end L2

set_option Elab.async false
set_option linter.all false
set_option maxRecDepth 100000
set_option maxHeartbeats 4000000
namespace L2
open PySem PySem.W PySem.Spec PyProof.Rows
structure ZS (h : Heap) (z TI TO i1 i2 l1 l2 : Addr) (xs ys : Array Value) (a b : Value) : Prop where
  hz : IsZip h z TI TO .none
  hTI : IsPair h TI (.ref i1) (.ref i2)
  hTO : IsPair h TO a b
  h1 : h.IsListIter i1 l1 0
  h2 : h.IsListIter i2 l2 0
  hl1 : h.IsList l1 xs
  hl2 : h.IsList l2 ys
theorem ZS.keep {h h' : Heap} {z TI TO i1 i2 l1 l2 S : Addr} {xs ys : Array Value} {a b : Value} (q : ZS h z TI TO i1 i2 l1 l2 xs ys a b) (hS : S ≠ z ∧ S ≠ TI ∧ S ≠ i1 ∧ S ≠ i2 ∧ S ≠ l1 ∧ S ≠ l2) (hTS : S ≠ TO)
    (k : ∀ c o, c ≠ S → h.get? c = some o → h'.get? c = some o) : ZS h' z TI TO i1 i2 l1 l2 xs ys a b :=
  ⟨k _ _ hS.1.symm q.hz, k _ _ hS.2.1.symm q.hTI, k _ _ hTS.symm q.hTO, q.h1.at fun o e => k _ o hS.2.2.1.symm e, q.h2.at fun o e => k _ o hS.2.2.2.1.symm e, q.hl1.at fun o e => k _ o hS.2.2.2.2.1.symm e, q.hl2.at fun o e => k _ o hS.2.2.2.2.2.symm e⟩
section
variable {prog : Program} {w : World} {A : Around} {E : Value → Shared → Prop} {R : Result → Shared → Prop} {s : Shared}
end
end L2

set_option Elab.async false
set_option linter.all false
set_option maxRecDepth 100000
set_option maxHeartbeats 4000000
namespace L2
open PySem PySem.W PySem.Spec PyProof.Rows
noncomputable def zipAt : List Addr → List V → List V → Addr → Option (V × V)
  | T :: Ts, x :: xs, y :: ys, b => if b = T then some (x, y) else zipAt Ts xs ys b
  | _, _, _, _ => none
theorem zipAt_mem : ∀ {Ts : List Addr} {xs ys : List V} {b : Addr} {p : V × V}, zipAt Ts xs ys b = some p → b ∈ Ts ∧ ∃ j : Nat, Ts[j]? = some b ∧ xs[j]? = some p.1 ∧ ys[j]? = some p.2
  | [], _, _, _, _, h => by simp [zipAt] at h
  | T :: Ts, [], _, _, _, h => by simp [zipAt] at h
  | T :: Ts, x :: xs, [], _, _, h => by simp [zipAt] at h
  | T :: Ts, x :: xs, y :: ys, b, p, h => by
    unfold zipAt at h
    split at h
    · rename_i e
      cases h
      subst e
      exact ⟨List.mem_cons_self, 0, rfl, rfl, rfl⟩
    · obtain ⟨h1, j, h2, h3, h4⟩ := zipAt_mem h
      exact ⟨List.mem_cons_of_mem _ h1, j + 1, by simpa using h2, by simpa using h3, by simpa using h4⟩
theorem zipAt_at : ∀ {Ts : List Addr} {xs ys : List V} {j : Nat} {T : Addr} {x y : V}, Ts.Nodup → Ts[j]? = some T → xs[j]? = some x → ys[j]? = some y → zipAt Ts xs ys T = some (x, y)
  | [], _, _, _, _, _, _, _, h, _, _ => by simp at h
  | T0 :: Ts, [], _, _, _, _, _, _, _, h, _ => by simp at h
  | T0 :: Ts, x0 :: xs, [], _, _, _, _, _, _, _, h => by simp at h
  | T0 :: Ts, x0 :: xs, y0 :: ys, 0, T, x, y, _, h, h1, h2 => by
    simp at h h1 h2
    subst h h1 h2
    simp [zipAt]
  | T0 :: Ts, x0 :: xs, y0 :: ys, j + 1, T, x, y, nd, h, h1, h2 => by
    rw [List.nodup_cons] at nd
    simp only [List.getElem?_cons_succ] at h h1 h2
    have : T ≠ T0 := fun e => nd.1 (by rw [← e]; exact List.mem_of_getElem? h)
    unfold zipAt
    rw [if_neg this]
    exact zipAt_at nd.2 h h1 h2
noncomputable def zipHp (H : Hp) (S : Addr) (Ts : List Addr) (xs ys : List V) : Hp := fun b => if b = S then some (.lst (Ts.map V.ref)) else match zipAt Ts xs ys b with | some p => some (.tup [p.1, p.2]) | none => H b
theorem vals_refs : ∀ Ts : List Addr, Vals (Ts.map V.ref) (Ts.map Value.ref)
  | [] => .nil
  | T :: Ts => .cons rfl (vals_refs Ts)
section
variable {X : Cx} {x y : Str} {a b : Expr} {ta : TA} {p p2 pos pos2 : Pos}
end
end L2
namespace L2
open PySem PySem.W PySem.Spec PyProof.Rows
end L2

set_option Elab.async false
set_option linter.all false
set_option maxRecDepth 100000
set_option maxHeartbeats 4000000
namespace L2
open PySem PySem.W PySem.Spec PyProof.Rows
theorem lay_pairs {X : Cx} {pins : List (Addr × Obj)} {σ : St} {H : Hp} {s : Shared} (I : Inv X pins σ H s) {h2 : Heap} {tk c : Nat} {S : Addr} {Ts : List Addr} {xs ys : List V}
    (kall : ∀ b o, s.heap.get? b = some o → h2.get? b = some o) (hS : s.heap.objs.size ≤ S) (hSo : h2.get? S = some { cls := .type "list", dict := none, data := .seq (Ts.map Value.ref).toArray c, slots := #[] })
    (nT : ∀ T ∈ Ts, S < T) (nd : Ts.Nodup) (hl : Ts.length = xs.length) (hl2 : xs.length = ys.length) (hz : xs.length ≤ sizeLine)
    (at_ : ∀ (j : Nat) (T : Addr), Ts[j]? = some T → ∃ x y u v, xs[j]? = some x ∧ ys[j]? = some y ∧ RelV x u ∧ RelV y v ∧ h2.get? T = some { cls := .type "tuple", data := .seq #[u, v] }) :
    ∃ H', Inv X pins σ H' { s with heap := h2, toks := tk } ∧ H S = none ∧ Same H H' ∧ H' S = some (.lst (Ts.map V.ref)) ∧ ∀ (j : Nat) (T : Addr), Ts[j]? = some T → ∃ x y, xs[j]? = some x ∧ ys[j]? = some y ∧ H' T = some (.tup [x, y]) := by
  have nS : ∀ c o, H c = some o → c ≠ S := fun c o e z => by
    have lc := (I.hok c o e).lt
    rw [z] at lc
    exact Nat.lt_irrefl _ (Nat.lt_of_lt_of_le lc hS)
  have nTs : ∀ c o, H c = some o → c ∉ Ts := fun c o e z => Nat.lt_irrefl _ (Nat.lt_trans (Nat.lt_of_lt_of_le (I.hok c o e).lt hS) (nT c z))
  have ext : ∀ c o, H c = some o → zipHp H S Ts xs ys c = some o := fun c o e => by
    unfold zipHp
    rw [if_neg (nS c o e)]
    cases hz : zipAt Ts xs ys c with
    | none => exact e
    | some p => exact absurd (zipAt_mem hz).1 (nTs c o e)
  have atT : ∀ (j : Nat) T, Ts[j]? = some T → ∃ x y, xs[j]? = some x ∧ ys[j]? = some y ∧ zipHp H S Ts xs ys T = some (.tup [x, y]) := fun j T e => by
    obtain ⟨x, y, u, v, h1, h2, _⟩ := at_ j T e
    refine ⟨x, y, h1, h2, ?_⟩
    unfold zipHp
    rw [if_neg (Nat.ne_of_gt (nT T (List.mem_of_getElem? e))), zipAt_at nd e h1 h2]
  refine ⟨zipHp H S Ts xs ys, I.many (h' := h2) (t' := tk) kall ext (fun c o e hN => ?_) (fun c o e hN => ?_) (fun c o e => ?_), I.hok.fresh hS, ext, by unfold zipHp; rw [if_pos rfl], atT⟩
  · unfold zipHp at e
    split at e
    · rename_i z; rw [z]; exact hS
    · cases hz : zipAt Ts xs ys c with
      | none => rw [hz] at e; rw [hN] at e; cases e
      | some p => exact Nat.le_trans hS (Nat.le_of_lt (nT c (zipAt_mem hz).1))
  · unfold zipHp at e
    split at e
    · rename_i z
      cases e
      rw [z]
      exact ⟨by rw [List.length_map, hl]; exact hz, Ts.map Value.ref, _, vals_refs Ts, hSo⟩
    · cases hz : zipAt Ts xs ys c with
      | none => rw [hz] at e; rw [hN] at e; cases e
      | some p =>
        rw [hz] at e
        cases e
        obtain ⟨_, j, h1, h2', h3⟩ := zipAt_mem hz
        obtain ⟨x, y, u, v, e1, e2, ru, rv, hp⟩ := at_ j c h1
        rw [e1] at h2'
        rw [e2] at h3
        cases h2'
        cases h3
        exact ⟨by show 2 ≤ sizeLine; decide, [u, v], .cons ru (.cons rv .nil), _, hp, rfl, _, rfl⟩
  · exact (I.hok c o e).stay (fun c' u _ e => kall c' u e) (fun c' e => ext _ _ e) (fun c' xs e => ext _ _ e)
section
variable {X : Cx}
noncomputable def tListItems (td : TE) : TE := fun σ H Q => td σ H fun x H1 => ∃ d kvs, x = .ref d ∧ H1 d = some (.dK kvs) ∧
  ∀ (S : Addr) (Ts : List Addr) (H' : Hp), H1 S = none → Same H1 H' → H' S = some (.lst (Ts.map V.ref)) → Ts.length = kvs.length → (∀ (j : Nat) (T : Addr), Ts[j]? = some T → ∃ k y, kvs[j]? = some (k, y) ∧ H' T = some (.tup [kV k, y])) → Q (.ref S) H'
theorem pe_listItems {o : Expr} {td : TE} {p apos pos2 pos : Pos} (hc : X.calm = true) (hg : Gl X "list") (hm : X.mg "list" = none) (ho : PE X o td)
    (hbase : attributeBase o "items" X.env (eval o X.env) = eval o X.env := by rfl) (hline : (apos.endLine == pos2.line) = true := by rfl) :
    PE X (.Call (.Name "list" p) [.Call (.Attribute o "items" apos) [] [] pos2] [] pos) (tListItems td) := by
  intro pins s σ H Q I h
  refine wpAny_Call_Name_kw (ld_blt I hg hm boot_list ?_ (by decide) (by decide))
  refine PyProof.Rows.callWith_type1 ?_ rfl rfl
  show wpAny _ _ (spliced ((false, eval (.Call (.Attribute o "items" apos) [] [] pos2) X.env) :: backTo pos (starEach [] X.env))) _ _ s
  refine Calls.spliced_cons ?_
  refine wpAny_Call_method0_late hbase hline (thn (ho pins s σ H _ I h) fun u s1 ⟨x, H1, I1, rx, d, kvs, ex, hd, q⟩ => ?_)
  subst ex
  obtain rfl : u = Value.ref d := rx
  obtain ⟨z, hsys, vs, rel, dd⟩ := dk_of I1.hok hd
  obtain ⟨ep, hat⟩ := id dd.dictAt
  obtain ⟨t1, t2, _⟩ := isD_at I1 (.inl ⟨kvs, .inl hd⟩)
  have rl := rel.length
  refine ⟨"dict", "dict.items", PySem.F.plainAttrs_dict, PySem.F.slot_dict_items, PySem.F.type_dict_items, t1, t2, Calls.callWith_builtin rfl (PySem.evalArgs_none ?_)⟩
  refine call_meetsIn PySem.F.slot_dict_items dd.typeIs PySem.F.entry_dict_items (PySem.F.args_dict_items_1 _) (meets_dict_items (mixKind X.prog X.w) d hsys) ⟨⟨vs, dd⟩, ?_⟩
  have hv : (s1.heap.push { cls := .type "dict_items", data := .fields #[.ref d] }).IsItemsView s1.heap.objs.size d := ⟨_, Heap.get?_push_size _ rfl, rfl, rfl⟩
  refine Calls.spliced_nil ?_
  refine kdx_call (knd := mixKind X.prog X.w) (kvs := vs) (ep := ep) (I1.ok.hd hc) hv (hat.push _) (by omega) fun h' tk acc c as hk hS hl hG hacc => ?_
  have hsz : (s1.heap.push { cls := .type "dict_items", data := .fields #[.ref d] }).objs.size = s1.heap.objs.size + 1 := Heap.size_push ..
  have ea : acc = (as.map Value.ref).toArray := by rw [← hacc, Array.toArray_toList]
  rw [ea] at hS
  obtain ⟨H', I', hN, sm, eS, eT⟩ := lay_pairs (tk := tk) (xs := kvs.map fun p => kV p.1) (ys := kvs.map (·.2)) I1 (fun b o e => hk b o (Heap.get?_push_of_some _ e)) (Nat.le_of_lt (by show s1.heap.objs.size < (s1.heap.push _).objs.size; rw [hsz]; exact Nat.lt_succ_self _)) hS hG.above (hG.rise.imp fun h => Nat.ne_of_lt h) (by rw [hl, List.length_map]; omega) (by rw [List.length_map, List.length_map]) (by rw [List.length_map]; exact z) fun j T e => by
    obtain ⟨key, k, x, e1, e2, e3⟩ := hG.pairs j T e
    have hj : j < kvs.length := by have := (List.getElem?_eq_some_iff.mp e1).1; omega
    obtain ⟨u, hu, ru⟩ := kv_at rel (List.getElem?_eq_getElem hj)
    rw [e1] at hu
    cases hu
    exact ⟨_, _, _, _, by rw [List.getElem?_map, List.getElem?_eq_getElem hj]; rfl, by rw [List.getElem?_map, List.getElem?_eq_getElem hj]; rfl, kV_rel e2, ru, e3⟩
  refine ⟨.ref _, H', I', rfl, q _ as H' hN sm eS (by omega) fun j T e => ?_⟩
  obtain ⟨x, y, e1, e2, e3⟩ := eT j T e
  rw [List.getElem?_map, Option.map_eq_some_iff] at e1 e2
  obtain ⟨p1, h1, rfl⟩ := e1
  obtain ⟨p2, h2, rfl⟩ := e2
  rw [h1] at h2
  cases h2
  exact ⟨p1.1, p1.2, h1, e3⟩
end
end L2

set_option Elab.async false
set_option linter.all false
set_option maxRecDepth 100000
set_option maxHeartbeats 4000000
namespace L2
open PySem PySem.W PySem.Spec PyProof.Rows
section
variable {prog : Program} {w : World} {A : Around} {E : Value → Shared → Prop} {s : Shared}
theorem nokeys : typeLookup (.type "list") "keys" = pure none := by rw [typeLookup_type, builtinLookup_eq_fast]; kernel_rfl
theorem getAttr?_list {a : Addr} {xs : Array Value} {k : Nat} {sl : Array (Option Value)} {Q : Option Value → Shared → Prop}
    (hx : s.heap.get? a = some { cls := .type "list", dict := none, data := .seq xs k, slots := sl }) (hA : A.handled = none)
    (h : ∀ h' tk, (∀ b o, s.heap.get? b = some o → h'.get? b = some o) → Q none { s with heap := h', toks := tk }) :
    wpAny (model prog w) A (getAttr? (.ref a) "keys") Q E s := by
  obtain ⟨hp, g, d, tk, os⟩ := s
  have hT : ∀ tk', (⟨hp, g, d, tk', os⟩ : Shared).TypeIs (.ref a) "list" := fun _ => ⟨_, hx, rfl⟩
  have f1 := sub_AttributeError
  have f3 := F.slot_list_getattribute.lookup
  have f4 := F.slot_list_getattribute.bind (.ref a)
  have f5 := am_list_getattr_none
  unfold getAttr? getAttrBy? getAttrBy
  repeat (any_goals (first | assumption | exact hT _ | ((with_reducible show wpAny _ _ (call (Value.builtin "list.__getattribute__") _ _) _ _ _); refine call_meets F.slot_list_getattribute (hT _) am_entry_list_getattribute (F.args_list_getattribute_2 _ _) (meets_getattribute_miss_list a xs k sl "keys" _ nokeys (by decide) (by size_fits)) ⟨hx, hA, fun h' tk' e hx' => ?_⟩) | wp_step))
  obtain ⟨t', u', he⟩ := hx'.there
  show wpAny _ _ (getattributeRaised _ _ _ _ _ _ _) _ _ _
  unfold getattributeRaised
  repeat (any_goals (first | assumption | wp_step))
  exact h _ _ hx'.of.keeps
theorem entry_upd_loop : entryFor table "dict.update.loop" = some Builtin.«dict.update.loop» := entryFor_of_tree (by kernel_rfl)
theorem plain_upd_loop : plainId "dict.update.loop" = true := by decide +kernel
noncomputable def PairIs (knd : KeyKind prog w Key) (h : Heap) (x : Value) (p : Key × Value) : Prop := ∃ T o key n, x = .ref T ∧ h.get? T = some o ∧ o.cls = .type "tuple" ∧ o.data = .seq #[key, p.2] n ∧ knd.is p.1 key = true
theorem upd_loop {knd : KeyKind prog w Key} (hh : A.handled = none) {D it L : Addr} {xs : Array Value} {res : Value} (hDi : D ≠ it) (hLD : L ≠ D) (hLi : L ≠ it) {R : Result → Shared → Prop} : ∀ (rest : List (Key × Value)) (i : Nat) (tk0 : Tok) (acc : List (Key × Value)) (s : Shared),
    s.heap.IsListIter it L i → s.heap.IsList L xs → s.heap.DictOf knd D acc → acc.length + rest.length ≤ sizeLine → xs.size = i + rest.length → (∀ j p, rest[j]? = some p → ∃ x, xs[i + j]? = some x ∧ PairIs knd s.heap x p) →
    (∀ h' tk, h'.DictOf knd D (merged acc rest) → (∀ b o, b ≠ D → b ≠ it → s.heap.get? b = some o → h'.get? b = some o) → R (.ok (.ret res)) { s with heap := h', toks := tk }) →
    codeAny (model prog w) A (.builtin "dict.update.loop" ⟨[.ref D, .ref it, .int i tk0, res], []⟩) R s
  | [], i, tk0, acc, s, hit, hl, hd, hsz, hxs, hp, hR => by
    refine codeAny_builtin entry_upd_loop ?_
    rw [Around.under_plainId plain_upd_loop _]
    show wpAny _ A.in1 (pyNext (.ref it) >>= _) _ _ s
    refine wpAny_bind (wpAny_pyNext_list_end hh hit hl (Array.getElem?_eq_none (by simp at hxs; omega)) fun h' ex => ?_)
    show wpAny _ A.in1 (Builtin.Dict.addKeywords D [] >>= _) _ _ _
    refine wpAny_bind (wpAny_pure (wpAny_pure ?_))
    exact hR h' s.toks (hd.at fun o e => ex D o hDi e) fun b o _ hb e => ex b o hb e
  | (k, v) :: rest, i, tk0, acc, s, hit, hl, hd, hsz, hxs, hp, hR => by
    refine codeAny_builtin entry_upd_loop ?_
    rw [Around.under_plainId plain_upd_loop _]
    show wpAny _ A.in1 (pyNext (.ref it) >>= _) _ _ s
    obtain ⟨x, hx, T, o, key, n, rfl, ho, hc, hdat, hk⟩ := hp 0 (k, v) rfl
    refine wpAny_bind (wpAny_pyNext_list_item hit hl (by simpa using hx) fun h' hit' sb => ?_)
    have hTit : T ≠ it := fun z => by
      obtain ⟨oi, e1, _, e2⟩ := hit
      rw [z, e1] at ho
      cases ho
      rw [hdat] at e2
      cases e2
    have hTD : T ≠ D := fun z => by
      obtain ⟨oi, _, _, e1, _, e2, _⟩ := hd
      rw [z, e1] at ho
      cases ho
      rw [hdat] at e2
      cases e2
    have ho' : h'.get? T = some o := sb.extBut T o hTit ho
    show wpAny _ A.in1 (holding [.ref T] _ >>= _) _ _ _
    refine wpAny_bind (wpAny_holding (wpAny_bind (wpAny_tryCatch ?_)))
    unfold Builtin.Dict.pairItems
    refine wpAny_bind (wpAny_typeOf (T := "tuple") ⟨o, ho', hc⟩ ?_)
    simp only [beq_self_eq_true, Bool.or_true, if_true]
    refine wpAny_bind (wpAny_seqItems ho' hdat (wpAny_pure ?_))
    show wpAny _ A.in1 (holding [key, v] (dictSet D key v)) _ _ _
    have hd' : h'.DictOf knd D acc := hd.at fun o e => sb.extBut D o hDi e
    refine wpAny_holding (wpAny_dictSet_pairs hk hd' (fun h2 hd2 sb2 => ?_) (by simp at hsz; omega))
    show wpAny _ A.in1 (again _) _ _ _
    refine wpAny_pure ⟨plainId_quiet plain_upd_loop _, ?_⟩
    have hn : (i : Int) + 1 = ((i + 1 : Nat) : Int) := by omega
    rw [hn]
    have hlen : (stored acc k v).length ≤ acc.length + 1 := by
      unfold stored
      split <;> simp
    refine upd_loop hh hDi hLD hLi rest (i + 1) _ (stored acc k v) _ (hit'.at fun o e => sb2.extBut it o hDi.symm e) (hl.at fun o e => sb2.extBut L o hLD (sb.extBut L o hLi e)) hd2 (by simp at hsz; omega) (by simp at hxs; omega) (fun j p hj => ?_) fun h3 tk hd3 kp => ?_
    · obtain ⟨x, hx, T', o', key', n', rfl, ho2, hc2, hdat2, hk2⟩ := hp (j + 1) p hj
      refine ⟨_, by rw [show i + 1 + j = i + (j + 1) by omega]; exact hx, T', o', key', n', rfl, ?_, hc2, hdat2, hk2⟩
      refine sb2.extBut T' o' (fun z => ?_) (sb.extBut T' o' (fun z => ?_) ho2)
      · obtain ⟨oi, _, _, e1, _, e2, _⟩ := hd
        rw [z, e1] at ho2
        cases ho2
        rw [hdat2] at e2
        cases e2
      · obtain ⟨oi, e1, _, e2⟩ := hit
        rw [z, e1] at ho2
        cases ho2
        rw [hdat2] at e2
        cases e2
    · exact hR h3 tk hd3 fun b o h1 h2 e => kp b o h1 h2 (sb2.extBut b o h1 (sb.extBut b o h2 e))

end
theorem is_of_rel {P : Program} {w : World} {k : Key} {u : Value} (h : RelV (kV k) u) : (mixKind P w).is k u = true := by
  rw [mixKind_is]
  cases k with
  | inl i => obtain ⟨t, rfl⟩ := (show ∃ t, u = Value.int i t from h); simp [keyIs, Value.isInt]
  | inr x => obtain ⟨t, rfl⟩ := (show ∃ t, u = Value.str x t from h); simp [keyIs, Value.isStrOf]
theorem pairs_ex {P : Program} {w : World} {h : Heap} : ∀ (Ts : List Addr) (kvs : List (Key × V)), Ts.length = kvs.length → (∀ (j : Nat) (T : Addr), Ts[j]? = some T → ∃ k y v, kvs[j]? = some (k, y) ∧ RelV y v ∧ PairIs (mixKind P w) h (.ref T) (k, v)) →
    ∃ ps : List (Key × Value), KV kvs ps ∧ ∀ (j : Nat) p, ps[j]? = some p → ∃ T, Ts[j]? = some T ∧ PairIs (mixKind P w) h (.ref T) p
  | [], [], _, _ => ⟨[], .nil, fun j p e => by simp at e⟩
  | T :: Ts, (k, y) :: kvs, hl, H => by
    obtain ⟨ps, r, hp⟩ := pairs_ex Ts kvs (by simpa using hl) fun j T' e => H (j + 1) T' e
    obtain ⟨k', y', v, e, rv, pi⟩ := H 0 T rfl
    cases e
    refine ⟨(k, v) :: ps, .cons ⟨rfl, rv⟩ r, fun j p e => ?_⟩
    cases j with
    | zero => cases e; exact ⟨T, rfl, pi⟩
    | succ j => exact hp j p e
section
variable {X : Cx}
theorem call_dictP (hc : X.calm = true) : CallR X (.type "dict") (fun xs H Q => ∃ (l : Addr) (Ts : List Addr) (kvs : List (Key × V)), xs = [.ref l] ∧ H l = some (.lst (Ts.map V.ref)) ∧ Ts.length = kvs.length ∧ kvs.length ≤ 1000 ∧
    (∀ (j : Nat) (T : Addr), Ts[j]? = some T → ∃ k y, kvs[j]? = some (k, y) ∧ H T = some (.tup [kV k, y])) ∧ ∀ d, H d = none → Q (.ref d) (upd H d (.dK (mergeK [] kvs)))) := by
  intro pins s σ H xs us Q I r h
  obtain ⟨l, Ts, kvs, rfl, hl, hlen, h1000, hT, q⟩ := h
  obtain ⟨u, rfl, rx⟩ := vals1 r
  cases rx
  obtain ⟨its, rv, pl, hz⟩ := I.list (SqL.of hl)
  have rl := rv.length
  rw [List.length_map] at rl
  have nl : l < s.heap.objs.size := by obtain ⟨_, _, z, _⟩ := pl; exact Heap.lt_size z
  refine callType_codes (Q₁ := fun obj s₁ => obj = .ref s.heap.objs.size ∧ s₁ = { s with heap := s.heap.push { cls := .type "dict", data := .dict #[] } }) F.kt_called_dict (F.kt_typeCall_dict_1 _) F.entry_dict_init (kt_code_dict_new _ ⟨rfl, rfl⟩) ?_
  rintro obj s₁ ⟨rfl, rfl⟩
  have hnew : (s.heap.push { cls := .type "dict", data := .dict #[] }).DictOf (mixKind X.prog X.w) s.heap.objs.size [] := Heap.DictOf.new s.heap
  refine ⟨hnew.typeIs, F.args_dict_init_2 _ _, ?_⟩
  unfold Builtin.«dict.__init__»
  refine wpAny_bind ?_
  unfold Builtin.Dict.selfAndRest
  refine wpAny_bind (wpAny_notOrdered_dict hnew.typeIs ?_)
  show wpAny _ _ (pure (s.heap.objs.size, [Value.ref l])) _ _ _
  refine wpAny_pure ?_
  show wpAny _ _ (Builtin.Dict.updateFrom "dict.__init__" s.heap.objs.size (.ref l) [] .none) _ _ _
  unfold Builtin.Dict.updateFrom
  obtain ⟨o, c, ho, hcl, hdi, hda⟩ := id pl
  obtain ⟨cls, dct, dat, sl⟩ := o
  simp only at hcl hdi hda
  subst hcl hdi hda
  have kp1 : ∀ b o, s.heap.get? b = some o → (s.heap.push { cls := .type "dict", data := .dict #[] }).get? b = some o := fun b o e => Heap.get?_push_of_some _ e
  refine wpAny_bind (wpAny_typeOf (T := "list") ⟨_, kp1 _ _ ho, rfl⟩ ?_)
  rw [if_pos (by decide)]
  refine wpAny_bind (getAttr?_list (kp1 _ _ ho) (I.ok.hd hc) fun h2 tk kp2 => ?_)
  rw [if_pos (show (none : Option Value).isNone = true from rfl)]
  have hl2 : h2.IsList l its.toArray := pl.isList.at fun o e => kp2 _ o (kp1 _ o e)
  refine wpAny_bind (wpAny_rule ?_)
  refine wpAny_bind (wpAny_pyIter_list hl2 ?_)
  have hsz1 : (s.heap.push { cls := .type "dict", data := .dict #[] }).objs.size = s.heap.objs.size + 1 := Heap.size_push ..
  have hs2 : s.heap.objs.size < h2.objs.size := by
    obtain ⟨od, _, _, e1, _⟩ := hnew
    exact Heap.lt_size (kp2 _ _ e1)
  have hl2z : l < h2.objs.size := Nat.lt_trans nl hs2
  generalize hoi : ({ cls := .type "list_iterator", data := .fields #[.ref l, .int 0 0] } : Obj) = oi
  have kp3 : ∀ b o, h2.get? b = some o → (h2.push oi).get? b = some o := fun b o e => Heap.get?_push_of_some _ e
  have hitr : (h2.push oi).IsListIter h2.objs.size l 0 := ⟨oi, Heap.get?_push_size _ (by rw [← hoi]; rfl), by rw [← hoi], by rw [← hoi]; rfl⟩
  have kall : ∀ b o, s.heap.get? b = some o → (h2.push oi).get? b = some o := fun b o e => kp3 b o (kp2 b o (kp1 b o e))
  obtain ⟨ps, rel, hps⟩ := pairs_ex (P := X.prog) (w := X.w) (h := h2.push oi) Ts kvs hlen fun j T e => by
    obtain ⟨k, y, e1, e2⟩ := hT j T e
    obtain ⟨us, r2, ⟨ot, g1, g2, n, g3⟩, _⟩ := I.tuple (SqT.of e2)
    obtain ⟨u, v, rfl, ru, rv2⟩ := r2.two
    exact ⟨k, y, v, e1, rv2, T, ot, u, n, rfl, kall _ _ g1, g2, g3, is_of_rel ru⟩
  have pl2 := rel.length
  have h1000s : (1000 : Nat) ≤ sizeLine := by decide
  refine wpAny_pure ⟨plainId_quiet plain_upd_loop _, ?_⟩
  refine upd_loop (knd := mixKind X.prog X.w) (L := l) (xs := its.toArray) (A := X.A.in1) (I.ok.hd hc) (Nat.ne_of_lt hs2) (Nat.ne_of_lt nl) (Nat.ne_of_lt hl2z) ps 0 _ [] _ hitr (hl2.at fun o e => kp3 _ o e) (hnew.at fun o e => kp3 _ o (kp2 _ o e)) (by rw [← pl2]; simp; omega) (by simp; omega) (fun j p e => ?_) fun h4 tk4 hd4 kp4 => ?_
  · obtain ⟨T, e1, e2⟩ := hps j p e
    have e3 : (Ts.map V.ref)[j]? = some (.ref T) := by rw [List.getElem?_map, e1]; rfl
    obtain ⟨u, hu, ru⟩ := rv.get e3
    cases ru
    refine ⟨_, by rw [Nat.zero_add, List.getElem?_toArray]; exact hu, e2⟩
  · have hn := I.hok.fresh (Nat.le_refl s.heap.objs.size)
    have hzk : (mergeK [] kvs).length ≤ sizeLine := by
      have h1 := length_mergeK kvs []
      rw [List.length_nil] at h1
      omega
    refine ⟨rfl, .ref s.heap.objs.size, _, I.laid (h' := h4) (t' := tk4) (fun b o e => kp4 b o (Nat.ne_of_lt (Heap.lt_size e)) (Nat.ne_of_lt (Nat.lt_trans (Heap.lt_size e) hs2)) (kall b o e)) (Nat.le_refl _) (dk_new hzk (beq_eq_false_iff_ne.mpr (Ne.symm (Nat.ne_of_lt I.big))) (rel.merge .nil) hd4), rfl, q _ hn⟩
end
end L2

set_option Elab.async false
set_option linter.all false
set_option maxRecDepth 100000
set_option maxHeartbeats 4000000
namespace CW
open PySem L2
structure Bt6 (mg : Str → Option Value) : Prop where
  dict : mg "dict" = none
noncomputable def numO (t : Str) : V := if numB t = true then .int (numV t) else .non
inductive spNumL (vs : List V) (H : Hp) (Q : VK) (E_ : XK) : Prop
  | mk (t : Str) (h0_ : vs = [.str t]) (h1_ : Txs t) (h2_ : ∀ H', Same H H' → Q (numO t) H') : spNumL vs H Q E_
noncomputable def PartsOk (ps : List Str) (a b : Nat) : Prop := ps.length = a + b ∧ (ps.take a).all (fun n => madeB n letS 8) = true ∧ (ps.drop a).all numB = true
inductive spPartsG (vs : List V) (H : Hp) (Q : VK) (E_ : XK) : Prop
  | mk (l : Addr) (ps : List Str) (a b : Nat) (h0_ : vs = [.ref l, .int a, .int b]) (h1_ : H l = some (.lst (ps.map V.str))) (h2_ : ∀ n ∈ ps, Txs n) (h3_ : 1 ≤ a) (h4_ : ps.length ≤ 5001)
      (h5_ : PartsOk ps a b → ∀ (t : Addr) (H' : Hp), H t = none → Same H H' → H' t = some (.tup ((ps.take a).map V.str ++ ((ps.drop a).map numV).map V.int)) → Q (.ref t) H')
      (h6_ : ¬ PartsOk ps a b → ∀ H', Same H H' → Q .non H') : spPartsG vs H Q E_
inductive spDeedG (vs : List V) (H : Hp) (Q : VK) (E_ : XK) : Prop
  | mk (t : Str) (h0_ : vs = [.str t]) (h1_ : Txs t) (h2_ : ∀ d, readD t = some d → ∀ v H', Same H H' → DeedAt H' v d → Q v H') (h3_ : readD t = none → ∀ H', Same H H' → Q .non H') : spDeedG vs H Q E_
inductive spReadR (C : Addr) (vs : List V) (H : Hp) (Q : VK) (E_ : XK) : Prop
  | mk (t : Str) (h0_ : vs = [.str t]) (h1_ : Txs t) (h2_ : ∀ d, readD t = some d → ∀ v H', Same H H' → DeedAt H' v d → Q v H') (h3_ : readD t = none → ∀ H', Same H H' → RfI E_ C "BadText" 0 H') : spReadR C vs H Q E_
inductive spWhyT (vs : List V) (H : Hp) (Q : VK) (E_ : XK) : Prop
  | mk (t : Str) (h0_ : vs = [.str t]) (h1_ : Txs t) (h2_ : ∀ d, readD t = some d → ∀ tv v H', Same H H' → H' tv = some (.tup [.str "told", v]) → DeedAt H' v d → Q (.ref tv) H') (h3_ : readD t = none → ∀ tv H', Same H H' → H' tv = some (.tup [.str "BadText", .int 0]) → Q (.ref tv) H') : spWhyT vs H Q E_
inductive spBent (vs : List V) (H : Hp) (Q : VK) (E_ : XK) : Prop
  | mk (t : Str) (a : Addr) (ns : List Int) (n : Nat) (h0_ : vs = [.str t, .ref a]) (h1_ : H a = some (.lst (ns.map V.int))) (h2_ : Nums ns) (h3_ : 3 ≤ ns.length) (h4_ : TxB n t) (h5_ : n ≤ 2400) (h6_ : ∀ t' H', TxB (2 * n + 70) t' → Same H H' → Q (.str t') H') : spBent vs H Q E_
theorem readW_build {ps : List Str} (h : PartsOk ps 1 (ps.length - 1)) : ∃ n xs, ps = n :: xs ∧ readW "build" ps = some ⟨"build", [n], xs.map numV, true⟩ := by
  obtain ⟨h1, h2, h3⟩ := h
  cases ps with
  | nil => simp at h1
  | cons n xs =>
    refine ⟨n, xs, rfl, ?_⟩
    unfold readW
    rw [if_pos rfl]
    have a1 : madeB n letS 8 = true := by simpa using h2
    have a2 : xs.all numB = true := h3
    show (if madeB n letS 8 = true ∧ xs.all numB = true then _ else _) = _
    rw [if_pos ⟨a1, a2⟩]
theorem readW_nobuild {ps : List Str} (h : ¬ PartsOk ps 1 (ps.length - 1)) : readW "build" ps = none := by
  unfold readW
  rw [if_pos rfl]
  cases ps with
  | nil => rfl
  | cons n xs =>
    show (if madeB n letS 8 = true ∧ xs.all numB = true then _ else _) = _
    rw [if_neg]
    rintro ⟨a1, a2⟩
    exact h ⟨by simp; omega, by simpa using a1, a2⟩
theorem readW_form {w : Str} {ps : List Str} {a b : Nat} (hw : w ≠ "build") (hf : formW w = some ((a : Int), (b : Int))) : readW w ps = if ps.length = a + b ∧ (ps.take a).all (fun n => madeB n letS 8) = true ∧ (ps.drop a).all numB = true then some ⟨w, ps.take a, (ps.drop a).map numV, false⟩ else none := by
  unfold readW
  rw [if_neg hw, hf]
  show (if ((ps.length : Int) = (a : Int) + (b : Int) ∧ (ps.take (a : Int).toNat).all (fun n => madeB n letS 8) = true ∧ (ps.drop (a : Int).toNat).all numB = true) then some (⟨w, ps.take (a : Int).toNat, (ps.drop (a : Int).toNat).map numV, false⟩ : Dd) else none) = _
  rw [Int.toNat_natCast]
  by_cases c : ps.length = a + b
  · have c' : (ps.length : Int) = (a : Int) + (b : Int) := by omega
    simp [c, c']
  · have c' : ¬ (ps.length : Int) = (a : Int) + (b : Int) := by omega
    simp [c, c']
theorem readW_ok {w : Str} {ps : List Str} {a b : Nat} (hw : w ≠ "build") (hf : formW w = some ((a : Int), (b : Int))) (h : PartsOk ps a b) : readW w ps = some ⟨w, ps.take a, (ps.drop a).map numV, false⟩ := by
  rw [readW_form hw hf]
  exact if_pos h
theorem readW_no {w : Str} {ps : List Str} {a b : Nat} (hw : w ≠ "build") (hf : formW w = some ((a : Int), (b : Int))) (h : ¬ PartsOk ps a b) : readW w ps = none := by
  rw [readW_form hw hf]
  exact if_neg h
theorem readW_none {w : Str} {ps : List Str} (hw : w ≠ "build") (hf : formW w = none) : readW w ps = none := by
  unfold readW
  rw [if_neg hw, hf]
theorem words_of {t : Str} (h : Txs t) : ∃ w ps, Txt.split t " " = w :: ps ∧ readD t = readW w ps ∧ (∀ z ∈ w :: ps, Txs z) ∧ ps.length ≤ 5000 := by
  obtain ⟨a1, a2, a3⟩ := (TxB.of h h.len).split
  cases hs : Txt.split t " " with
  | nil => exact absurd hs (split_ne t " ")
  | cons w ps =>
    rw [hs] at a1 a2
    refine ⟨w, ps, rfl, ?_, fun z hz => (a1 z hz).txs (Nat.le_refl _), by simpa using a2⟩
    unfold readD
    rw [hs]
theorem str_at {ws : List Str} {i : Int} (h0 : 0 ≤ i) (h1 : i < ws.length) : ∃ z ∈ ws, atI (ws.map V.str) i = some (.str z) := by
  obtain ⟨n, rfl⟩ : ∃ n : Nat, i = (n : Int) := ⟨i.toNat, by omega⟩
  have hn : n < ws.length := by omega
  refine ⟨ws[n], List.getElem_mem _, atI_nat ?_⟩
  rw [List.getElem?_map, List.getElem?_eq_getElem hn]
  rfl
theorem sign_at {x : Str} {i : Int} (h0 : 0 ≤ i) (h1 : i < x.length) : ∃ c, atI x.cps.toList i = some c ∧ c ∈ signs x := by
  obtain ⟨n, rfl⟩ : ∃ n : Nat, i = (n : Int) := ⟨i.toNat, by omega⟩
  have hn : n < x.cps.toList.length := by rw [show x.cps.toList.length = x.length from signs_len x]; omega
  exact ⟨x.cps.toList[n], atI_nat (List.getElem?_eq_getElem hn), List.getElem_mem _⟩
noncomputable abbrev bentS : Str := " \n-+.0AZaz9_!~#:;"
theorem bent_asc : ∀ c ∈ signs bentS, c < 128 := by decide +kernel
noncomputable abbrev oddW : List Str := ["-0", "00", "-", "+3", "007", "-01", "", Txt.mul "1" 61, "-" ++ Txt.mul "9" 61, "a1", "abcdefghi", "A", "walk", "0", "-7"]
theorem odd_tb : ∀ z ∈ oddW, TxB 62 z := by
  have h : ∀ z ∈ oddW, (∀ c ∈ signs z, c < 128) ∧ z.length ≤ 62 := by decide +kernel
  exact fun z hz => ⟨(h z hz).1, (h z hz).2⟩
theorem one_tb {c : Nat} (h : c < 128) : TxB 1 ⟨#[c]⟩ := ⟨fun d hd => by have : d ∈ [c] := hd; rw [List.mem_singleton.mp this]; exact h, Nat.le_refl _⟩
theorem cut_str_to (ws : List Str) (i : Nat) (hi : i ≤ ws.length) : cutV (ws.map V.str) none (some (i : Int)) = (ws.take i).map V.str := by rw [cutV_to, List.map_take]
theorem cut_str_from (ws : List Str) (i : Nat) : cutV (ws.map V.str) (some (i : Int)) none = (ws.drop i).map V.str := by rw [cutV_from, List.map_drop]
theorem wt_drop (ws : List Str) (i : Nat) : wt (ws.drop i) ≤ wt ws := by
  have := wt_app (ws.take i) (ws.drop i)
  rw [List.take_append_drop] at this
  omega
theorem wt_cut (ws : List Str) (i : Nat) : wt (ws.take i) + wt (ws.drop (i + 1)) ≤ wt ws := by
  have := wt_app (ws.take i) (ws.drop i)
  rw [List.take_append_drop] at this
  have h2 : wt (ws.drop (i + 1)) ≤ wt (ws.drop i) := by
    have := wt_drop (ws.drop i) 1
    rw [List.drop_drop] at this
    exact this
  omega
theorem wt_at (ws : List Str) (j : Nat) (h : j < ws.length) : ∃ w, w ∈ ws ∧ atI (ws.map V.str) (j : Int) = some (.str w) ∧ wt (ws.take j) + (w.length + 1) + wt (ws.drop (j + 1)) = wt ws := by
  refine ⟨ws[j], List.getElem_mem _, atI_nat (by rw [List.getElem?_map, List.getElem?_eq_getElem h]; rfl), ?_⟩
  have := wt_app (ws.take j) (ws.drop j)
  rw [List.take_append_drop, List.drop_eq_getElem_cons h, wt_cons] at this
  omega
theorem fold_wt (ws : List Str) (k : Nat) : ws.foldl (fun m z => m + z.length + (" " : Str).length) k = k + wt ws := by
  induction ws generalizing k with
  | nil => simp [wt]
  | cons z r ih =>
    have h3 : (" " : Str).length = 1 := by decide
    rw [List.foldl_cons, ih, wt_cons, h3]
    omega
noncomputable abbrev frm6 : List (Key × V) := [(Sum.inr "shut", .str "n"), (Sum.inr "walk", .str "nii"), (Sum.inr "put", .str "ni"), (Sum.inr "take", .str "ni"), (Sum.inr "mirror", .str "n"), (Sum.inr "lay", .str "nni")]
noncomputable abbrev frm8 : List (Key × V) := frm6 ++ ([(Sum.inr "late", V.str "niii"), (Sum.inr "strike", V.str "ni")] : List (Key × V))
theorem merge8 : mergeK [] frm8 = frm8 := rfl
theorem forms_at (w : Str) : (∃ (a b : Nat) (x : Str), formW w = some ((a : Int), (b : Int)) ∧ valV frm8 (Sum.inr w) = some (.str x) ∧ signs x = List.replicate a 110 ++ List.replicate b 105 ∧ 1 ≤ a ∧ a ≤ 2 ∧ b ≤ 3) ∨ (formW w = none ∧ valV frm8 (Sum.inr w) = none) := by
  by_cases h1 : w = "shut"
  · subst h1; exact .inl ⟨1, 0, "n", by decide +kernel, rfl, by decide +kernel, by decide, by decide, by decide⟩
  by_cases h2 : w = "walk"
  · subst h2; exact .inl ⟨1, 2, "nii", by decide +kernel, rfl, by decide +kernel, by decide, by decide, by decide⟩
  by_cases h3 : w = "put"
  · subst h3; exact .inl ⟨1, 1, "ni", by decide +kernel, rfl, by decide +kernel, by decide, by decide, by decide⟩
  by_cases h4 : w = "take"
  · subst h4; exact .inl ⟨1, 1, "ni", by decide +kernel, rfl, by decide +kernel, by decide, by decide, by decide⟩
  by_cases h5 : w = "mirror"
  · subst h5; exact .inl ⟨1, 0, "n", by decide +kernel, rfl, by decide +kernel, by decide, by decide, by decide⟩
  by_cases h6 : w = "lay"
  · subst h6; exact .inl ⟨2, 1, "nni", by decide +kernel, rfl, by decide +kernel, by decide, by decide, by decide⟩
  by_cases h7 : w = "late"
  · subst h7; exact .inl ⟨1, 3, "niii", by decide +kernel, rfl, by decide +kernel, by decide, by decide, by decide⟩
  by_cases h8 : w = "strike"
  · subst h8; exact .inl ⟨1, 1, "ni", by decide +kernel, rfl, by decide +kernel, by decide, by decide, by decide⟩
  refine .inr ⟨by unfold formW; rw [if_neg h1, if_neg h2, if_neg h3, if_neg h4, if_neg h5, if_neg h6, if_neg h7, if_neg h8], ?_⟩
  unfold valV
  rw [List.find?_eq_none.mpr]
  · rfl
  · intro p hp
    simp only [frm8, frm6, List.cons_append, List.nil_append, List.mem_cons, List.not_mem_nil, or_false] at hp
    rcases hp with rfl | rfl | rfl | rfl | rfl | rfl | rfl | rfl <;> simp <;> intro z <;> first | exact h1 z.symm | exact h2 z.symm | exact h3 z.symm | exact h4 z.symm | exact h5 z.symm | exact h6 z.symm | exact h7 z.symm | exact h8 z.symm
theorem numO_flat (z : Str) : flatV (numO z) = true := by unfold numO; split <;> rfl
theorem numO_in : ∀ xs : List Str, inV .non (xs.map numO) = !(xs.all numB)
  | [] => rfl
  | z :: xs => by
    have ih := numO_in xs
    rw [List.map_cons, List.all_cons]
    cases hz : numB z with
    | true =>
      have : numO z = .int (numV z) := by unfold numO; rw [hz]; rfl
      rw [this, Bool.true_and, ← ih]
      simp [inV, eqV]
    | false =>
      have : numO z = .non := by unfold numO; rw [hz]; rfl
      rw [this]
      simp [inV, eqV]
theorem numO_all {xs : List Str} (h : xs.all numB = true) : xs.map numO = (xs.map numV).map V.int := by
  rw [List.map_map]
  refine List.map_congr_left fun z hz => ?_
  have := List.all_eq_true.mp h z hz
  unfold numO
  rw [this]
  rfl
noncomputable def partV (a : Nat) (i : Nat) (z : Str) : V := if i < a then .str z else .int (numV z)
noncomputable def partOk (a : Nat) (i : Nat) (z : Str) : Bool := if i < a then madeB z letS 8 else numB z
noncomputable def partsV (a : Nat) : Nat → List Str → List V
  | _, [] => []
  | i, z :: zs => partV a i z :: partsV a (i + 1) zs
theorem partsV_snoc (a : Nat) : ∀ (zs : List Str) (i : Nat) (z : Str), partsV a i (zs ++ [z]) = partsV a i zs ++ [partV a (i + zs.length) z]
  | [], i, z => by simp [partsV]
  | y :: zs, i, z => by
    rw [List.cons_append, partsV, partsV_snoc a zs (i + 1) z, partsV, List.length_cons, show i + 1 + zs.length = i + (zs.length + 1) by omega]
    rfl
theorem partsV_len (a : Nat) : ∀ (zs : List Str) (i : Nat), (partsV a i zs).length = zs.length
  | [], _ => rfl
  | z :: zs, i => by rw [partsV, List.length_cons, partsV_len a zs (i + 1), List.length_cons]
theorem partsV_num (a : Nat) : ∀ (zs : List Str) (i : Nat), a ≤ i → partsV a i zs = (zs.map numV).map V.int
  | [], _, _ => rfl
  | z :: zs, i, h => by
    rw [partsV, partsV_num a zs (i + 1) (by omega)]
    unfold partV
    rw [if_neg (by omega)]
    rfl
theorem partsV_eq (a : Nat) : ∀ (zs : List Str) (i : Nat), i ≤ a → partsV a i zs = (zs.take (a - i)).map V.str ++ ((zs.drop (a - i)).map numV).map V.int
  | [], _, _ => by simp [partsV]
  | z :: zs, i, h => by
    by_cases c : i = a
    · rw [partsV_num a _ i (by omega), show a - i = 0 by omega]
      rfl
    · rw [partsV, partsV_eq a zs (i + 1) (by omega), show a - i = (a - (i + 1)) + 1 by omega, List.take_succ_cons, List.drop_succ_cons]
      unfold partV
      rw [if_pos (by omega)]
      rfl
theorem parts_ok {a b : Nat} {ps : List Str} (hl : ps.length = a + b) (h : ∀ (j : Nat) z, ps[j]? = some z → partOk a j z = true) : PartsOk ps a b := by
  refine ⟨hl, List.all_eq_true.mpr fun z hz => ?_, List.all_eq_true.mpr fun z hz => ?_⟩
  · obtain ⟨j, hj, e⟩ := List.getElem_of_mem hz
    rw [List.length_take] at hj
    have := h j z (by rw [← e, List.getElem_take]; exact List.getElem?_eq_getElem (by omega))
    unfold partOk at this
    rw [if_pos (by omega)] at this
    exact this
  · obtain ⟨j, hj, e⟩ := List.getElem_of_mem hz
    rw [List.length_drop] at hj
    have := h (a + j) z (by rw [← e, List.getElem_drop]; exact List.getElem?_eq_getElem (by omega))
    unfold partOk at this
    rw [if_neg (by omega)] at this
    exact this
theorem parts_no {a b : Nat} {ps : List Str} {j : Nat} {z : Str} (h : ps[j]? = some z) (hn : partOk a j z = false) : ¬ PartsOk ps a b := by
  rintro ⟨hl, h1, h2⟩
  have hj := (List.getElem?_eq_some_iff.mp h).1
  unfold partOk at hn
  by_cases c : j < a
  · rw [if_pos c] at hn
    have := List.all_eq_true.mp h1 z (List.mem_of_getElem? (i := j) (by rw [List.getElem?_take, if_pos c]; exact h))
    rw [hn] at this
    cases this
  · rw [if_neg c] at hn
    have := List.all_eq_true.mp h2 z (List.mem_of_getElem? (i := j - a) (by rw [List.getElem?_drop, show a + (j - a) = j by omega]; exact h))
    rw [hn] at this
    cases this
end CW

set_option Elab.async false
set_option linter.all false
set_option maxRecDepth 100000
set_option maxHeartbeats 4000000
namespace L2
open PySem PySem.Spec PyProof.Rows
theorem base_const {c : Const} {j : Nat} {p : Pos} {n : Str} {env : Env} {t : Sem Value} : attributeBase (.Constant c j p) n env t = t := rfl
noncomputable def evalC : Expr → Option Str
  | .Constant (.str x) _ _ => some x
  | .BinOp (.Constant (.str z) _ _) .Mult (.Constant (.int n) _ _) _ => if 1 ≤ n ∧ n ≤ 1000 ∧ z.length = 1 then some (Txt.mul z n) else none
  | .BinOp (.Constant (.str z) _ _) .Add r _ => match evalC r with | some y => if z.length ≤ 1000 ∧ y.length ≤ 1000000 then some (z ++ y) else none | none => none
  | _ => none
theorem mul_ok {z : Str} {n : Int} (h : 1 ≤ n ∧ n ≤ 1000 ∧ z.length = 1) : MulOk z n := by
  obtain ⟨h1, h2, h3⟩ := h
  refine ⟨by rw [decide_eq_false (by omega), decide_eq_false (by omega)]; rfl, fun _ _ q => ?_, fun _ _ => ?_⟩
  · rw [h3] at q
    have : (1 : Int) ≤ (2 ^ 63 - 1) / n := (Int.le_ediv_iff_mul_le (by omega)).mpr (by omega)
    omega
  · rw [h3, Nat.one_mul]
    unfold Builtin.Str.tooLong
    have : (1000 : Nat) ≤ sizeLine := by decide
    exact decide_eq_false (by omega)
theorem evalC_pe {X : Cx} : ∀ {e : Expr} {z : Str}, evalC e = some z → PE X e (tC (.str z)) := by
  intro e
  induction e using evalC.induct with
  | case1 x j p => intro z h; cases h; exact pe_str
  | case2 z0 j p n j' p' q hc =>
    intro z h
    unfold evalC at h
    rw [if_pos hc] at h
    cases h
    exact fun pins s σ H Q I q => pe_op op_mulS pe_str pe_int pins s σ H Q I ⟨_, _, rfl, rfl, mul_ok hc, q⟩
  | case3 z0 j p n j' p' q hc =>
    intro z h
    unfold evalC at h
    rw [if_neg hc] at h
    cases h
  | case4 z0 j p r q y hy hc ih =>
    intro z h
    unfold evalC at h
    rw [hy] at h
    simp only [hc, and_self, if_true] at h
    cases h
    have hz : (1001000 : Nat) ≤ sizeLine := by decide
    have hs : z0.length + y.length ≤ sizeLine := by omega
    exact fun pins s σ H Q I q => pe_op op_add_str pe_str (ih hy) pins s σ H Q I ⟨_, _, rfl, rfl, hs, q⟩
  | case5 z0 j p r q y hy hc ih =>
    intro z h
    unfold evalC at h
    rw [hy] at h
    simp only [hc, if_false] at h
    cases h
  | case6 z0 j p r q hy ih =>
    intro z h
    unfold evalC at h
    rw [hy] at h
    cases h
  | case7 e h1 h2 h3 =>
    intro z h
    unfold evalC at h
    split at h
    · exact absurd rfl (h1 _ _ _)
    · exact absurd rfl (h2 _ _ _ _ _ _ _)
    · exact absurd rfl (h3 _ _ _ _ _)
    · cases h
theorem evalC_star {X : Cx} {e : Expr} {es : List Expr} {z : Str} (h : evalC e = some z) : starEach (e :: es) X.env = (false, eval e X.env) :: starEach es X.env := by
  unfold evalC at h
  split at h
  · rfl
  · rfl
  · rfl
  · cases h
theorem pa_tx {X : Cx} : ∀ (es : List Expr) (ws : List Str), es.map evalC = ws.map some → PA X es (fun σ H Q => Q (ws.map V.str) H)
  | [], [], _ => pa_nil
  | e :: es, w :: ws, h => by
    rw [List.map_cons, List.map_cons] at h
    obtain ⟨h1, h2⟩ := List.cons.inj h
    have := pa_cons (evalC_pe (X := X) h1) (pa_tx es ws h2) (evalC_star h1)
    exact this
theorem pe_disp6i {X : Cx} {pos : Pos} {k1 k2 k3 k4 k5 k6 v1 v2 v3 v4 v5 v6 : Expr} {trs : List (TE × TE)} (h : PPs X pos [some k1, some k2, some k3, some k4, some k5, some k6] [v1, v2, v3, v4, v5, v6] trs) : PEi X (.Dict [some k1, some k2, some k3, some k4, some k5, some k6] [v1, v2, v3, v4, v5, v6] pos) (tDisp trs) :=
  PEi.of (pe_disp h rfl rfl (fun z => nomatch z) (Nat.le_of_ble_eq_true rfl))
noncomputable def asV : Stmt → Expr
  | .Assign _ e _ => e
  | _ => .Constant .none 0 ⟨0, 0, 0, 0⟩
theorem pss_retJ {X : Cx} {x : Str} {j : Nat} {e : Expr} {t : TA} {p apos cpos pos : Pos} (ha : PA X [e] t) (hs : starEach [e] X.env = [(false, eval e X.env)]) (hline : (apos.endLine == cpos.line) = true) :
    PSs X [.Return (some (.Call (.Attribute (.Constant (.str x) j p) "join" apos) [e] [] cpos)) pos] (tRet (tBM X.K "str" rJoin (tC (.str x)) t)) :=
  pss_one (ps_ret (pe_bm PySem.F.plainAttrs_str PySem.F.slot_str_join PySem.F.type_str_join mt_join pe_str ha (hbase := base_const) (hfew := by rw [hs]; rfl) (hline := hline) (hs := hs) (hplain := rfl)))
theorem ps_txs {X : Cx} {i : Nat} {x : Str} {st : Stmt} {es : List Expr} {ws : List Str} {px p q : Pos} (hst : st = .Assign [.Name x px] (.List es p) q) (hes : es.map evalC = ws.map some) (hw : ws.length ≤ sizeLine) (hN : X.N.Nodup) (hi : X.N[i]? = some x) (hx : Loc X.env.scope x)
    (hs : swapsWith (.List es p) (some (.Name x px)) q.line X.env = pure false) (hf : X.fn x = true ∨ X.env.scope.names.lookup x = some .local) :
    PS X st (fun D σ H => ∀ l, H l = none → D.nx (σ.set i (some (.ref l))) (upd H l (.lst (ws.map V.str)))) := by
  subst hst
  intro pins s σ H D I h
  exact ps_set (i := i) hN hi hx (pe_lst (pa_tx es ws hes)) (hs := hs) (hf := hf) pins s σ H D I ⟨by rw [List.length_map]; exact hw, h⟩
end L2

set_option Elab.async false
set_option linter.all false
set_option maxRecDepth 100000
set_option maxHeartbeats 4000000
namespace CW
open PySem L2
structure RdD (d : Dd) : Prop where
  word : Txs d.word
  nms : ∀ n ∈ d.names, Txs n
  two : d.names.length ≤ 2
  few : d.nums.length ≤ 4000
theorem read_rd {t : Str} {d : Dd} (h : TxB 3434 t) (e : readD t = some d) : RdD d := by
  obtain ⟨a1, a2, a3⟩ := h.split
  unfold readD at e
  cases hs : Txt.split t " " with
  | nil => rw [hs] at e; cases e
  | cons w ps =>
    rw [hs] at e a1 a2
    have hw : Txs w := (a1 w List.mem_cons_self).txs (by decide)
    have hp : ∀ n ∈ ps, Txs n := fun n hn => (a1 n (List.mem_cons_of_mem _ hn)).txs (by decide)
    have hl : ps.length ≤ 3434 := by simpa using a2
    have e' : readW w ps = some d := e
    by_cases cb : w = "build"
    · subst cb
      by_cases hk : PartsOk ps 1 (ps.length - 1)
      · obtain ⟨n, xs, rfl, e2⟩ := readW_build hk
        rw [e2] at e'
        cases e'
        refine ⟨hw, fun z hz => ?_, by show 1 ≤ 2; decide, ?_⟩
        · rw [List.mem_singleton.mp hz]; exact hp n List.mem_cons_self
        · show (xs.map numV).length ≤ 4000
          rw [List.length_map]
          simp at hl
          omega
      · rw [readW_nobuild hk] at e'; cases e'
    · cases hf : formW w with
      | none => rw [readW_none cb hf] at e'; cases e'
      | some p =>
        obtain ⟨a, b, rfl, ha1, ha2, hb3⟩ := formW_nat hf
        by_cases hk : PartsOk ps a b
        · rw [readW_ok cb hf hk] at e'
          cases e'
          refine ⟨hw, fun z hz => hp z (List.mem_of_mem_take hz), ?_, ?_⟩
          · show (ps.take a).length ≤ 2
            rw [List.length_take]
            omega
          · show ((ps.drop a).map numV).length ≤ 4000
            rw [List.length_map, List.length_drop]
            omega
        · rw [readW_no cb hf hk] at e'; cases e'
theorem rd_lay {d : Dd} (h : RdD d) : PyData.canLay0 (deedD d) = true := by
  have hw := strOk_asc h.word.asc
  have hn : ∀ n ∈ d.names, PyData.strOk n = true := fun n hn => strOk_asc (h.nms n hn).asc
  unfold deedD
  split
  · have hh : PyData.strOk (d.names.headD "") = true := by
      cases e : d.names with
      | nil => decide +kernel
      | cons n r => exact hn n (by rw [e]; exact List.mem_cons_self)
    simp only [PyData.canLay0, PyData.canLayAll0, hw, hh, canLay_ints, Bool.true_and, Bool.and_true]
  · simp only [PyData.canLay0, PyData.canLayAll0, hw, Bool.true_and]
    exact canLay_app (canLay_strs hn) (canLay_ints _)
theorem rd_sml {d : Dd} (h : RdD d) : sml (deedD d) = true := by
  have h1 := h.few
  have h2 := h.two
  unfold deedD
  split
  · simp only [sml, smlAll, smlAll_i, Bool.true_and, Bool.and_true, List.length_map, List.length_cons, List.length_nil, Bool.and_eq_true, decide_eq_true_eq]
    omega
  · simp only [sml, smlAll, Bool.true_and, Bool.and_true, List.length_map, List.length_cons, List.length_append, Bool.and_eq_true, decide_eq_true_eq]
    exact ⟨by omega, smlAll_app (smlAll_s _) (smlAll_i _)⟩
noncomputable abbrev toldD (d : Dd) : PyData := .tuple [.str "told", deedD d]
noncomputable abbrev badD : PyData := .tuple [.str "BadText", .int 0]
theorem told_depth (d : Dd) : (toldD d).depth ≤ 3 := by
  have := deed_depth d
  simp only [PyData.depth, PyData.depthAll]
  omega
theorem told_shaped {d : Dd} (h : RdD d) : SeqAt.shaped (toldD d) = true := by
  have hd := told_depth d
  have hs : PyData.strOk "told" = true := by decide +kernel
  have hc : PyData.canLay0 (toldD d) = true := by
    simp only [PyData.canLay0, PyData.canLayAll0, hs, rd_lay h, Bool.true_and, Bool.and_true]
  simp only [SeqAt.shaped, hc, Bool.true_and]
  exact decide_eq_true (by omega)
theorem told_sml {d : Dd} (h : RdD d) : sml (toldD d) = true := by
  simp [sml, smlAll, rd_sml h]
end CW

set_option Elab.async false
set_option linter.all false
set_option maxRecDepth 100000
set_option maxHeartbeats 4000000
namespace CW
open PySem L2
noncomputable def top (i : Nat) : Stmt := PySem.Challenge.pw_creelway_k49_texts_of_no_deed.main.body.getD i (.Pass ⟨0, 0, 0, 0⟩)
section
variable {P : Program} {w : World} {K : PySem.W.Frag} {mg : Str → Option Value} {base : Heap}
noncomputable abbrev s_CreelError_init : Stmt := inClass (top 1) 0
theorem sc_CreelError_init : FnScope ["self", "why", "word"] ["self", "why", "word"] (defScope s_CreelError_init) := ⟨rfl, rfl, rfl, by decide +kernel, rfl, by decide +kernel, by decide +kernel⟩
theorem ok_CreelError_init {f : Addr} {fd : FuncData} (F : FunD K "__init__" "CreelError.__init__" s_CreelError_init f fd) (mV : mg "ValueError" = none) : FnOk P w K mg base CX0 1 f fd ["self", "why", "word"] (spXB K) := by
  refine F.ok sc_CreelError_init (fun vs H Q E h => ?_) (fun cdv A outer s H vs Q E hr h => ?_)
  · obtain ⟨e, C, i, a, b, rfl, _⟩ := h
    rfl
  · obtain ⟨e, C, i, a, b, rfl, he, hC, hS, k⟩ := h
    refine ⟨_, (pss_cons (ps_expr (pe_vinit rfl mV (pa_cons (pv 0) (pa_cons (pv 1) pa_nil)))) (pss_one (ps_xat (pv 0) (pv 2) rfl))), ?_⟩
    exact ⟨_, rfl, _, rfl, e, C, i, none, _, rfl, by show 1 ≤ sizeLine; decide, he, hC, _, rfl, _, rfl, e, C, rfl, he, hS, fun dx h1 h2 => k dx h1 h2⟩
noncomputable abbrev s_BadText_init : Stmt := inClass (top 2) 0
theorem sc_BadText_init : FnScope ["self", "at"] ["self", "at"] (defScope s_BadText_init) := ⟨rfl, rfl, rfl, by decide +kernel, rfl, by decide +kernel, by decide +kernel⟩
theorem ok_BadText_init {f C D fB : Addr} {i : Option Value} {fd fdB : FuncData} (F : Fun K "__init__" "BadText.__init__" s_BadText_init f fd) (OI : OInit K D fB) (FB : FnOk P w K mg base CX0 1 fB fdB ["self", "why", "word"] (spXB K)) (bB : Binds K fdB ["self", "why", "word"] []) (mD : mg "CreelError" = some (.ref D)) (hC : XCls K C i) (hS : XStore K C "word") (hA : XStore K C "at") : FnOk P w K mg base CX0 2 f fd ["self", "at"] (spXI "BadText" C) := by
  refine F.ok sc_BadText_init (fun vs H Q E h => ?_) (fun cdv A outer s H vs Q E hr h => ?_)
  · obtain ⟨e, i, rfl, _⟩ := h
    rfl
  · obtain ⟨e, n, rfl, hi, he, k⟩ := h
    refine ⟨_, (pss_cons (ps_expr (pe_oinit OI FB hr bB pass0 rfl mD (pa_cons (pv 0) (pa_cons (pe_fstr (fps_cons (fp_str (by decide)) (fps_cons (fp_int (pv 1)) (fps_cons (fp_str (by decide)) fps_nil)))) (pa_cons pe_str pa_nil)))))
      (pss_one (ps_xat2 (pv 0) (pv 1) rfl))), ?_⟩
    refine ⟨_, rfl, _, rfl, n, rfl, hi.1, hi.2, fun z => ⟨e, C, i, _, _, rfl, he, hC, hS, fun dx h1 h2 => ⟨_, rfl, _, rfl, e, C, dx, _, rfl, upd_same, (by rw [upd_ne h2]; exact upd_same), by show 1 ≤ 1000; decide, hA, ?_⟩⟩⟩
    show Q .non _
    rw [upd_again h2]
    exact k dx h1 h2
noncomputable abbrev s_is_made_of : Stmt := top 10
theorem sc_is_made_of : FnScope ["text", "signs", "most"] ["text", "signs", "most"] (defScope s_is_made_of) := ⟨rfl, rfl, rfl, by decide +kernel, rfl, by decide +kernel, by decide +kernel⟩
theorem ok_made {f : Addr} {fd : FuncData} (F : Fun K "is_made_of" "is_made_of" s_is_made_of f fd) (B : Bt mg) : FnOk P w K mg base CX0 1 f fd ["text", "signs", "most"] spMade := by
  refine F.ok sc_is_made_of (fun vs H Q E h => ?_) (fun cdv A outer s H vs Q E hr h => ?_)
  · obtain ⟨t, sg, m, rfl, _⟩ := h
    rfl
  · obtain ⟨t, sg, m, rfl, ht, k⟩ := h
    have hu := hr.units
    refine ⟨_, (pss_one (ps_ret (pe_and (pe_cmpR (op_neD hu) (pv 0) pe_str (nomark _)) (pe_and (pe_cmpR op_le (pe_callB call_len_str (by rfl) B.len PySem.boot_len (pa_cons (pv 0) pa_nil)) (pv 2) (nomark _)) (pe_one (pe_callB (call_all rfl) (by rfl) B.all boot_all (pa_cons (pe_comp ["sign"] ["signs"] [1] rfl (.of (show compOk (defScope s_is_made_of) _ ["text", "signs", "most"] [1] ["signs"] = true by decide +kernel)) (pi_str (pv 0)) (fun _ _ _ => (pg_name (i := 0) (show (["sign", "signs"] : List Str).Nodup by decide +kernel) rfl (Or.inl rfl))) (kg_name (by decide)) (fun _ _ _ => pif_nil) (fun _ _ _ => (pe_cmpR op_in_str (pv 0) (pv 1) (by with_unfolding_all rfl)))) pa_nil))))))), ?_⟩
    have hsh := shaped_s ht.asc
    refine ⟨_, rfl, _, _, Den.str _, Den.str _, hsh, (by decide +kernel), ?_⟩
    rw [eqv_s]
    have hb : madeB t sg m = (decide (t ≠ "") && (decide ((t.length : Int) ≤ m) && (signs t).all fun c => decide (c ∈ signs sg))) := rfl
    refine ⟨_, rfl, ?_⟩
    by_cases c0 : t = ""
    · rw [if_neg (by simp [c0])]
      have := k H (Same.refl _)
      rw [hb, decide_eq_false (fun z => z c0), Bool.false_and] at this
      exact this
    rw [if_pos (by simp [c0])]
    rw [decide_eq_true c0, Bool.true_and] at hb
    have h5 := ht.len
    refine ⟨_, rfl, t, rfl, line_le (by omega), _, rfl, _, _, rfl, rfl, _, rfl, ?_⟩
    by_cases c1 : (t.length : Int) ≤ m
    · rw [if_pos (by simpa using c1)]
      rw [decide_eq_true c1, Bool.true_and] at hb
      refine ⟨_, rfl, t, rfl, ht.asc, comp_str (z := t) (fun i ys Hx => Hx = H ∧ ys = (((signs t).take i).map fun c => decide (c ∈ signs sg)).map V.bl) ⟨rfl, rfl⟩ ?_ ?_ ?_⟩
      · rintro i ys Hx hi ⟨rfl, rfl⟩
        rw [List.length_map, List.length_map, List.length_take]
        exact line_of (by have : t.cps.size = t.length := rfl; omega)
      · rintro i c ys Hx hi ⟨rfl, rfl⟩
        refine ⟨_, rfl, _, rfl, _, _, rfl, rfl, rfl, ?_⟩
        have hi' : (signs t)[i]? = some c := by rw [Array.getElem?_toList]; exact hi
        rw [StrLaws.found_one, List.take_add_one, hi']
        simp
      · rintro ys Hx ⟨rfl, rfl⟩ D hD
        refine ⟨D, (signs t).map fun c => decide (c ∈ signs sg), rfl, ?_, ?_⟩
        · rw [upd_same, List.take_of_length_le (by rw [signs_len]; exact Nat.le_refl _)]
        · have := k _ (Same.upd (o := .lst ((((signs t).take t.cps.size).map fun c => decide (c ∈ signs sg)).map V.bl)) hD)
          rw [hb] at this
          rw [List.all_map]
          exact this
    · rw [if_neg (by simpa using c1)]
      have := k H (Same.refl _)
      rw [hb, decide_eq_false c1, Bool.false_and] at this
      exact this
noncomputable abbrev s_is_name : Stmt := top 8
theorem sc_is_name : FnScope ["text"] ["text"] (defScope s_is_name) := ⟨rfl, rfl, rfl, by decide +kernel, rfl, by decide +kernel, by decide +kernel⟩
theorem ok_is_name {f : Addr} {fd : FuncData} (F : Fun K "is_name" "is_name" s_is_name f fd) (B : Bt mg) (G : Wd mg) (F_is_made_of : FnAt P w K mg base "is_made_of" 1 ["text", "signs", "most"] spMade) : FnOk P w K mg base CX0 2 f fd ["text"] spNameT := by
  refine F.ok sc_is_name (fun vs H Q E h => ?_) (fun cdv A outer s H vs Q E hr h => ?_)
  · obtain ⟨t, rfl, _⟩ := h
    rfl
  · obtain ⟨t, rfl, ht, k⟩ := h
    refine ⟨_, (pss_one (ps_ret (pe_fn F_is_made_of hr rfl (pa_cons (pv 0) (pa_cons (pe_globS rfl G.LETTERS) (pa_cons (pe_globI rfl G.MOST_LETTERS) pa_nil)))))), ?_⟩
    exact ⟨_, rfl, t, letS, 8, rfl, ht, k⟩
noncomputable abbrev s_is_number : Stmt := top 9
theorem sc_is_number : FnScope ["text", "figures"] ["text"] (defScope s_is_number) := ⟨rfl, rfl, rfl, by decide +kernel, rfl, by decide +kernel, by decide +kernel⟩
theorem ok_is_number {f : Addr} {fd : FuncData} (F : Fun K "is_number" "is_number" s_is_number f fd) (B : Bt mg) (G : Wd mg) (F_is_made_of : FnAt P w K mg base "is_made_of" 1 ["text", "signs", "most"] spMade) : FnOk P w K mg base CX0 2 f fd ["text"] spNumT := by
  refine F.ok sc_is_number (fun vs H Q E h => ?_) (fun cdv A outer s H vs Q E hr h => ?_)
  · obtain ⟨t, rfl, _⟩ := h
    rfl
  · obtain ⟨t, rfl, ht, k⟩ := h
    have hu := hr.units
    refine ⟨_, (pss_cons (ps_set (i := 1) sc_is_number.nd rfl (Or.inl rfl) (pe_bm PySem.F.plainAttrs_str PySem.F.slot_str_removeprefix PySem.F.type_str_removeprefix mt_rmp (pv 0) (pa_cons pe_str pa_nil)))
 (pss_cons (ps_if (pt_not (pt_truth (pe_fn F_is_made_of hr rfl (pa_cons (pv 1) (pa_cons (pe_globS rfl G.FIGURES) (pa_cons (pe_globI rfl G.MOST_FIGURES) pa_nil)))) (fun _ => rfl)))
 (pss_one (ps_ret pe_bl))
 pss_nil)
 (pss_one (ps_ret (pe_or (pe_cmpR (op_neD hu) (pe_ix ix_str (pv 1) pe_int (fun _ _ => rfl)) pe_str (nomark _)) (pe_one (pe_cmpR (op_eqD hu) (pv 0) pe_str (nomark _)))))))), ?_⟩
    have h5 := ht.len
    have hr1 := rp_txs ht
    have h6 := hr1.len
    refine ⟨_, rfl, rfl, t, "-", rfl, rfl, line_le (by omega), ?_⟩
    refine ⟨_, rfl, rpM t, figS, 60, rfl, hr1, fun H1 g1 => ⟨_, rfl, ?_⟩⟩
    have hb : numB t = (madeB (rpM t) figS 60 && (decide ((⟨#[(signs (rpM t)).headD 0]⟩ : Str) ≠ "0") || decide (t = "0"))) := rfl
    cases hm : madeB (rpM t) figS 60 with
    | false =>
      rw [hm, Bool.false_and] at hb
      have := k H1 g1
      rw [hb] at this
      exact this
    | true =>
      rw [hm, Bool.true_and] at hb
      obtain ⟨c, r, er⟩ := made_ne hm
      have hc : c < 128 := by
        have ha := hr1.asc
        unfold AscT at ha
        rw [← Array.all_toList, List.all_eq_true] at ha
        exact of_decide_eq_true (ha c (by show c ∈ signs (rpM t); rw [er]; exact List.mem_cons_self))
      refine ⟨_, rfl, rpM t, 0, c, rfl, rfl, line_le (by omega), ?_, _, _, Den.str _, Den.str _, shaped_s (asc_of fun d hd => by
        have : d ∈ [c] := hd
        rw [List.mem_singleton.mp this]; exact hc), (by decide +kernel), _, rfl, ?_⟩
      · show atI (signs (rpM t)) 0 = some c
        rw [er]; exact atI_nat (xs := c :: r) (j := 0) rfl
      rw [eqv_s]
      rw [er, List.headD_cons] at hb
      by_cases c1 : (⟨#[c]⟩ : Str) = "0"
      · rw [decide_eq_false (fun z => z c1), Bool.false_or] at hb
        rw [if_neg (by simp [c1])]
        refine ⟨_, rfl, _, _, Den.str _, Den.str _, shaped_s ht.asc, (by decide +kernel), ?_⟩
        rw [eqv_s]
        have := k H1 g1
        rw [hb] at this
        exact this
      · rw [decide_eq_true c1, Bool.true_or] at hb
        rw [if_pos (by simp [c1])]
        have := k H1 g1
        rw [hb] at this
        exact this
noncomputable abbrev s_read_parts : Stmt := top 11
theorem sc_read_parts : FnScope ["parts", "names", "numbers"] ["parts", "names", "numbers"] (defScope s_read_parts) := ⟨rfl, rfl, rfl, by decide +kernel, rfl, by decide +kernel, by decide +kernel⟩
theorem ok_read_partsG {f : Addr} {fd : FuncData} (F : Fun K "read_parts" "read_parts" s_read_parts f fd) (B : Bt mg) (F_is_name : FnAt P w K mg base "is_name" 2 ["text"] spNameT) (F_is_number : FnAt P w K mg base "is_number" 2 ["text"] spNumT) : FnOk P w K mg base CX0 3 f fd ["parts", "names", "numbers"] spPartsG := by
  refine F.ok sc_read_parts (fun vs H Q E h => ?_) (fun cdv A outer s H vs Q E hr h => ?_)
  · obtain ⟨l, ps, a, b, rfl, _⟩ := h
    rfl
  · obtain ⟨l, ps, a, b, rfl, hl, hp, ha1, hlen, kg, kb⟩ := h
    refine ⟨_, (pss_cons (ps_if (pt_cmpR op_neI (pe_callB call_len_seq (by rfl) B.len PySem.boot_len (pa_cons (pv 0) pa_nil)) (pe_op op_add (pv 1) (pv 2)) (nomark _))
 (pss_one (ps_ret pe_non))
 pss_nil)
 (pss_cons (ps_if (pt_not (pt_truth (pe_callB (call_all rfl) (by rfl) B.all boot_all (pa_cons (pe_comp ["part"] [] [] rfl (.of (show compOk (defScope s_read_parts) _ ["parts", "names", "numbers"] [] [] = true by decide +kernel)) (pi_list (pe_slice sl_list (pv 0) po_none (po_some (pv 1)))) (fun _ _ _ => (pg_name (i := 0) (show (["part"] : List Str).Nodup by decide +kernel) rfl (Or.inl rfl))) (kg_name (by decide)) (fun _ _ _ => pif_nil) (fun _ _ _ => (pe_fn F_is_name hr rfl (pa_cons (pv 0) pa_nil)))) pa_nil)) (fun _ => rfl)))
 (pss_one (ps_ret pe_non))
 pss_nil)
 (pss_cons (ps_if (pt_not (pt_truth (pe_callB (call_all rfl) (by rfl) B.all boot_all (pa_cons (pe_comp ["part"] [] [] rfl (.of (show compOk (defScope s_read_parts) _ ["parts", "names", "numbers"] [] [] = true by decide +kernel)) (pi_list (pe_slice sl_list (pv 0) (po_some (pv 1)) po_none)) (fun _ _ _ => (pg_name (i := 0) (show (["part"] : List Str).Nodup by decide +kernel) rfl (Or.inl rfl))) (kg_name (by decide)) (fun _ _ _ => pif_nil) (fun _ _ _ => (pe_fn F_is_number hr rfl (pa_cons (pv 0) pa_nil)))) pa_nil)) (fun _ => rfl)))
 (pss_one (ps_ret pe_non))
 pss_nil)
 (pss_one (ps_ret (pe_op op_catT (pe_callTy call_tuple_of (by rfl) B.tuple boot_tuple (pa_cons (pe_slice sl_list (pv 0) po_none (po_some (pv 1))) pa_nil)) (pe_callTy call_tuple_of (by rfl) B.tuple boot_tuple (pa_cons (pe_comp ["part"] [] [] rfl (.of (show compOk (defScope s_read_parts) _ ["parts", "names", "numbers"] [] [] = true by decide +kernel)) (pi_list (pe_slice sl_list (pv 0) (po_some (pv 1)) po_none)) (fun _ _ _ => (pg_name (i := 0) (show (["part"] : List Str).Nodup by decide +kernel) rfl (Or.inl rfl))) (kg_name (by decide)) (fun _ _ _ => pif_nil) (fun _ _ _ => (pe_callTy call_intT (by rfl) B.int boot_int (pa_cons (pv 0) pa_nil)))) pa_nil)))))))), ?_⟩
    refine ⟨_, rfl, l, _, rfl, .inl (SqL.of hl), _, rfl, _, rfl, _, _, rfl, rfl, _, _, rfl, rfl, _, rfl, ?_⟩
    by_cases c0 : ps.length ≠ a + b
    · rw [show decide (((ps.map V.str).length : Int) = (a : Int) + (b : Int)) = false from decide_eq_false (by rw [List.length_map]; omega)]
      refine iteT ?_
      exact kb (fun z => c0 z.1) _ (Same.refl _)
    have c0 : ps.length = a + b := Decidable.not_not.mp c0
    rw [show decide (((ps.map V.str).length : Int) = (a : Int) + (b : Int)) = true from decide_eq_true (by rw [List.length_map]; omega)]
    refine iteF ?_
    have cut1 : cutV (ps.map V.str) none (some (a : Int)) = (ps.take a).map V.str := by rw [cutV_to, List.map_take]
    have cut2 : cutV (ps.map V.str) (some (a : Int)) none = (ps.drop a).map V.str := by rw [cutV_from, List.map_drop]
    have hpa : ∀ n ∈ ps.take a, Txs n := fun n h => hp n (List.mem_of_mem_take h)
    have hpb : ∀ n ∈ ps.drop a, Txs n := fun n h => hp n (List.mem_of_mem_drop h)
    have hla : (ps.take a).length ≤ 5001 := by rw [List.length_take]; omega
    have hlb : (ps.drop a).length ≤ 5001 := by rw [List.length_drop]; omega
    unfold PartsOk at kg kb
    generalize ps.take a = ns at *
    generalize ps.drop a = xs at *
    -- the names
    refine ⟨_, rfl, _, rfl, _, rfl, l, _, rfl, SqL.of hl, fun c1 hc1 => ?_⟩
    rw [cut1]
    have g1 := Same.upd (o := .lst (ns.map V.str)) hc1
    have ec1 : (upd H c1 (.lst (ns.map V.str))) c1 = some (.lst (ns.map V.str)) := upd_same
    generalize upd H c1 (.lst (ns.map V.str)) = H1 at g1 ec1 ⊢
    refine ⟨c1, rfl, ⟨_, SqL.of ec1⟩, comp_list (K := K) (a := c1) (xs := ns.map V.str) (fun i ys Hx => Same H1 Hx ∧ ys = ((ns.take i).map fun n => madeB n letS 8).map V.bl) ⟨Same.refl _, rfl⟩ ?_ ?_ ?_⟩
    · rintro i ys Hx hi ⟨sm, rfl⟩
      rw [List.length_map] at hi
      exact ⟨SqL.of (sm _ _ ec1), by rw [List.length_map, List.length_map, List.length_take]; exact line_of (by omega)⟩
    · rintro i x ys Hx hi ⟨sm, rfl⟩
      obtain ⟨z, hz, rfl⟩ : ∃ z, ns[i]? = some z ∧ V.str z = x := by rw [List.getElem?_map] at hi; exact Option.map_eq_some_iff.mp hi
      refine ⟨_, rfl, z, rfl, hpa z (List.mem_of_getElem? hz), fun Hy gy => ?_⟩
      exact ⟨sm.trans gy, by rw [List.take_add_one, hz]; simp⟩
    rintro ys Hx ⟨sm, rfl⟩ c2 hc2
    rw [List.length_map, List.take_length]
    refine ⟨c2, ns.map fun n => madeB n letS 8, rfl, upd_same, ?_⟩
    have g2 := (g1.trans sm).trans (Same.upd (o := .lst ((ns.map fun n => madeB n letS 8).map V.bl)) hc2)
    generalize upd Hx c2 (.lst ((ns.map fun n => madeB n letS 8).map V.bl)) = H2 at g2 ⊢
    rw [List.all_map]
    refine ⟨_, rfl, ?_⟩
    cases hn : ns.all (id ∘ fun n => madeB n letS 8) with
    | false =>
      refine iteT ?_
      exact kb (fun z => by have z2 := z.2.1; rw [show ns.all (fun n => madeB n letS 8) = false from hn] at z2; cases z2) _ g2
    | true =>
    refine iteF ?_
    have hl2 := g2 _ _ hl
    clear sm hc2 hc1 ec1 g1
    -- the numbers
    refine ⟨_, rfl, _, rfl, _, rfl, l, _, rfl, SqL.of hl2, fun c1 hc1 => ?_⟩
    rw [cut2]
    have g1 := Same.upd (o := .lst (xs.map V.str)) hc1
    have ec1 : (upd H2 c1 (.lst (xs.map V.str))) c1 = some (.lst (xs.map V.str)) := upd_same
    generalize upd H2 c1 (.lst (xs.map V.str)) = H3 at g1 ec1 ⊢
    refine ⟨c1, rfl, ⟨_, SqL.of ec1⟩, comp_list (K := K) (a := c1) (xs := xs.map V.str) (fun i ys Hx => Same H3 Hx ∧ ys = ((xs.take i).map numB).map V.bl) ⟨Same.refl _, rfl⟩ ?_ ?_ ?_⟩
    · rintro i ys Hx hi ⟨sm, rfl⟩
      rw [List.length_map] at hi
      exact ⟨SqL.of (sm _ _ ec1), by rw [List.length_map, List.length_map, List.length_take]; exact line_of (by omega)⟩
    · rintro i x ys Hx hi ⟨sm, rfl⟩
      obtain ⟨z, hz, rfl⟩ : ∃ z, xs[i]? = some z ∧ V.str z = x := by rw [List.getElem?_map] at hi; exact Option.map_eq_some_iff.mp hi
      refine ⟨_, rfl, z, rfl, hpb z (List.mem_of_getElem? hz), fun Hy gy => ?_⟩
      exact ⟨sm.trans gy, by rw [List.take_add_one, hz]; simp⟩
    rintro ys Hx ⟨sm, rfl⟩ c2 hc2
    rw [List.length_map, List.take_length]
    refine ⟨c2, xs.map numB, rfl, upd_same, ?_⟩
    have g3 := g2.trans ((g1.trans sm).trans (Same.upd (o := .lst ((xs.map numB).map V.bl)) hc2))
    generalize upd Hx c2 (.lst ((xs.map numB).map V.bl)) = H4 at g3 ⊢
    rw [List.all_map]
    refine ⟨_, rfl, ?_⟩
    cases hx : xs.all (id ∘ numB) with
    | false =>
      refine iteT ?_
      exact kb (fun z => by have z2 := z.2.2; rw [show xs.all numB = false from hx] at z2; cases z2) _ g3
    | true =>
    refine iteF ?_
    have kg' := kg ⟨c0, hn, hx⟩
    have hxa : ∀ z ∈ xs, numB z = true := List.all_eq_true.mp hx
    have hl4 := g3 _ _ hl
    clear sm hc2 hc1 ec1 g1
    -- the tuple
    refine ⟨_, rfl, _, rfl, _, rfl, l, _, rfl, SqL.of hl4, fun c1 hc1 => ?_⟩
    rw [cut1]
    have g4 := Same.upd (o := .lst (ns.map V.str)) hc1
    have ec1 : (upd H4 c1 (.lst (ns.map V.str))) c1 = some (.lst (ns.map V.str)) := upd_same
    generalize upd H4 c1 (.lst (ns.map V.str)) = H5 at g4 ec1 ⊢
    refine ⟨c1, _, rfl, .inl ⟨SqL.of ec1, fun t1 ht1 => ?_⟩⟩
    have g5 := Same.upd (o := .tup (ns.map V.str)) ht1
    have et1 : (upd H5 t1 (.tup (ns.map V.str))) t1 = some (.tup (ns.map V.str)) := upd_same
    have nt1 : H t1 = none := by
      cases q : H t1 with
      | none => rfl
      | some o => have := (g3.trans g4) _ _ q; rw [ht1] at this; cases this
    generalize upd H5 t1 (.tup (ns.map V.str)) = H6 at g5 et1 ⊢
    have g6 := g3.trans (g4.trans g5)
    have hl6 := g6 _ _ hl
    refine ⟨_, rfl, _, rfl, _, rfl, l, _, rfl, SqL.of hl6, fun c3 hc3 => ?_⟩
    rw [cut2]
    have g7 := Same.upd (o := .lst (xs.map V.str)) hc3
    have ec3 : (upd H6 c3 (.lst (xs.map V.str))) c3 = some (.lst (xs.map V.str)) := upd_same
    generalize upd H6 c3 (.lst (xs.map V.str)) = H7 at g7 ec3 ⊢
    refine ⟨c3, rfl, ⟨_, SqL.of ec3⟩, comp_list (K := K) (a := c3) (xs := xs.map V.str) (fun i ys Hx => Hx = H7 ∧ ys = ((xs.take i).map numV).map V.int) ⟨rfl, rfl⟩ ?_ ?_ ?_⟩
    · rintro i ys Hx hi ⟨rfl, rfl⟩
      rw [List.length_map] at hi
      exact ⟨SqL.of ec3, by rw [List.length_map, List.length_map, List.length_take]; exact line_of (by omega)⟩
    · rintro i x ys Hx hi ⟨rfl, rfl⟩
      obtain ⟨z, hz, rfl⟩ : ∃ z, xs[i]? = some z ∧ V.str z = x := by rw [List.getElem?_map] at hi; exact Option.map_eq_some_iff.mp hi
      obtain ⟨e1, _, e3⟩ := numB_reads (hxa z (List.mem_of_getElem? hz))
      refine ⟨_, rfl, z, numV z, rfl, by omega, e1, rfl, ?_⟩
      rw [List.take_add_one, hz, List.map_append, List.map_append]
      rfl
    rintro ys Hx ⟨rfl, rfl⟩ c4 hc4
    rw [List.length_map, List.take_length]
    have g8 := Same.upd (o := .lst ((xs.map numV).map V.int)) hc4
    have ec4 : (upd Hx c4 (.lst ((xs.map numV).map V.int))) c4 = some (.lst ((xs.map numV).map V.int)) := upd_same
    generalize upd Hx c4 (.lst ((xs.map numV).map V.int)) = H8 at g8 ec4 ⊢
    refine ⟨c4, _, rfl, .inl ⟨SqL.of ec4, fun t2 ht2 => ?_⟩⟩
    have g9 := Same.upd (o := .tup ((xs.map numV).map V.int)) ht2
    have et2 : (upd H8 t2 (.tup ((xs.map numV).map V.int))) t2 = some (.tup ((xs.map numV).map V.int)) := upd_same
    generalize upd H8 t2 (.tup ((xs.map numV).map V.int)) = H9 at g9 et2 ⊢
    have g69 := g7.trans (g8.trans g9)
    have hns : ns.length = min a ps.length := by
      have e := congrArg List.length cut1
      rw [cutV_to, List.length_take, List.length_map, List.length_map] at e
      exact e.symm
    have hxs : xs.length = ps.length - a := by
      have e := congrArg List.length cut2
      rw [cutV_from, List.length_drop, List.length_map, List.length_map] at e
      exact e.symm
    refine ⟨t1, t2, _, _, rfl, rfl, SqT.of (g69 _ _ et1), SqT.of et2, ?_, line_le (by simp; omega), fun hx0 => ?_, fun hx0 t3 ht3 => ?_⟩
    · intro z
      have z2 := congrArg List.length z
      rw [List.length_map] at z2
      simp at z2
      rw [z2] at hns
      simp at hns
      omega
    · exact kg' t1 H9 nt1 (g6.trans g69) (by rw [hx0, List.append_nil]; exact g69 _ _ et1)
    · have nt3 : H t3 = none := by
        cases q : H t3 with
        | none => rfl
        | some o => have := (g6.trans g69) _ _ q; rw [ht3] at this; cases this
      exact kg' t3 _ nt3 ((g6.trans g69).trans (Same.upd ht3)) upd_same
noncomputable abbrev s_deed_in : Stmt := top 14
theorem sc_deed_in : FnScope ["text", "word", "parts", "things", "names", "numbers"] ["text"] (defScope s_deed_in) := ⟨rfl, rfl, rfl, by decide +kernel, rfl, by decide +kernel, by decide +kernel⟩
theorem ok_deed_inG {f dF : Addr} {fd : FuncData} {kvs : List (Key × Value)} (F : Fun K "deed_in" "deed_in" s_deed_in f fd) (B : Bt mg) (FM : Forms P w K dF kvs) (mF : mg "FORMS" = some (.ref dF)) (F_read_parts : FnAt P w K mg base "read_parts" 3 ["parts", "names", "numbers"] spPartsG) : FnOk P w K mg base CX0 4 f fd ["text"] spDeedG := by
  refine F.ok sc_deed_in (fun vs H Q E h => ?_) (fun cdv A outer s H vs Q E hr h => ?_)
  · obtain ⟨t, rfl, _⟩ := h
    rfl
  · obtain ⟨t, rfl, ht, k, kn⟩ := h
    have hu := hr.units
    refine ⟨_, (pss_cons (ps_asg (pe_bm PySem.F.plainAttrs_str PySem.F.slot_str_split PySem.F.type_str_split mt_split (pv 0) (pa_cons pe_str pa_nil)) (pg_star (n := 2) (i := 1) rfl (pgs_cons (pg_name (i := 1) sc_deed_in.nd rfl (Or.inl rfl)) (pgs_star (pg_name (i := 2) sc_deed_in.nd rfl (Or.inl rfl)) pgs_nil))))
 (pss_cons (ps_if (pt_cmpR (op_eqD hu) (pv 1) pe_str (nomark _))
 (pss_cons (ps_set (i := 3) sc_deed_in.nd rfl (Or.inl rfl) (pe_fn F_read_parts hr rfl (pa_cons (pv 2) (pa_cons pe_int (pa_cons (pe_callB (call_max2 rfl) (by rfl) B.max boot_max (pa_cons (pe_op op_sub (pe_callB call_len_seq (by rfl) B.len PySem.boot_len (pa_cons (pv 2) pa_nil)) pe_int) (pa_cons pe_int pa_nil))) pa_nil)))))
 (pss_one (ps_ret (pe_cut (pe_ifExp (pt_cmpR op_isN (pv 3) pe_non (nomark _)) pe_non (pe_tup (pa_cons (pv 1) (pa_cons (pe_ix ix_tup (pv 3) pe_int (fun _ _ => rfl)) (pa_cons (pe_slice sl_tup (pv 3) (po_some pe_int) po_none) pa_nil)))))))))
 pss_nil)
 (pss_cons (ps_if (pt_cmp (pc_gnotin FM.dict rfl mF (pv 1)))
 (pss_one (ps_ret pe_non))
 pss_nil)
 (pss_cons (ps_asg (pe_gget FM.dict rfl mF (pv 1) (fun _ _ => rfl)) (pg_tup rfl (pgs_cons (pg_name (i := 4) sc_deed_in.nd rfl (Or.inl rfl)) (pgs_cons (pg_name (i := 5) sc_deed_in.nd rfl (Or.inl rfl)) pgs_nil))))
 (pss_cons (ps_set (i := 3) sc_deed_in.nd rfl (Or.inl rfl) (pe_fn F_read_parts hr rfl (pa_cons (pv 2) (pa_cons (pv 4) (pa_cons (pv 5) pa_nil)))))
 (pss_one (ps_ret (pe_cut (pe_ifExp (pt_cmpR op_isN (pv 3) pe_non (nomark _)) pe_non (pe_op op_catT (pe_tup (pa_cons (pv 1) pa_nil)) (pv 3))))))))))), ?_⟩
    have h5 := ht.len
    obtain ⟨wd, ps, hsp, hrd, htx, hpl⟩ := words_of ht
    rw [hrd] at k kn
    refine ⟨_, rfl, rfl, t, " ", rfl, rfl, by decide, line_le (by omega), by rw [hsp]; exact line_le (by simp; omega), fun l hl => ?_⟩
    rw [hsp]
    have g1 := Same.upd (o := .lst ((wd :: ps).map V.str)) hl
    have el : (upd H l (.lst ((wd :: ps).map V.str))) l = some (.lst ((wd :: ps).map V.str)) := upd_same
    generalize upd H l (.lst ((wd :: ps).map V.str)) = H1 at g1 el ⊢
    have hxl : ((wd :: ps).map V.str).length = ps.length + 1 := by simp
    refine ⟨l, _, rfl, SqL.of el, by decide, by rw [hxl]; omega, by rw [hxl]; omega, fun D hD => ?_⟩
    have e1 : ((wd :: ps).map V.str).take 1 ++ [V.ref D] ++ (((wd :: ps).map V.str).drop 1).drop (((wd :: ps).map V.str).length + 1 - 2) = [V.str wd, V.ref D] := by
      rw [hxl]
      simp
    have e2 : (((wd :: ps).map V.str).drop 1).take (((wd :: ps).map V.str).length + 1 - 2) = ps.map V.str := by
      rw [hxl, List.map_cons, List.drop_one, List.tail_cons, List.take_of_length_le (by simp)]
    rw [e1, e2]
    have g2 := Same.upd (o := .lst (ps.map V.str)) hD
    have eD : (upd H1 D (.lst (ps.map V.str))) D = some (.lst (ps.map V.str)) := upd_same
    generalize upd H1 D (.lst (ps.map V.str)) = H2 at g2 eD ⊢
    have g12 := g1.trans g2
    refine ⟨_, _, rfl, _, _, rfl, rfl, ?_⟩
    have hwt : Txs wd := htx wd List.mem_cons_self
    have hpt : ∀ n ∈ ps, Txs n := fun n hn => htx n (List.mem_cons_of_mem _ hn)
    refine ⟨_, rfl, _, _, Den.str _, Den.str _, shaped_s hwt.asc, (by decide +kernel), _, rfl, ?_⟩
    rw [eqv_s]
    refine iteD (fun hw => ?_) fun hw => ?_
    · subst hw
      refine ⟨_, rfl, _, rfl, D, _, rfl, .inl (SqL.of eD), _, _, rfl, rfl, _, 0, rfl, ?_⟩
      rw [show (if (0 : Int) > ((ps.map V.str).length : Int) - 1 then (0 : Int) else ((ps.map V.str).length : Int) - 1) = ((ps.length - 1 : Nat) : Int) by rw [List.length_map]; split <;> omega]
      refine ⟨D, ps, 1, ps.length - 1, rfl, eD, hpt, Nat.le_refl 1, by omega, fun hok t3 H3 ht3 g3 et => ?_, fun hno H3 g3 => ?_⟩
      · obtain ⟨n, xs, rfl, hrw⟩ := readW_build hok
        have et' : H3 t3 = some (.tup ([n].map V.str ++ (xs.map numV).map V.int)) := et
        refine ⟨fun v H' => Same H H' ∧ DeedAt H' v ⟨"build", [n], xs.map numV, true⟩, ?_, ?_⟩
        · refine ⟨_, rfl, rfl, _, rfl, ?_⟩
          have ecut : cutV ([n].map V.str ++ (xs.map numV).map V.int) (some 1) none = (xs.map numV).map V.int := cutV_from ([n].map V.str ++ (xs.map numV).map V.int) 1
          refine ⟨_, rfl, _, rfl, t3, _, _, _, rfl, rfl, SqT.of et', atI_nat (xs := [n].map V.str ++ (xs.map numV).map V.int) (j := 0) rfl, _, rfl, _, rfl, t3, _, rfl, SqT.of et', ?_, fun c hc => ?_⟩
          · rintro ⟨z, _⟩
            have : HT.sIx (([n].map V.str ++ (xs.map numV).map V.int).length) 0 (some 1) = 1 := by
              simp [HT.sIx]
            rw [this] at z
            exact absurd z (by decide)
          rw [ecut]
          have g4 := Same.upd (o := .tup ((xs.map numV).map V.int)) hc
          have ec : (upd H3 c (.tup ((xs.map numV).map V.int))) c = some (.tup ((xs.map numV).map V.int)) := upd_same
          generalize upd H3 c (.tup ((xs.map numV).map V.int)) = H4 at g4 ec ⊢
          refine ⟨(show 3 ≤ sizeLine by decide), fun a ha => ⟨(g12.trans g3).trans (g4.trans (Same.upd ha)), .build upd_same ?_⟩⟩
          rw [upd_ne (ne_of_none ec ha)]
          exact ec
        · rintro v H' ⟨g, da⟩
          exact k _ hrw v H' g da
      · refine ⟨fun v H' => v = .non ∧ Same H H', ?_, ?_⟩
        · exact ⟨_, rfl, rfl, _, rfl, rfl, g12.trans g3⟩
        · rintro v H' ⟨rfl, g⟩
          exact kn (readW_nobuild hno) H' g
    · refine ⟨_, rfl, wd, rfl, _, rfl, ?_⟩
      rw [FM.has]
      cases hf : formW wd with
      | none => exact kn (readW_none hw hf) H2 g12
      | some p =>
      obtain ⟨a, b, rfl, ha1, ha2, hb3⟩ := formW_nat hf
      obtain ⟨tt, ht1, ht2⟩ := FM.tup wd _ _ hf
      refine ⟨_, rfl, wd, tt, rfl, ht1, ?_⟩
      refine ⟨tt, _, rfl, ht2 _, rfl, _, _, rfl, _, _, rfl, rfl, ?_⟩
      refine ⟨_, rfl, _, rfl, _, rfl, D, ps, a, b, rfl, eD, hpt, ha1, by omega, fun hok t3 H3 ht3 g3 et => ?_, fun hno H3 g3 => ?_⟩
      · refine ⟨fun v H' => Same H H' ∧ DeedAt H' v ⟨wd, ps.take a, (ps.drop a).map numV, false⟩, ?_, ?_⟩
        · refine ⟨_, rfl, rfl, _, rfl, ?_⟩
          refine ⟨_, rfl, (show 1 ≤ sizeLine by decide), fun q hq => ?_⟩
          have g4 := Same.upd (o := .tup [V.str wd]) hq
          have ea : (upd H3 q (.tup [V.str wd])) q = some (.tup [V.str wd]) := upd_same
          generalize upd H3 q (.tup [V.str wd]) = H4 at g4 ea ⊢
          refine ⟨_, rfl, q, t3, _, _, rfl, rfl, SqT.of ea, SqT.of (g4 _ _ et), by simp, line_le (by simp; omega), fun hx0 => ?_, fun hx0 z hz => ⟨((g12.trans g3).trans g4).trans (Same.upd hz), .plain upd_same⟩⟩
          exfalso
          have h0 := congrArg List.length hx0
          have h1 := hok.1
          simp at h0
          rcases h0.1 with z | z
          · omega
          · rw [z] at h1
            simp at h1
            omega
        · rintro v H' ⟨g, da⟩
          exact k _ (readW_ok hw hf hok) v H' g da
      · refine ⟨fun v H' => v = .non ∧ Same H H', ?_, ?_⟩
        · exact ⟨_, rfl, rfl, _, rfl, rfl, g12.trans g3⟩
        · rintro v H' ⟨rfl, g⟩
          exact kn (readW_no hw hf hno) H' g
noncomputable abbrev s_read_deed : Stmt := top 15
theorem sc_read_deed : FnScope ["text", "deed"] ["text"] (defScope s_read_deed) := ⟨rfl, rfl, rfl, by decide +kernel, rfl, by decide +kernel, by decide +kernel⟩
theorem ok_read_deedR {f C : Addr} {fd : FuncData} (F : Fun K "read_deed" "read_deed" s_read_deed f fd) (B : Bt mg) (F_deed_in : FnAt P w K mg base "deed_in" 4 ["text"] spDeedG) (R_BadText : RaisesAs P w K mg base "BadText" C ["self", "at"] (spXI "BadText" C)) : FnOk P w K mg base (CXR P w) 5 f fd ["text"] (spReadR C) := by
  refine F.okX sc_read_deed (fun vs H Q E h => ?_) (fun cdv A outer s H vs Q E hfr hr h => ?_)
  · obtain ⟨t, rfl, _⟩ := h
    rfl
  · obtain ⟨t, rfl, ht, k, kn⟩ := h
    refine ⟨_, (pss_cons (ps_set (i := 1) sc_read_deed.nd rfl (Or.inl rfl) (pe_fn F_deed_in hr rfl (pa_cons (pv 0) pa_nil)))
 (pss_cons (ps_if (pt_cmpR op_isN (pv 1) pe_non (nomark _))
 (pss_one (ps_raiseR (raiseR hfr) R_BadText rfl rfl hr rfl (pa_cons pe_int pa_nil)))
 pss_nil)
 (pss_one (ps_ret (pv 1))))), ?_⟩
    refine ⟨_, rfl, t, rfl, ht, fun d hd v H1 g1 da => ?_, fun hn H1 g1 => ?_⟩
    · have hv : v ≠ .non := by cases da <;> exact fun z => nomatch z
      exact ⟨_, rfl, rfl, _, rfl, iteDF hv ⟨_, rfl, k d hd v H1 g1 da⟩⟩
    · exact ⟨_, rfl, rfl, _, rfl, iteDT rfl (rdI (smallI (by decide) (by decide)) (kn hn H1 g1))⟩
noncomputable abbrev s_law_numbers : Stmt := top 17
theorem sc_law_numbers : FnScope ["_law_script", "_law_many", "_law_row", "_law_seed", "_law_cell", "_law_rest", "_law_k"] ["_law_script", "_law_many"] (defScope s_law_numbers) := ⟨rfl, rfl, rfl, by decide +kernel, rfl, by decide +kernel, by decide +kernel⟩
inductive I1_law_numbers (H : Hp) (a : Addr) (l : Addr) (p : Addr) (m : Nat) (ms : List Int) (i : Nat) (σ : St) (H2 : Hp) : Prop
  | mk (seed : Int) (xs : List Int) (v1 v2 v3 : Option V) (k0_ : σ = [some (.ref a), some (.int m), some (.ref l), some (.int seed), v1, v2, v3]) (k1_ : Same H H2) (k2_ : H2 p = some (.lst (ms.map V.int))) (k3_ : H2 l = some (.lst (xs.map V.int))) (k4_ : Nums xs) (k5_ : xs.length ≤ 61 * i) (k6_ : 0 ≤ seed) (k7_ : seed < 2147483629) : I1_law_numbers H a l p m ms i σ H2
inductive I2_law_numbers (H : Hp) (a : Addr) (l : Addr) (p : Addr) (m : Nat) (ms : List Int) (i : Nat) (seed : Int) (z : Int) (v3 : Option V) (σ : St) (H3 : Hp) : Prop
  | mk (ys : List Int) (k0_ : σ = [some (.ref a), some (.int m), some (.ref l), some (.int (sd1 seed z)), some (.int z), some (.int (rs1 z)), v3]) (k1_ : Same H H3) (k2_ : H3 p = some (.lst (ms.map V.int))) (k3_ : H3 l = some (.lst (ys.map V.int))) (k4_ : Nums ys) (k5_ : ys.length ≤ 61 * i + 1) : I2_law_numbers H a l p m ms i seed z v3 σ H3
inductive I3_law_numbers (H : Hp) (a : Addr) (l : Addr) (p : Addr) (m : Nat) (ms : List Int) (i : Nat) (seed : Int) (z : Int) (j : Nat) (σ : St) (H4 : Hp) : Prop
  | mk (r : Int) (ys : List Int) (v : Option V) (k0_ : σ = [some (.ref a), some (.int m), some (.ref l), some (.int (sd1 seed z)), some (.int z), some (.int r), v]) (k1_ : Same H H4) (k2_ : H4 p = some (.lst (ms.map V.int))) (k3_ : H4 l = some (.lst (ys.map V.int))) (k4_ : Nums ys) (k5_ : ys.length ≤ 61 * i + 1 + j) : I3_law_numbers H a l p m ms i seed z j σ H4
inductive I4_law_numbers (H : Hp) (a : Addr) (l : Addr) (m : Nat) (v1 : Option V) (v2 : Option V) (v3 : Option V) (σ : St) (H3 : Hp) : Prop
  | mk (seed : Int) (ys : List Int) (k0_ : σ = [some (.ref a), some (.int m), some (.ref l), some (.int seed), v1, v2, v3]) (k1_ : Same H H3) (k2_ : H3 l = some (.lst (ys.map V.int))) (k3_ : Nums ys) (k4_ : ys.length ≤ 5000) (k5_ : 0 ≤ seed) (k6_ : seed < 2147483629) : I4_law_numbers H a l m v1 v2 v3 σ H3
theorem ok_numbers {f : Addr} {fd : FuncData} (F : Fun K "_law_numbers" "_law_numbers" s_law_numbers f fd) (B : Bt mg) : FnOk P w K mg base CX0 1 f fd ["_law_script", "_law_many"] (spNumbers K) := by
  refine F.ok sc_law_numbers (fun vs H Q E h => ?_) (fun cdv A outer s H vs Q E hr h => ?_)
  · obtain ⟨a, sc, m, rfl, _⟩ := h
    rfl
  · obtain ⟨a, sc, m, rfl, hS, hlen, hm, k⟩ := h
    refine ⟨_, (pss_consO (ps_set (i := 2) sc_law_numbers.nd rfl (Or.inl rfl) (pe_lst pa_nil))
 (pss_consO (ps_set (i := 3) sc_law_numbers.nd rfl (Or.inl rfl) pe_int)
 (pss_consO (ps_for PassesOwn.never rfl (pi_list (pe_slice sl_list (pv 0) po_none (po_some pe_int))) (pg_name (i := 4) sc_law_numbers.nd rfl (Or.inl rfl))
 (pss_consO (ps_set (i := 3) sc_law_numbers.nd rfl (Or.inl rfl) (pe_op op_mod (pe_op op_add (pe_op op_add (pe_op op_mul (pv 3) pe_int) (pe_op op_mod (pv 4) pe_int)) pe_int) pe_int))
 (pss_consO (ps_set (i := 5) sc_law_numbers.nd rfl (Or.inl rfl) (pe_op op_sub (pv 4) (pe_op op_pow pe_int pe_int)))
 (pss_cut (ps_if (pt_cmpR op_lt (pv 5) pe_int (nomark _))
 (pss_one (ps_expr (pe_bm PySem.F.plainAttrs_list PySem.F.slot_list_append PySem.F.type_list_append mt_append (pv 2) (pa_cons (pe_op op_mod (pv 4) pe_int) pa_nil))))
 pss_nil)
 (pss_one (ps_for PassesOwn.never rfl (pi_range1 rfl B.range (pa_cons pe_int pa_nil)) (pg_name (i := 6) sc_law_numbers.nd rfl (Or.inl rfl))
 (pss_one (ps_if (pt_cmpR op_gt (pv 5) pe_int (nomark _))
 (pss_consO (ps_expr (pe_bm PySem.F.plainAttrs_list PySem.F.slot_list_append PySem.F.type_list_append mt_append (pv 2) (pa_cons (pe_op op_mod (pv 5) pe_int) pa_nil)))
 (pss_one (ps_set (i := 5) sc_law_numbers.nd rfl (Or.inl rfl) (pe_op op_fdiv (pv 5) pe_int))))
 pss_nil))))))))
 (pss_cons (ps_while PassesOwn.never (pt_cmpR op_lt (pe_callB call_len_seq (by rfl) B.len PySem.boot_len (pa_cons (pv 2) pa_nil)) (pv 1) (nomark _))
 (pss_consO (ps_set (i := 3) sc_law_numbers.nd rfl (Or.inl rfl) (pe_op op_mod (pe_op op_add (pe_op op_add (pe_op op_add (pe_op op_mul (pv 3) (pv 3)) (pe_op op_mul pe_int (pv 3))) (pe_op op_mul pe_int (pe_callB call_len_seq (by rfl) B.len PySem.boot_len (pa_cons (pv 2) pa_nil)))) pe_int) pe_int))
 (pss_one (ps_expr (pe_bm PySem.F.plainAttrs_list PySem.F.slot_list_append PySem.F.type_list_append mt_append (pv 2) (pa_cons (pe_op op_mod (pe_op op_fdiv (pv 3) pe_int) pe_int) pa_nil))))))
 (pss_one (ps_ret (pe_slice sl_list (pv 2) po_none (po_some (pv 1))))))))), ?_⟩
    refine fun M1 hM1 => ?_
    refine ⟨by decide, fun l hl => ?_⟩
    refine hM1 [some (.ref a), some (.int m), some (.ref l), none, none, none, none] _ ?_
    clear hM1 M1
    refine fun M1 hM1 => ?_
    refine hM1 [some (.ref a), some (.int m), some (.ref l), some (.int 59), none, none, none] _ ?_
    clear hM1 M1
    refine fun M1 hM1 => ?_
    refine ⟨_, rfl, _, rfl, a, sc.map V.int, rfl, (Same.upd hl).seq hS, fun p hp => ?_⟩
    obtain ⟨ms, ec, hml, hmm⟩ := cutV_ints sc none (some 63)
    rw [ec]
    have hpl : p ≠ l := fun e => by subst e; rw [upd_same] at hp; cases hp
    have hHp : H p = none := by rw [← hp, upd_ne hpl]
    refine ⟨p, rfl, ⟨_, SqL.of upd_same⟩, for_list (K := K) (a := p) (xs := ms.map V.int) (I1_law_numbers H a l p m ms) ?_ ?_ ?_ ?_⟩
    · exact ⟨59, [], none, none, none, rfl, Same.upd' hHp (Same.upd hl), upd_same, by rw [upd_ne (Ne.symm hpl), upd_same]; rfl, fun _ h => (by cases h), Nat.le_refl _, by decide, by decide⟩
    · rintro i σ H2 _ ⟨seed, xs, v1, v2, v3, _, _, e, _⟩
      exact SqL.of e
    · rintro i x σ H2 hi ⟨seed, xs, v1, v2, v3, rfl, sm, ep, el, nx, lx, s0, s1⟩
      have hil : i < ms.length := by
        have := (List.getElem?_eq_some_iff.mp hi).1
        simpa using this
      obtain ⟨z, rfl⟩ : ∃ z, x = V.int z := by
        rw [List.getElem?_map] at hi
        cases e : ms[i]? with
        | none => rw [e] at hi; cases hi
        | some z => rw [e] at hi; exact ⟨z, (Option.some.inj hi).symm⟩
      -- the seed
      clear hM1
      refine fun M2 hM2 => ?_
      refine ⟨_, rfl, _, _, rfl, rfl, .inr ⟨by decide, by decide⟩, _, rfl, _, _, rfl, rfl, (by show (0 : Int) < 999983; decide), _, _, rfl, rfl, _, _, rfl, rfl, _, _, rfl, rfl, (by show (0 : Int) < 2147483563; decide), ?_⟩
      have t0 : 0 ≤ sd1 seed z := Int.emod_nonneg _ (by decide)
      have t1 : sd1 seed z < 2147483563 := Int.emod_lt_of_pos _ (by decide)
      refine hM2 [some (.ref a), some (.int m), some (.ref l), some (.int (sd1 seed z)), some (.int z), v2, v3] _ ?_
      clear hM2 M2
      -- the rest
      refine fun M2 hM2 => ?_
      refine ⟨_, rfl, _, _, rfl, rfl, ⟨by decide, by decide, by decide⟩, _, _, rfl, rfl, ?_⟩
      refine hM2 [some (.ref a), some (.int m), some (.ref l), some (.int (sd1 seed z)), some (.int z), some (.int (rs1 z)), v3] _ ?_
      clear hM2 M2
      refine ⟨I2_law_numbers H a l p m ms i seed z v3, ?_, ?_⟩
      · refine ⟨_, rfl, _, _, rfl, rfl, _, rfl, iteD (fun _ => ?_) (fun _ => ⟨xs, rfl, sm, ep, el, nx, by omega⟩)⟩
        refine ⟨_, rfl, .inl ⟨rfl, _, SqL.of el⟩, _, rfl, _, _, rfl, rfl, (by show (0 : Int) < 9967; decide), l, _, _, rfl, rfl, el, (by rw [List.length_map]; exact line_of (by omega)), ?_⟩
        refine ⟨xs ++ [z % 9967], rfl, Same.upd' hl sm, by rw [upd_ne hpl]; exact ep, by rw [upd_same]; simp, ?_, by simp; omega⟩
        intro n hn
        rcases List.mem_append.mp hn with h | h
        · exact nx n h
        · rw [List.mem_singleton.mp h]
          exact ⟨Int.emod_nonneg _ (by decide), Int.emod_lt_of_pos _ (by decide)⟩
      · rintro σ H3 ⟨ys, rfl, sm3, ep3, el3, nx3, lx3⟩
        refine ⟨60, rfl, by decide, by decide, for_range (lo := 0) (n := 60) (I3_law_numbers H a l p m ms i seed z)
          ⟨rs1 z, ys, v3, rfl, sm3, ep3, el3, nx3, by omega⟩ ?_ ?_⟩
        · rintro j σ H4 hj ⟨r, ys, v, rfl, sm4, ep4, el4, nx4, lx4⟩
          refine ⟨_, rfl, _, _, rfl, rfl, _, rfl, iteD (fun hr0 => ?_) (fun _ => ⟨r, ys, _, rfl, sm4, ep4, el4, nx4, by omega⟩)⟩
          refine fun M2 hM2 => ?_
          refine ⟨_, rfl, .inl ⟨rfl, _, SqL.of el4⟩, _, rfl, _, _, rfl, rfl, (by show (0 : Int) < 1013; decide), l, _, _, rfl, rfl, el4, (by rw [List.length_map]; exact line_of (by omega)), ?_⟩
          refine hM2 [some (.ref a), some (.int m), some (.ref l), some (.int (sd1 seed z)), some (.int z), some (.int r), some (.int (0 + (j : Int)))] _ ?_
          clear hM2 M2
          refine ⟨_, rfl, _, _, rfl, rfl, ⟨by decide, by decide⟩, ?_⟩
          refine ⟨r / 1013, ys ++ [r % 1013], _, rfl, Same.upd' hl sm4, by rw [upd_ne hpl]; exact ep4, by rw [upd_same]; simp, ?_, by simp; omega⟩
          intro n hn
          rcases List.mem_append.mp hn with h | h
          · exact nx4 n h
          · rw [List.mem_singleton.mp h]
            have a1 := Int.emod_nonneg r (show (1013 : Int) ≠ 0 by decide)
            have a2 := Int.emod_lt_of_pos r (show (0 : Int) < 1013 by decide)
            exact ⟨a1, by omega⟩
        · rintro σ H4 ⟨r, ys, v, rfl, sm4, ep4, el4, nx4, lx4⟩
          exact ⟨sd1 seed z, ys, _, _, _, rfl, sm4, ep4, el4, nx4, by omega, t0, by omega⟩
    · rintro σ H2 ⟨seed, xs, v1, v2, v3, rfl, sm, ep, el, nx, lx, s0, s1⟩
      have lx' : xs.length ≤ 61 * 63 := by
        have : (ms.map V.int).length ≤ 63 := by rw [List.length_map]; omega
        omega
      refine hM1 [some (.ref a), some (.int m), some (.ref l), some (.int seed), v1, v2, v3] _ ?_
      clear hM1 M1
      -- while
      refine while_by (I4_law_numbers H a l m v1 v2 v3)
        (fun _ H3 => match H3 l with | some (.lst ys) => m - ys.length | _ => 0) ⟨seed, xs, rfl, sm, el, nx, by omega, s0, s1⟩ ?_ ?_
      · rintro σ H3 ⟨seed, ys, rfl, sm3, el3, nx3, lx3, q0, q1⟩
        refine ⟨_, rfl, l, _, rfl, .inl (SqL.of el3), _, rfl, _, _, rfl, rfl, _, rfl, iteD (fun hc => ?_) (fun hc => ?_)⟩
        · rw [List.length_map] at hc
          refine fun M1 hM1 => ?_
          refine ⟨_, rfl, _, rfl, _, _, rfl, rfl, .inl ⟨by omega, by omega⟩, _, rfl, _, _, rfl, rfl, .inl ⟨by decide, by decide⟩, _, _, rfl, rfl, _, rfl, l, _, rfl, .inl (SqL.of el3), _, _, rfl, rfl, .inl ⟨by decide, by decide⟩, _, _, rfl, rfl, _, _, rfl, rfl, _, _, rfl, rfl, (by show (0 : Int) < 2147483629; decide), ?_⟩
          refine hM1 [some (.ref a), some (.int m), some (.ref l), some (.int (sd2 seed ys)), v1, v2, v3] _ ?_
          clear hM1 M1
          have t0 : 0 ≤ sd2 seed ys := Int.emod_nonneg _ (by decide)
          have t1 : sd2 seed ys < 2147483629 := Int.emod_lt_of_pos _ (by decide)
          refine ⟨_, rfl, .inl ⟨rfl, _, SqL.of el3⟩, _, rfl, _, _, rfl, rfl, ⟨by decide, by decide⟩, _, _, rfl, rfl, (by show (0 : Int) < 9967; decide), l, _, _, rfl, rfl, el3, (by rw [List.length_map]; exact line_of (by omega)), ?_⟩
          refine ⟨⟨sd2 seed ys, ys ++ [sd2 seed ys / 1019 % 9967], rfl, Same.upd' hl sm3, by rw [upd_same, List.map_append]; rfl, ?_, by simp; omega, t0, t1⟩, ?_⟩
          · intro n hn
            rcases List.mem_append.mp hn with h | h
            · exact nx3 n h
            · rw [List.mem_singleton.mp h]
              exact ⟨Int.emod_nonneg _ (by decide), Int.emod_lt_of_pos _ (by decide)⟩
          · simp only [upd_same, el3, List.length_append, List.length_map, List.length_singleton]
            omega
        · rw [List.length_map] at hc
          refine ⟨_, rfl, _, rfl, _, rfl, l, _, rfl, SqL.of el3, fun p2 hp2 => ?_⟩
          rw [cut_to ys m (by omega)]
          exact k p2 (ys.take m) _ (by simp; omega) (fun n hn => nx3 n (List.mem_of_mem_take hn)) (sm3.free hp2) (Same.upd' (sm3.free hp2) sm3) upd_same
      · intro σ H3 Q1 Q2 hq h
        obtain ⟨x, e, p2, ys, e2, hq2, z, e3, i, j, e4, e5, b, e6, q⟩ := h
        exact ⟨x, e, p2, ys, e2, hq2, z, e3, i, j, e4, e5, b, e6, hq _ _ q⟩
noncomputable abbrev s_law_same : Stmt := top 18
theorem sc_law_same : FnScope ["_law_found", "_law_due"] ["_law_found", "_law_due"] (defScope s_law_same) := ⟨rfl, rfl, rfl, by decide +kernel, rfl, by decide +kernel, by decide +kernel⟩
theorem same_step {f : Addr} {fd : FuncData} {n k : Nat} {spR : Sp} (F : Fun K "_law_same" "_law_same" s_law_same f fd) (B : Bt mg) (F_law_same : FnAt P w K mg base "_law_same" k ["_law_found", "_law_due"] spR)
    (hsp : ∀ m, m + 1 = n → ∀ vs H Q E, spSame m vs H Q E → spR vs H Q E) : FnOk P w K mg base CX0 (k + 1) f fd ["_law_found", "_law_due"] (spSame n) := by
  refine F.ok sc_law_same (fun vs H Q E h => ?_) (fun cdv A outer s H vs Q E hr h => ?_)
  · obtain ⟨x, y, d, rfl, _⟩ := h
    rfl
  · obtain ⟨x, y, d, rfl, h1, h2, hdep, hsh, hsm, kk⟩ := h
    have hu := hr.units
    refine ⟨_, (pss_cons (ps_if (pt_cmpR op_isN (pv 1) pe_non (nomark _))
 (pss_one (ps_ret (pe_cmpR op_isN (pv 0) pe_non (nomark _))))
 pss_nil)
 (pss_cons (ps_if (pt_truth (pe_callB call_isiT (by rfl) B.isinstance boot_isinstance (pa_cons (pv 1) (pa_cons (pe_tup (pa_cons (pe_bltn (v := .ty "list") rfl B.list boot_list rfl) (pa_cons (pe_bltn (v := .ty "tuple") rfl B.tuple boot_tuple rfl) pa_nil))) pa_nil))) (fun _ => rfl))
 (pss_cons (ps_if (PW.pt (pw_or (pt_cmpR op_ne (pe_callB call_isi (by rfl) B.isinstance boot_isinstance (pa_cons (pv 0) (pa_cons (pe_bltn (v := .ty "list") rfl B.list boot_list rfl) pa_nil))) (pe_callB call_isi (by rfl) B.isinstance boot_isinstance (pa_cons (pv 1) (pa_cons (pe_bltn (v := .ty "list") rfl B.list boot_list rfl) pa_nil))) (nomark _)) (pw_or1 (pt_cmpR op_ne (pe_callB call_isi (by rfl) B.isinstance boot_isinstance (pa_cons (pv 0) (pa_cons (pe_bltn (v := .ty "tuple") rfl B.tuple boot_tuple rfl) pa_nil))) (pe_callB call_isi (by rfl) B.isinstance boot_isinstance (pa_cons (pv 1) (pa_cons (pe_bltn (v := .ty "tuple") rfl B.tuple boot_tuple rfl) pa_nil))) (nomark _)))))
 (pss_one (ps_ret pe_bl))
 pss_nil)
 (pss_one (ps_ret (pe_and (pe_cmpR op_eqI (pe_callB call_len_seq (by rfl) B.len PySem.boot_len (pa_cons (pv 0) pa_nil)) (pe_callB call_len_seq (by rfl) B.len PySem.boot_len (pa_cons (pv 1) pa_nil)) (nomark _)) (pe_one (pe_callB (call_all rfl) (by rfl) B.all boot_all (pa_cons (pe_comp ["_law_k"] ["_law_found", "_law_due"] [0, 1] rfl (.of (show compOk (defScope s_law_same) _ ["_law_found", "_law_due"] [0, 1] ["_law_found", "_law_due"] = true by decide +kernel)) (pi_range1 rfl B.range (pa_cons (pe_callB call_len_seq (by rfl) B.len PySem.boot_len (pa_cons (pv 1) pa_nil)) pa_nil)) (fun _ _ _ => (pg_name (i := 0) (show (["_law_k", "_law_found", "_law_due"] : List Str).Nodup by decide +kernel) rfl (Or.inl rfl))) (kg_name (by decide)) (fun _ _ _ => pif_nil) (fun _ _ _ => (pe_fn F_law_same hr rfl (pa_cons (pe_ix (ix_seqK K rfl) (pv 1) (pv 0) (fun _ _ => rfl)) (pa_cons (pe_ix (ix_seqK K rfl) (pv 2) (pv 0) (fun _ _ => rfl)) pa_nil)) (hj := Nat.le_refl _)))) pa_nil)))))))
 pss_nil)
 (pss_cons (ps_if (PW.pt (pw_or (pt_cmpR op_ne (pe_callB call_isi (by rfl) B.isinstance boot_isinstance (pa_cons (pv 0) (pa_cons (pe_bltn (v := .ty "bool") rfl B.bool boot_bool rfl) pa_nil))) (pe_callB call_isi (by rfl) B.isinstance boot_isinstance (pa_cons (pv 1) (pa_cons (pe_bltn (v := .ty "bool") rfl B.bool boot_bool rfl) pa_nil))) (nomark _)) (pw_or1 (pt_cmpR op_ne (pe_callB call_isi (by rfl) B.isinstance boot_isinstance (pa_cons (pv 0) (pa_cons (pe_bltn (v := .ty "str") rfl B.str boot_str rfl) pa_nil))) (pe_callB call_isi (by rfl) B.isinstance boot_isinstance (pa_cons (pv 1) (pa_cons (pe_bltn (v := .ty "str") rfl B.str boot_str rfl) pa_nil))) (nomark _)))))
 (pss_one (ps_ret pe_bl))
 pss_nil)
 (pss_one (ps_ret (pe_and (pe_cmpR op_eq (pe_callB call_isi (by rfl) B.isinstance boot_isinstance (pa_cons (pv 0) (pa_cons (pe_bltn (v := .ty "int") rfl B.int boot_int rfl) pa_nil))) (pe_callB call_isi (by rfl) B.isinstance boot_isinstance (pa_cons (pv 1) (pa_cons (pe_bltn (v := .ty "int") rfl B.int boot_int rfl) pa_nil))) (nomark _)) (pe_one (pe_cmpR (op_eqD hu) (pv 0) (pv 1) (nomark _))))))))), ?_⟩
    cases h1 with
    | non =>
      cases h2
      exact ⟨_, rfl, rfl, _, rfl, iteDT rfl ⟨_, rfl, rfl, kk H (Same.refl H)⟩⟩
    | bl b =>
      cases h2
      refine ⟨_, rfl, rfl, _, rfl, iteDF (by intro h; cases h) ?_⟩
      refine ⟨_, rfl, (show 2 ≤ sizeLine by decide), fun tp htp => ⟨_, tp, ["list", "tuple"], .bool b, false, rfl, upd_same, .bl b, rfl, false, rfl, ?_⟩⟩
      refine ⟨_, rfl, _, "bool", .bool b, true, rfl, .bl b, rfl, _, rfl, _, "bool", .bool b, true, rfl, .bl b, rfl, rfl, _, rfl, ?_⟩
      refine ⟨_, rfl, _, "str", .bool b, false, rfl, .bl b, rfl, _, rfl, _, "str", .bool b, false, rfl, .bl b, rfl, rfl, _, rfl, ?_⟩
      refine ⟨_, rfl, _, "int", .bool b, true, rfl, .bl b, rfl, _, rfl, _, "int", .bool b, true, rfl, .bl b, rfl, rfl, _, rfl, ?_⟩
      refine ⟨_, rfl, _, rfl, _, _, .bl b, .bl b, hsh, hsh, ?_⟩
      rw [eqv_self hsh]
      exact kk _ (Same.upd htp)
    | int b =>
      cases h2
      refine ⟨_, rfl, rfl, _, rfl, iteDF (by intro h; cases h) ?_⟩
      refine ⟨_, rfl, (show 2 ≤ sizeLine by decide), fun tp htp => ⟨_, tp, ["list", "tuple"], .int b, false, rfl, upd_same, .int b, rfl, false, rfl, ?_⟩⟩
      refine ⟨_, rfl, _, "bool", .int b, false, rfl, .int b, rfl, _, rfl, _, "bool", .int b, false, rfl, .int b, rfl, rfl, _, rfl, ?_⟩
      refine ⟨_, rfl, _, "str", .int b, false, rfl, .int b, rfl, _, rfl, _, "str", .int b, false, rfl, .int b, rfl, rfl, _, rfl, ?_⟩
      refine ⟨_, rfl, _, "int", .int b, true, rfl, .int b, rfl, _, rfl, _, "int", .int b, true, rfl, .int b, rfl, rfl, _, rfl, ?_⟩
      refine ⟨_, rfl, _, rfl, _, _, .int b, .int b, hsh, hsh, ?_⟩
      rw [eqv_self hsh]
      exact kk _ (Same.upd htp)
    | str b =>
      cases h2
      refine ⟨_, rfl, rfl, _, rfl, iteDF (by intro h; cases h) ?_⟩
      refine ⟨_, rfl, (show 2 ≤ sizeLine by decide), fun tp htp => ⟨_, tp, ["list", "tuple"], .str b, false, rfl, upd_same, .str b, rfl, false, rfl, ?_⟩⟩
      refine ⟨_, rfl, _, "bool", .str b, false, rfl, .str b, rfl, _, rfl, _, "bool", .str b, false, rfl, .str b, rfl, rfl, _, rfl, ?_⟩
      refine ⟨_, rfl, _, "str", .str b, true, rfl, .str b, rfl, _, rfl, _, "str", .str b, true, rfl, .str b, rfl, rfl, _, rfl, ?_⟩
      refine ⟨_, rfl, _, "int", .str b, false, rfl, .str b, rfl, _, rfl, _, "int", .str b, false, rfl, .str b, rfl, rfl, _, rfl, ?_⟩
      refine ⟨_, rfl, _, rfl, _, _, .str b, .str b, hsh, hsh, ?_⟩
      rw [eqv_self hsh]
      exact kk _ (Same.upd htp)
    | @lst a1 us ds ea ta =>
      cases h2 with
      | @lst a2 ws _ eb tb =>
        have hlu := ta.length
        have hlw := tb.length
        have hsm' := hsm
        simp only [sml, Bool.and_eq_true, decide_eq_true_eq] at hsm'
        have hlen2 : ws.length ≤ 5000 := by omega
        have hln : (5000 : Nat) < sizeLine := by decide
        refine ⟨_, rfl, rfl, _, rfl, iteDF (by intro h; cases h) ?_⟩
        refine ⟨_, rfl, (show 2 ≤ sizeLine by decide), fun tp htp => ?_⟩
        have sm0 := Same.upd (o := .tup [V.ty "list", V.ty "tuple"]) htp
        refine ⟨_, tp, ["list", "tuple"], .list ds, true, rfl, upd_same, (Den.lst eb tb).mono sm0, rfl, true, rfl, ?_⟩
        generalize upd H tp (.tup [V.ty "list", V.ty "tuple"]) = H0 at sm0 ⊢
        have d1 := (Den.lst ea ta).mono sm0
        have d2 := (Den.lst eb tb).mono sm0
        refine ⟨_, rfl, _, "list", .list ds, true, rfl, d1, rfl, _, rfl, _, "list", .list ds, true, rfl, d2, rfl, rfl, _, rfl, ?_⟩
        refine ⟨_, rfl, _, "tuple", .list ds, false, rfl, d1, rfl, _, rfl, _, "tuple", .list ds, false, rfl, d2, rfl, rfl, _, rfl, ?_⟩
        refine ⟨_, rfl, a1, _, rfl, .inl (SqL.of (sm0 _ _ ea)), _, rfl, a2, _, rfl, .inl (SqL.of (sm0 _ _ eb)), _, _, rfl, rfl, _, rfl, iteDT (by omega) ?_⟩
        refine ⟨_, rfl, a2, _, rfl, .inl (SqL.of (sm0 _ _ eb)), _, rfl, by omega, by omega, comp_range (lo := 0) (fun i ys H2 => Same H0 H2 ∧ ys = List.replicate i (V.bl true)) ⟨Same.refl _, rfl⟩ ?_ ?_ ?_⟩
        · rintro i ys H2 hi ⟨sm, rfl⟩
          rw [List.length_replicate]
          omega
        · rintro i ys H2 hi ⟨sm, rfl⟩
          have hi' : i < ds.length := by omega
          obtain ⟨v1, e1, q1⟩ := ta.get (i := i) (d := ds[i]) (by simp [hi'])
          obtain ⟨v2, e2, q2⟩ := tb.get (i := i) (d := ds[i]) (by simp [hi'])
          have em : ds[i] ∈ ds := List.getElem_mem hi'
          have sm1 : Same H H2 := sm0.trans sm
          have ez : (0 : Int) + (i : Int) = (i : Int) := by omega
          refine ⟨_, rfl, _, rfl, .inl ⟨a1, _, _, _, rfl, rfl, SqL.of (sm1 _ _ ea), (by rw [ez]; exact atI_nat e1), _, rfl, _, rfl, .inl ⟨a2, _, _, _, rfl, rfl, SqL.of (sm1 _ _ eb), (by rw [ez]; exact atI_nat e2), ?_⟩⟩⟩
          have hd1 := depth_mem em
          have hdd : PyData.depthAll ds + 1 ≤ n := hdep
          refine hsp (n - 1) (by omega) _ _ _ _ ⟨v1, v2, ds[i], rfl, q1.mono sm1, q2.mono sm1, by omega, ?_, sml_mem em hsm'.2, fun H3 sm3 => ⟨sm.trans sm3, by rw [List.replicate_succ']⟩⟩
          have c1 : PyData.canLayAll0 ds = true := SeqAt.canLay_of_shaped hsh
          have c2 := SeqAt.depth_of_shaped hsh
          have c3 : PyData.depthAll ds + 1 ≤ 64 := c2
          simp only [SeqAt.shaped, canLay_mem em c1, Bool.true_and]
          exact decide_eq_true (by omega)
        · rintro ys H2 ⟨sm, rfl⟩ D hD
          refine ⟨D, List.replicate _ true, rfl, by rw [upd_same, List.map_replicate], ?_⟩
          have : ∀ k : Nat, (List.replicate k true).all id = true := fun k => by simp
          rw [this]
          exact kk _ ((sm0.trans sm).trans (Same.upd hD))
    | @tup a1 us ds ea ta =>
      cases h2 with
      | @tup a2 ws _ eb tb =>
        have hlu := ta.length
        have hlw := tb.length
        have hsm' := hsm
        simp only [sml, Bool.and_eq_true, decide_eq_true_eq] at hsm'
        have hlen2 : ws.length ≤ 5000 := by omega
        have hln : (5000 : Nat) < sizeLine := by decide
        refine ⟨_, rfl, rfl, _, rfl, iteDF (by intro h; cases h) ?_⟩
        refine ⟨_, rfl, (show 2 ≤ sizeLine by decide), fun tp htp => ?_⟩
        have sm0 := Same.upd (o := .tup [V.ty "list", V.ty "tuple"]) htp
        refine ⟨_, tp, ["list", "tuple"], .tuple ds, true, rfl, upd_same, (Den.tup eb tb).mono sm0, rfl, true, rfl, ?_⟩
        generalize upd H tp (.tup [V.ty "list", V.ty "tuple"]) = H0 at sm0 ⊢
        have d1 := (Den.tup ea ta).mono sm0
        have d2 := (Den.tup eb tb).mono sm0
        refine ⟨_, rfl, _, "list", .tuple ds, false, rfl, d1, rfl, _, rfl, _, "list", .tuple ds, false, rfl, d2, rfl, rfl, _, rfl, ?_⟩
        refine ⟨_, rfl, _, "tuple", .tuple ds, true, rfl, d1, rfl, _, rfl, _, "tuple", .tuple ds, true, rfl, d2, rfl, rfl, _, rfl, ?_⟩
        refine ⟨_, rfl, a1, _, rfl, .inr (SqT.of (sm0 _ _ ea)), _, rfl, a2, _, rfl, .inr (SqT.of (sm0 _ _ eb)), _, _, rfl, rfl, _, rfl, iteDT (by omega) ?_⟩
        refine ⟨_, rfl, a2, _, rfl, .inr (SqT.of (sm0 _ _ eb)), _, rfl, by omega, by omega, comp_range (lo := 0) (fun i ys H2 => Same H0 H2 ∧ ys = List.replicate i (V.bl true)) ⟨Same.refl _, rfl⟩ ?_ ?_ ?_⟩
        · rintro i ys H2 hi ⟨sm, rfl⟩
          rw [List.length_replicate]
          omega
        · rintro i ys H2 hi ⟨sm, rfl⟩
          have hi' : i < ds.length := by omega
          obtain ⟨v1, e1, q1⟩ := ta.get (i := i) (d := ds[i]) (by simp [hi'])
          obtain ⟨v2, e2, q2⟩ := tb.get (i := i) (d := ds[i]) (by simp [hi'])
          have em : ds[i] ∈ ds := List.getElem_mem hi'
          have sm1 : Same H H2 := sm0.trans sm
          have ez : (0 : Int) + (i : Int) = (i : Int) := by omega
          refine ⟨_, rfl, _, rfl, .inr (.inl ⟨a1, _, _, _, rfl, rfl, SqT.of (sm1 _ _ ea), (by rw [ez]; exact atI_nat e1), _, rfl, _, rfl, .inr (.inl ⟨a2, _, _, _, rfl, rfl, SqT.of (sm1 _ _ eb), (by rw [ez]; exact atI_nat e2), ?_⟩)⟩)⟩
          have hd1 := depth_mem em
          have hdd : PyData.depthAll ds + 1 ≤ n := hdep
          refine hsp (n - 1) (by omega) _ _ _ _ ⟨v1, v2, ds[i], rfl, q1.mono sm1, q2.mono sm1, by omega, ?_, sml_mem em hsm'.2, fun H3 sm3 => ⟨sm.trans sm3, by rw [List.replicate_succ']⟩⟩
          have c1 : PyData.canLayAll0 ds = true := SeqAt.canLay_of_shaped hsh
          have c2 := SeqAt.depth_of_shaped hsh
          have c3 : PyData.depthAll ds + 1 ≤ 64 := c2
          simp only [SeqAt.shaped, canLay_mem em c1, Bool.true_and]
          exact decide_eq_true (by omega)
        · rintro ys H2 ⟨sm, rfl⟩ D hD
          refine ⟨D, List.replicate _ true, rfl, by rw [upd_same, List.map_replicate], ?_⟩
          have : ∀ k : Nat, (List.replicate k true).all id = true := fun k => by simp
          rw [this]
          exact kk _ ((sm0.trans sm).trans (Same.upd hD))
theorem ok_same {f : Addr} {fd : FuncData} (F : Fun K "_law_same" "_law_same" s_law_same f fd) (B : Bt mg) (hmg : mg "_law_same" = some (.ref f)) (hb : Binds K fd ["_law_found", "_law_due"] []) :
    ∀ n, FnOk P w K mg base CX0 (n + 1) f fd ["_law_found", "_law_due"] (spSame n) := by
  intro n
  induction n with
  | zero =>
    refine same_step (k := 0) (spR := fun _ _ _ _ => False) F B ⟨f, fd, ⟨fun _ _ _ _ h => h.elim, fun _ _ _ _ _ _ _ _ _ _ _ _ _ h => h.elim⟩, hmg, F.kp, hb⟩ fun m hm => ?_
    omega
  | succ n ih =>
    refine same_step F B ⟨f, fd, ih, hmg, F.kp, hb⟩ fun m hm vs H Q E h => ?_
    obtain rfl : m = n := by omega
    exact h
noncomputable abbrev s_law_ten : Stmt := top 19
theorem sc_law_ten : FnScope ["_law_many", "_law_found", "_law_step"] ["_law_many"] (defScope s_law_ten) := ⟨rfl, rfl, rfl, by decide +kernel, rfl, by decide +kernel, by decide +kernel⟩
theorem ok_ten {f : Addr} {fd : FuncData} (F : Fun K "_law_ten" "_law_ten" s_law_ten f fd) (B : Bt mg) : FnOk P w K mg base CX0 1 f fd ["_law_many"] spTen := by
  refine F.ok sc_law_ten (fun vs H Q E h => ?_) (fun cdv A outer s H vs Q E hr h => ?_)
  · obtain ⟨n, rfl, _⟩ := h
    rfl
  · obtain ⟨n, rfl, hn, k⟩ := h
    refine ⟨_, (pss_cons (ps_set (i := 1) sc_law_ten.nd rfl (Or.inl rfl) pe_int)
 (pss_cons (ps_for PassesOwn.never rfl (pi_range1 rfl B.range (pa_cons (pv 0) pa_nil)) (pg_name (i := 2) sc_law_ten.nd rfl (Or.inl rfl))
 (pss_one (ps_set (i := 1) sc_law_ten.nd rfl (Or.inl rfl) (pe_op op_mul (pv 1) pe_int))))
 (pss_one (ps_ret (pv 1))))), ?_⟩
    refine ⟨_, rfl, _, rfl, by omega, by omega, for_range (n := n) (fun i σ H2 => ∃ v, σ = [some (.int n), some (.int (10 ^ i)), v] ∧ H2 = H) ⟨none, rfl, rfl⟩ ?_ ?_⟩
    · rintro i σ H2 hi ⟨v, rfl, rfl⟩
      refine ⟨_, rfl, _, _, rfl, rfl, .inr ⟨by decide, by decide⟩, _, rfl, rfl⟩
    · rintro σ H2 ⟨v, rfl, rfl⟩
      exact ⟨_, rfl, k⟩
noncomputable abbrev s_law_text : Stmt := top 20
theorem sc_law_text : FnScope ["_law_deed", "_law_parts"] ["_law_deed"] (defScope s_law_text) := ⟨rfl, rfl, rfl, by decide +kernel, rfl, by decide +kernel, by decide +kernel⟩
theorem ok_law_text {f : Addr} {fd : FuncData} (F : Fun K "_law_text" "_law_text" s_law_text f fd) (B : Bt mg) : FnOk P w K mg base CX0 1 f fd ["_law_deed"] spText := by
  refine F.ok sc_law_text (fun vs H Q E h => ?_) (fun cdv A outer s H vs Q E hr h => ?_)
  · obtain ⟨d, v, rfl, _⟩ := h
    rfl
  · obtain ⟨d, v, rfl, da, hd, k⟩ := h
    have hu := hr.units
    refine ⟨_, (pss_cons (ps_set (i := 1) sc_law_text.nd rfl (Or.inl rfl) (pe_cut (pe_ifExp (pt_cmpR (op_eqD hu) (pe_ix ix_tup (pv 0) pe_int (fun _ _ => rfl)) pe_str (nomark _)) (pe_callTy call_list_of (by rfl) B.list boot_list (pa_cons (pe_ix ix_tup (pv 0) pe_int (fun _ _ => rfl)) pa_nil)) (pe_callTy call_list_of (by rfl) B.list boot_list (pa_cons (pe_slice sl_tup (pv 0) (po_some pe_int) po_none) pa_nil)))))
 (@pss_retJ _ _ _ _ _ _ _ _ _ (pa_cons (pe_op op_cat (pe_lst (pa_cons (pe_ix ix_tup (pv 0) pe_int (fun _ _ => rfl)) (pa_cons (pe_ix ix_tup (pv 0) pe_int (fun _ _ => rfl)) pa_nil))) (pe_comp ["_law_part"] [] [] rfl (.of (show compOk (defScope s_law_text) _ ["_law_deed", "_law_parts"] [] [] = true by decide +kernel)) (pi_list (pv 1)) (fun _ _ _ => (pg_name (i := 0) (show (["_law_part"] : List Str).Nodup by decide +kernel) rfl (Or.inl rfl))) (kg_name (by decide)) (fun _ _ _ => pif_nil) (fun _ _ _ => (pe_callTy call_strM (by rfl) B.str boot_str (pa_cons (pv 0) pa_nil))))) pa_nil) (by rfl) (by rfl))), ?_⟩
    have hwt : Txs d.word := ⟨asc_of fun c hc => by have := (words_ok _ hd.word).1 c hc; omega, by have := (words_ok _ hd.word).2; omega⟩
    have form : ∃ (a : Addr) (n1 : Str) (its rest : List V), v = .ref a ∧ H a = some (.tup (.str d.word :: .str n1 :: its)) ∧ pvs d = .str d.word :: .str n1 :: rest ∧ ((d.word = "build" ∧ ∃ t, its = [.ref t] ∧ H t = some (.tup rest)) ∨ (d.word ≠ "build" ∧ its = rest)) := by
      cases da with
      | @plain a w ns xs e =>
        obtain ⟨_, h2, h3⟩ := formW_mem (hd.frm rfl)
        cases ns with
        | nil => exact absurd (show (1 : Int) ≤ 0 from h3) (by decide)
        | cons n1 r => exact ⟨a, n1, _, r.map V.str ++ xs.map V.int, rfl, e, rfl, .inr ⟨h2, rfl⟩⟩
      | @build a t w n xs e1 e2 => exact ⟨a, n, _, xs.map V.int, rfl, e1, rfl, .inl ⟨(hd.bld rfl).1, t, rfl, e2⟩⟩
    obtain ⟨a, n1, its, rest, rfl, ea, hpv, hk⟩ := form
    have hpl : (pvs d).length ≤ 13 := by
      have := hd.len
      rw [txs_pvs, List.length_map] at this
      exact this
    rw [hpv] at hpl
    have hrl : rest.length ≤ 11 := by simp at hpl; omega
    have at0 : atI (V.str d.word :: V.str n1 :: its) 0 = some (V.str d.word) := atI_nat (xs := V.str d.word :: V.str n1 :: its) (j := 0) rfl
    have at1 : atI (V.str d.word :: V.str n1 :: its) 1 = some (V.str n1) := atI_nat (xs := V.str d.word :: V.str n1 :: its) (j := 1) rfl
    refine ⟨fun v H' => ∃ l, v = .ref l ∧ Same H H' ∧ H' l = some (.lst rest), ?_, ?_⟩
    · refine ⟨_, rfl, a, _, _, _, rfl, rfl, SqT.of ea, at0, _, _, Den.str _, Den.str _, shaped_s hwt.asc, (by decide +kernel), _, rfl, ?_⟩
      rw [eqv_s]
      rcases hk with ⟨hw, t, rfl, et⟩ | ⟨hw, rfl⟩
      · rw [decide_eq_true hw, if_pos rfl]
        exact ⟨_, rfl, a, _, _, _, rfl, rfl, SqT.of ea, atI_nat (xs := [V.str d.word, V.str n1, V.ref t]) (j := 2) rfl, t, _, rfl, .inr (SqT.of et), fun l hl => ⟨l, rfl, Same.upd hl, upd_same⟩⟩
      · rw [decide_eq_false hw, if_neg Bool.false_ne_true]
        refine ⟨_, rfl, _, rfl, a, _, rfl, SqT.of ea, ?_, fun c hc => ?_⟩
        · rintro ⟨z, _⟩
          have : HT.sIx ((V.str d.word :: V.str n1 :: its).length) 0 (some 2) = 2 := by
            simp [HT.sIx]
          rw [this] at z
          exact absurd z (by decide)
        rw [show cutV (V.str d.word :: V.str n1 :: its) (some 2) none = its from cutV_from (V.str d.word :: V.str n1 :: its) 2]
        have ec : (upd H c (.tup its)) c = some (.tup its) := upd_same
        exact ⟨c, _, rfl, .inr (SqT.of ec), fun l hl => ⟨l, rfl, (Same.upd hc).trans (Same.upd hl), upd_same⟩⟩
    rintro v' H1 ⟨l, rfl, g1, el⟩
    have ea1 := g1 _ _ ea
    refine ⟨rfl, _, rfl, a, _, _, _, rfl, rfl, SqT.of ea1, at0, _, rfl, a, _, _, _, rfl, rfl, SqT.of ea1, at1, (show 2 ≤ sizeLine by decide), fun c1 hc1 => ?_⟩
    have g2 := Same.upd (o := .lst [V.str d.word, V.str n1]) hc1
    have ec1 : (upd H1 c1 (.lst [V.str d.word, V.str n1])) c1 = some (.lst [V.str d.word, V.str n1]) := upd_same
    generalize upd H1 c1 (.lst [V.str d.word, V.str n1]) = H2 at g2 ec1 ⊢
    have el2 := g2 _ _ el
    have hpr : ∀ x ∈ rest, Prt x := fun x hx => pvs_prt hd x (by rw [hpv]; exact List.mem_cons_of_mem _ (List.mem_cons_of_mem _ hx))
    refine ⟨_, rfl, l, rfl, ⟨_, SqL.of el2⟩, comp_list (K := K) (a := l) (xs := rest) (fun i ys Hy => Hy = H2 ∧ ys = ((rest.take i).map sT).map V.str) ⟨rfl, rfl⟩ ?_ ?_ ?_⟩
    · rintro i ys Hy hi ⟨rfl, rfl⟩
      exact ⟨SqL.of el2, by rw [List.length_map, List.length_map, List.length_take]; exact line_of (by omega)⟩
    · rintro i x ys Hy hi ⟨rfl, rfl⟩
      refine ⟨_, rfl, ?_⟩
      exact prt_str (H := Hy) (Q := fun y H4 => H4 = Hy ∧ ((rest.take i).map sT).map V.str ++ [y] = ((rest.take (i + 1)).map sT).map V.str) (hpr x (List.mem_of_getElem? hi)) ⟨rfl, by rw [List.take_add_one, hi]; simp⟩
    rintro ys Hy ⟨rfl, rfl⟩ c2 hc2
    rw [List.take_length]
    have g3 := Same.upd (o := .lst ((rest.map sT).map V.str)) hc2
    have ec2 : (upd Hy c2 (.lst ((rest.map sT).map V.str))) c2 = some (.lst ((rest.map sT).map V.str)) := upd_same
    generalize upd Hy c2 (.lst ((rest.map sT).map V.str)) = H3 at g3 ec2 ⊢
    refine ⟨c1, c2, _, _, rfl, rfl, g3 _ _ ec1, ec2, line_le (by simp; omega), fun c3 hc3 => ?_⟩
    have e3 : [V.str d.word, V.str n1] ++ (rest.map sT).map V.str = (txs d).map V.str := by
      rw [txs_pvs, hpv]
      rfl
    rw [e3]
    obtain ⟨k1, k2⟩ := glued_ok hd
    exact ⟨" ", c3, txs d, rfl, rfl, upd_same, k1, k2, k _ ((g1.trans g2).trans (g3.trans (Same.upd hc3)))⟩
noncomputable abbrev s_law_any_number : Stmt := top 21
theorem sc_law_any_number : FnScope ["_law_d"] ["_law_d"] (defScope s_law_any_number) := ⟨rfl, rfl, rfl, by decide +kernel, rfl, by decide +kernel, by decide +kernel⟩
theorem ok_any_number {f : Addr} {fd : FuncData} (F : Fun K "_law_any_number" "_law_any_number" s_law_any_number f fd) (B : Bt mg) (F_law_ten : FnAt P w K mg base "_law_ten" 1 ["_law_many"] spTen) : FnOk P w K mg base CX0 2 f fd ["_law_d"] spAnyNum := by
  refine F.ok sc_law_any_number (fun vs H Q E h => ?_) (fun cdv A outer s H vs Q E hr h => ?_)
  · obtain ⟨a, ns, rfl, _⟩ := h
    rfl
  · obtain ⟨a, ns, rfl, ha, hn, hl, k⟩ := h
    refine ⟨_, (pss_one (ps_ret (pe_op op_mul (pe_op op_sub (pe_op op_mod (pe_ix ix_list (pv 0) pe_int (fun _ _ => rfl)) pe_int) pe_int) (pe_op op_add (pe_op op_mul (pe_ix ix_list (pv 0) pe_int (fun _ _ => rfl)) (pe_fn F_law_ten hr rfl (pa_cons (pe_op op_mod (pe_ix ix_list (pv 0) pe_int (fun _ _ => rfl)) pe_int) pa_nil))) (pe_op op_mod (pe_ix ix_list (pv 0) pe_int (fun _ _ => rfl)) pe_int))))), ?_⟩
    obtain ⟨n0, m0, _, e0⟩ := at_mem (ns := ns) (i := 0) (by omega) (by omega)
    obtain ⟨n1, m1, _, e1⟩ := at_mem (ns := ns) (i := 1) (by omega) (by omega)
    obtain ⟨n2, m2, _, e2⟩ := at_mem (ns := ns) (i := 2) (by omega) (by omega)
    have b1 := hn n1 m1
    have z0 := Int.emod_nonneg n0 (show (3 : Int) ≠ 0 by decide)
    have z1 := Int.emod_lt_of_pos n0 (show (0 : Int) < 3 by decide)
    have y0 := Int.emod_nonneg n0 (show (10 : Int) ≠ 0 by decide)
    have y1 := Int.emod_lt_of_pos n0 (show (0 : Int) < 10 by decide)
    have x0 := Int.emod_nonneg n2 (show (57 : Int) ≠ 0 by decide)
    have x1 := Int.emod_lt_of_pos n2 (show (0 : Int) < 57 by decide)
    obtain ⟨kk, hkk⟩ : ∃ kk : Nat, n2 % 57 = (kk : Int) := ⟨(n2 % 57).toNat, by omega⟩
    refine ⟨_, rfl, a, _, _, _, rfl, rfl, SqL.of ha, e0, _, _, rfl, rfl, (by show (0 : Int) < 3; decide), _, _, rfl, rfl, ?_⟩
    refine ⟨_, rfl, a, _, _, _, rfl, rfl, SqL.of ha, e1, _, rfl, a, _, _, _, rfl, rfl, SqL.of ha, e2, _, _, rfl, rfl, (by show (0 : Int) < 57; decide), kk, by show [V.int (n2 % 57)] = _; rw [hkk], by omega, ?_⟩
    refine ⟨_, _, rfl, rfl, .inl ⟨by omega, by omega⟩, ?_⟩
    refine ⟨_, rfl, a, _, _, _, rfl, rfl, SqL.of ha, e0, _, _, rfl, rfl, (by show (0 : Int) < 10; decide), _, _, rfl, rfl, _, _, rfl, rfl, .inl ⟨by omega, by omega⟩, ?_⟩
    exact k _ (any_bound (by omega) b1 (by omega) (by omega))
noncomputable abbrev s_law_word : Stmt := top 22
theorem sc_law_word : FnScope ["_law_d"] ["_law_d"] (defScope s_law_word) := ⟨rfl, rfl, rfl, by decide +kernel, rfl, by decide +kernel, by decide +kernel⟩
theorem ok_law_word {f : Addr} {fd : FuncData} (F : Fun K "_law_word" "_law_word" s_law_word f fd) (B : Bt mg) : FnOk P w K mg base CX0 1 f fd ["_law_d"] spWord := by
  refine F.ok sc_law_word (fun vs H Q E h => ?_) (fun cdv A outer s H vs Q E hr h => ?_)
  · obtain ⟨a, ns, rfl, _⟩ := h
    rfl
  · obtain ⟨a, ns, rfl, ha, hn, hl, k⟩ := h
    refine ⟨_, (@pss_retJ _ _ _ _ _ _ _ _ _ (pa_cons (pe_comp ["_law_number_here"] [] [] rfl (.of (show compOk (defScope s_law_word) _ ["_law_d"] [] [] = true by decide +kernel)) (pi_list (pe_slice sl_list (pv 0) (po_some pe_int) (po_some (pe_op op_add pe_int (pe_op op_mod (pe_ix ix_list (pv 0) pe_int (fun _ _ => rfl)) pe_int))))) (fun _ _ _ => (pg_name (i := 0) (show (["_law_number_here"] : List Str).Nodup by decide +kernel) rfl (Or.inl rfl))) (kg_name (by decide)) (fun _ _ _ => pif_nil) (fun _ _ _ => (pe_ix ix_str pe_str (pe_op op_mod (pv 0) pe_int) (fun _ _ => rfl)))) pa_nil) (by rfl) (by rfl)), ?_⟩
    obtain ⟨n0, m0, _, e0⟩ := at_mem (ns := ns) (i := 0) (by omega) (by omega)
    have x0 := Int.emod_nonneg n0 (show (8 : Int) ≠ 0 by decide)
    have x1 := Int.emod_lt_of_pos n0 (show (0 : Int) < 8 by decide)
    obtain ⟨kk, hkk⟩ : ∃ kk : Nat, 2 + n0 % 8 = (kk : Int) := ⟨(2 + n0 % 8).toNat, by omega⟩
    refine ⟨rfl, _, rfl, _, rfl, _, rfl, a, _, _, _, rfl, rfl, SqL.of ha, e0, _, _, rfl, rfl, (by show (0 : Int) < 8; decide), _, _, rfl, rfl, _, rfl, a, _, rfl, SqL.of ha, fun c hc => ?_⟩
    rw [show cutV (ns.map V.int) (some 1) (some (2 + n0 % 8)) = ((ns.drop 1).take (kk - 1)).map V.int by
      rw [hkk, show (1 : Int) = ((1 : Nat) : Int) from rfl, cutV_mid _ 1 kk (by simp; omega) (by simp; omega), List.map_take, List.map_drop]]
    have hml : ((ns.drop 1).take (kk - 1)).length = kk - 1 := by simp; omega
    have hmn : Nums ((ns.drop 1).take (kk - 1)) := fun n h => hn n (List.mem_of_mem_drop (List.mem_of_mem_take h))
    generalize (ns.drop 1).take (kk - 1) = ms at hml hmn ⊢
    have g1 := Same.upd (o := .lst (ms.map V.int)) hc
    have ec : (upd H c (.lst (ms.map V.int))) c = some (.lst (ms.map V.int)) := upd_same
    generalize upd H c (.lst (ms.map V.int)) = H1 at g1 ec ⊢
    refine ⟨c, rfl, ⟨_, SqL.of ec⟩, comp_list (K := K) (a := c) (xs := ms.map V.int) (fun i ys Hx => Hx = H1 ∧ ∃ cs : List Nat, ys = (cs.map chS).map V.str ∧ cs.length = i ∧ ∀ c ∈ cs, c ∈ signs letS) ⟨rfl, [], rfl, rfl, fun c h => (nomatch h)⟩ ?_ ?_ ?_⟩
    · rintro i ys Hx hi ⟨rfl, cs, rfl, hcl, _⟩
      rw [List.length_map] at hi
      exact ⟨SqL.of ec, by rw [List.length_map, List.length_map]; exact line_of (by omega)⟩
    · rintro i x ys Hx hi ⟨rfl, cs, rfl, hcl, hcs⟩
      obtain ⟨z, rfl, hz⟩ := int_at hi
      obtain ⟨q, hq, hq2⟩ := let_at (Int.emod_nonneg z (show (26 : Int) ≠ 0 by decide)) (Int.emod_lt_of_pos z (show (0 : Int) < 26 by decide))
      refine ⟨_, rfl, _, _, rfl, rfl, (by show (0 : Int) < 26; decide), letS, _, q, rfl, rfl, line_le (by decide +kernel), hq, rfl, cs ++ [q], by rw [List.map_append, List.map_append]; rfl, by simp [hcl], fun c h => ?_⟩
      rcases List.mem_append.mp h with h | h
      · exact hcs c h
      · rw [List.mem_singleton.mp h]; exact hq2
    rintro ys Hx ⟨rfl, cs, rfl, hcl, hcs⟩ D hD
    rw [List.length_map] at hcl
    have hsg := glued_ch cs
    have hln : (Builtin.Str.glued "" (cs.map chS)).length = cs.length := by rw [← signs_len, hsg]
    refine ⟨"", D, cs.map chS, rfl, rfl, upd_same, by rw [fold0]; exact line_le (by omega), by rw [hln]; exact line_le (by omega), ?_⟩
    refine k _ ⟨asc_of fun d hd => ?_, by rw [hln]; omega⟩ (madeB_true ?_ ?_ fun d hd => ?_) _ (g1.trans (Same.upd hD))
    · rw [hsg] at hd
      have := lets_in (hcs d hd)
      omega
    · rw [hsg]
      intro z
      rw [z] at hcl
      simp at hcl
      omega
    · rw [hsg]
      omega
    · rw [hsg] at hd
      exact hcs d hd
noncomputable abbrev s_law_any_deed : Stmt := top 23
theorem sc_law_any_deed : FnScope ["_law_d", "_law_word_here", "_law_name", "_law_some", "_law_many"] ["_law_d"] (defScope s_law_any_deed) := ⟨rfl, rfl, rfl, by decide +kernel, rfl, by decide +kernel, by decide +kernel⟩
noncomputable abbrev adS (i : Nat) : Stmt := (defBody s_law_any_deed).getD i (.Pass ⟨0, 0, 0, 0⟩)
@[irreducible] noncomputable def eD : Expr := sbD (adS 5)
theorem pe_eD {X : Cx} : PEi X eD (tDisp [(tC (.str "shut"), tC (.int 0)), (tC (.str "walk"), tC (.int 2)), (tC (.str "put"), tC (.int 1)), (tC (.str "take"), tC (.int 1)), (tC (.str "mirror"), tC (.int 0)), (tC (.str "late"), tC (.int 3)), (tC (.str "strike"), tC (.int 1))]) := by
  unfold eD
  exact pe_disp7i (pps_cons pe_str pe_int (pps_cons pe_str pe_int (pps_cons pe_str pe_int (pps_cons pe_str pe_int (pps_cons pe_str pe_int (pps_cons pe_str pe_int (pps_cons pe_str pe_int pps_nil)))))))
theorem adB : defBody s_law_any_deed = [adS 0, adS 1, adS 2, adS 3, adS 4, .Assign (asT (adS 5)) (.Subscript eD (sbI (adS 5)) (sbP (adS 5))) (asP (adS 5)), adS 6] := by
  unfold eD
  rfl
theorem ok_any_deed {f : Addr} {fd : FuncData} (F : Fun K "_law_any_deed" "_law_any_deed" s_law_any_deed f fd) (B : Bt mg) (F_law_word : FnAt P w K mg base "_law_word" 1 ["_law_d"] spWord) (F_law_any_number : FnAt P w K mg base "_law_any_number" 2 ["_law_d"] spAnyNum) : FnOk P w K mg base CX0 3 f fd ["_law_d"] spAnyDeed := by
  refine F.ok sc_law_any_deed (fun vs H Q E h => ?_) (fun cdv A outer s H vs Q E hr h => ?_)
  · obtain ⟨a, ns, rfl, _⟩ := h
    rfl
  · obtain ⟨a, ns, rfl, ha, hn, hl, k⟩ := h
    have hu := hr.units
    have hu1 := hu_of hr
    rw [adB]
    refine ⟨_, (pss_cons (ps_set (i := 1) sc_law_any_deed.nd rfl (Or.inl rfl) (pe_ix ix_list (pe_bm PySem.F.plainAttrs_str PySem.F.slot_str_split PySem.F.type_str_split mt_split pe_str (pa_cons pe_str pa_nil)) (pe_op op_mod (pe_ix ix_list (pv 0) pe_int (fun _ _ => rfl)) pe_int) (fun _ _ => rfl)))
 (pss_cons (ps_set (i := 2) sc_law_any_deed.nd rfl (Or.inl rfl) (pe_fn F_law_word hr rfl (pa_cons (pe_slice sl_list (pv 0) (po_some pe_int) po_none) pa_nil)))
 (pss_cons (ps_setc (i := 3) ["_law_k"] ["_law_d"] [0] rfl sc_law_any_deed.nd rfl rfl (.of (show compOk (defScope s_law_any_deed) _ ["_law_d", "_law_word_here", "_law_name", "_law_some", "_law_many"] [0] ["_law_d"] = true by decide +kernel)) (pi_range1 rfl B.range (pa_cons pe_int pa_nil)) (fun _ _ _ => (pg_name (i := 0) (show (["_law_k", "_law_d"] : List Str).Nodup by decide +kernel) rfl (Or.inl rfl))) (kg_name (by decide)) (fun _ _ _ => pif_nil) (fun _ _ _ => (pe_fn F_law_any_number hr rfl (pa_cons (pe_slice (sl_listK K rfl) (pv 1) (po_some (pe_op op_add pe_int (pe_op op_mul pe_int (pv 0)))) po_none) pa_nil))) (by first | rfl | decide +kernel))
 (pss_cons (ps_if (pt_cmpR (op_eqD hu) (pv 1) pe_str (nomark _))
 (pss_one (ps_ret (pe_tup (pa_cons (pv 1) (pa_cons (pv 2) (pa_cons (pe_callTy call_tuple_of (by rfl) B.tuple boot_tuple (pa_cons (pe_comp ["_law_k"] ["_law_d"] [0] rfl (.of (show compOk (defScope s_law_any_deed) _ ["_law_d", "_law_word_here", "_law_name", "_law_some", "_law_many"] [0] ["_law_d"] = true by decide +kernel)) (pi_range1 rfl B.range (pa_cons (pe_op op_mod (pe_ix ix_list (pv 0) pe_int (fun _ _ => rfl)) pe_int) pa_nil)) (fun _ _ _ => (pg_name (i := 0) (show (["_law_k", "_law_d"] : List Str).Nodup by decide +kernel) rfl (Or.inl rfl))) (kg_name (by decide)) (fun _ _ _ => pif_nil) (fun _ _ _ => (pe_fn F_law_any_number hr rfl (pa_cons (pe_slice (sl_listK K rfl) (pv 1) (po_some (pe_op op_add pe_int (pe_op op_mul pe_int (pv 0)))) po_none) pa_nil)))) pa_nil)) pa_nil))))))
 pss_nil)
 (pss_cons (ps_if (pt_cmpR (op_eqD hu) (pv 1) pe_str (nomark _))
 (pss_one (ps_ret (pe_tup (pa_cons (pv 1) (pa_cons (pv 2) (pa_cons (pe_fn F_law_word hr rfl (pa_cons (pe_slice sl_list (pv 0) (po_some pe_int) po_none) pa_nil)) (pa_cons (pe_ix ix_list (pv 3) pe_int (fun _ _ => rfl)) pa_nil)))))))
 pss_nil)
 (pss_cons (ps_set (i := 4) sc_law_any_deed.nd rfl (Or.inl rfl) (pe_dget hu1 (PEi.out pe_eD) (pv 1) (fun _ _ => rfl)))
 (pss_one (ps_ret (pe_op op_catT (pe_tup (pa_cons (pv 1) (pa_cons (pv 2) pa_nil))) (pe_callTy call_tuple_of (by rfl) B.tuple boot_tuple (pa_cons (pe_slice sl_list (pv 3) po_none (po_some (pv 4))) pa_nil))))))))))), ?_⟩
    obtain ⟨n0, m0, _, e0⟩ := at_mem (ns := ns) (i := 0) (by omega) (by omega)
    obtain ⟨n1, m1, _, e1⟩ := at_mem (ns := ns) (i := 1) (by omega) (by omega)
    obtain ⟨wd, hw, ew⟩ := word_at (Int.emod_nonneg n0 (show (9 : Int) ≠ 0 by decide)) (Int.emod_lt_of_pos n0 (show (0 : Int) < 9 by decide))
    have hwo := words_ok wd hw
    have hwt : Txs wd := ⟨asc_of fun c hc => by have := hwo.1 c hc; omega, by have := hwo.2; omega⟩
    refine ⟨rfl, ?_⟩
    dsimp only [tCons, tNil, tC]
    refine sp_words fun l hl1 => ?_
    have g1 := Same.upd (o := .lst (wordsW.map V.str)) hl1
    have el : (upd H l (.lst (wordsW.map V.str))) l = some (.lst (wordsW.map V.str)) := upd_same
    generalize upd H l (.lst (wordsW.map V.str)) = H1 at g1 el ⊢
    have ha1 := g1 _ _ ha
    refine ⟨_, rfl, a, _, _, _, rfl, rfl, SqL.of ha1, e0, _, _, rfl, rfl, (by show (0 : Int) < 9; decide), l, _, _, _, rfl, rfl, SqL.of el, ew, ?_⟩
    -- the name
    refine ⟨_, rfl, _, rfl, a, _, rfl, SqL.of ha1, fun c1 hc1 => ?_⟩
    rw [show cutV (ns.map V.int) (some 1) none = (ns.drop 1).map V.int from cut_from ns 1 (by omega)]
    have g2 := Same.upd (o := .lst ((ns.drop 1).map V.int)) hc1
    have ec1 : (upd H1 c1 (.lst ((ns.drop 1).map V.int))) c1 = some (.lst ((ns.drop 1).map V.int)) := upd_same
    generalize upd H1 c1 (.lst ((ns.drop 1).map V.int)) = H2 at g2 ec1 ⊢
    refine ⟨c1, ns.drop 1, rfl, ec1, nums_drop hn 1, by simp; omega, fun nm hnm hnl H3 g3 => ?_⟩
    have g13 := (g1.trans g2).trans g3
    have ha3 := g13 _ _ ha
    -- the numbers
    have step : ∀ {Hx : Hp} (i : Nat), i < 6 → H a = some (.lst (ns.map V.int)) → Same H Hx → ∀ {QQ : VK}, (∀ (x : Int) H', x.natAbs < 10 ^ 60 → Same Hx H' → QQ (.int x) H') → ∀ c, Hx c = none → spAnyNum [V.ref c] (upd Hx c (.lst (cutV (ns.map V.int) (some (10 + 3 * (0 + (i : Int)))) none))) QQ E0 := fun {Hx} i hi _ gx {QQ} hQ c hc => by
      have e : cutV (ns.map V.int) (some (10 + 3 * (0 + (i : Int)))) none = (ns.drop (10 + 3 * i)).map V.int := by
        rw [show 10 + 3 * (0 + (i : Int)) = ((10 + 3 * i : Nat) : Int) by omega]
        exact cut_from ns (10 + 3 * i) (by omega)
      rw [e]
      exact ⟨c, ns.drop (10 + 3 * i), rfl, upd_same, nums_drop hn _, by simp; omega, fun x hx => hQ x _ hx (Same.upd hc)⟩
    refine ⟨3, rfl, by decide, by decide, comp_range (lo := 0) (n := 3) (fun i ys Hx => Same H3 Hx ∧ ∃ xs : List Int, ys = xs.map V.int ∧ xs.length = i ∧ ∀ x ∈ xs, x.natAbs < 10 ^ 60) ⟨Same.refl _, [], rfl, rfl, fun x h => (nomatch h)⟩ ?_ ?_ ?_⟩
    · rintro i ys Hx hi ⟨sm, xs, rfl, hxl, _⟩
      rw [List.length_map]
      exact line_of (by omega)
    · rintro i ys Hx hi ⟨sm, xs, rfl, hxl, hxs⟩
      have hax := sm _ _ ha3
      refine ⟨_, rfl, _, rfl, _, _, rfl, rfl, .inl ⟨by decide, by decide⟩, _, _, rfl, rfl, _, rfl, a, _, rfl, SqL.of hax, step i (by omega) ha (g13.trans sm) fun x H' hx g => ⟨sm.trans g, xs ++ [x], by rw [List.map_append]; rfl, by simp [hxl], fun y hy => ?_⟩⟩
      rcases List.mem_append.mp hy with h | h
      · exact hxs y h
      · rw [List.mem_singleton.mp h]; exact hx
    rintro ys Hx ⟨sm, xs, rfl, hxl, hxs⟩ l3 hl3
    have g4 := Same.upd (o := .lst (xs.map V.int)) hl3
    have el3 : (upd Hx l3 (.lst (xs.map V.int))) l3 = some (.lst (xs.map V.int)) := upd_same
    generalize upd Hx l3 (.lst (xs.map V.int)) = H4 at g4 el3 ⊢
    have g14 := g13.trans (sm.trans g4)
    have ha4 := g14 _ _ ha
    clear sm hl3
    -- build
    refine ⟨_, rfl, _, _, Den.str _, Den.str _, shaped_s hwt.asc, (by decide +kernel), _, rfl, ?_⟩
    rw [eqv_s]
    by_cases c0 : wd = "build"
    · refine iteDT c0 ?_
      have y0 := Int.emod_nonneg n1 (show (6 : Int) ≠ 0 by decide)
      have y1 := Int.emod_lt_of_pos n1 (show (0 : Int) < 6 by decide)
      obtain ⟨kz, hkz⟩ : ∃ kz : Nat, n1 % 6 = (kz : Int) := ⟨(n1 % 6).toNat, by omega⟩
      refine ⟨_, rfl, _, rfl, _, rfl, a, _, _, _, rfl, rfl, SqL.of ha4, e1, _, _, rfl, rfl, (by show (0 : Int) < 6; decide), (kz : Int), by show [V.int (n1 % 6)] = _; rw [hkz], by omega, by omega, comp_range (lo := 0) (n := kz) (fun i ys Hx => Same H4 Hx ∧ ∃ xs : List Int, ys = xs.map V.int ∧ xs.length = i ∧ ∀ x ∈ xs, x.natAbs < 10 ^ 60) ⟨Same.refl _, [], rfl, rfl, fun x h => (nomatch h)⟩ ?_ ?_ ?_⟩
      · rintro i ys Hx hi ⟨sm, xs, rfl, hxl, _⟩
        rw [List.length_map]
        exact line_of (by omega)
      · rintro i ys Hx hi ⟨sm, xs, rfl, hxl, hxs⟩
        have hax := sm _ _ ha4
        refine ⟨_, rfl, _, rfl, _, _, rfl, rfl, .inl ⟨by decide, by decide⟩, _, _, rfl, rfl, _, rfl, a, _, rfl, SqL.of hax, step i (by omega) ha (g14.trans sm) fun x H' hx g => ⟨sm.trans g, xs ++ [x], by rw [List.map_append]; rfl, by simp [hxl], fun y hy => ?_⟩⟩
        rcases List.mem_append.mp hy with h | h
        · exact hxs y h
        · rw [List.mem_singleton.mp h]; exact hx
      rintro ys Hx ⟨sm, zs, rfl, hzl, hzs⟩ l4 hl4
      have g5 := Same.upd (o := .lst (zs.map V.int)) hl4
      have el4 : (upd Hx l4 (.lst (zs.map V.int))) l4 = some (.lst (zs.map V.int)) := upd_same
      generalize upd Hx l4 (.lst (zs.map V.int)) = H5 at g5 el4 ⊢
      refine ⟨l4, _, rfl, .inl ⟨SqL.of el4, fun t ht => ?_⟩⟩
      have g6 := Same.upd (o := .tup (zs.map V.int)) ht
      have et : (upd H5 t (.tup (zs.map V.int))) t = some (.tup (zs.map V.int)) := upd_same
      generalize upd H5 t (.tup (zs.map V.int)) = H6 at g6 et ⊢
      refine ⟨(show 3 ≤ sizeLine by decide), fun b hb => ?_⟩
      refine k ⟨wd, [nm], zs, true⟩ (.ref b) _ ⟨fun _ => ⟨c0, rfl⟩, fun z => (nomatch z), fun n h => ?_, hzs, by show zs.length ≤ 10; omega, by show 1 ≤ 2; decide⟩ (.build upd_same ?_) (g14.trans (((sm.trans g5).trans g6).trans (Same.upd hb)))
      · rw [List.mem_singleton.mp h]; exact ⟨hnm, hnl⟩
      · rw [upd_ne (ne_of_none et hb)]; exact et
    · refine iteDF c0 ?_
      refine ⟨_, rfl, _, _, Den.str _, Den.str _, shaped_s hwt.asc, (by decide +kernel), _, rfl, ?_⟩
      rw [eqv_s]
      by_cases c1 : wd = "lay"
      · refine iteDT c1 ?_
        refine ⟨_, rfl, _, rfl, _, rfl, _, rfl, a, _, rfl, SqL.of ha4, fun c2 hc2 => ?_⟩
        rw [show cutV (ns.map V.int) (some 20) none = (ns.drop 20).map V.int from cut_from ns 20 (by omega)]
        have g5 := Same.upd (o := .lst ((ns.drop 20).map V.int)) hc2
        have ec2 : (upd H4 c2 (.lst ((ns.drop 20).map V.int))) c2 = some (.lst ((ns.drop 20).map V.int)) := upd_same
        generalize upd H4 c2 (.lst ((ns.drop 20).map V.int)) = H5 at g5 ec2 ⊢
        refine ⟨c2, ns.drop 20, rfl, ec2, nums_drop hn 20, by simp; omega, fun z hz1 hz2 H6 g6 => ?_⟩
        obtain ⟨x0, xr, rfl⟩ : ∃ x0 xr, xs = x0 :: xr := by
          cases xs with
          | nil => cases hxl
          | cons x r => exact ⟨x, r, rfl⟩
        have el36 := (g5.trans g6) _ _ el3
        refine ⟨_, rfl, l3, _, _, _, rfl, rfl, SqL.of el36, atI_nat (xs := (x0 :: xr).map V.int) (j := 0) rfl, (show 4 ≤ sizeLine by decide), fun b hb => ?_⟩
        refine k ⟨wd, [nm, z], [x0], false⟩ (.ref b) _ ⟨fun q => (nomatch q), fun _ => by rw [c1]; exact (by decide +kernel : formW "lay" = some (2, 1)), fun n h => ?_, fun x h => ?_, by show 1 ≤ 10; decide, by show 2 ≤ 2; decide⟩ (.plain upd_same) (g14.trans ((g5.trans g6).trans (Same.upd hb)))
        · simp only [List.mem_cons, List.not_mem_nil, or_false] at h
          rcases h with rfl | rfl
          · exact ⟨hnm, hnl⟩
          · exact ⟨hz1, hz2⟩
        · rw [List.mem_singleton.mp h]; exact hxs x0 List.mem_cons_self
      · refine iteDF c1 ?_
        obtain ⟨m, hm3, hfm, hval⟩ := many_at hw c0 c1
        refine fun dp hdp => ⟨upd_same, manyK, rfl, by decide, _, rfl, dp, .int m, rfl, by rw [← hval]; exact DGet.k (k := Sum.inr wd) upd_same, ?_⟩
        have g5 : Same H4 (upd (upd H4 dp (.dK [])) dp (.dK (mergeK [] manyK))) := fun b o e => by rw [upd_ne (ne_of_none e hdp), upd_ne (ne_of_none e hdp)]; exact e
        generalize upd (upd H4 dp (.dK [])) dp (.dK (mergeK [] manyK)) = H5 at g5 ⊢
        refine ⟨_, rfl, _, rfl, (show 2 ≤ sizeLine by decide), fun t1 ht1 => ?_⟩
        have g6 := Same.upd (o := .tup [V.str wd, V.str nm]) ht1
        have et1 : (upd H5 t1 (.tup [V.str wd, V.str nm])) t1 = some (.tup [V.str wd, V.str nm]) := upd_same
        generalize upd H5 t1 (.tup [V.str wd, V.str nm]) = H6 at g6 et1 ⊢
        have el36 := (g5.trans g6) _ _ el3
        refine ⟨_, rfl, _, rfl, _, rfl, l3, _, rfl, SqL.of el36, fun c2 hc2 => ?_⟩
        rw [show cutV (xs.map V.int) none (some (m : Int)) = (xs.take m).map V.int from cut_to xs m (by omega)]
        have g7 := Same.upd (o := .lst ((xs.take m).map V.int)) hc2
        have ec2 : (upd H6 c2 (.lst ((xs.take m).map V.int))) c2 = some (.lst ((xs.take m).map V.int)) := upd_same
        generalize upd H6 c2 (.lst ((xs.take m).map V.int)) = H7 at g7 ec2 ⊢
        refine ⟨c2, _, rfl, .inl ⟨SqL.of ec2, fun t2 ht2 => ?_⟩⟩
        have g8 := Same.upd (o := .tup ((xs.take m).map V.int)) ht2
        have et2 : (upd H7 t2 (.tup ((xs.take m).map V.int))) t2 = some (.tup ((xs.take m).map V.int)) := upd_same
        generalize upd H7 t2 (.tup ((xs.take m).map V.int)) = H8 at g8 et2 ⊢
        have hml : (xs.take m).length = m := by simp; omega
        have g58 := (g5.trans g6).trans (g7.trans g8)
        have okd : OkD ⟨wd, [nm], xs.take m, false⟩ := ⟨fun q => (nomatch q), fun _ => by
          show formW wd = some (((1 : Nat) : Int), ((xs.take m).length : Int))
          rw [hml]
          exact hfm, fun n h => by rw [List.mem_singleton.mp h]; exact ⟨hnm, hnl⟩, fun x h => hxs x (List.mem_of_mem_take h), by show (xs.take m).length ≤ 10; omega, by show 1 ≤ 2; decide⟩
        refine ⟨t1, t2, _, _, rfl, rfl, SqT.of ((g7.trans g8) _ _ et1), SqT.of et2, by simp, line_le (by simp; omega), fun h0 => ?_, fun h0 b hb => ?_⟩
        · refine k _ (.ref t1) _ okd (.plain ?_) (g14.trans g58)
          rw [h0]
          exact (g7.trans g8) _ _ et1
        · exact k _ (.ref b) _ okd (.plain upd_same) (g14.trans (g58.trans (Same.upd hb)))
noncomputable abbrev s_law_is_name : Stmt := top 24
theorem sc_law_is_name : FnScope ["_law_text_here"] ["_law_text_here"] (defScope s_law_is_name) := ⟨rfl, rfl, rfl, by decide +kernel, rfl, by decide +kernel, by decide +kernel⟩
theorem ok_law_is_name {f : Addr} {fd : FuncData} (F : Fun K "_law_is_name" "_law_is_name" s_law_is_name f fd) (B : Bt mg) : FnOk P w K mg base CX0 1 f fd ["_law_text_here"] spNameT := by
  refine F.ok sc_law_is_name (fun vs H Q E h => ?_) (fun cdv A outer s H vs Q E hr h => ?_)
  · obtain ⟨t, rfl, _⟩ := h
    rfl
  · obtain ⟨t, rfl, ht, k⟩ := h
    have hu := hr.units
    refine ⟨_, (pss_one (ps_ret (pe_and (pe_chain op_le op_le pe_int (pe_callB call_len_str (by rfl) B.len PySem.boot_len (pa_cons (pv 0) pa_nil)) pe_int) (pe_one (pe_callB (call_all rfl) (by rfl) B.all boot_all (pa_cons (pe_comp ["_law_sign"] [] [] rfl (.of (show compOk (defScope s_law_is_name) _ ["_law_text_here"] [] [] = true by decide +kernel)) (pi_str (pv 0)) (fun _ _ _ => (pg_name (i := 0) (show (["_law_sign"] : List Str).Nodup by decide +kernel) rfl (Or.inl rfl))) (kg_name (by decide)) (fun _ _ _ => pif_nil) (fun _ _ _ => (pe_cmpR op_in_str (pv 0) pe_str (by with_unfolding_all rfl)))) pa_nil)))))), ?_⟩
    have h5 := ht.len
    have hb : madeB t letS 8 = (decide (t ≠ "") && (decide ((t.length : Int) ≤ 8) && (signs t).all fun c => decide (c ∈ signs letS))) := rfl
    refine ⟨_, rfl, t, rfl, line_le (by omega), _, _, rfl, rfl, _, rfl, ?_⟩
    by_cases c0 : t = ""
    · have hl0 : t.length = 0 := by rw [c0]; rfl
      rw [if_neg (by rw [hl0]; decide)]
      refine ⟨_, rfl, ?_⟩
      rw [if_neg Bool.false_ne_true]
      have := k H (Same.refl _)
      rw [hb, decide_eq_false (fun z => z c0), Bool.false_and] at this
      exact this
    have hl1 : 1 ≤ t.length := by
      cases hs : signs t with
      | nil => exact absurd (str_ext (by rw [hs]; rfl)) c0
      | cons c r => rw [← signs_len, hs]; simp
    rw [if_pos (decide_eq_true (by omega))]
    rw [decide_eq_true c0, Bool.true_and] at hb
    refine ⟨_, _, rfl, rfl, _, rfl, ?_⟩
    by_cases c1 : (t.length : Int) ≤ 8
    · rw [if_pos (decide_eq_true c1)]
      rw [decide_eq_true c1, Bool.true_and] at hb
      refine ⟨_, rfl, t, rfl, ht.asc, comp_str (z := t) (fun i ys Hx => Hx = H ∧ ys = (((signs t).take i).map fun c => decide (c ∈ signs letS)).map V.bl) ⟨rfl, rfl⟩ ?_ ?_ ?_⟩
      · rintro i ys Hx hi ⟨rfl, rfl⟩
        rw [List.length_map, List.length_map, List.length_take]
        exact line_of (by have : t.cps.size = t.length := rfl; omega)
      · rintro i c ys Hx hi ⟨rfl, rfl⟩
        refine ⟨_, rfl, _, _, rfl, rfl, rfl, ?_⟩
        have hi' : (signs t)[i]? = some c := by rw [Array.getElem?_toList]; exact hi
        rw [StrLaws.found_one, List.take_add_one, hi']
        simp
      · rintro ys Hx ⟨rfl, rfl⟩ D hD
        refine ⟨D, (signs t).map fun c => decide (c ∈ signs letS), rfl, ?_, ?_⟩
        · rw [upd_same, List.take_of_length_le (by rw [signs_len]; exact Nat.le_refl _)]
        · have := k _ (Same.upd (o := .lst ((((signs t).take t.cps.size).map fun c => decide (c ∈ signs letS)).map V.bl)) hD)
          rw [hb] at this
          rw [List.all_map]
          exact this
    · rw [if_neg (by simpa using c1)]
      have := k H (Same.refl _)
      rw [hb, decide_eq_false c1, Bool.false_and] at this
      exact this
noncomputable abbrev s_law_number : Stmt := top 25
theorem sc_law_number : FnScope ["_law_word_here", "_law_figures"] ["_law_word_here"] (defScope s_law_number) := ⟨rfl, rfl, rfl, by decide +kernel, rfl, by decide +kernel, by decide +kernel⟩
theorem ok_law_number {f : Addr} {fd : FuncData} (F : Fun K "_law_number" "_law_number" s_law_number f fd) (B : Bt mg) : FnOk P w K mg base CX0 1 f fd ["_law_word_here"] spNumL := by
  refine F.ok sc_law_number (fun vs H Q E h => ?_) (fun cdv A outer s H vs Q E hr h => ?_)
  · obtain ⟨t, rfl, _⟩ := h
    rfl
  · obtain ⟨t, rfl, ht, k⟩ := h
    have hu := hr.units
    refine ⟨_, (pss_cons (ps_set (i := 1) sc_law_number.nd rfl (Or.inl rfl) (pe_cut (pe_ifExp (pt_cmpR (op_eqD hu) (pe_slice sl_str (pv 0) po_none (po_some pe_int)) pe_str (nomark _)) (pe_slice sl_str (pv 0) (po_some pe_int) po_none) (pv 0))))
 (pss_cons (ps_if (PW.pt (pw_or (pt_not (pt_chain op_le op_le pe_int (pe_callB call_len_str (by rfl) B.len PySem.boot_len (pa_cons (pv 1) pa_nil)) pe_int)) (pw_or1 (pt_not (pt_truth (pe_callB (call_all rfl) (by rfl) B.all boot_all (pa_cons (pe_comp ["_law_sign"] [] [] rfl (.of (show compOk (defScope s_law_number) _ ["_law_word_here", "_law_figures"] [] [] = true by decide +kernel)) (pi_str (pv 1)) (fun _ _ _ => (pg_name (i := 0) (show (["_law_sign"] : List Str).Nodup by decide +kernel) rfl (Or.inl rfl))) (kg_name (by decide)) (fun _ _ _ => pif_nil) (fun _ _ _ => (pe_cmpR op_in_str (pv 0) pe_str (by with_unfolding_all rfl)))) pa_nil)) (fun _ => rfl))))))
 (pss_one (ps_ret pe_non))
 pss_nil)
 (pss_cons (ps_if (PW.pt (pw_and (pt_cmpR (op_eqD hu) (pe_ix ix_str (pv 1) pe_int (fun _ _ => rfl)) pe_str (nomark _)) (pw_and1 (pt_cmpR (op_neD hu) (pv 0) pe_str (nomark _)))))
 (pss_one (ps_ret pe_non))
 pss_nil)
 (pss_one (ps_ret (pe_callTy call_intT (by rfl) B.int boot_int (pa_cons (pv 0) pa_nil))))))), ?_⟩
    have h5 := ht.len
    have hr1 := rp_txs ht
    have h6 := hr1.len
    have hsl : Txs (Txt.slice t none (some 1)) := (TxB.of ht h5).slice none (some 1) |>.txs (Nat.le_refl _)
    refine ⟨fun v H' => v = .str (rpM t) ∧ H' = H, ⟨_, rfl, _, rfl, t, rfl, line_le (by omega), _, _, Den.str _, Den.str _, shaped_s hsl.asc, (by decide +kernel), _, rfl, ?_⟩, ?_⟩
    · rw [eqv_s]
      refine iteD (fun c => ?_) fun c => ?_
      · refine ⟨_, rfl, _, rfl, t, rfl, line_le (by omega), ?_, rfl⟩
        rw [← figs_eq, if_pos c]
      · refine ⟨_, rfl, ?_, rfl⟩
        rw [← figs_eq, if_neg c]
    rintro v H' ⟨rfl, rfl⟩
    have hn : numO t = if (madeB (rpM t) figS 60 && (decide ((⟨#[(signs (rpM t)).headD 0]⟩ : Str) ≠ "0") || decide (t = "0"))) = true then .int (numV t) else .non := rfl
    have hb : madeB (rpM t) figS 60 = (decide (rpM t ≠ "") && (decide (((rpM t).length : Int) ≤ 60) && (signs (rpM t)).all fun c => decide (c ∈ signs figS))) := rfl
    refine ⟨_, rfl, rpM t, rfl, line_le (by omega), _, _, rfl, rfl, _, rfl, ?_⟩
    have bad : (madeB (rpM t) figS 60 && (decide ((⟨#[(signs (rpM t)).headD 0]⟩ : Str) ≠ "0") || decide (t = "0"))) = false → ∀ H2, Same H' H2 → Q .non H2 := fun z H2 g => by
      have := k H2 g
      rw [hn, z] at this
      exact this
    by_cases c0 : rpM t = ""
    · have hl0 : (rpM t).length = 0 := by rw [c0]; rfl
      rw [hl0]
      refine iteDF (by decide) ⟨_, rfl, iteT ?_⟩
      exact bad (by rw [hb, decide_eq_false (fun z => z c0), Bool.false_and, Bool.false_and]) _ (Same.refl _)
    have hl1 : 1 ≤ (rpM t).length := by
      cases hs : signs (rpM t) with
      | nil => exact absurd (str_ext (by rw [hs]; rfl)) c0
      | cons c r => rw [← signs_len, hs]; simp
    rw [decide_eq_true c0, Bool.true_and] at hb
    refine iteDT (by omega) ⟨_, _, rfl, rfl, _, rfl, ?_⟩
    by_cases c1 : ((rpM t).length : Int) ≤ 60
    · rw [decide_eq_true c1]
      refine iteF ?_
      rw [decide_eq_true c1, Bool.true_and] at hb
      refine ⟨_, rfl, rpM t, rfl, hr1.asc, comp_str (z := rpM t) (fun i ys Hx => Hx = H' ∧ ys = (((signs (rpM t)).take i).map fun c => decide (c ∈ signs figS)).map V.bl) ⟨rfl, rfl⟩ ?_ ?_ ?_⟩
      · rintro i ys Hx hi ⟨rfl, rfl⟩
        rw [List.length_map, List.length_map, List.length_take]
        exact line_of (by have : (rpM t).cps.size = (rpM t).length := rfl; omega)
      · rintro i c ys Hx hi ⟨rfl, rfl⟩
        refine ⟨_, rfl, _, _, rfl, rfl, rfl, ?_⟩
        have hi' : (signs (rpM t))[i]? = some c := by rw [Array.getElem?_toList]; exact hi
        rw [StrLaws.found_one, List.take_add_one, hi']
        simp
      rintro ys Hx ⟨rfl, rfl⟩ D hD
      refine ⟨D, (signs (rpM t)).map fun c => decide (c ∈ signs figS), rfl, ?_, ?_⟩
      · rw [upd_same, List.take_of_length_le (by rw [signs_len]; exact Nat.le_refl _)]
      have g1 := Same.upd (o := .lst ((((signs (rpM t)).take (rpM t).cps.size).map fun c => decide (c ∈ signs figS)).map V.bl)) hD
      generalize upd Hx D _ = H2 at g1 ⊢
      rw [List.all_map]
      refine ⟨_, rfl, ?_⟩
      cases hm : madeB (rpM t) figS 60 with
      | false =>
        rw [show (signs (rpM t)).all (id ∘ fun c => decide (c ∈ signs figS)) = false from hb.symm.trans hm]
        refine iteT ?_
        exact bad (by rw [hm, Bool.false_and]) _ g1
      | true =>
        rw [show (signs (rpM t)).all (id ∘ fun c => decide (c ∈ signs figS)) = true from hb.symm.trans hm]
        refine iteF ?_
        obtain ⟨c, r, er⟩ := made_ne hm
        have hc : c < 128 := by
          have := (made_figs hm).1 c (by rw [er]; exact List.mem_cons_self)
          omega
        refine ⟨_, rfl, rpM t, 0, c, rfl, rfl, line_le (by omega), ?_, _, _, Den.str _, Den.str _, shaped_s (asc_of fun d hd => by
          have : d ∈ [c] := hd
          rw [List.mem_singleton.mp this]; exact hc), (by decide +kernel), _, rfl, ?_⟩
        · show atI (signs (rpM t)) 0 = some c
          rw [er]; exact atI_nat (xs := c :: r) (j := 0) rfl
        rw [eqv_s]
        have hd0 : (signs (rpM t)).headD 0 = c := by rw [er]; rfl
        rw [hm, Bool.true_and, hd0] at hn bad
        have told : (decide ((⟨#[c]⟩ : Str) ≠ "0") || decide (t = "0")) = true → ∃ n, PySem.intText? t = some n ∧ t.length ≤ 640 ∧ Q (.int n) H2 := fun z => by
          have hN : numB t = true := by
            show (madeB (rpM t) figS 60 && (decide ((⟨#[(signs (rpM t)).headD 0]⟩ : Str) ≠ "0") || decide (t = "0"))) = true
            rw [hm, hd0, z]; rfl
          obtain ⟨e1, _, e3⟩ := numB_reads hN
          have := k H2 g1
          rw [hn, z] at this
          exact ⟨_, e1, by omega, this⟩
        refine iteD (fun c2 => ?_) fun c2 => ?_
        · refine ⟨_, rfl, _, _, Den.str _, Den.str _, shaped_s ht.asc, (by decide +kernel), ?_⟩
          rw [eqv_s]
          by_cases c3 : t = "0"
          · rw [decide_eq_true c3]
            obtain ⟨n, e1, e2, q⟩ := told (by rw [decide_eq_true c3, Bool.or_true])
            exact ⟨_, rfl, iteF ⟨_, rfl, t, n, rfl, e2, e1, q⟩⟩
          · rw [decide_eq_false c3]
            exact ⟨_, rfl, iteT (bad (by rw [decide_eq_false (fun z => z c2), decide_eq_false c3]; rfl) _ g1)⟩
        · obtain ⟨n, e1, e2, q⟩ := told (by rw [decide_eq_true c2, Bool.true_or])
          exact iteF ⟨_, rfl, t, n, rfl, e2, e1, q⟩
    · rw [decide_eq_false c1]
      refine iteT ?_
      exact bad (by rw [hb, decide_eq_false c1, Bool.false_and, Bool.false_and]) _ (Same.refl _)
noncomputable abbrev s_law_reads : Stmt := top 26
theorem sc_law_reads : FnScope ["_law_text_here", "_law_forms", "_law_words", "_law_places", "_law_found", "_law_kind", "_law_word_here", "_law_part"] ["_law_text_here"] (defScope s_law_reads) := ⟨rfl, rfl, rfl, by decide +kernel, rfl, by decide +kernel, by decide +kernel⟩
noncomputable abbrev rdS (i : Nat) : Stmt := (defBody s_law_reads).getD i (.Pass ⟨0, 0, 0, 0⟩)
@[irreducible] noncomputable def eF : Expr := asV (rdS 0)
theorem pe_eF {X : Cx} : PEi X eF (tDisp [(tC (.str "shut"), tC (.str "n")), (tC (.str "walk"), tC (.str "nii")), (tC (.str "put"), tC (.str "ni")), (tC (.str "take"), tC (.str "ni")), (tC (.str "mirror"), tC (.str "n")), (tC (.str "lay"), tC (.str "nni"))]) := by
  unfold eF
  exact pe_disp6i (pps_cons pe_str pe_str (pps_cons pe_str pe_str (pps_cons pe_str pe_str (pps_cons pe_str pe_str (pps_cons pe_str pe_str (pps_cons pe_str pe_str pps_nil))))))
theorem sw_eF {x : Str} {p : Pos} {l : Nat} {env : Env} : swapsWith eF (some (.Name x p)) l env = pure false := by
  unfold eF
  rfl
theorem rdB : defBody s_law_reads = [.Assign (asT (rdS 0)) eF (asP (rdS 0)), rdS 1, rdS 2, rdS 3, rdS 4, rdS 5, rdS 6, rdS 7] := by
  unfold eF
  rfl
theorem ok_reads {f : Addr} {fd : FuncData} (F : Fun K "_law_reads" "_law_reads" s_law_reads f fd) (B : Bt mg) (B6 : Bt6 mg) (F_law_is_name : FnAt P w K mg base "_law_is_name" 1 ["_law_text_here"] spNameT) (F_law_number : FnAt P w K mg base "_law_number" 1 ["_law_word_here"] spNumL) : FnOk P w K mg base CX0 2 f fd ["_law_text_here"] spDeedG := by
  refine F.ok sc_law_reads (fun vs H Q E h => ?_) (fun cdv A outer s H vs Q E hr h => ?_)
  · obtain ⟨t, rfl, _⟩ := h
    rfl
  · obtain ⟨t, rfl, ht, k, kn⟩ := h
    have hu := hr.units
    have hu1 := hu_of hr
    rw [rdB]
    refine ⟨_, (pss_cons (ps_set (i := 1) sc_law_reads.nd rfl (Or.inl rfl) (PEi.out pe_eF) (hs := sw_eF))
 (pss_cons (ps_set (i := 1) sc_law_reads.nd rfl (Or.inl rfl) (pe_callTy (call_dictP rfl) (by rfl) B6.dict PyProof.Rows.boot_dict (pa_cons (pe_op op_cat (pe_listItems rfl (by rfl) B.list (pv 1)) (pe_lst (pa_cons (pe_tup (pa_cons pe_str (pa_cons pe_str pa_nil))) (pa_cons (pe_tup (pa_cons pe_str (pa_cons pe_str pa_nil))) pa_nil)))) pa_nil)))
 (pss_cons (ps_set (i := 2) sc_law_reads.nd rfl (Or.inl rfl) (pe_bm PySem.F.plainAttrs_str PySem.F.slot_str_split PySem.F.type_str_split mt_split (pv 0) (pa_cons pe_str pa_nil)))
 (pss_cons (ps_if (PW.pt (pw_and (pt_cmpR (op_eqD hu) (pe_ix ix_list (pv 2) pe_int (fun _ _ => rfl)) pe_str (nomark _)) (pw_and1 (pt_cmpR op_gt (pe_callB call_len_seq (by rfl) B.len PySem.boot_len (pa_cons (pv 2) pa_nil)) pe_int (nomark _)))))
 (pss_cons (ps_setc (i := 3) ["_law_word_here"] [] [] rfl sc_law_reads.nd rfl rfl (.of (show compOk (defScope s_law_reads) _ ["_law_text_here", "_law_forms", "_law_words", "_law_places", "_law_found", "_law_kind", "_law_word_here", "_law_part"] [] [] = true by decide +kernel)) (pi_list (pe_slice sl_list (pv 2) (po_some pe_int) po_none)) (fun _ _ _ => (pg_name (i := 0) (show (["_law_word_here"] : List Str).Nodup by decide +kernel) rfl (Or.inl rfl))) (kg_name (by decide)) (fun _ _ _ => pif_nil) (fun _ _ _ => (pe_fn F_law_number hr rfl (pa_cons (pv 0) pa_nil))) (by first | rfl | decide +kernel))
 (pss_one (ps_ret (pe_cut (pe_ifExp (PW.pt (pw_and (pt_truth (pe_fn F_law_is_name hr rfl (pa_cons (pe_ix ix_list (pv 2) pe_int (fun _ _ => rfl)) pa_nil)) (fun _ => rfl)) (pw_and1 (pt_cmpR op_notIn_seq pe_non (pv 3) (by with_unfolding_all rfl))))) (pe_tup (pa_cons pe_str (pa_cons (pe_ix ix_list (pv 2) pe_int (fun _ _ => rfl)) (pa_cons (pe_callTy call_tuple_of (by rfl) B.tuple boot_tuple (pa_cons (pv 3) pa_nil)) pa_nil)))) pe_non)))))
 pss_nil)
 (pss_cons (ps_if (PW.pt (pw_or (pt_cmp (pc_dnotin hu1 (pe_ix ix_list (pv 2) pe_int (fun _ _ => rfl)) (pv 1))) (pw_or1 (pt_cmpR op_neI (pe_callB call_len_seq (by rfl) B.len PySem.boot_len (pa_cons (pv 2) pa_nil)) (pe_op op_add (pe_callB call_len_str (by rfl) B.len PySem.boot_len (pa_cons (pe_dget hu1 (pv 1) (pe_ix ix_list (pv 2) pe_int (fun _ _ => rfl)) (fun _ _ => rfl)) pa_nil)) pe_int) (nomark _)))))
 (pss_one (ps_ret pe_non))
 pss_nil)
 (pss_cons (ps_set (i := 4) sc_law_reads.nd rfl (Or.inl rfl) (pe_tup (pa_cons (pe_ix ix_list (pv 2) pe_int (fun _ _ => rfl)) pa_nil)))
 (pss_cons (ps_for PassesOwn.never rfl (pi_zipS rfl B.zip (pa_cons (pe_dget hu1 (pv 1) (pe_ix ix_list (pv 2) pe_int (fun _ _ => rfl)) (fun _ _ => rfl)) (pa_cons (pe_slice sl_list (pv 2) (po_some pe_int) po_none) pa_nil))) (pg_tup rfl (pgs_cons (pg_name (i := 5) sc_law_reads.nd rfl (Or.inl rfl)) (pgs_cons (pg_name (i := 6) sc_law_reads.nd rfl (Or.inl rfl)) pgs_nil)))
 (pss_cons (ps_set (i := 7) sc_law_reads.nd rfl (Or.inl rfl) (pe_cut (pe_ifExp (pt_cmpR (op_eqD hu) (pv 5) pe_str (nomark _)) (pe_fn F_law_number hr rfl (pa_cons (pv 6) pa_nil)) (pe_ix ix_list (pe_lst (pa_cons pe_non (pa_cons (pv 6) pa_nil))) (pe_callTy call_int1 (by rfl) B.int boot_int (pa_cons (pe_fn F_law_is_name hr rfl (pa_cons (pv 6) pa_nil)) pa_nil)) (fun _ _ => rfl)))))
 (pss_cons (ps_if (pt_cmpR op_isN (pv 7) pe_non (nomark _))
 (pss_one (ps_ret pe_non))
 pss_nil)
 (pss_one (ps_set (i := 4) sc_law_reads.nd rfl (Or.inl rfl) (pe_op op_catT (pv 4) (pe_tup (pa_cons (pv 7) pa_nil))))))))
 (pss_one (ps_ret (pv 4)))))))))), ?_⟩
    have h5 := ht.len
    obtain ⟨wd, ps, hsp, hrd, htx, hpl⟩ := words_of ht
    rw [hrd] at k kn
    have hwt : Txs wd := htx wd List.mem_cons_self
    have hpt : ∀ n ∈ ps, Txs n := fun n hn => htx n (List.mem_cons_of_mem _ hn)
    -- the table
    refine fun dp hdp => ⟨upd_same, frm6, rfl, by decide, ?_⟩
    have g1 : Same H (upd (upd H dp (.dK [])) dp (.dK (mergeK [] frm6))) := fun b o e => by rw [upd_ne (ne_of_none e hdp), upd_ne (ne_of_none e hdp)]; exact e
    have ed : (upd (upd H dp (.dK [])) dp (.dK (mergeK [] frm6))) dp = some (.dK frm6) := upd_same
    generalize upd (upd H dp (.dK [])) dp (.dK (mergeK [] frm6)) = H1 at g1 ed ⊢
    refine ⟨_, rfl, dp, frm6, rfl, ed, fun S Ts H2 hS g2 eS hTl hT => ?_⟩
    refine ⟨(show 2 ≤ sizeLine by decide), fun t1 ht1 => ⟨(show 2 ≤ sizeLine by decide), fun t2 ht2 => ⟨(show 2 ≤ sizeLine by decide), fun l2 hl2 => ?_⟩⟩⟩
    have et1 := ((Same.upd (o := .tup [V.str "strike", V.str "ni"]) ht2).trans (Same.upd (o := .lst [V.ref t1, V.ref t2]) hl2)) _ _ (upd_same (H := H2) (a := t1) (o := .tup [V.str "late", V.str "niii"]))
    have et2 := (Same.upd (o := .lst [V.ref t1, V.ref t2]) hl2) _ _ (upd_same (H := upd H2 t1 (.tup [V.str "late", V.str "niii"])) (a := t2) (o := .tup [V.str "strike", V.str "ni"]))
    have g3 := (Same.upd (o := .tup [V.str "late", V.str "niii"]) ht1).trans ((Same.upd (o := .tup [V.str "strike", V.str "ni"]) ht2).trans (Same.upd (o := .lst [V.ref t1, V.ref t2]) hl2))
    refine ⟨S, l2, _, _, rfl, rfl, g3 _ _ eS, upd_same, line_le (by rw [List.length_map, hTl]; show 6 + 2 ≤ 10000; decide), fun l3 hl3 => ?_⟩
    generalize upd (upd (upd H2 t1 (.tup [V.str "late", V.str "niii"])) t2 (.tup [V.str "strike", V.str "ni"])) l2 (.lst [V.ref t1, V.ref t2]) = H3 at et1 et2 g3 hl3 ⊢
    have g4 := Same.upd (o := .lst (Ts.map V.ref ++ [V.ref t1, V.ref t2])) hl3
    have el3 : (upd H3 l3 (.lst (Ts.map V.ref ++ [V.ref t1, V.ref t2]))) l3 = some (.lst ((Ts ++ [t1, t2]).map V.ref)) := by rw [List.map_append]; exact upd_same
    generalize upd H3 l3 (.lst (Ts.map V.ref ++ [V.ref t1, V.ref t2])) = H4 at g4 el3 ⊢
    have hTl6 : Ts.length = 6 := hTl
    refine ⟨l3, Ts ++ [t1, t2], frm8, rfl, el3, by rw [List.length_append, hTl6]; rfl, by decide, fun j T e => ?_, fun d2 hd2 => ?_⟩
    · rcases Nat.lt_or_ge j Ts.length with hj | hj
      · rw [List.getElem?_append_left hj] at e
        obtain ⟨q, y, e1, e2⟩ := hT j T e
        exact ⟨q, y, by rw [List.getElem?_append_left (by rw [← hTl]; exact hj)]; exact e1, (g3.trans g4) _ _ e2⟩
      · rw [List.getElem?_append_right hj, hTl6] at e
        have hj2 : j < 8 := by have := (List.getElem?_eq_some_iff.mp e).1; simp at this; omega
        rcases (show j = 6 ∨ j = 7 by omega) with rfl | rfl
        · cases e; exact ⟨_, _, rfl, g4 _ _ et1⟩
        · cases e; exact ⟨_, _, rfl, g4 _ _ et2⟩
    rw [merge8]
    have g5 := ((g1.trans g2).trans (g3.trans g4)).trans (Same.upd (o := .dK frm8) hd2)
    have ed2 : (upd H4 d2 (.dK frm8)) d2 = some (.dK frm8) := upd_same
    generalize upd H4 d2 (.dK frm8) = H5 at g5 ed2 ⊢
    clear el3 g4 et1 et2 g3 hl3 hT eS g2 hS ed g1 hdp
    -- the words
    refine ⟨_, rfl, rfl, t, " ", rfl, rfl, by decide, line_le (by omega), by rw [hsp]; exact line_le (by simp; omega), fun l hl => ?_⟩
    rw [hsp]
    have g6 := g5.trans (Same.upd (o := .lst ((wd :: ps).map V.str)) hl)
    have el : (upd H5 l (.lst ((wd :: ps).map V.str))) l = some (.lst ((wd :: ps).map V.str)) := upd_same
    have ed6 := (Same.upd (o := .lst ((wd :: ps).map V.str)) hl) _ _ ed2
    generalize upd H5 l (.lst ((wd :: ps).map V.str)) = H6 at g6 el ed6 ⊢
    clear hl hd2 ed2 g5
    have at0 : atI ((wd :: ps).map V.str) 0 = some (.str wd) := atI_nat (xs := (wd :: ps).map V.str) (j := 0) rfl
    have hxl : ((wd :: ps).map V.str).length = ps.length + 1 := by simp
    refine ⟨_, rfl, l, _, _, _, rfl, rfl, SqL.of el, at0, _, _, Den.str _, Den.str _, shaped_s hwt.asc, (by decide +kernel), _, rfl, ?_⟩
    rw [eqv_s]
    by_cases cb : wd = "build"
    · subst cb
      refine iteDT rfl ⟨_, rfl, l, _, rfl, .inl (SqL.of el), _, _, rfl, rfl, _, rfl, ?_⟩
      rw [hxl]
      cases ps with
      | nil =>
        refine iteDF (by decide) ?_
        refine ⟨_, rfl, l, _, _, _, rfl, rfl, SqL.of el, at0, _, rfl, d2, none, rfl, ?_, ?_⟩
        · exact DGet.k (k := Sum.inr "build") ed6
        · exact ⟨_, rfl, iteT (iteT (kn rfl _ g6))⟩
      | cons nm xs =>
        have hxlen : xs.length ≤ 4999 := by simp at hpl; omega
        refine iteDT (by simp; omega) ?_
        refine ⟨_, rfl, _, rfl, l, _, rfl, SqL.of el, fun c1 hc1 => ?_⟩
        rw [show cutV ((("build" : Str) :: nm :: xs).map V.str) (some 2) none = xs.map V.str from cut_str_from (("build" : Str) :: nm :: xs) 2]
        have g7 := Same.upd (o := .lst (xs.map V.str)) hc1
        have ec1 : (upd H6 c1 (.lst (xs.map V.str))) c1 = some (.lst (xs.map V.str)) := upd_same
        generalize upd H6 c1 (.lst (xs.map V.str)) = H7 at g7 ec1 ⊢
        refine ⟨c1, rfl, ⟨_, SqL.of ec1⟩, comp_list (K := K) (a := c1) (xs := xs.map V.str) (fun i ys Hx => Same H7 Hx ∧ ys = (xs.take i).map numO) ⟨Same.refl _, rfl⟩ ?_ ?_ ?_⟩
        · rintro i ys Hx hi ⟨sm, rfl⟩
          rw [List.length_map] at hi
          exact ⟨SqL.of (sm _ _ ec1), by rw [List.length_map, List.length_take]; exact line_of (by omega)⟩
        · rintro i x ys Hx hi ⟨sm, rfl⟩
          obtain ⟨z, hz, rfl⟩ : ∃ z, xs[i]? = some z ∧ V.str z = x := by rw [List.getElem?_map] at hi; exact Option.map_eq_some_iff.mp hi
          refine ⟨_, rfl, z, rfl, hpt z (List.mem_cons_of_mem _ (List.mem_of_getElem? hz)), fun Hy gy => ?_⟩
          exact ⟨sm.trans gy, by rw [List.take_add_one, hz]; simp⟩
        rintro ys Hx ⟨sm, rfl⟩ c2 hc2
        rw [List.length_map, List.take_length]
        have g8 := (g6.trans g7).trans (sm.trans (Same.upd (o := .lst (xs.map numO)) hc2))
        have el8 := (g7.trans (sm.trans (Same.upd (o := .lst (xs.map numO)) hc2))) _ _ el
        have ec2 : (upd Hx c2 (.lst (xs.map numO))) c2 = some (.lst (xs.map numO)) := upd_same
        generalize upd Hx c2 (.lst (xs.map numO)) = H8 at g8 el8 ec2 ⊢
        clear sm g7 hc2 hc1 ec1
        have at1 : atI ((("build" : Str) :: nm :: xs).map V.str) 1 = some (.str nm) := atI_nat (xs := (("build" : Str) :: nm :: xs).map V.str) (j := 1) rfl
        refine ⟨fun v H' => (∃ d, readW "build" (nm :: xs) = some d ∧ Same H H' ∧ DeedAt H' v d) ∨ (readW "build" (nm :: xs) = none ∧ v = .non ∧ Same H H'), ?_, ?_⟩
        · refine ⟨_, rfl, l, _, _, _, rfl, rfl, SqL.of el8, at1, nm, rfl, hpt nm List.mem_cons_self, fun H9 g9 => ⟨_, rfl, ?_⟩⟩
          cases hm : madeB nm letS 8 with
          | false =>
            refine iteF (iteF ?_)
            refine .inr ⟨readW_nobuild fun z => ?_, rfl, g8.trans g9⟩
            have z2 := z.2.1
            simp [hm] at z2
          | true =>
            refine iteT ⟨_, rfl, c2, _, rfl, .inl (SqL.of (g9 _ _ ec2)), rfl, ?_, ?_⟩
            · rw [List.all_map, List.all_eq_true]
              exact fun z _ => numO_flat z
            rw [numO_in]
            cases hx : xs.all numB with
            | false =>
              refine ⟨_, rfl, iteF ?_⟩
              refine .inr ⟨readW_nobuild fun z => ?_, rfl, g8.trans g9⟩
              have z2 : xs.all numB = true := z.2.2
              rw [hx] at z2
              cases z2
            | true =>
              refine ⟨_, rfl, iteT ?_⟩
              have hok : PartsOk (nm :: xs) 1 ((nm :: xs).length - 1) := ⟨by simp; omega, by simp [hm], hx⟩
              obtain ⟨n', xs', e0, hrw⟩ := readW_build hok
              obtain ⟨rfl, rfl⟩ := List.cons.inj e0
              rw [numO_all hx] at ec2
              refine ⟨_, rfl, l, _, _, _, rfl, rfl, SqL.of (g9 _ _ el8), at1, _, rfl, c2, _, rfl, .inl ⟨SqL.of (g9 _ _ ec2), fun t3 ht3 => ?_⟩⟩
              have g10 := Same.upd (o := .tup ((xs.map numV).map V.int)) ht3
              have et3 : (upd H9 t3 (.tup ((xs.map numV).map V.int))) t3 = some (.tup ((xs.map numV).map V.int)) := upd_same
              generalize upd H9 t3 (.tup ((xs.map numV).map V.int)) = H10 at g10 et3 ⊢
              refine ⟨(show 3 ≤ sizeLine by decide), fun q hq => .inl ⟨_, hrw, (g8.trans g9).trans (g10.trans (Same.upd hq)), .build upd_same ((Same.upd hq) _ _ et3)⟩⟩
        · rintro v H' (⟨d, e1, g, da⟩ | ⟨e1, rfl, g⟩)
          · exact k d e1 v H' g da
          · exact kn e1 H' g
    · refine iteDF cb (iteF ?_)
      refine ⟨_, rfl, l, _, _, _, rfl, rfl, SqL.of el, at0, _, rfl, d2, valV frm8 (Sum.inr wd), rfl, DGet.k (k := Sum.inr wd) ed6, ?_⟩
      rcases forms_at wd with ⟨a, b, x, hf, hv, hsx, ha1, ha2, hb3⟩ | ⟨hf, hv⟩
      case inr =>
        rw [hv]
        exact ⟨_, rfl, iteT (iteT (kn (readW_none cb hf) _ g6))⟩
      rw [hv]
      have hdg : ∀ {Hz : Hp}, Hz d2 = some (.dK frm8) → DGet Hz d2 (.str wd) (some (.str x)) := fun e => by
        rw [← hv]
        exact DGet.k (k := Sum.inr wd) e
      have hxn : x.length = a + b := by rw [← signs_len, hsx, List.length_append, List.length_replicate, List.length_replicate]
      have hxa : x.cps.all (· < 128) = true := asc_of fun c hc => by
        rw [hsx] at hc
        rcases List.mem_append.mp hc with h | h
        · rw [(List.mem_replicate.mp h).2]; decide
        · rw [(List.mem_replicate.mp h).2]; decide
      refine ⟨_, rfl, iteF ⟨_, rfl, l, _, rfl, .inl (SqL.of el), _, rfl, _, rfl, l, _, _, _, rfl, rfl, SqL.of el, at0, d2, .str x, rfl, hdg ed6, x, rfl, line_le (by omega), _, _, rfl, rfl, _, _, rfl, rfl, _, rfl, ?_⟩⟩
      rw [hxl, hxn]
      by_cases cl : ps.length = a + b
      case neg =>
        rw [show decide (((ps.length + 1 : Nat) : Int) = ((a + b : Nat) : Int) + 1) = false from decide_eq_false (by omega)]
        exact iteT (kn (readW_no cb hf fun z => cl z.1) _ g6)
      rw [show decide (((ps.length + 1 : Nat) : Int) = ((a + b : Nat) : Int) + 1) = true from decide_eq_true (by omega)]
      refine iteF ?_
      refine ⟨_, rfl, l, _, _, _, rfl, rfl, SqL.of el, at0, (show 1 ≤ sizeLine by decide), fun tF htF => ?_⟩
      have g7 := Same.upd (o := .tup [V.str wd]) htF
      have etF : (upd H6 tF (.tup [V.str wd])) tF = some (.tup [V.str wd]) := upd_same
      generalize upd H6 tF (.tup [V.str wd]) = H7 at g7 etF ⊢
      refine ⟨_, rfl, _, rfl, l, _, _, _, rfl, rfl, SqL.of (g7 _ _ el), at0, d2, .str x, rfl, hdg (g7 _ _ ed6), _, rfl, _, rfl, l, _, rfl, SqL.of (g7 _ _ el), fun c1 hc1 => ?_⟩
      rw [show cutV ((wd :: ps).map V.str) (some 1) none = ps.map V.str from cut_str_from (wd :: ps) 1]
      have g8 := Same.upd (o := .lst (ps.map V.str)) hc1
      have ec1 : (upd H7 c1 (.lst (ps.map V.str))) c1 = some (.lst (ps.map V.str)) := upd_same
      generalize upd H7 c1 (.lst (ps.map V.str)) = H8 at g8 ec1 ⊢
      have g68 := g7.trans g8
      refine ⟨x, c1, ps.map V.str, rfl, hxa, SqL.of ec1, for_zipS (K := K) (x := x) (b := c1) (ys := ps.map V.str) (by rw [List.length_map, cl, ← hxn]; rfl) (fun i σ Hx => ∃ tq v5 v6 v7, σ = [some (.str t), some (.ref d2), some (.ref l), none, some (.ref tq), v5, v6, v7] ∧ Same H8 Hx ∧ Hx tq = some (.tup (.str wd :: partsV a 0 (ps.take i))) ∧ ∀ (j : Nat) z, j < i → ps[j]? = some z → partOk a j z = true) ⟨tF, none, none, none, rfl, Same.refl _, g8 _ _ etF, fun j z h => by omega⟩ (fun i σ Hx _ ⟨_, _, _, _, _, sm, _⟩ => SqL.of (sm _ _ ec1)) ?_ ?_⟩
      · rintro i c y σ Hx tz hc hy ⟨tq, v5, v6, v7, rfl, sm, eq_, hgood⟩ htz
        obtain ⟨z, hz, rfl⟩ : ∃ z, ps[i]? = some z ∧ V.str z = y := by rw [List.getElem?_map] at hy; exact Option.map_eq_some_iff.mp hy
        have hzt := hpt z (List.mem_of_getElem? hz)
        have hil : i < a + b := by rw [← cl]; exact (List.getElem?_eq_some_iff.mp hz).1
        have sm2 := sm.trans (Same.upd (o := .tup [V.str ⟨#[c]⟩, V.str z]) htz)
        have etz : (upd Hx tz (.tup [V.str ⟨#[c]⟩, V.str z])) tz = some (.tup [V.str ⟨#[c]⟩, V.str z]) := upd_same
        have eq2 := (Same.upd (o := .tup [V.str ⟨#[c]⟩, V.str z]) htz) _ _ eq_
        generalize upd Hx tz (.tup [V.str ⟨#[c]⟩, V.str z]) = Hy at sm2 etz eq2 ⊢
        have hc2 : c = if i < a then 110 else 105 := by
          have e1 : (signs x)[i]? = some c := by rw [Array.getElem?_toList]; exact hc
          rw [hsx] at e1
          by_cases q : i < a
          · rw [if_pos q]
            rw [List.getElem?_append_left (by rw [List.length_replicate]; exact q)] at e1
            exact (List.mem_replicate.mp (List.mem_of_getElem? e1)).2
          · rw [if_neg q]
            rw [List.getElem?_append_right (by rw [List.length_replicate]; omega)] at e1
            exact (List.mem_replicate.mp (List.mem_of_getElem? e1)).2
        refine ⟨tz, _, rfl, SqT.of etz, rfl, _, _, rfl, _, _, rfl, rfl, ?_⟩
        -- the part
        refine ⟨fun v Hz => Same Hy Hz ∧ v = if partOk a i z = true then partV a i z else .non, ?_, ?_⟩
        · have hcs : TxB 1 ⟨#[c]⟩ := one_tb (by rw [hc2]; split <;> decide)
          refine ⟨_, rfl, _, _, Den.str _, Den.str _, shaped_s (hcs.txs (by decide)).asc, (by decide +kernel), _, rfl, ?_⟩
          rw [eqv_s]
          by_cases q : i < a
          · rw [if_pos q] at hc2
            refine iteDF (by rw [hc2]; decide) ?_
            refine ⟨_, rfl, (show 2 ≤ sizeLine by decide), fun w1 hw1 => ⟨_, rfl, z, rfl, hzt, fun Hz gz => .inr ⟨_, rfl, w1, _, _, _, rfl, rfl, SqL.of (gz _ _ upd_same), ?_, (Same.upd hw1).trans gz, rfl⟩⟩⟩
            unfold partOk partV
            rw [if_pos q, if_pos q]
            cases madeB z letS 8 with
            | true => exact atI_nat (xs := [V.non, V.str z]) (j := 1) rfl
            | false => exact atI_nat (xs := [V.non, V.str z]) (j := 0) rfl
          · rw [if_neg q] at hc2
            refine iteDT (by rw [hc2]; decide) ?_
            refine ⟨_, rfl, z, rfl, hzt, fun Hz gz => ⟨gz, ?_⟩⟩
            unfold partOk partV numO
            rw [if_neg q, if_neg q]
        rintro v Hz ⟨gz, rfl⟩
        cases hpo : partOk a i z with
        | false =>
          exact ⟨_, rfl, rfl, _, rfl, iteDT rfl (kn (readW_no cb hf (parts_no hz hpo)) _ ((g6.trans g68).trans (sm2.trans gz)))⟩
        | true =>
          have hnn : partV a i z ≠ .non := by unfold partV; split <;> exact fun h => nomatch h
          refine ⟨_, rfl, rfl, _, rfl, iteDF hnn ?_⟩
          refine ⟨_, rfl, _, rfl, (show 1 ≤ sizeLine by decide), fun w1 hw1 => ⟨tq, w1, _, _, rfl, rfl, SqT.of ((Same.upd hw1) _ _ (gz _ _ eq2)), SqT.of upd_same, by simp, line_le ?_, fun h0 => by simp at h0, fun h0 w2 hw2 => ?_⟩⟩
          · rw [List.length_cons, partsV_len, List.length_take]
            simp
            omega
          · refine ⟨w2, _, _, _, rfl, sm2.trans (gz.trans ((Same.upd hw1).trans (Same.upd hw2))), ?_, fun j y hj hy2 => ?_⟩
            · rw [List.take_add_one, hz]
              rw [show (some z).toList = [z] from rfl, partsV_snoc, List.length_take, Nat.zero_add, Nat.min_eq_left (by omega)]
              exact upd_same
            · by_cases q : j = i
              · subst q
                rw [hz] at hy2
                cases hy2
                exact hpo
              · exact hgood j y (by omega) hy2
      · rintro σ Hx ⟨tq, v5, v6, v7, rfl, sm, eq_, hgood⟩
        rw [List.length_map] at eq_ hgood
        rw [List.take_length, partsV_eq a ps 0 (by omega), Nat.sub_zero] at eq_
        refine ⟨_, rfl, k _ (readW_ok cb hf (parts_ok cl fun j z hz => hgood j z (List.getElem?_eq_some_iff.mp hz).1 hz)) _ Hx ((g6.trans g68).trans sm) (.plain eq_)⟩
noncomputable abbrev s_law_bent_text : Stmt := top 27
theorem sc_law_bent_text : FnScope ["_law_text_here", "_law_d", "_law_signs", "_law_words", "_law_at", "_law_one", "_law_sign", "_law_odd", "_law_way"] ["_law_text_here", "_law_d"] (defScope s_law_bent_text) := ⟨rfl, rfl, rfl, by decide +kernel, rfl, by decide +kernel, by decide +kernel⟩
@[irreducible] noncomputable def oddSt : Stmt := stAt (defBody s_law_bent_text) 5
noncomputable def oddE : List Expr := match stAt (defBody s_law_bent_text) 5 with
  | .Assign _ (.List es _) _ => es
  | _ => []
@[irreducible] noncomputable def rest5 : List Stmt := (defBody s_law_bent_text).drop 5
theorem odd_eq : rest5 = oddSt :: (defBody s_law_bent_text).drop 6 := by
  unfold oddSt rest5
  kernel_rfl
theorem four_eq : (defBody s_law_bent_text).drop 4 = stAt (defBody s_law_bent_text) 4 :: rest5 := by
  unfold rest5
  kernel_rfl
theorem pss_four (X : Cx) {t u : TS} (h : PS X (stAt (defBody s_law_bent_text) 4) t) (h2 : PSs X rest5 u) : PSs X ((defBody s_law_bent_text).drop 4) (tSeqO t u) := by
  rw [four_eq]
  exact pss_consO h h2
theorem odd_st : oddSt = .Assign [.Name "_law_odd" ⟨131, 4, 131, 12⟩] (.List oddE ⟨131, 15, 131, 125⟩) ⟨131, 4, 131, 125⟩ := by
  unfold oddSt
  kernel_rfl
theorem odd_es : oddE.map evalC = oddW.map some := by decide +kernel
noncomputable abbrev tOdd : TS := fun D σ H => ∀ l, H l = none → D.nx (σ.set 7 (some (.ref l))) (upd H l (.lst (oddW.map V.str)))
theorem odd_ps (X : Cx) (hN : X.N.Nodup) (hi : X.N[7]? = some ("_law_odd" : Str)) (hx : Loc X.env.scope ("_law_odd" : Str)) (hf : X.fn ("_law_odd" : Str) = true ∨ X.env.scope.names.lookup ("_law_odd" : Str) = some .local) : PS X oddSt tOdd :=
  ps_txs (i := 7) odd_st odd_es (by decide) hN hi hx rfl hf
theorem pss_odd (X : Cx) {t u : TS} (h : PS X oddSt t) (h2 : PSs X ((defBody s_law_bent_text).drop 6) u) : PSs X rest5 (tSeqO t u) := by
  rw [odd_eq]
  exact pss_consO h h2
theorem ok_bent {f : Addr} {fd : FuncData} (F : Fun K "_law_bent_text" "_law_bent_text" s_law_bent_text f fd) (B : Bt mg) : FnOk P w K mg base CX0 1 f fd ["_law_text_here", "_law_d"] spBent := by
  refine F.ok sc_law_bent_text (fun vs H Q E h => ?_) (fun cdv A outer s H vs Q E hr h => ?_)
  · obtain ⟨t, a, ns, n, rfl, _⟩ := h
    rfl
  · obtain ⟨t, a, ns, n, rfl, ha, hns, hl3, ht, hn, k⟩ := h
    have hu := hr.units
    let X_ := (cxOf CX0 P w K mg base ["_law_text_here", "_law_d", "_law_signs", "_law_words", "_law_at", "_law_one", "_law_sign", "_law_odd", "_law_way"] "_law_bent_text" (defScope s_law_bent_text) f cdv A outer s H E).nox
    let r1_ : {t : TS // PSs X_ ((defBody s_law_bent_text).drop 13) t} := ⟨_, (pss_one (ps_ret (pe_ix ix_list (pe_lst (pa_cons (pe_op op_add_str (pv 0) pe_str) (pa_rep (i := 0) rfl (Or.inl rfl) (pa_cons (pe_op op_add_str (pv 0) pe_str) (pa_cons pe_str (pa_cons (pe_bm0 PySem.F.plainAttrs_str PySem.F.slot_str_upper PySem.F.type_str_upper mt_upper (pv 0)) (pa_cons (pv 0) pa_nil))))))) (pe_op op_mod (pe_ix ix_list (pv 1) pe_int (fun _ _ => rfl)) pe_int) (fun _ _ => rfl))))⟩
    let r2_ : {t : TS // PSs X_ ((defBody s_law_bent_text).drop 12) t} := ⟨_, (pss_cons (ps_if (pt_cmpR op_eqI (pv 8) pe_int (nomark _))  (@pss_retJ _ _ _ _ _ _ _ _ _ (pa_cons (pe_op op_cat (pe_op op_cat (pe_slice sl_list (pv 3) po_none (po_some (pv 5))) (pe_lst (pa_cons (pe_ix ix_list (pv 7) (pe_op op_mod (pe_ix ix_list (pv 1) pe_int (fun _ _ => rfl)) pe_int) (fun _ _ => rfl)) pa_nil))) (pe_slice sl_list (pv 3) (po_some (pe_op op_add (pv 5) pe_int)) po_none)) pa_nil) (by rfl) (by rfl))  pss_nil)  r1_.2)⟩
    let r3_ : {t : TS // PSs X_ ((defBody s_law_bent_text).drop 11) t} := ⟨_, (pss_cons (ps_if (pt_cmpR op_eqI (pv 8) pe_int (nomark _))  (@pss_retJ _ _ _ _ _ _ _ _ _ (pa_cons (pe_op op_cat (pe_op op_cat (pe_slice sl_list (pv 3) po_none (po_some (pv 5))) (pe_lst (pa_cons (pe_ix ix_list (pv 3) (pv 5) (fun _ _ => rfl)) (pa_cons (pe_ix ix_list (pv 3) (pv 5) (fun _ _ => rfl)) pa_nil)))) (pe_slice sl_list (pv 3) (po_some (pe_op op_add (pv 5) pe_int)) po_none)) pa_nil) (by rfl) (by rfl))  pss_nil)  r2_.2)⟩
    let r4_ : {t : TS // PSs X_ ((defBody s_law_bent_text).drop 10) t} := ⟨_, (pss_cons (ps_if (pt_cmpR op_eqI (pv 8) pe_int (nomark _))  (@pss_retJ _ _ _ _ _ _ _ _ _ (pa_cons (pe_op op_cat (pe_slice sl_list (pv 3) po_none (po_some (pv 5))) (pe_slice sl_list (pv 3) (po_some (pe_op op_add (pv 5) pe_int)) po_none)) pa_nil) (by rfl) (by rfl))  pss_nil)  r3_.2)⟩
    let r5_ : {t : TS // PSs X_ ((defBody s_law_bent_text).drop 9) t} := ⟨_, (pss_cons (ps_if (pt_cmpR op_eqI (pv 8) pe_int (nomark _))  (pss_one (ps_ret (pe_op op_add_str (pe_op op_add_str (pe_slice sl_str (pv 0) po_none (po_some (pv 4))) (pv 6)) (pe_slice sl_str (pv 0) (po_some (pe_op op_add (pv 4) pe_int)) po_none))))  pss_nil)  r4_.2)⟩
    let r6_ : {t : TS // PSs X_ ((defBody s_law_bent_text).drop 8) t} := ⟨_, (pss_cons (ps_if (pt_cmpR op_eqI (pv 8) pe_int (nomark _))  (pss_one (ps_ret (pe_op op_add_str (pe_slice sl_str (pv 0) po_none (po_some (pv 4))) (pe_slice sl_str (pv 0) (po_some (pe_op op_add (pv 4) pe_int)) po_none))))  pss_nil)  r5_.2)⟩
    let r7_ : {t : TS // PSs X_ ((defBody s_law_bent_text).drop 7) t} := ⟨_, (pss_cons (ps_if (pt_cmpR op_eqI (pv 8) pe_int (nomark _))  (pss_one (ps_ret (pe_op op_add_str (pe_op op_add_str (pe_slice sl_str (pv 0) po_none (po_some (pv 4))) (pv 6)) (pe_slice sl_str (pv 0) (po_some (pv 4)) po_none))))  pss_nil)  r6_.2)⟩
    let r8_ : {t : TS // PSs X_ ((defBody s_law_bent_text).drop 6) t} := ⟨_, (pss_consO (ps_set (i := 8) sc_law_bent_text.nd rfl (Or.inl rfl) (pe_op op_mod (pe_ix ix_list (pv 1) pe_int (fun _ _ => rfl)) pe_int))  r7_.2)⟩
    let r9_ : {t : TS // PSs X_ rest5 t} := ⟨_, (@pss_odd X_ _ _ (odd_ps X_ sc_law_bent_text.nd rfl (Or.inl rfl) (Or.inr rfl))  r8_.2)⟩
    let r10_ : {t : TS // PSs X_ ((defBody s_law_bent_text).drop 4) t} := ⟨_, (@pss_four X_ _ _ (ps_set (i := 6) sc_law_bent_text.nd rfl (Or.inl rfl) (pe_ix ix_str (pv 2) (pe_op op_mod (pe_ix ix_list (pv 1) pe_int (fun _ _ => rfl)) (pe_callB call_len_str (by rfl) B.len PySem.boot_len (pa_cons (pv 2) pa_nil))) (fun _ _ => rfl)))  r9_.2)⟩
    let r11_ : {t : TS // PSs X_ ((defBody s_law_bent_text).drop 3) t} := ⟨_, (pss_consO (ps_set (i := 5) sc_law_bent_text.nd rfl (Or.inl rfl) (pe_op op_mod (pe_ix ix_list (pv 1) pe_int (fun _ _ => rfl)) (pe_callB call_len_seq (by rfl) B.len PySem.boot_len (pa_cons (pv 3) pa_nil))))  r10_.2)⟩
    let r12_ : {t : TS // PSs X_ ((defBody s_law_bent_text).drop 2) t} := ⟨_, (pss_consO (ps_set (i := 4) sc_law_bent_text.nd rfl (Or.inl rfl) (pe_op op_mod (pe_ix ix_list (pv 1) pe_int (fun _ _ => rfl)) (pe_op op_add (pe_callB call_len_str (by rfl) B.len PySem.boot_len (pa_cons (pv 0) pa_nil)) pe_int)))  r11_.2)⟩
    let r13_ : {t : TS // PSs X_ ((defBody s_law_bent_text).drop 1) t} := ⟨_, (pss_consO (ps_set (i := 3) sc_law_bent_text.nd rfl (Or.inl rfl) (pe_bm PySem.F.plainAttrs_str PySem.F.slot_str_split PySem.F.type_str_split mt_split (pv 0) (pa_cons pe_str pa_nil)))  r12_.2)⟩
    refine ⟨_, (pss_consO (ps_set (i := 2) sc_law_bent_text.nd rfl (Or.inl rfl) pe_str)
 r13_.2), ?_⟩
    have h5 := ht.len
    obtain ⟨n0, m0, _, e0⟩ := at_mem (ns := ns) (i := 0) (by omega) (by omega)
    obtain ⟨n1, m1, _, e1⟩ := at_mem (ns := ns) (i := 1) (by omega) (by omega)
    obtain ⟨n2, m2, _, e2⟩ := at_mem (ns := ns) (i := 2) (by omega) (by omega)
    obtain ⟨hw1, hw2, hw3⟩ := ht.split
    have hwl : 1 ≤ (Txt.split t " ").length := by
      cases hs : Txt.split t " " with
      | nil => exact absurd hs (split_ne t " ")
      | cons z r => simp
    refine fun M hM => ?_
    refine hM [some (.str t), some (.ref a), some (.str bentS), none, none, none, none, none, none] _ ?_
    clear hM M
    refine fun M hM => ?_
    refine ⟨_, rfl, rfl, t, " ", rfl, rfl, by decide, line_le (by omega), line_le (by omega), fun l hl => ?_⟩
    refine hM [some (.str t), some (.ref a), some (.str bentS), some (.ref l), none, none, none, none, none] _ ?_
    clear hM M
    generalize Txt.split t " " = ws at *
    have g1 := Same.upd (o := .lst (ws.map V.str)) hl
    have el : (upd H l (.lst (ws.map V.str))) l = some (.lst (ws.map V.str)) := upd_same
    generalize upd H l (.lst (ws.map V.str)) = H1 at g1 el ⊢
    have ha1 := g1 _ _ ha
    -- at
    refine fun M hM => ?_
    refine ⟨_, rfl, a, _, _, _, rfl, rfl, SqL.of ha1, e1, _, rfl, t, rfl, line_le (by omega), _, _, rfl, rfl, _, _, rfl, rfl, (by show (0 : Int) < (t.length : Int) + 1; omega), ?_⟩
    have x0 := Int.emod_nonneg n1 (show ((t.length : Int) + 1) ≠ 0 by omega)
    have x1 := Int.emod_lt_of_pos n1 (show (0 : Int) < (t.length : Int) + 1 by omega)
    refine hM [some (.str t), some (.ref a), some (.str bentS), some (.ref l), some (.int (n1 % ((t.length : Int) + 1))), none, none, none, none] _ ?_
    clear hM M
    generalize n1 % ((t.length : Int) + 1) = at_ at *
    -- one
    refine fun M hM => ?_
    refine ⟨_, rfl, a, _, _, _, rfl, rfl, SqL.of ha1, e1, _, rfl, l, _, rfl, .inl (SqL.of el), _, _, rfl, rfl, (by show (0 : Int) < ((ws.map V.str).length : Int); rw [List.length_map]; omega), ?_⟩
    have y0 := Int.emod_nonneg n1 (show (((ws.map V.str).length : Int)) ≠ 0 by rw [List.length_map]; omega)
    have y1 := Int.emod_lt_of_pos n1 (show (0 : Int) < ((ws.map V.str).length : Int) by rw [List.length_map]; omega)
    have y1 : n1 % ((ws.map V.str).length : Int) < (ws.length : Int) := by
      rw [List.length_map] at y1 ⊢
      exact y1
    refine hM [some (.str t), some (.ref a), some (.str bentS), some (.ref l), some (.int at_), some (.int (n1 % ((ws.map V.str).length : Int))), none, none, none] _ ?_
    clear hM M
    generalize n1 % ((ws.map V.str).length : Int) = one at *
    obtain ⟨j, rfl⟩ : ∃ j : Nat, one = (j : Int) := ⟨one.toNat, by omega⟩
    -- sign
    have hbl : (bentS.length : Int) = 17 := by decide +kernel
    have w0 := Int.emod_nonneg n2 (show ((bentS.length : Int)) ≠ 0 by rw [hbl]; decide)
    have w1 := Int.emod_lt_of_pos n2 (show (0 : Int) < (bentS.length : Int) by rw [hbl]; decide)
    obtain ⟨sc, hsc, hsc2⟩ := sign_at (x := bentS) w0 w1
    have hs1 : TxB 1 ⟨#[sc]⟩ := one_tb (bent_asc sc hsc2)
    refine fun M hM => ?_
    refine ⟨_, rfl, _, rfl, a, _, _, _, rfl, rfl, SqL.of ha1, e2, _, rfl, bentS, rfl, line_le (by decide +kernel), _, _, rfl, rfl, (by show (0 : Int) < (bentS.length : Int); rw [hbl]; decide), bentS, _, sc, rfl, rfl, line_le (by decide +kernel), hsc, ?_⟩
    refine hM [some (.str t), some (.ref a), some (.str bentS), some (.ref l), some (.int at_), some (.int j), some (.str ⟨#[sc]⟩), none, none] _ ?_
    clear hM M
    -- odd
    refine fun M hM => ?_
    refine fun lo hlo => ?_
    refine hM [some (.str t), some (.ref a), some (.str bentS), some (.ref l), some (.int at_), some (.int j), some (.str ⟨#[sc]⟩), some (.ref lo), none] _ ?_
    clear hM M
    have g2 := g1.trans (Same.upd (o := .lst (oddW.map V.str)) hlo)
    have elo : (upd H1 lo (.lst (oddW.map V.str))) lo = some (.lst (oddW.map V.str)) := upd_same
    have el2 := (Same.upd (o := .lst (oddW.map V.str)) hlo) _ _ el
    have ha2 := (Same.upd (o := .lst (oddW.map V.str)) hlo) _ _ ha1
    generalize upd H1 lo (.lst (oddW.map V.str)) = H2 at g2 elo el2 ha2 ⊢
    clear hlo el ha1 g1 hl
    -- way
    refine fun M hM => ?_
    refine ⟨_, rfl, a, _, _, _, rfl, rfl, SqL.of ha2, e0, _, _, rfl, rfl, (by show (0 : Int) < 8; decide), ?_⟩
    refine hM [some (.str t), some (.ref a), some (.str bentS), some (.ref l), some (.int at_), some (.int j), some (.str ⟨#[sc]⟩), some (.ref lo), some (.int (n0 % 8))] _ ?_
    clear hM M
    generalize n0 % 8 = way
    have hz5 : (5000 : Nat) ≤ sizeLine := by decide
    have s1 := ht.slice none (some at_)
    have s2 := ht.slice (some at_) none
    have s3 := ht.slice (some (at_ + 1)) none
    have l1 := s1.len
    have l2 := s2.len
    have l3 := s3.len
    have hl4 := hs1.len
    have fin : ∀ (Hx : Hp) (c : Addr) (zs : List Str), Same H Hx → Hx c = some (.lst (zs.map V.str)) → (∀ z ∈ zs, TxB 2400 z) → wt zs ≤ 2 * n + 70 → rJoin (.str " ") [.ref c] Hx Q := fun Hx c zs g hc hz hw => by
      have hg := glued_wt zs
      exact ⟨" ", c, zs, rfl, rfl, hc, by rw [fold_wt]; omega, by omega, k _ Hx (glued_tb hz hw) g⟩
    have hwz : ∀ z ∈ ws, TxB 2400 z := fun z hz => (hw1 z hz).le hn
    have hjl : j < ws.length := by omega
    have cutA : cutV (ws.map V.str) none (some (j : Int)) = (ws.take j).map V.str := cut_str_to ws j (by omega)
    have cutB : cutV (ws.map V.str) (some ((j : Int) + 1)) none = (ws.drop (j + 1)).map V.str := by
      rw [show (j : Int) + 1 = ((j + 1 : Nat) : Int) by omega]
      exact cut_str_from ws (j + 1)
    have hwc := wt_cut ws j
    have hzA : ∀ z ∈ ws.take j, TxB 2400 z := fun z h => hwz z (List.mem_of_mem_take h)
    have hzB : ∀ z ∈ ws.drop (j + 1), TxB 2400 z := fun z h => hwz z (List.mem_of_mem_drop h)
    have hlA : (ws.take j).length ≤ 2401 := by rw [List.length_take]; omega
    have hlB : (ws.drop (j + 1)).length ≤ 2401 := by rw [List.length_drop]; omega
    refine ⟨_, rfl, _, _, rfl, rfl, _, rfl, iteD (fun c => ?_) fun c => ?_⟩
    · refine ⟨_, rfl, _, rfl, _, rfl, t, rfl, line_le (by omega), _, rfl, _, _, rfl, rfl, by omega, _, rfl, _, rfl, _, rfl, t, rfl, line_le (by omega), _, _, rfl, rfl, by rw [Str.length_append]; omega, ?_⟩
      exact k _ H2 (((s1.app hs1).app s2).le (by omega)) g2
    clear c
    refine ⟨_, rfl, _, _, rfl, rfl, _, rfl, iteD (fun c => ?_) fun c => ?_⟩
    · refine ⟨_, rfl, _, rfl, _, rfl, t, rfl, line_le (by omega), _, rfl, _, rfl, _, _, rfl, rfl, _, rfl, t, rfl, line_le (by omega), _, _, rfl, rfl, by omega, ?_⟩
      exact k _ H2 ((s1.app s3).le (by omega)) g2
    clear c
    refine ⟨_, rfl, _, _, rfl, rfl, _, rfl, iteD (fun c => ?_) fun c => ?_⟩
    · refine ⟨_, rfl, _, rfl, _, rfl, t, rfl, line_le (by omega), _, rfl, _, _, rfl, rfl, by omega, _, rfl, _, rfl, _, _, rfl, rfl, _, rfl, t, rfl, line_le (by omega), _, _, rfl, rfl, by rw [Str.length_append]; omega, ?_⟩
      exact k _ H2 (((s1.app hs1).app s3).le (by omega)) g2
    clear c
    -- a word left out
    refine ⟨_, rfl, _, _, rfl, rfl, _, rfl, iteD (fun c => ?_) fun c => ?_⟩
    · refine ⟨rfl, _, rfl, _, rfl, _, rfl, l, _, rfl, SqL.of el2, fun c1 hc1 => ?_⟩
      rw [cutA]
      have g3 := Same.upd (o := .lst ((ws.take j).map V.str)) hc1
      have ec1 : (upd H2 c1 (.lst ((ws.take j).map V.str))) c1 = some (.lst ((ws.take j).map V.str)) := upd_same
      generalize upd H2 c1 (.lst ((ws.take j).map V.str)) = H3 at g3 ec1 ⊢
      refine ⟨_, rfl, _, rfl, _, _, rfl, rfl, _, rfl, l, _, rfl, SqL.of (g3 _ _ el2), fun c2 hc2 => ?_⟩
      rw [cutB]
      have g4 := Same.upd (o := .lst ((ws.drop (j + 1)).map V.str)) hc2
      have ec2 : (upd H3 c2 (.lst ((ws.drop (j + 1)).map V.str))) c2 = some (.lst ((ws.drop (j + 1)).map V.str)) := upd_same
      generalize upd H3 c2 (.lst ((ws.drop (j + 1)).map V.str)) = H4 at g4 ec2 ⊢
      refine ⟨c1, c2, _, _, rfl, rfl, g4 _ _ ec1, ec2, line_le (by simp; omega), fun c3 hc3 => ?_⟩
      refine fin _ c3 (ws.take j ++ ws.drop (j + 1)) ((g2.trans g3).trans (g4.trans (Same.upd hc3))) (by rw [List.map_append]; exact upd_same) (fun z hz => ?_) (by rw [wt_app]; omega)
      rcases List.mem_append.mp hz with h | h
      · exact hzA z h
      · exact hzB z h
    clear c
    -- a word doubled
    refine ⟨_, rfl, _, _, rfl, rfl, _, rfl, iteD (fun c => ?_) fun c => ?_⟩
    · refine ⟨rfl, _, rfl, _, rfl, _, rfl, l, _, rfl, SqL.of el2, fun c1 hc1 => ?_⟩
      rw [cutA]
      have g3 := Same.upd (o := .lst ((ws.take j).map V.str)) hc1
      have ec1 : (upd H2 c1 (.lst ((ws.take j).map V.str))) c1 = some (.lst ((ws.take j).map V.str)) := upd_same
      have elo3 := g3 _ _ elo
      have ha3 := g3 _ _ ha2
      generalize upd H2 c1 (.lst ((ws.take j).map V.str)) = H3 at g3 ec1 elo3 ha3 ⊢
      obtain ⟨wj, hwj, ewj, hwt⟩ := wt_at ws j hjl
      have hmid : ∀ z ∈ [wj, wj], TxB 2400 z := fun z hz => by
        have : z = wj := by simpa using hz
        rw [this]; exact hwz wj hwj
      have hwl2 := mem_wt hwj
      have ewt : wt [wj, wj] = wj.length + 1 + (wj.length + 1) := by rw [wt_cons, wt_cons]; rfl
      refine ⟨_, rfl, _, rfl, l, _, _, _, rfl, rfl, SqL.of (g3 _ _ el2), ewj, _, rfl, _, rfl, l, _, _, _, rfl, rfl, SqL.of (g3 _ _ el2), ewj, by show 2 ≤ sizeLine; decide, fun d hd => ?_⟩
      have g5 := Same.upd (o := .lst ([V.str wj, V.str wj])) hd
      have ed : (upd H3 d (.lst ([V.str wj, V.str wj]))) d = some (.lst ([V.str wj, V.str wj])) := upd_same
      generalize upd H3 d (.lst ([V.str wj, V.str wj])) = H5 at g5 ed ⊢
      refine ⟨c1, d, _, _, rfl, rfl, g5 _ _ ec1, ed, line_le (by simp; omega), fun c4 hc4 => ?_⟩
      have g6 := Same.upd (o := .lst ((ws.take j).map V.str ++ [V.str wj, V.str wj])) hc4
      have ec4 : (upd H5 c4 (.lst ((ws.take j).map V.str ++ [V.str wj, V.str wj]))) c4 = some (.lst ((ws.take j).map V.str ++ [V.str wj, V.str wj])) := upd_same
      generalize upd H5 c4 (.lst ((ws.take j).map V.str ++ [V.str wj, V.str wj])) = H6 at g6 ec4 ⊢
      have g36 := g3.trans (g5.trans g6)
      refine ⟨_, rfl, _, rfl, _, _, rfl, rfl, _, rfl, l, _, rfl, SqL.of (g36 _ _ el2), fun c2 hc2 => ?_⟩
      rw [cutB]
      have g4 := Same.upd (o := .lst ((ws.drop (j + 1)).map V.str)) hc2
      have ec2 : (upd H6 c2 (.lst ((ws.drop (j + 1)).map V.str))) c2 = some (.lst ((ws.drop (j + 1)).map V.str)) := upd_same
      generalize upd H6 c2 (.lst ((ws.drop (j + 1)).map V.str)) = H4 at g4 ec2 ⊢
      refine ⟨c4, c2, _, _, rfl, rfl, g4 _ _ ec4, ec2, line_le (by simp; omega), fun c3 hc3 => ?_⟩
      refine fin _ c3 (ws.take j ++ [wj, wj] ++ ws.drop (j + 1)) ((g2.trans g36).trans (g4.trans (Same.upd hc3))) (by rw [List.map_append, List.map_append]; exact upd_same) (fun z hz => ?_) (by rw [wt_app, wt_app]; rw [ewt]; omega)
      rcases List.mem_append.mp hz with h | h
      · rcases List.mem_append.mp h with h | h
        · exact hzA z h
        · exact hmid z h
      · exact hzB z h
    clear c
    -- a word exchanged
    refine ⟨_, rfl, _, _, rfl, rfl, _, rfl, iteD (fun c => ?_) fun c => ?_⟩
    · refine ⟨rfl, _, rfl, _, rfl, _, rfl, l, _, rfl, SqL.of el2, fun c1 hc1 => ?_⟩
      rw [cutA]
      have g3 := Same.upd (o := .lst ((ws.take j).map V.str)) hc1
      have ec1 : (upd H2 c1 (.lst ((ws.take j).map V.str))) c1 = some (.lst ((ws.take j).map V.str)) := upd_same
      have elo3 := g3 _ _ elo
      have ha3 := g3 _ _ ha2
      generalize upd H2 c1 (.lst ((ws.take j).map V.str)) = H3 at g3 ec1 elo3 ha3 ⊢
      have v0 := Int.emod_nonneg n2 (show (15 : Int) ≠ 0 by decide)
      have v1 := Int.emod_lt_of_pos n2 (show (0 : Int) < 15 by decide)
      obtain ⟨wo, hwo, ewo⟩ := str_at (ws := oddW) (i := n2 % 15) v0 v1
      have hto := odd_tb wo hwo
      have hmid : ∀ z ∈ [wo], TxB 2400 z := fun z hz => by
        rw [List.mem_singleton.mp hz]; exact hto.le (by decide)
      have hwl2 := hto.len
      have ewt : wt [wo] = wo.length + 1 := by rw [wt_cons]; rfl
      refine ⟨_, rfl, _, rfl, a, _, _, _, rfl, rfl, SqL.of ha3, e2, _, _, rfl, rfl, (by show (0 : Int) < 15; decide), lo, _, _, _, rfl, rfl, SqL.of elo3, ewo, by show 1 ≤ sizeLine; decide, fun d hd => ?_⟩
      have g5 := Same.upd (o := .lst ([V.str wo])) hd
      have ed : (upd H3 d (.lst ([V.str wo]))) d = some (.lst ([V.str wo])) := upd_same
      generalize upd H3 d (.lst ([V.str wo])) = H5 at g5 ed ⊢
      refine ⟨c1, d, _, _, rfl, rfl, g5 _ _ ec1, ed, line_le (by simp; omega), fun c4 hc4 => ?_⟩
      have g6 := Same.upd (o := .lst ((ws.take j).map V.str ++ [V.str wo])) hc4
      have ec4 : (upd H5 c4 (.lst ((ws.take j).map V.str ++ [V.str wo]))) c4 = some (.lst ((ws.take j).map V.str ++ [V.str wo])) := upd_same
      generalize upd H5 c4 (.lst ((ws.take j).map V.str ++ [V.str wo])) = H6 at g6 ec4 ⊢
      have g36 := g3.trans (g5.trans g6)
      refine ⟨_, rfl, _, rfl, _, _, rfl, rfl, _, rfl, l, _, rfl, SqL.of (g36 _ _ el2), fun c2 hc2 => ?_⟩
      rw [cutB]
      have g4 := Same.upd (o := .lst ((ws.drop (j + 1)).map V.str)) hc2
      have ec2 : (upd H6 c2 (.lst ((ws.drop (j + 1)).map V.str))) c2 = some (.lst ((ws.drop (j + 1)).map V.str)) := upd_same
      generalize upd H6 c2 (.lst ((ws.drop (j + 1)).map V.str)) = H4 at g4 ec2 ⊢
      refine ⟨c4, c2, _, _, rfl, rfl, g4 _ _ ec4, ec2, line_le (by simp; omega), fun c3 hc3 => ?_⟩
      refine fin _ c3 (ws.take j ++ [wo] ++ ws.drop (j + 1)) ((g2.trans g36).trans (g4.trans (Same.upd hc3))) (by rw [List.map_append, List.map_append]; exact upd_same) (fun z hz => ?_) (by rw [wt_app, wt_app]; rw [ewt]; omega)
      rcases List.mem_append.mp hz with h | h
      · rcases List.mem_append.mp h with h | h
        · exact hzA z h
        · exact hmid z h
      · exact hzB z h
    clear c
    -- the whole text
    have v0 := Int.emod_nonneg n2 (show (7 : Int) ≠ 0 by decide)
    have v1 := Int.emod_lt_of_pos n2 (show (0 : Int) < 7 by decide)
    have hb1 : TxB 1 " " := ⟨by decide +kernel, by decide⟩
    have hb2 : TxB 1 "\n" := ⟨by decide +kernel, by decide⟩
    have hu1 := ht.upper
    have hul := hu1.len
    have lb1 := hb1.len
    have lb2 := hb2.len
    have hall : ∀ z ∈ [t ++ " ", " " ++ t, Txt.replace t " " "  ", t ++ "\n", "", Txt.upper t, t], TxB (2 * n + 70) z := fun z hz => by
      simp only [List.mem_cons, List.not_mem_nil, or_false] at hz
      rcases hz with rfl | rfl | rfl | rfl | rfl | rfl | rfl
      · exact (ht.app hb1).le (by omega)
      · exact (hb1.app ht).le (by omega)
      · exact ht.rep.le (by omega)
      · exact (ht.app hb2).le (by omega)
      · exact ⟨fun c hc => (nomatch hc), Nat.zero_le _⟩
      · exact hu1.le (by omega)
      · exact ht.le (by omega)
    obtain ⟨zz, hzz, ezz⟩ := str_at (ws := [t ++ " ", " " ++ t, Txt.replace t " " "  ", t ++ "\n", "", Txt.upper t, t]) (i := n2 % 7) v0 v1
    refine ⟨_, rfl, _, _, rfl, rfl, by omega, t, rfl, by omega, _, rfl, _, _, rfl, rfl, by omega, _, rfl, rfl, t, rfl, rfl, by omega, _, rfl, by show 7 ≤ sizeLine; decide, fun d hd => ?_⟩
    refine ⟨_, rfl, a, _, _, _, rfl, rfl, SqL.of ((Same.upd hd) _ _ ha2), e2, _, _, rfl, rfl, (by show (0 : Int) < 7; decide), d, _, _, _, rfl, rfl, SqL.of upd_same, ezz, ?_⟩
    exact k zz _ (hall zz hzz) (g2.trans (Same.upd hd))
noncomputable abbrev s_law_why_text : Stmt := top 28
theorem sc_law_why_text : FnScope ["_law_text_here", "_law_why", "e"] ["_law_text_here"] (defScope s_law_why_text) := ⟨rfl, rfl, rfl, by decide +kernel, rfl, by decide +kernel, by decide +kernel⟩
theorem ok_why_text {f C D : Addr} {fd : FuncData} (F : Fun K "_law_why_text" "_law_why_text" s_law_why_text f fd) (mT : mg "BadText" = some (.ref C)) (mE : mg "CreelError" = some (.ref D)) (z1 : PySem.W.exmOne K (.ref C) (.ref C) = some true) (z2 : xgIn K C "at" = true) (L : FnAtX P w K mg base "read_deed" 5 ["text"] (spReadR C)) : FnOk P w K mg base (CXR P w) 6 f fd ["_law_text_here"] spWhyT := by
  refine F.okX sc_law_why_text (fun vs H Q E h => ?_) (fun cdv A outer s H vs Q E hfr hr h => ?_)
  · obtain ⟨t, rfl, _⟩ := h
    rfl
  · obtain ⟨t, rfl, ht, k, kn⟩ := h
    refine ⟨_, (pss_cons (ps_set (i := 1) sc_law_why_text.nd rfl (Or.inl rfl) (pe_tup (pa_cons pe_str (pa_cons pe_non pa_nil))))
      (pss_cons (ps_try2 ⟨rfl, rfl, rfl⟩ (pc_setX (i := 1) sc_law_why_text.nd rfl (Or.inl rfl) (pex_tup2 (pex_of fun _ => pe_str) (pex_fn L hr rfl (fun _ => pa_cons (pv 0) pa_nil))))
        (ph_oneAs (i := 2) rfl mT sc_law_why_text.nd rfl rfl (fun e => (pss_one (ps_set (i := 1) sc_law_why_text.nd rfl (Or.inl rfl) (pe_tup (pa_cons pe_str (pa_cons (pe_xatK K rfl (pv 2) rfl) pa_nil))))))
        (ph_one rfl mE (fun e => (pss_one (ps_set (i := 1) sc_law_why_text.nd rfl (Or.inl rfl) (pe_tup (pa_cons pe_str (pa_cons pe_int pa_nil))))))
        ph_end)))
      (pss_one (ps_ret (pv 1))))), ?_⟩
    refine ⟨by show 2 ≤ sizeLine; decide, fun t0 ht0 => ?_⟩
    have g0 := Same.upd (o := .tup [V.str "told", V.non]) ht0
    generalize upd H t0 (.tup [V.str "told", V.non]) = H0 at g0 ⊢
    refine ⟨_, rfl, t, rfl, ht, fun d hd v H1 g1 da p hp => ?_, fun hn H1 g1 dx hdx e he => ?_⟩
    · exact ⟨_, rfl, k d hd p v _ ((g0.trans g1).trans (Same.upd hp)) upd_same (da.same (Same.upd hp))⟩
    · refine ⟨true, z1, ?_⟩
      rw [if_pos rfl]
      refine ⟨_, rfl, e, C, _, _, _, rfl, upd_same, (by rw [upd_ne (fun z => by rw [z, upd_same] at he; cases he)]; exact upd_same), xg_of z2, rfl, (by show 2 ≤ sizeLine; decide), fun t' ht' => ⟨_, rfl, kn hn t' _ ?_ upd_same⟩⟩
      exact (g0.trans g1).trans ((Same.upd hdx).trans ((Same.upd he).trans (Same.upd ht')))
end
end CW

set_option Elab.async false
set_option linter.all false
set_option maxRecDepth 100000
set_option maxHeartbeats 4000000
namespace CW
open PySem L2
section
variable {P : Program} {w : World} {K : PySem.W.Frag} {mg : Str → Option Value} {base : Heap}
noncomputable abbrev s_law : Stmt := top 29
theorem sc_law : FnScope ["_law_script", "_law_numbers_here", "_law_k", "_law_d", "_law_text_here", "_law_deed", "_law_due"] ["_law_script"] (defScope s_law) := ⟨rfl, rfl, rfl, by decide +kernel, rfl, by decide +kernel, by decide +kernel⟩
theorem ok_law {f : Addr} {fd : FuncData} (F : Fun K "law" "law" s_law f fd) (B : Bt mg)
    (F_law_numbers : FnAt P w K mg base "_law_numbers" 1 ["_law_script", "_law_many"] (spNumbers K)) (F_law_any_deed : FnAt P w K mg base "_law_any_deed" 3 ["_law_d"] spAnyDeed) (F_law_text : FnAt P w K mg base "_law_text" 1 ["_law_deed"] spText) (F_law_bent_text : FnAt P w K mg base "_law_bent_text" 1 ["_law_text_here", "_law_d"] spBent) (F_law_reads : FnAt P w K mg base "_law_reads" 2 ["_law_text_here"] spDeedG) (F_law_why_text : FnAtX P w K mg base "_law_why_text" 6 ["_law_text_here"] spWhyT) (F_law_same : FnAt P w K mg base "_law_same" 4 ["_law_found", "_law_due"] (spSame 3)) :
    FnOk P w K mg base CX0 8 f fd ["_law_script"] (spLaw K) := by
  refine F.ok sc_law (fun vs H Q E h => ?_) (fun cdv A outer s H vs Q E hr h => ?_)
  · obtain ⟨a, ns, rfl, _⟩ := h
    rfl
  · obtain ⟨a, sc, rfl, hS, hlen, kk⟩ := h
    refine ⟨_, (pss_cons (ps_set (i := 1) sc_law.nd rfl (Or.inl rfl) (pe_fn F_law_numbers hr rfl (pa_cons (pv 0) (pa_cons pe_int pa_nil))))
 (pss_cons (ps_for PassesOwn.never rfl (pi_range1 rfl B.range (pa_cons pe_int pa_nil)) (pg_name (i := 2) sc_law.nd rfl (Or.inl rfl))
 (pss_cons (ps_set (i := 3) sc_law.nd rfl (Or.inl rfl) (pe_slice sl_list (pv 1) (po_some (pe_op op_mul pe_int (pv 2))) po_none))
 (pss_cons (ps_set (i := 4) sc_law.nd rfl (Or.inl rfl) (pe_fn F_law_text hr rfl (pa_cons (pe_fn F_law_any_deed hr rfl (pa_cons (pv 3) pa_nil)) pa_nil)))
 (pss_cons (ps_set (i := 4) sc_law.nd rfl (Or.inl rfl) (pe_fn F_law_bent_text hr rfl (pa_cons (pv 4) (pa_cons (pe_slice sl_list (pv 3) (po_some pe_int) po_none) pa_nil))))
 (pss_cut (ps_if (pt_cmpR op_eqI (pe_op op_mod (pe_ix ix_list (pv 3) pe_int (fun _ _ => rfl)) pe_int) pe_int (nomark _))
 (pss_one (ps_set (i := 4) sc_law.nd rfl (Or.inl rfl) (pe_fn F_law_bent_text hr rfl (pa_cons (pv 4) (pa_cons (pe_slice sl_list (pv 3) (po_some pe_int) po_none) pa_nil)))))
 pss_nil)
 (pss_cons (ps_set (i := 5) sc_law.nd rfl (Or.inl rfl) (pe_fn F_law_reads hr rfl (pa_cons (pv 4) pa_nil)))
 (pss_cons (ps_set (i := 6) sc_law.nd rfl (Or.inl rfl) (pe_cut (pe_ifExp (pt_cmpR op_isN (pv 5) pe_non (nomark _)) (pe_tup (pa_cons pe_str (pa_cons pe_int pa_nil))) (pe_tup (pa_cons pe_str (pa_cons (pv 5) pa_nil))))))
 (pss_one (ps_if (pt_not (pt_truth (pe_fn F_law_same hr rfl (pa_cons (pe_fnX F_law_why_text hr rfl passN (pa_cons (pv 4) pa_nil)) (pa_cons (pv 6) pa_nil))) (fun _ => rfl)))
 (pss_one (ps_ret pe_bl))
 pss_nil)))))))))
 (pss_one (ps_ret pe_bl)))), ?_⟩
    refine ⟨_, rfl, a, sc, 700, rfl, hS, hlen, by decide, fun l1 nums H1 hnl hnums hl1 sm1 el1 => ?_⟩
    refine ⟨20, rfl, by decide, by decide, for_range (lo := 0) (n := 20) (fun i σ Hx => ∃ v2 v3 v4 v5 v6 : Option V, σ = [some (.ref a), some (.ref l1), v2, v3, v4, v5, v6] ∧ Same H1 Hx) ⟨none, none, none, none, none, rfl, Same.refl _⟩ ?_ ?_⟩
    · rintro i σ Hx hi ⟨v2, v3, v4, v5, v6, rfl, sm⟩
      have elx := sm _ _ el1
      refine ⟨_, rfl, _, rfl, _, _, rfl, rfl, .inl ⟨by decide, by decide⟩, _, rfl, l1, _, rfl, SqL.of elx, fun c hc => ?_⟩
      rw [show cutV (nums.map V.int) (some (34 * (0 + (i : Int)))) none = (nums.drop (34 * i)).map V.int by
        rw [show 34 * (0 + (i : Int)) = ((34 * i : Nat) : Int) by omega]
        exact cut_from nums (34 * i) (by omega)]
      have hdl : 54 ≤ (nums.drop (34 * i)).length := by simp; omega
      have hdn := nums_drop hnums (34 * i)
      generalize nums.drop (34 * i) = ds at hdl hdn ⊢
      have g1 := Same.upd (o := .lst (ds.map V.int)) hc
      have ec : (upd Hx c (.lst (ds.map V.int))) c = some (.lst (ds.map V.int)) := upd_same
      generalize upd Hx c (.lst (ds.map V.int)) = H2 at g1 ec ⊢
      refine ⟨_, rfl, c, ds, rfl, ec, hdn, by omega, fun d v H3 hd da g3 => ?_⟩
      refine ⟨d, v, rfl, da, hd, fun H4 g4 => ?_⟩
      have ht0 : TxB 806 (txt d) := by
        refine TxB.of hd.txs ?_
        have h1 := glued_len (CW.txs d) 61 fun z hz => (hd.parts z hz).2
        have h2 := hd.len
        have h3 : (CW.txs d).length * (61 + 1) ≤ 13 * 62 := Nat.mul_le_mul_right _ h2
        unfold txt
        omega
      generalize txt d = t0 at ht0 ⊢
      have g24 := g3.trans g4
      have ec4 := g24 _ _ ec
      refine ⟨_, rfl, _, rfl, _, rfl, c, _, rfl, SqL.of ec4, fun c2 hc2 => ?_⟩
      rw [show cutV (ds.map V.int) (some 28) none = (ds.drop 28).map V.int from cut_from ds 28 (by omega)]
      refine ⟨t0, c2, ds.drop 28, 806, rfl, upd_same, nums_drop hdn 28, by simp; omega, ht0, by decide, fun t1 H5 ht1 g5 => ?_⟩
      have g45 := (Same.upd (o := .lst ((ds.drop 28).map V.int)) hc2).trans g5
      have ec5 := g45 _ _ ec4
      obtain ⟨n31, m31, _, e31⟩ := at_mem (ns := ds) (i := 31) (by omega) (by omega)
      refine ⟨fun σ' Hz => ∃ t2, TxB 3434 t2 ∧ σ' = [some (.ref a), some (.ref l1), some (.int (0 + (i : Int))), some (.ref c), some (.str t2), v5, v6] ∧ Same H5 Hz, ?_, ?_⟩
      · refine ⟨_, rfl, c, _, _, _, rfl, rfl, SqL.of ec5, e31, _, _, rfl, rfl, (by show (0 : Int) < 3; decide), _, _, rfl, rfl, _, rfl, iteD (fun cc => ?_) fun cc => ?_⟩
        · refine ⟨_, rfl, _, rfl, _, rfl, c, _, rfl, SqL.of ec5, fun c3 hc3 => ?_⟩
          rw [show cutV (ds.map V.int) (some 30) none = (ds.drop 30).map V.int from cut_from ds 30 (by omega)]
          exact ⟨t1, c3, ds.drop 30, 1682, rfl, upd_same, nums_drop hdn 30, by simp; omega, ht1.le (by decide), by decide, fun t2 H6 ht2 g6 => ⟨t2, ht2.le (by decide), rfl, (Same.upd hc3).trans g6⟩⟩
        · exact ⟨t1, ht1.le (by decide), rfl, Same.refl _⟩
      rintro σ' Hz ⟨t2, ht2, rfl, gz⟩
      have htx := ht2.txs (by decide)
      have gxz := (g1.trans g24).trans (g45.trans gz)
      refine ⟨_, rfl, t2, rfl, htx, fun d2 hd2 u H6 g6 da6 => ?_, fun hn H6 g6 => ?_⟩
      · have hnn : u ≠ .non := by cases da6 <;> exact fun z => nomatch z
        have hrd := read_rd ht2 hd2
        refine ⟨fun v' Hq => Same H6 Hq ∧ ∃ td, v' = .ref td ∧ Hq td = some (.tup [.str "told", u]), ?_, ?_⟩
        · exact ⟨_, rfl, rfl, _, rfl, iteDF hnn ⟨_, rfl, (show 2 ≤ sizeLine by decide), fun td htd => ⟨Same.upd htd, td, rfl, upd_same⟩⟩⟩
        rintro v' Hq ⟨gq, td, rfl, etd⟩
        refine ⟨_, rfl, t2, rfl, htx, fun d3 hd3 tv u3 H7 e7g e7 da7 => ?_, fun hn => (by rw [hd2] at hn; cases hn)⟩
        rw [hd2] at hd3
        cases hd3
        refine ⟨_, rfl, .ref tv, .ref td, toldD d2, rfl, .tup e7 (.cons (.str _) (.cons da7.den .nil)), .tup (e7g _ _ etd) (.cons (.str _) (.cons ((da6.same gq).same e7g).den .nil)), told_depth d2, told_shaped hrd, told_sml hrd, fun H8 g8 => ⟨true, rfl, ?_⟩⟩
        exact ⟨_, _, _, _, _, rfl, (sm.trans gxz).trans ((g6.trans gq).trans (e7g.trans g8))⟩
      · refine ⟨fun v' Hq => Same H6 Hq ∧ ∃ td, v' = .ref td ∧ Hq td = some (.tup [.str "BadText", .int 0]), ?_, ?_⟩
        · exact ⟨_, rfl, rfl, _, rfl, iteDT rfl ⟨(show 2 ≤ sizeLine by decide), fun td htd => ⟨Same.upd htd, td, rfl, upd_same⟩⟩⟩
        rintro v' Hq ⟨gq, td, rfl, etd⟩
        refine ⟨_, rfl, t2, rfl, htx, fun d3 hd3 => (by rw [hn] at hd3; cases hd3), fun _ tv H7 e7g e7 => ?_⟩
        refine ⟨_, rfl, .ref tv, .ref td, badD, rfl, .tup e7 (.cons (.str _) (.cons (.int _) .nil)), .tup (e7g _ _ etd) (.cons (.str _) (.cons (.int _) .nil)), by decide +kernel, by decide +kernel, by decide +kernel, fun H8 g8 => ⟨true, rfl, ?_⟩⟩
        exact ⟨_, _, _, _, _, rfl, (sm.trans gxz).trans ((g6.trans gq).trans (e7g.trans g8))⟩
    rintro σ Hx ⟨v2, v3, v4, v5, v6, rfl, sm⟩
    exact kk _
end
end CW

set_option Elab.async false
set_option linter.all false
set_option maxRecDepth 100000
set_option maxHeartbeats 4000000
namespace CW
open PySem L2
theorem all_mk {l : PySem.W.OpenLaw} {w : World} {K : PySem.W.Frag} {h : Heap} {mg : Str → Option Value} {fa : Addr} (X : K.In h) (G : h.Ns mainGlobals mg) (hfa : mg "law" = some (.ref fa))
    {f0 : Addr} {od0 an0 : Option Addr} {sl0 : Array (Option Value)} {oc0 kV0 dc0 pm0 cd0 ct0 : Value}
    {f1 : Addr} {od1 an1 : Option Addr} {sl1 : Array (Option Value)} {oc1 kV1 dc1 pm1 cd1 ct1 : Value}
    {f2 : Addr} {od2 an2 : Option Addr} {sl2 : Array (Option Value)} {oc2 kV2 dc2 pm2 cd2 ct2 : Value}
    {f3 : Addr} {od3 an3 : Option Addr} {sl3 : Array (Option Value)} {oc3 kV3 dc3 pm3 cd3 ct3 : Value}
    {f4 : Addr} {od4 an4 : Option Addr} {sl4 : Array (Option Value)} {oc4 kV4 dc4 pm4 cd4 ct4 : Value}
    {f5 : Addr} {od5 an5 : Option Addr} {sl5 : Array (Option Value)} {oc5 kV5 dc5 pm5 cd5 ct5 : Value}
    {f6 : Addr} {od6 an6 : Option Addr} {sl6 : Array (Option Value)} {oc6 kV6 dc6 pm6 cd6 ct6 : Value}
    {f7 : Addr} {od7 an7 : Option Addr} {sl7 : Array (Option Value)} {oc7 kV7 dc7 pm7 cd7 ct7 : Value}
    {f8 : Addr} {od8 an8 : Option Addr} {sl8 : Array (Option Value)} {oc8 kV8 dc8 pm8 cd8 ct8 : Value}
    {f9 : Addr} {od9 an9 : Option Addr} {sl9 : Array (Option Value)} {oc9 kV9 dc9 pm9 cd9 ct9 : Value}
    {f10 : Addr} {od10 an10 : Option Addr} {sl10 : Array (Option Value)} {oc10 kV10 dc10 pm10 cd10 ct10 : Value}
    {f11 : Addr} {od11 an11 : Option Addr} {sl11 : Array (Option Value)} {oc11 kV11 dc11 pm11 cd11 ct11 : Value}
    {f12 : Addr} {od12 an12 : Option Addr} {sl12 : Array (Option Value)} {oc12 kV12 dc12 pm12 cd12 ct12 : Value}
    {f13 : Addr} {od13 an13 : Option Addr} {sl13 : Array (Option Value)} {oc13 kV13 dc13 pm13 cd13 ct13 : Value}
    {f14 : Addr} {od14 an14 : Option Addr} {sl14 : Array (Option Value)} {oc14 kV14 dc14 pm14 cd14 ct14 : Value}
    {f15 : Addr} {od15 an15 : Option Addr} {sl15 : Array (Option Value)} {oc15 kV15 dc15 pm15 cd15 ct15 : Value}
    {f16 : Addr} {od16 an16 : Option Addr} {sl16 : Array (Option Value)} {oc16 kV16 dc16 pm16 cd16 ct16 : Value}
    {f17 : Addr} {od17 an17 : Option Addr} {sl17 : Array (Option Value)} {oc17 kV17 dc17 pm17 cd17 ct17 : Value}
    {f18 : Addr} {od18 an18 : Option Addr} {sl18 : Array (Option Value)} {oc18 kV18 dc18 pm18 cd18 ct18 : Value}
    {tL tG tM tN : Tok} {dF : Addr} {epF : Nat} {tf0 tf1 tf2 tf3 tf4 tf5 tf6 tf7 : Tok} {rf0 rf1 rf2 rf3 rf4 rf5 rf6 rf7 : Addr}
    {oF0 : Option Addr} {sF0 : Array (Option Value)} {ta0 tb0 : Tok} {nF0 : Nat}
    {oF1 : Option Addr} {sF1 : Array (Option Value)} {ta1 tb1 : Tok} {nF1 : Nat}
    {oF2 : Option Addr} {sF2 : Array (Option Value)} {ta2 tb2 : Tok} {nF2 : Nat}
    {oF3 : Option Addr} {sF3 : Array (Option Value)} {ta3 tb3 : Tok} {nF3 : Nat}
    {oF4 : Option Addr} {sF4 : Array (Option Value)} {ta4 tb4 : Tok} {nF4 : Nat}
    {oF5 : Option Addr} {sF5 : Array (Option Value)} {ta5 tb5 : Tok} {nF5 : Nat}
    {oF6 : Option Addr} {sF6 : Array (Option Value)} {ta6 tb6 : Tok} {nF6 : Nat}
    {oF7 : Option Addr} {sF7 : Array (Option Value)} {ta7 tb7 : Tok} {nF7 : Nat}
    {C_CreelError I_CreelError : Addr} {od_CreelError an_CreelError : Option Addr} {sl_CreelError : Array (Option Value)} {oc_CreelError kV_CreelError dc_CreelError pm_CreelError cd_CreelError ct_CreelError : Value}
    {T_CreelError : Addr} {uc_CreelError : Value} {ud_CreelError : Option Addr} {un_CreelError : Nat} {us_CreelError : Array (Option Value)} {ta_CreelError : Tok} {tb_CreelError : Tok}
    {C_BadText I_BadText : Addr} {od_BadText an_BadText : Option Addr} {sl_BadText : Array (Option Value)} {oc_BadText kV_BadText dc_BadText pm_BadText cd_BadText ct_BadText : Value}
    (a0 : PySem.W.nsIn K mainGlobals "is_made_of" = some (some (.ref f0))) (l0 : K.lookup f0 = some ⟨oc0, od0, .func (PySem.W.fnOf "is_made_of" "is_made_of" (defArgs s_is_made_of) (defBody s_is_made_of) (defScope s_is_made_of) .none kV0 dc0 pm0 an0 cd0 ct0), sl0⟩) (c0 : PySem.W.codeIn K cd0 "is_made_of" = true) (k0 : PySem.W.keepIn K (.ref f0) = true)
    (a1 : PySem.W.nsIn K mainGlobals "is_name" = some (some (.ref f1))) (l1 : K.lookup f1 = some ⟨oc1, od1, .func (PySem.W.fnOf "is_name" "is_name" (defArgs s_is_name) (defBody s_is_name) (defScope s_is_name) .none kV1 dc1 pm1 an1 cd1 ct1), sl1⟩) (c1 : PySem.W.codeIn K cd1 "is_name" = true) (k1 : PySem.W.keepIn K (.ref f1) = true)
    (a2 : PySem.W.nsIn K mainGlobals "is_number" = some (some (.ref f2))) (l2 : K.lookup f2 = some ⟨oc2, od2, .func (PySem.W.fnOf "is_number" "is_number" (defArgs s_is_number) (defBody s_is_number) (defScope s_is_number) .none kV2 dc2 pm2 an2 cd2 ct2), sl2⟩) (c2 : PySem.W.codeIn K cd2 "is_number" = true) (k2 : PySem.W.keepIn K (.ref f2) = true)
    (a3 : PySem.W.nsIn K mainGlobals "read_parts" = some (some (.ref f3))) (l3 : K.lookup f3 = some ⟨oc3, od3, .func (PySem.W.fnOf "read_parts" "read_parts" (defArgs s_read_parts) (defBody s_read_parts) (defScope s_read_parts) .none kV3 dc3 pm3 an3 cd3 ct3), sl3⟩) (c3 : PySem.W.codeIn K cd3 "read_parts" = true) (k3 : PySem.W.keepIn K (.ref f3) = true)
    (a4 : PySem.W.nsIn K mainGlobals "deed_in" = some (some (.ref f4))) (l4 : K.lookup f4 = some ⟨oc4, od4, .func (PySem.W.fnOf "deed_in" "deed_in" (defArgs s_deed_in) (defBody s_deed_in) (defScope s_deed_in) .none kV4 dc4 pm4 an4 cd4 ct4), sl4⟩) (c4 : PySem.W.codeIn K cd4 "deed_in" = true) (k4 : PySem.W.keepIn K (.ref f4) = true)
    (a5 : PySem.W.nsIn K mainGlobals "read_deed" = some (some (.ref f5))) (l5 : K.lookup f5 = some ⟨oc5, od5, .func (PySem.W.fnOf "read_deed" "read_deed" (defArgs s_read_deed) (defBody s_read_deed) (defScope s_read_deed) .none kV5 dc5 pm5 an5 cd5 ct5), sl5⟩) (c5 : PySem.W.codeIn K cd5 "read_deed" = true) (k5 : PySem.W.keepIn K (.ref f5) = true)
    (a6 : PySem.W.nsIn K mainGlobals "_law_numbers" = some (some (.ref f6))) (l6 : K.lookup f6 = some ⟨oc6, od6, .func (PySem.W.fnOf "_law_numbers" "_law_numbers" (defArgs s_law_numbers) (defBody s_law_numbers) (defScope s_law_numbers) .none kV6 dc6 pm6 an6 cd6 ct6), sl6⟩) (c6 : PySem.W.codeIn K cd6 "_law_numbers" = true) (k6 : PySem.W.keepIn K (.ref f6) = true)
    (a7 : PySem.W.nsIn K mainGlobals "_law_same" = some (some (.ref f7))) (l7 : K.lookup f7 = some ⟨oc7, od7, .func (PySem.W.fnOf "_law_same" "_law_same" (defArgs s_law_same) (defBody s_law_same) (defScope s_law_same) .none kV7 dc7 pm7 an7 cd7 ct7), sl7⟩) (c7 : PySem.W.codeIn K cd7 "_law_same" = true) (k7 : PySem.W.keepIn K (.ref f7) = true)
    (a8 : PySem.W.nsIn K mainGlobals "_law_ten" = some (some (.ref f8))) (l8 : K.lookup f8 = some ⟨oc8, od8, .func (PySem.W.fnOf "_law_ten" "_law_ten" (defArgs s_law_ten) (defBody s_law_ten) (defScope s_law_ten) .none kV8 dc8 pm8 an8 cd8 ct8), sl8⟩) (c8 : PySem.W.codeIn K cd8 "_law_ten" = true) (k8 : PySem.W.keepIn K (.ref f8) = true)
    (a9 : PySem.W.nsIn K mainGlobals "_law_text" = some (some (.ref f9))) (l9 : K.lookup f9 = some ⟨oc9, od9, .func (PySem.W.fnOf "_law_text" "_law_text" (defArgs s_law_text) (defBody s_law_text) (defScope s_law_text) .none kV9 dc9 pm9 an9 cd9 ct9), sl9⟩) (c9 : PySem.W.codeIn K cd9 "_law_text" = true) (k9 : PySem.W.keepIn K (.ref f9) = true)
    (a10 : PySem.W.nsIn K mainGlobals "_law_any_number" = some (some (.ref f10))) (l10 : K.lookup f10 = some ⟨oc10, od10, .func (PySem.W.fnOf "_law_any_number" "_law_any_number" (defArgs s_law_any_number) (defBody s_law_any_number) (defScope s_law_any_number) .none kV10 dc10 pm10 an10 cd10 ct10), sl10⟩) (c10 : PySem.W.codeIn K cd10 "_law_any_number" = true) (k10 : PySem.W.keepIn K (.ref f10) = true)
    (a11 : PySem.W.nsIn K mainGlobals "_law_word" = some (some (.ref f11))) (l11 : K.lookup f11 = some ⟨oc11, od11, .func (PySem.W.fnOf "_law_word" "_law_word" (defArgs s_law_word) (defBody s_law_word) (defScope s_law_word) .none kV11 dc11 pm11 an11 cd11 ct11), sl11⟩) (c11 : PySem.W.codeIn K cd11 "_law_word" = true) (k11 : PySem.W.keepIn K (.ref f11) = true)
    (a12 : PySem.W.nsIn K mainGlobals "_law_any_deed" = some (some (.ref f12))) (l12 : K.lookup f12 = some ⟨oc12, od12, .func (PySem.W.fnOf "_law_any_deed" "_law_any_deed" (defArgs s_law_any_deed) (defBody s_law_any_deed) (defScope s_law_any_deed) .none kV12 dc12 pm12 an12 cd12 ct12), sl12⟩) (c12 : PySem.W.codeIn K cd12 "_law_any_deed" = true) (k12 : PySem.W.keepIn K (.ref f12) = true)
    (a13 : PySem.W.nsIn K mainGlobals "_law_is_name" = some (some (.ref f13))) (l13 : K.lookup f13 = some ⟨oc13, od13, .func (PySem.W.fnOf "_law_is_name" "_law_is_name" (defArgs s_law_is_name) (defBody s_law_is_name) (defScope s_law_is_name) .none kV13 dc13 pm13 an13 cd13 ct13), sl13⟩) (c13 : PySem.W.codeIn K cd13 "_law_is_name" = true) (k13 : PySem.W.keepIn K (.ref f13) = true)
    (a14 : PySem.W.nsIn K mainGlobals "_law_number" = some (some (.ref f14))) (l14 : K.lookup f14 = some ⟨oc14, od14, .func (PySem.W.fnOf "_law_number" "_law_number" (defArgs s_law_number) (defBody s_law_number) (defScope s_law_number) .none kV14 dc14 pm14 an14 cd14 ct14), sl14⟩) (c14 : PySem.W.codeIn K cd14 "_law_number" = true) (k14 : PySem.W.keepIn K (.ref f14) = true)
    (a15 : PySem.W.nsIn K mainGlobals "_law_reads" = some (some (.ref f15))) (l15 : K.lookup f15 = some ⟨oc15, od15, .func (PySem.W.fnOf "_law_reads" "_law_reads" (defArgs s_law_reads) (defBody s_law_reads) (defScope s_law_reads) .none kV15 dc15 pm15 an15 cd15 ct15), sl15⟩) (c15 : PySem.W.codeIn K cd15 "_law_reads" = true) (k15 : PySem.W.keepIn K (.ref f15) = true)
    (a16 : PySem.W.nsIn K mainGlobals "_law_bent_text" = some (some (.ref f16))) (l16 : K.lookup f16 = some ⟨oc16, od16, .func (PySem.W.fnOf "_law_bent_text" "_law_bent_text" (defArgs s_law_bent_text) (defBody s_law_bent_text) (defScope s_law_bent_text) .none kV16 dc16 pm16 an16 cd16 ct16), sl16⟩) (c16 : PySem.W.codeIn K cd16 "_law_bent_text" = true) (k16 : PySem.W.keepIn K (.ref f16) = true)
    (a17 : PySem.W.nsIn K mainGlobals "_law_why_text" = some (some (.ref f17))) (l17 : K.lookup f17 = some ⟨oc17, od17, .func (PySem.W.fnOf "_law_why_text" "_law_why_text" (defArgs s_law_why_text) (defBody s_law_why_text) (defScope s_law_why_text) .none kV17 dc17 pm17 an17 cd17 ct17), sl17⟩) (c17 : PySem.W.codeIn K cd17 "_law_why_text" = true) (k17 : PySem.W.keepIn K (.ref f17) = true)
    (a18 : PySem.W.nsIn K mainGlobals "law" = some (some (.ref f18))) (l18 : K.lookup f18 = some ⟨oc18, od18, .func (PySem.W.fnOf "law" "law" (defArgs s_law) (defBody s_law) (defScope s_law) .none kV18 dc18 pm18 an18 cd18 ct18), sl18⟩) (c18 : PySem.W.codeIn K cd18 "law" = true) (k18 : PySem.W.keepIn K (.ref f18) = true)
    (z_len : PySem.W.nsIn K mainGlobals "len" = some none)
    (z_range : PySem.W.nsIn K mainGlobals "range" = some none)
    (z_list : PySem.W.nsIn K mainGlobals "list" = some none)
    (z_tuple : PySem.W.nsIn K mainGlobals "tuple" = some none)
    (z_bool : PySem.W.nsIn K mainGlobals "bool" = some none)
    (z_str : PySem.W.nsIn K mainGlobals "str" = some none)
    (z_int : PySem.W.nsIn K mainGlobals "int" = some none)
    (z_isinstance : PySem.W.nsIn K mainGlobals "isinstance" = some none)
    (z_all : PySem.W.nsIn K mainGlobals "all" = some none)
    (z_sorted : PySem.W.nsIn K mainGlobals "sorted" = some none)
    (z_max : PySem.W.nsIn K mainGlobals "max" = some none)
    (z_min : PySem.W.nsIn K mainGlobals "min" = some none)
    (z_set : PySem.W.nsIn K mainGlobals "set" = some none)
    (z_reversed : PySem.W.nsIn K mainGlobals "reversed" = some none)
    (z_sum : PySem.W.nsIn K mainGlobals "sum" = some none)
    (z_enumerate : PySem.W.nsIn K mainGlobals "enumerate" = some none)
    (z_zip : PySem.W.nsIn K mainGlobals "zip" = some none)
    (z_any : PySem.W.nsIn K mainGlobals "any" = some none)
    (z_abs : PySem.W.nsIn K mainGlobals "abs" = some none)
    (y_LE : PySem.W.nsIn K mainGlobals "LETTERS" = some (some (.str "abcdefghijklmnopqrstuvwxyz" tL)))
    (y_FI : PySem.W.nsIn K mainGlobals "FIGURES" = some (some (.str "0123456789" tG)))
    (y_ML : PySem.W.nsIn K mainGlobals "MOST_LETTERS" = some (some (.int 8 tM)))
    (y_MF : PySem.W.nsIn K mainGlobals "MOST_FIGURES" = some (some (.int 60 tN)))
    (aF : PySem.W.nsIn K mainGlobals "FORMS" = some (some (.ref dF)))
    (lF : K.lookup dF = some ⟨.type "dict", none, .dict #[⟨PyData.keyHash w.params "shut", .str "shut" tf0, .ref rf0⟩, ⟨PyData.keyHash w.params "walk", .str "walk" tf1, .ref rf1⟩, ⟨PyData.keyHash w.params "put", .str "put" tf2, .ref rf2⟩, ⟨PyData.keyHash w.params "take", .str "take" tf3, .ref rf3⟩, ⟨PyData.keyHash w.params "mirror", .str "mirror" tf4, .ref rf4⟩, ⟨PyData.keyHash w.params "lay", .str "lay" tf5, .ref rf5⟩, ⟨PyData.keyHash w.params "late", .str "late" tf6, .ref rf6⟩, ⟨PyData.keyHash w.params "strike", .str "strike" tf7, .ref rf7⟩] epF, #[]⟩)
    (lf0 : K.lookup rf0 = some ⟨.type "tuple", oF0, .seq #[.int 1 ta0, .int 0 tb0] nF0, sF0⟩)
    (lf1 : K.lookup rf1 = some ⟨.type "tuple", oF1, .seq #[.int 1 ta1, .int 2 tb1] nF1, sF1⟩)
    (lf2 : K.lookup rf2 = some ⟨.type "tuple", oF2, .seq #[.int 1 ta2, .int 1 tb2] nF2, sF2⟩)
    (lf3 : K.lookup rf3 = some ⟨.type "tuple", oF3, .seq #[.int 1 ta3, .int 1 tb3] nF3, sF3⟩)
    (lf4 : K.lookup rf4 = some ⟨.type "tuple", oF4, .seq #[.int 1 ta4, .int 0 tb4] nF4, sF4⟩)
    (lf5 : K.lookup rf5 = some ⟨.type "tuple", oF5, .seq #[.int 2 ta5, .int 1 tb5] nF5, sF5⟩)
    (lf6 : K.lookup rf6 = some ⟨.type "tuple", oF6, .seq #[.int 1 ta6, .int 3 tb6] nF6, sF6⟩)
    (lf7 : K.lookup rf7 = some ⟨.type "tuple", oF7, .seq #[.int 1 ta7, .int 1 tb7] nF7, sF7⟩)
    (sysF : (dF == sysModules) = false)
    (ac_CreelError : PySem.W.nsIn K mainGlobals "CreelError" = some (some (.ref C_CreelError)))
    (ai_CreelError : PySem.W.findIn K (.ref C_CreelError) "__init__" = some (some (.ref I_CreelError)))
    (li_CreelError : K.lookup I_CreelError = some ⟨oc_CreelError, od_CreelError, .func (PySem.W.fnOf "__init__" "CreelError.__init__" (defArgs s_CreelError_init) (defBody s_CreelError_init) (defScope s_CreelError_init) (.ref T_CreelError) kV_CreelError dc_CreelError pm_CreelError an_CreelError cd_CreelError ct_CreelError), sl_CreelError⟩)
    (co_CreelError : PySem.W.codeIn K cd_CreelError "CreelError.__init__" = true)
    (ke_CreelError : PySem.W.keepIn K (.ref I_CreelError) = true)
    (lt_CreelError : K.lookup T_CreelError = some ⟨uc_CreelError, ud_CreelError, .seq #[.str "" ta_CreelError, .str "CreelError" tb_CreelError] un_CreelError, us_CreelError⟩)
    (ac_BadText : PySem.W.nsIn K mainGlobals "BadText" = some (some (.ref C_BadText)))
    (ai_BadText : PySem.W.findIn K (.ref C_BadText) "__init__" = some (some (.ref I_BadText)))
    (li_BadText : K.lookup I_BadText = some ⟨oc_BadText, od_BadText, .func (PySem.W.fnOf "__init__" "BadText.__init__" (defArgs s_BadText_init) (defBody s_BadText_init) (defScope s_BadText_init) .none kV_BadText dc_BadText pm_BadText an_BadText cd_BadText ct_BadText), sl_BadText⟩)
    (co_BadText : PySem.W.codeIn K cd_BadText "BadText.__init__" = true)
    (ke_BadText : PySem.W.keepIn K (.ref I_BadText) = true)
    (fi_BadText : PySem.W.isFn K (.ref I_BadText) = true)
    (xi_BadText : excInI K C_BadText (some (.ref I_BadText)) = true)
    (xw_BadText : xsIn K C_BadText C_CreelError "word" = true)
    (xa_BadText : xsIn K C_BadText C_CreelError "at" = true)
    (oga : PySem.W.specialIn K (.ref C_CreelError) "__getattribute__" = some (some (.builtin "type.__getattribute__")))
    (ore : PySem.W.readsIn K C_CreelError (.type "type") = true)
    (ofi : PySem.W.findCls K (.ref C_CreelError) (.type "type") "__init__" = some (.val (.ref I_CreelError)))
    (exm : PySem.W.exmOne K (.ref C_BadText) (.ref C_BadText) = some true)
    (xgt : xgIn K C_BadText "at" = true)
    (z_VE : PySem.W.nsIn K mainGlobals "ValueError" = some none)
    (z_dict : PySem.W.nsIn K mainGlobals "dict" = some none) :
    ∃ fd : FuncData, (∀ (s : Shared) (v : Value), BindsTo s fd ⟨[v], []⟩ [("_law_script", v)]) ∧ ∀ base : Heap, K.In base → base.Ns mainGlobals mg → FnOk l.prog w K mg base CX0 8 fa fd ["_law_script"] (spLaw K) := by
  have e := hfa.symm.trans (PySem.W.mg_of X G a18)
  cases e
  have B : Bt mg := ⟨PySem.W.mg_none_of X G z_len, PySem.W.mg_none_of X G z_range, PySem.W.mg_none_of X G z_list, PySem.W.mg_none_of X G z_tuple, PySem.W.mg_none_of X G z_bool, PySem.W.mg_none_of X G z_str, PySem.W.mg_none_of X G z_int, PySem.W.mg_none_of X G z_isinstance, PySem.W.mg_none_of X G z_all, PySem.W.mg_none_of X G z_sorted, PySem.W.mg_none_of X G z_max, PySem.W.mg_none_of X G z_min, PySem.W.mg_none_of X G z_set, PySem.W.mg_none_of X G z_reversed, PySem.W.mg_none_of X G z_sum, PySem.W.mg_none_of X G z_enumerate, PySem.W.mg_none_of X G z_zip, PySem.W.mg_none_of X G z_any, PySem.W.mg_none_of X G z_abs⟩
  have WG : Wd mg := ⟨⟨_, PySem.W.mg_of X G y_LE⟩, ⟨_, PySem.W.mg_of X G y_FI⟩, ⟨_, PySem.W.mg_of X G y_ML⟩, ⟨_, PySem.W.mg_of X G y_MF⟩⟩
  have mF := PySem.W.mg_of X G aF
  obtain ⟨kvF, FM⟩ := forms_mk (P := l.prog) (w := w) lF sysF (sqt_of lf0) (sqt_of lf1) (sqt_of lf2) (sqt_of lf3) (sqt_of lf4) (sqt_of lf5) (sqt_of lf6) (sqt_of lf7)
  have B6 : Bt6 mg := ⟨PySem.W.mg_none_of X G z_dict⟩
  have mV := PySem.W.mg_none_of X G z_VE
  have mT := PySem.W.mg_of X G ac_BadText
  have mE := PySem.W.mg_of X G ac_CreelError
  have FI_BadText := fun_mk (st := s_BadText_init) li_BadText co_BadText ke_BadText
  have BI_BadText := FI_BadText.binds2 (p1 := "self") (p2 := "at") fun _ _ _ _ _ _ _ _ => rfl
  have FI_CreelError := funD_mk (st := s_CreelError_init) li_CreelError co_CreelError ke_CreelError
  have BI_CreelError : Binds K (PySem.W.fnOf "__init__" "CreelError.__init__" (defArgs s_CreelError_init) (defBody s_CreelError_init) (defScope s_CreelError_init) (.ref T_CreelError) kV_CreelError dc_CreelError pm_CreelError an_CreelError cd_CreelError ct_CreelError) ["self", "why", "word"] [] := fun s us kin hl => match us, hl with | [_, _, _], _ => PySem.W.binds_K (T := T_CreelError) kin rfl lt_CreelError rfl rfl rfl
  have OI : OInit K C_CreelError I_CreelError := ⟨oga, ore, ofi, ke_CreelError⟩
  have F0 := fun_mk (st := s_is_made_of) l0 c0 k0
  have b0 := F0.binds3 (p1 := "text") (p2 := "signs") (p3 := "most") fun _ _ _ _ _ _ _ _ _ => rfl
  have m0 := PySem.W.mg_of X G a0
  have F1 := fun_mk (st := s_is_name) l1 c1 k1
  have b1 := F1.binds1 (p1 := "text") fun _ _ _ _ _ _ _ => rfl
  have m1 := PySem.W.mg_of X G a1
  have F2 := fun_mk (st := s_is_number) l2 c2 k2
  have b2 := F2.binds1 (p1 := "text") fun _ _ _ _ _ _ _ => rfl
  have m2 := PySem.W.mg_of X G a2
  have F3 := fun_mk (st := s_read_parts) l3 c3 k3
  have b3 := F3.binds3 (p1 := "parts") (p2 := "names") (p3 := "numbers") fun _ _ _ _ _ _ _ _ _ => rfl
  have m3 := PySem.W.mg_of X G a3
  have F4 := fun_mk (st := s_deed_in) l4 c4 k4
  have b4 := F4.binds1 (p1 := "text") fun _ _ _ _ _ _ _ => rfl
  have m4 := PySem.W.mg_of X G a4
  have F5 := fun_mk (st := s_read_deed) l5 c5 k5
  have b5 := F5.binds1 (p1 := "text") fun _ _ _ _ _ _ _ => rfl
  have m5 := PySem.W.mg_of X G a5
  have F6 := fun_mk (st := s_law_numbers) l6 c6 k6
  have b6 := F6.binds2 (p1 := "_law_script") (p2 := "_law_many") fun _ _ _ _ _ _ _ _ => rfl
  have m6 := PySem.W.mg_of X G a6
  have F7 := fun_mk (st := s_law_same) l7 c7 k7
  have b7 := F7.binds2 (p1 := "_law_found") (p2 := "_law_due") fun _ _ _ _ _ _ _ _ => rfl
  have m7 := PySem.W.mg_of X G a7
  have F8 := fun_mk (st := s_law_ten) l8 c8 k8
  have b8 := F8.binds1 (p1 := "_law_many") fun _ _ _ _ _ _ _ => rfl
  have m8 := PySem.W.mg_of X G a8
  have F9 := fun_mk (st := s_law_text) l9 c9 k9
  have b9 := F9.binds1 (p1 := "_law_deed") fun _ _ _ _ _ _ _ => rfl
  have m9 := PySem.W.mg_of X G a9
  have F10 := fun_mk (st := s_law_any_number) l10 c10 k10
  have b10 := F10.binds1 (p1 := "_law_d") fun _ _ _ _ _ _ _ => rfl
  have m10 := PySem.W.mg_of X G a10
  have F11 := fun_mk (st := s_law_word) l11 c11 k11
  have b11 := F11.binds1 (p1 := "_law_d") fun _ _ _ _ _ _ _ => rfl
  have m11 := PySem.W.mg_of X G a11
  have F12 := fun_mk (st := s_law_any_deed) l12 c12 k12
  have b12 := F12.binds1 (p1 := "_law_d") fun _ _ _ _ _ _ _ => rfl
  have m12 := PySem.W.mg_of X G a12
  have F13 := fun_mk (st := s_law_is_name) l13 c13 k13
  have b13 := F13.binds1 (p1 := "_law_text_here") fun _ _ _ _ _ _ _ => rfl
  have m13 := PySem.W.mg_of X G a13
  have F14 := fun_mk (st := s_law_number) l14 c14 k14
  have b14 := F14.binds1 (p1 := "_law_word_here") fun _ _ _ _ _ _ _ => rfl
  have m14 := PySem.W.mg_of X G a14
  have F15 := fun_mk (st := s_law_reads) l15 c15 k15
  have b15 := F15.binds1 (p1 := "_law_text_here") fun _ _ _ _ _ _ _ => rfl
  have m15 := PySem.W.mg_of X G a15
  have F16 := fun_mk (st := s_law_bent_text) l16 c16 k16
  have b16 := F16.binds2 (p1 := "_law_text_here") (p2 := "_law_d") fun _ _ _ _ _ _ _ _ => rfl
  have m16 := PySem.W.mg_of X G a16
  have F17 := fun_mk (st := s_law_why_text) l17 c17 k17
  have b17 := F17.binds1 (p1 := "_law_text_here") fun _ _ _ _ _ _ _ => rfl
  have m17 := PySem.W.mg_of X G a17
  have F18 := fun_mk (st := s_law) l18 c18 k18
  have b18 := F18.binds1 (p1 := "_law_script") fun _ _ _ _ _ _ _ => rfl
  have m18 := PySem.W.mg_of X G a18
  refine ⟨PySem.W.fnOf "law" "law" (defArgs s_law) (defBody s_law) (defScope s_law) .none kV18 dc18 pm18 an18 cd18 ct18, fun s v => .of_eq rfl, fun base _ _ => ?_⟩
  have OB := ok_CreelError_init (P := l.prog) (w := w) (mg := mg) (base := base) FI_CreelError mV
  have R_BadText : RaisesAs l.prog w K mg base "BadText" C_BadText ["self", "at"] (spXI "BadText" C_BadText) := ⟨mT, I_BadText, _, xcls_of xi_BadText, fi_BadText, ok_BadText_init FI_BadText OI OB BI_CreelError mE (xcls_of xi_BadText) (xs_of xw_BadText) (xs_of xa_BadText), BI_BadText⟩
  have A_is_made_of : FnAt l.prog w K mg base "is_made_of" 1 ["text", "signs", "most"] spMade := ⟨f0, _, ok_made F0 B, m0, k0, b0⟩
  have A_is_name : FnAt l.prog w K mg base "is_name" 2 ["text"] spNameT := ⟨f1, _, ok_is_name F1 B WG A_is_made_of, m1, k1, b1⟩
  have A_is_number : FnAt l.prog w K mg base "is_number" 2 ["text"] spNumT := ⟨f2, _, ok_is_number F2 B WG A_is_made_of, m2, k2, b2⟩
  have A_read_parts : FnAt l.prog w K mg base "read_parts" 3 ["parts", "names", "numbers"] spPartsG := ⟨f3, _, ok_read_partsG F3 B A_is_name A_is_number, m3, k3, b3⟩
  have A_deed_in : FnAt l.prog w K mg base "deed_in" 4 ["text"] spDeedG := ⟨f4, _, ok_deed_inG F4 B FM mF A_read_parts, m4, k4, b4⟩
  have A_read_deed : FnAtX l.prog w K mg base "read_deed" 5 ["text"] (spReadR C_BadText) := ⟨f5, _, ok_read_deedR F5 B A_deed_in R_BadText, m5, k5, b5⟩
  have A_law_numbers : FnAt l.prog w K mg base "_law_numbers" 1 ["_law_script", "_law_many"] (spNumbers K) := ⟨f6, _, ok_numbers F6 B, m6, k6, b6⟩
  have A_law_same : FnAt l.prog w K mg base "_law_same" 4 ["_law_found", "_law_due"] (spSame 3) := ⟨f7, _, ok_same F7 B m7 b7 3, m7, k7, b7⟩
  have A_law_ten : FnAt l.prog w K mg base "_law_ten" 1 ["_law_many"] spTen := ⟨f8, _, ok_ten F8 B, m8, k8, b8⟩
  have A_law_text : FnAt l.prog w K mg base "_law_text" 1 ["_law_deed"] spText := ⟨f9, _, ok_law_text F9 B, m9, k9, b9⟩
  have A_law_any_number : FnAt l.prog w K mg base "_law_any_number" 2 ["_law_d"] spAnyNum := ⟨f10, _, ok_any_number F10 B A_law_ten, m10, k10, b10⟩
  have A_law_word : FnAt l.prog w K mg base "_law_word" 1 ["_law_d"] spWord := ⟨f11, _, ok_law_word F11 B, m11, k11, b11⟩
  have A_law_any_deed : FnAt l.prog w K mg base "_law_any_deed" 3 ["_law_d"] spAnyDeed := ⟨f12, _, ok_any_deed F12 B A_law_word A_law_any_number, m12, k12, b12⟩
  have A_law_is_name : FnAt l.prog w K mg base "_law_is_name" 1 ["_law_text_here"] spNameT := ⟨f13, _, ok_law_is_name F13 B, m13, k13, b13⟩
  have A_law_number : FnAt l.prog w K mg base "_law_number" 1 ["_law_word_here"] spNumL := ⟨f14, _, ok_law_number F14 B, m14, k14, b14⟩
  have A_law_reads : FnAt l.prog w K mg base "_law_reads" 2 ["_law_text_here"] spDeedG := ⟨f15, _, ok_reads F15 B B6 A_law_is_name A_law_number, m15, k15, b15⟩
  have A_law_bent_text : FnAt l.prog w K mg base "_law_bent_text" 1 ["_law_text_here", "_law_d"] spBent := ⟨f16, _, ok_bent F16 B, m16, k16, b16⟩
  have A_law_why_text : FnAtX l.prog w K mg base "_law_why_text" 6 ["_law_text_here"] spWhyT := ⟨f17, _, ok_why_text F17 mT mE exm (xgt) A_read_deed, m17, k17, b17⟩
  exact ok_law F18 B A_law_numbers A_law_any_deed A_law_text A_law_bent_text A_law_reads A_law_why_text A_law_same
theorem walk {l : PySem.W.OpenLaw} {q : Program} {loose : List Str} {XP : (Str → Option Value) → Heap → Prop} {YP : World → Heap → Prop} {d : DefRec} {K : Params → PySem.W.Frag} (hn : l.most = some 63) (hdf : d.params.defaults = [])
    (hY : ∀ (w : World) (h : Heap), YP w h → (K w.params).In h)
    (F : ∀ (w : World) (mg : Str → Option Value) (fa : Addr) (h : Heap), (K w.params).In h → h.Ns mainGlobals mg → mg d.name = some (.ref fa) →
      ∃ fd : FuncData, (∀ (s : Shared) (u : Value), BindsTo s fd ⟨[u], []⟩ [("_law_script", u)]) ∧ ∀ base : Heap, (K w.params).In base → base.Ns mainGlobals mg → FnOk l.prog w (K w.params) mg base CX0 8 fa fd ["_law_script"] (spLaw (K w.params))) :
    PySem.W.WalkO q loose XP YP l.row.toRowW d [] (fun f vs => PySem.call f vs) :=
  L2.walk_of (n := 63) (k := 8) (x := "_law_script") (CX := fun _ => CX0) (sp := fun w => spLaw (K w.params)) hn (by decide) hdf ⟨rfl, by decide, by decide⟩ hY F (fun _ _ a ns hl _ hS => ⟨a, ns, rfl, hS, hl, fun _ => rfl⟩) fun _ _ _ _ _ z => z
end CW
def PySem.W.Fast.tw11059161076193993760 : Unit := ()
def PySem.W.Fast.tw1169473710372011776 : Unit := ()
def PySem.W.Fast.tw2401724204620254566 : Unit := ()
def PySem.W.Fast.tw1066572229727398245 : Unit := ()
def PySem.W.Fast.tw7098399868194654432 : Unit := ()
def PySem.W.Fast.tw7631419194830171011 : Unit := ()
def PySem.W.Fast.tw15447807167151100072 : Unit := ()
def PySem.W.Fast.tw1350477760483438305 : Unit := ()
def PySem.W.Fast.tw9074451522336770942 : Unit := ()
def PySem.W.Fast.tw16528053945978273604 : Unit := ()
def PySem.W.Fast.tw6088046389173270057 : Unit := ()
def PySem.W.Fast.tw1526477088817958697 : Unit := ()
def PySem.W.Fast.tw1252106035893640206 : Unit := ()
def PySem.W.Fast.tw13163179012304332202 : Unit := ()
def PySem.W.Fast.tw3138888201823290967 : Unit := ()
def PySem.W.Fast.tw13427387842073162313 : Unit := ()
def PySem.W.Fast.tw5813275784751418316 : Unit := ()
def PySem.W.Fast.tw13705138519988170290 : Unit := ()
def PySem.W.Fast.tw14010164015288011892 : Unit := ()
def PySem.W.Fast.tw11048608164366023128 : Unit := ()
def PySem.W.Fast.tw16987047593840549848 : Unit := ()
def PySem.W.Fast.tw4335383550250019482 : Unit := ()
def PySem.W.Fast.tw13713861480944019578 : Unit := ()
def PySem.W.Fast.tw2594861079677263549 : Unit := ()
def PySem.W.Fast.tw16739310024049317222 : Unit := ()
def PySem.W.Fast.tw9798421591763674576 : Unit := ()
def PySem.W.Fast.tw3507739120016516934 : Unit := ()
def PySem.W.Fast.tw680306513336840103 : Unit := ()
def PySem.W.Fast.tw16092209209667293944 : Unit := ()
def PySem.W.Fast.tw16322880454112582296 : Unit := ()
def PySem.W.Fast.tw9543169570224605199 : Unit := ()
def PySem.W.Fast.tw9426447572422691002 : Unit := ()
def PySem.W.Fast.tw14521926867738351397 : Unit := ()
def PySem.W.Fast.tw17155614816182577051 : Unit := ()
def PySem.W.Fast.tw4653679644088523436 : Unit := ()
def PySem.W.Fast.tw5296936556516561930 : Unit := ()
def PySem.W.Fast.tw7536851221824355697 : Unit := ()
def PySem.W.Fast.tw6283956192215053267 : Unit := ()
def PySem.W.Fast.tw3831966183411718476 : Unit := ()
def PySem.W.Fast.tw3114695557543183349 : Unit := ()
def PySem.W.Fast.tw13684136611207105118 : Unit := ()
def PySem.W.Fast.tw5600635240132465411 : Unit := ()
def PySem.W.Fast.tw10061764403102689503 : Unit := ()
def PySem.W.Fast.tw5455832336189893762 : Unit := ()
def PySem.W.Fast.tw6971165001405500169 : Unit := ()
def PySem.W.Fast.tw4168401928126017729 : Unit := ()
def PySem.W.Fast.tw2718030575614912580 : Unit := ()
def PySem.W.Fast.tw7731124920533362484 : Unit := ()
def PySem.W.Fast.tw9432871949298325346 : Unit := ()
def PySem.W.Fast.tw807698050806015322 : Unit := ()
def PySem.W.Fast.tw14313964756969533896 : Unit := ()
def PySem.W.Fast.tw13903787042123261404 : Unit := ()
def PySem.W.Fast.tw11759851679533377756 : Unit := ()
def PySem.W.Fast.tw11438003194162069801 : Unit := ()
def PySem.W.Fast.tw8897305121271993662 : Unit := ()
def PySem.W.Fast.tw17038554007121437389 : Unit := ()
def PySem.W.Fast.tw2644404717737701501 : Unit := ()
def PySem.W.Fast.tw13212085311019065876 : Unit := ()
def PySem.W.Fast.tw9341508804232781044 : Unit := ()
def PySem.W.Fast.tw4132234831556877254 : Unit := ()
def PySem.W.Fast.tw16083656443816963664 : Unit := ()
def PySem.W.Fast.tw15116480501245949363 : Unit := ()
def PySem.W.Fast.tw16640883500228461648 : Unit := ()
def PySem.W.Fast.tw791572351377491214 : Unit := ()
def PySem.W.Fast.tw18167935705448041876 : Unit := ()
def PySem.W.Fast.tw9399254342344826844 : Unit := ()
def PySem.W.Fast.tw12871075745378927011 : Unit := ()
def PySem.W.Fast.tw8411180750452922012 : Unit := ()
def PySem.W.Fast.tw9586423374911531303 : Unit := ()
def PySem.W.Fast.tw17349296630327183693 : Unit := ()
def PySem.W.Fast.tw10757009191369318191 : Unit := ()
open PySem PySem.W PyProof.Rows
set_option maxRecDepth 100000 in
set_option maxHeartbeats 0 in
theorem PySem.Challenge.cw_creelway_k49_texts_of_no_deed_holds : PySem.Challenge.rw_creelway_k49_texts_of_no_deed.Holds := by
  w_on; o_law; k_head; (case hw => w_witness2)
  k_fill
  refine CW.walk (l := PySem.Challenge.rw_creelway_k49_texts_of_no_deed) rfl rfl (fun w h Y => PySem.W.kIn_of Y) ?F
  case F =>
    intro w mg fa h KX G hmg
    refine' CW.all_mk KX G hmg ?a0 ?l0 ?c0 ?k0 ?a1 ?l1 ?c1 ?k1 ?a2 ?l2 ?c2 ?k2 ?a3 ?l3 ?c3 ?k3 ?a4 ?l4 ?c4 ?k4 ?a5 ?l5 ?c5 ?k5 ?a6 ?l6 ?c6 ?k6 ?a7 ?l7 ?c7 ?k7 ?a8 ?l8 ?c8 ?k8 ?a9 ?l9 ?c9 ?k9 ?a10 ?l10 ?c10 ?k10 ?a11 ?l11 ?c11 ?k11 ?a12 ?l12 ?c12 ?k12 ?a13 ?l13 ?c13 ?k13 ?a14 ?l14 ?c14 ?k14 ?a15 ?l15 ?c15 ?k15 ?a16 ?l16 ?c16 ?k16 ?a17 ?l17 ?c17 ?k17 ?a18 ?l18 ?c18 ?k18 ?z_len ?z_range ?z_list ?z_tuple ?z_bool ?z_str ?z_int ?z_isinstance ?z_all ?z_sorted ?z_max ?z_min ?z_set ?z_reversed ?z_sum ?z_enumerate ?z_zip ?z_any ?z_abs ?y_LE ?y_FI ?y_ML ?y_MF ?aF ?lF ?lf0 ?lf1 ?lf2 ?lf3 ?lf4 ?lf5 ?lf6 ?lf7 ?sysF ?ac_CreelError ?ai_CreelError ?li_CreelError ?co_CreelError ?ke_CreelError ?lt_CreelError ?ac_BadText ?ai_BadText ?li_BadText ?co_BadText ?ke_BadText ?fi_BadText ?xi_BadText ?xw_BadText ?xa_BadText ?oga ?ore ?ofi ?exm ?xgt ?z_VE ?z_dict
    (case a0 => k_is)
    (case l0 => k_is)
    (case c0 => k_is)
    (case k0 => k_is)
    (case a1 => k_is)
    (case l1 => k_is)
    (case c1 => k_is)
    (case k1 => k_is)
    (case a2 => k_is)
    (case l2 => k_is)
    (case c2 => k_is)
    (case k2 => k_is)
    (case a3 => k_is)
    (case l3 => k_is)
    (case c3 => k_is)
    (case k3 => k_is)
    (case a4 => k_is)
    (case l4 => k_is)
    (case c4 => k_is)
    (case k4 => k_is)
    (case a5 => k_is)
    (case l5 => k_is)
    (case c5 => k_is)
    (case k5 => k_is)
    (case a6 => k_is)
    (case l6 => k_is)
    (case c6 => k_is)
    (case k6 => k_is)
    (case a7 => k_is)
    (case l7 => k_is)
    (case c7 => k_is)
    (case k7 => k_is)
    (case a8 => k_is)
    (case l8 => k_is)
    (case c8 => k_is)
    (case k8 => k_is)
    (case a9 => k_is)
    (case l9 => k_is)
    (case c9 => k_is)
    (case k9 => k_is)
    (case a10 => k_is)
    (case l10 => k_is)
    (case c10 => k_is)
    (case k10 => k_is)
    (case a11 => k_is)
    (case l11 => k_is)
    (case c11 => k_is)
    (case k11 => k_is)
    (case a12 => k_is)
    (case l12 => k_is)
    (case c12 => k_is)
    (case k12 => k_is)
    (case a13 => k_is)
    (case l13 => k_is)
    (case c13 => k_is)
    (case k13 => k_is)
    (case a14 => k_is)
    (case l14 => k_is)
    (case c14 => k_is)
    (case k14 => k_is)
    (case a15 => k_is)
    (case l15 => k_is)
    (case c15 => k_is)
    (case k15 => k_is)
    (case a16 => k_is)
    (case l16 => k_is)
    (case c16 => k_is)
    (case k16 => k_is)
    (case a17 => k_is)
    (case l17 => k_is)
    (case c17 => k_is)
    (case k17 => k_is)
    (case a18 => k_is)
    (case l18 => k_is)
    (case c18 => k_is)
    (case k18 => k_is)
    (case z_len => k_is)
    (case z_range => k_is)
    (case z_list => k_is)
    (case z_tuple => k_is)
    (case z_bool => k_is)
    (case z_str => k_is)
    (case z_int => k_is)
    (case z_isinstance => k_is)
    (case z_all => k_is)
    (case z_sorted => k_is)
    (case z_max => k_is)
    (case z_min => k_is)
    (case z_set => k_is)
    (case z_reversed => k_is)
    (case z_sum => k_is)
    (case z_enumerate => k_is)
    (case z_zip => k_is)
    (case z_any => k_is)
    (case z_abs => k_is)
    (case y_LE => k_is)
    (case y_FI => k_is)
    (case y_ML => k_is)
    (case y_MF => k_is)
    (case aF => k_is)
    (case lF => k_is)
    (case lf0 => k_is)
    (case lf1 => k_is)
    (case lf2 => k_is)
    (case lf3 => k_is)
    (case lf4 => k_is)
    (case lf5 => k_is)
    (case lf6 => k_is)
    (case lf7 => k_is)
    (case sysF => kernel_rfl)
    (case ac_CreelError => k_is)
    (case ai_CreelError => k_is)
    (case li_CreelError => k_is)
    (case co_CreelError => k_is)
    (case ke_CreelError => k_is)
    (case lt_CreelError => k_is)
    (case ac_BadText => k_is)
    (case ai_BadText => k_is)
    (case li_BadText => k_is)
    (case co_BadText => k_is)
    (case ke_BadText => k_is)
    (case fi_BadText => k_is)
    (case xi_BadText => kernel_rfl)
    (case xw_BadText => kernel_rfl)
    (case xa_BadText => kernel_rfl)
    (case oga => k_is)
    (case ore => k_is)
    (case ofi => k_is)
    (case exm => kernel_rfl)
    (case xgt => kernel_rfl)
    (case z_VE => k_is)
    (case z_dict => k_is)
