import PyProof.Rows.All
import Wide.All
import OpenK.AllK
import Wide.FinOn
import Lean
import PyProof.EqAt
import PyProof.EqKinds
import PyProof.TupleCall
import PySem.Challenge.RW_creelway_k34_sober_rows_counted
set_option Elab.async false
set_option linter.all false
set_option maxRecDepth 100000
namespace L2
open PySem PySem.Spec PyProof.Rows

noncomputable abbrev Key := Sum Int Str
noncomputable def keyIs : Key → Value → Bool
  | .inl k, v => Value.isInt k v
  | .inr x, v => Value.isStrOf x v
noncomputable def keyH (w : World) : Key → Int
  | .inl k => hashInt k
  | .inr x => hashStr w x
theorem keyIs_shape : ∀ {k : Key} {v : Value}, keyIs k v = true → (∃ i t, k = Sum.inl i ∧ v = Value.int i t) ∨ (∃ x t, k = Sum.inr x ∧ v = Value.str x t)
  | .inl i, v, h => by
    obtain ⟨t, e⟩ := Value.isInt_shape (k := i) (v := v) h
    exact .inl ⟨i, t, rfl, e⟩
  | .inr x, v, h => by
    obtain ⟨t, e⟩ := Value.isStrOf_shape (x := x) (v := v) h
    exact .inr ⟨x, t, rfl, e⟩
theorem key_ll (a b : Int) : decide ((Sum.inl a : Key) = Sum.inl b) = (a == b) := by
  by_cases e : a = b
  · subst e; simp
  · have h : ¬ (Sum.inl a : Key) = Sum.inl b := fun q => e (Sum.inl.inj q)
    rw [decide_eq_false h]
    exact (beq_eq_false_iff_ne.mpr e).symm
theorem key_rr (a b : Str) : decide ((Sum.inr a : Key) = Sum.inr b) = decide (a = b) := by
  by_cases e : a = b
  · subst e; simp
  · have h : ¬ (Sum.inr a : Key) = Sum.inr b := fun q => e (Sum.inr.inj q)
    rw [decide_eq_false h, decide_eq_false e]
theorem key_lr (a : Int) (b : Str) : decide ((Sum.inl a : Key) = Sum.inr b) = false := decide_eq_false (fun q => nomatch q)
theorem key_rl (a : Str) (b : Int) : decide ((Sum.inr a : Key) = Sum.inl b) = false := decide_eq_false (fun q => nomatch q)

noncomputable def mixKind (prog : Program) (w : World) : PySem.KeyKind prog w Key where
  is := keyIs
  hash := keyH w
  inj := fun v a b ha hb => by
    rcases keyIs_shape ha with ⟨i, t, rfl, rfl⟩ | ⟨x, t, rfl, rfl⟩
    · rcases keyIs_shape hb with ⟨j, u, rfl, e⟩ | ⟨y, u, rfl, e⟩
      · injection e with e1 _; rw [e1]
      · exact nomatch e
    · rcases keyIs_shape hb with ⟨j, u, rfl, e⟩ | ⟨y, u, rfl, e⟩
      · exact nomatch e
      · injection e with e1 _; rw [e1]
  byValue := fun k v h => by
    rcases keyIs_shape h with ⟨i, t, rfl, rfl⟩ | ⟨x, t, rfl, rfl⟩ <;> rfl
  pyHash := fun hv h => by
    rcases keyIs_shape hv with ⟨i, t, rfl, rfl⟩ | ⟨x, t, rfl, rfl⟩
    · exact wpAny_pyHash_int h
    · exact wpAny_pyHash_str h
  eqBool := fun hu hv h => by
    rcases keyIs_shape hu with ⟨i, t, rfl, rfl⟩ | ⟨x, t, rfl, rfl⟩
    · rcases keyIs_shape hv with ⟨j, u, rfl, rfl⟩ | ⟨y, u, rfl, rfl⟩
      · rw [key_ll] at h; exact wpAny_eqBool_int h
      · rw [key_lr] at h; exact SeqAt.EqAt.int_str i t y u _ _ _ _ h
    · rcases keyIs_shape hv with ⟨j, u, rfl, rfl⟩ | ⟨y, u, rfl, rfl⟩
      · rw [key_rl] at h; exact SeqAt.EqAt.str_int x t j u _ _ _ _ h
      · rw [key_rr] at h; exact wpAny_eqBool_str h
  «strs» := fun k x t v h => by
    rcases keyIs_shape h with ⟨i, u, rfl, e⟩ | ⟨y, u, rfl, e⟩
    · exact nomatch e
    · injection e with e1 _
      subst e1
      cases v <;> rfl

end L2

namespace L2
open PySem PySem.Spec PyProof.Rows

inductive V where
  | non | bl (b : Bool) | int (i : Int) | str (x : Str) | byt (b : Array UInt8) | flt (b : UInt64) | ref (a : Addr) | ty (n : String)
  deriving DecidableEq

noncomputable def RelV : V → Value → Prop
  | .non, u => u = Value.none
  | .bl b, u => u = Value.bool b
  | .int i, u => ∃ t, u = Value.int i t
  | .str x, u => ∃ t, u = Value.str x t
  | .byt b, u => ∃ t, u = Value.bytes b t
  | .flt b, u => ∃ t, u = Value.float b t
  | .ref a, u => u = Value.ref a
  | .ty n, u => u = Value.type n

noncomputable abbrev Vals : List V → List Value → Prop := Paired RelV
theorem Vals.length {xs : List V} {us : List Value} (r : Vals xs us) : xs.length = us.length := Paired.length r
theorem Vals.get : ∀ {xs : List V} {us : List Value} {i : Nat} {x : V}, Vals xs us → xs[i]? = some x → ∃ u, us[i]? = some u ∧ RelV x u
  | _, _, _, _, .nil, e => by simp at e
  | _, _, 0, _, .cons r _, e => by simp at e; subst e; exact ⟨_, rfl, r⟩
  | _, _, i + 1, x, .cons _ t, e => by
    obtain ⟨u, h1, h2⟩ := Vals.get (i := i) (x := x) t (by simpa using e)
    exact ⟨u, by simpa using h1, h2⟩
theorem Vals.set {x : V} {u : Value} (r : RelV x u) : ∀ {xs : List V} {us : List Value} (i : Nat), Vals xs us → Vals (xs.set i x) (us.set i u)
  | _, _, _, .nil => .nil
  | _, _, 0, .cons _ t => .cons r t
  | _, _, i + 1, .cons q t => .cons q (Vals.set r i t)
theorem Vals.append : ∀ {xs ys : List V} {us ws : List Value}, Vals xs us → Vals ys ws → Vals (xs ++ ys) (us ++ ws)
  | _, _, _, _, .nil, s => s
  | _, _, _, _, .cons r t, s => .cons r (Vals.append t s)
theorem Vals.take : ∀ {xs : List V} {us : List Value} (n : Nat), Vals xs us → Vals (xs.take n) (us.take n)
  | _, _, 0, _ => .nil
  | _, _, _ + 1, .nil => .nil
  | _, _, n + 1, .cons r t => .cons r (Vals.take n t)
theorem Vals.drop : ∀ {xs : List V} {us : List Value} (n : Nat), Vals xs us → Vals (xs.drop n) (us.drop n)
  | _, _, 0, r => r
  | _, _, _ + 1, .nil => .nil
  | _, _, n + 1, .cons _ t => Vals.drop n t
noncomputable def RelO : Option V → Option Value → Prop
  | some v, some u => RelV v u
  | none, none => True
  | _, _ => False
noncomputable def KV {κ : Type} : List (κ × V) → List (κ × Value) → Prop := Paired fun (p : κ × V) (q : κ × Value) => p.1 = q.1 ∧ RelV p.2 q.2

noncomputable def kV : Key → V
  | .inl i => .int i
  | .inr x => .str x

inductive HO where
    | lst (xs : List V)
    | tup (xs : List V)
    | dK (kvs : List (Key × V)) | dT (kvs : List (List Key × V))
    | set (S : Int → Bool) (n : Nat)
    | ins (C dx : Addr) (fs : List (Str × V))
    | own (x : Addr)
    | xd (fs : List (Str × V))
    | met (f x : Addr)
    | rng (lo hi : Int)
    | frz (o : Obj) (u : HO)
    | tbl (ps : Array Value)
    | ext (φ : Heap → Prop)

noncomputable abbrev Hp := Addr → Option HO
noncomputable def upd (H : Hp) (a : Addr) (o : HO) : Hp := fun b => if b = a then some o else H b
theorem upd_same {H : Hp} {a : Addr} {o : HO} : upd H a o a = some o := by unfold upd; rw [if_pos rfl]
theorem upd_ne {H : Hp} {a b : Addr} {o : HO} (h : b ≠ a) : upd H a o b = H b := by unfold upd; rw [if_neg h]
theorem ne_of {H : Hp} {a b : Addr} {o u : HO} (h : H a = some o) (h' : H b = some u) (d : o ≠ u) : a ≠ b := by
  intro e; subst e; rw [h] at h'; exact d (Option.some.inj h')
theorem ne_of_none {H : Hp} {a b : Addr} {o : HO} (h : H a = some o) (h' : H b = none) : a ≠ b := by
  intro e; subst e; rw [h] at h'; cases h'

section
variable (P : Program) (w : World)
noncomputable def ObjOk (H : Hp) (h : Heap) (a : Addr) : HO → Prop
  | .lst xs => xs.length ≤ sizeLine ∧ ∃ (its : List Value) (n : Nat), Vals xs its ∧ h.get? a = some { cls := .type "list", data := .seq its.toArray n }
  | .tup xs => xs.length ≤ sizeLine ∧ ∃ its : List Value, Vals xs its ∧ IsTup h a its.toArray
  | .dK kvs => kvs.length ≤ sizeLine ∧ (a == sysModules) = false ∧ ∃ vs, KV kvs vs ∧ h.DictOf (mixKind P w) a vs
  | .dT kvs => kvs.length ≤ sizeLine ∧ (a == sysModules) = false ∧ ∃ xs : List (List Key × Addr × Value),
      Paired (fun (p : List Key × V) (q : List Key × Addr × Value) => p.1 = q.1 ∧ H q.2.1 = some (.tup (p.1.map kV)) ∧ RelV p.2 q.2.2) kvs xs ∧
      ∃ o es ep, h.get? a = some o ∧ o.ExactDict ∧ o.data = .dict es ep ∧ es.toList = xs.map (entryOfKey (tupleKind (mixKind P w))) ∧ (xs.map (·.1)).Nodup
  | .set S n => h.SetOf (intKind P w) a S n
  | .ins C dx fs => H dx = some (.own a) ∧ fs.length ≤ 1000 ∧ dx ≠ a ∧ h.get? a = some (PySem.W.instObj C dx) ∧
      ∃ mA, h.Ns1 dx mA ∧ (∀ f, RelO (fs.lookup f) (mA f)) ∧ PySem.Within mA (fs.map (·.1))
  | .own _ => ∃ o, h.get? a = some o
  | .xd fs => ∃ mA, h.Ns1 a mA ∧ ∀ f, RelO (fs.lookup f) (mA f)
  | .rng lo hi => ∃ t u v, h.get? a = some { cls := .type "range", data := .fields #[.int lo t, .int hi u, .int 1 v] }
  | .frz o u => h.get? a = some o ∧ ObjOk H h a u
  | .tbl ps => h.get? a = some { cls := .none, data := .fields ps }
  | .met f x => h.get? a = some (PySem.W.methodObj (.ref f) (.ref x))
  | .ext φ => φ h ∧ (∃ o, h.get? a = some o) ∧ ∀ h1 h2 : Heap, φ h1 → (∀ o, h1.get? a = some o → h2.get? a = some o) → φ h2
noncomputable def HOk (H : Hp) (h : Heap) : Prop := ∀ a o, H a = some o → ObjOk P w H h a o
end

section
variable {P : Program} {w : World} {H H' : Hp} {h h' : Heap} {a : Addr} {o : HO}
theorem ObjOk.lt (x : ObjOk P w H h a o) : a < h.objs.size := by
  cases o with
  | lst xs => obtain ⟨_, _, _, _, e⟩ := x; exact Heap.lt_size e
  | tup xs => obtain ⟨_, _, _, p⟩ := x; exact p.lt
  | dK kvs => obtain ⟨_, _, _, _, o, _, _, e, _⟩ := x; exact Heap.lt_size e
  | dT kvs => obtain ⟨_, _, _, _, o, _, _, e, _⟩ := x; exact Heap.lt_size e
  | set S n => obtain ⟨o, _, _, _, e, _⟩ := x; exact Heap.lt_size e
  | ins C dx fs => obtain ⟨_, _, _, e, _⟩ := x; exact Heap.lt_size e
  | own y => obtain ⟨_, e⟩ := x; exact Heap.lt_size e
  | xd fs => obtain ⟨_, ⟨_, _, _, e, _⟩, _⟩ := x; exact Heap.lt_size e
  | rng lo hi => obtain ⟨_, _, _, e⟩ := x; exact Heap.lt_size e
  | frz ob u => obtain ⟨e, _⟩ := x; exact Heap.lt_size e
  | tbl ps => exact Heap.lt_size (show h.get? a = some _ from x)
  | met f y => exact Heap.lt_size (show h.get? a = some _ from x)
  | ext φ => obtain ⟨_, ⟨_, e⟩, _⟩ := x; exact Heap.lt_size e
theorem Paired.mapP {α β : Type} {F G : α → β → Prop} : ∀ {l₁ : List α} {l₂ : List β}, Paired F l₁ l₂ → (∀ a b, F a b → G a b) → Paired G l₁ l₂
  | _, _, .nil, _ => .nil
  | _, _, .cons r t, f => .cons (f _ _ r) (Paired.mapP t f)
theorem ObjOk.stay (x : ObjOk P w H h a o) (k : ∀ b u, (b = a ∨ H b = some (.own a)) → h.get? b = some u → h'.get? b = some u)
    (ho : ∀ b, H b = some (.own a) → H' b = some (.own a)) (ht : ∀ b xs, H b = some (.tup xs) → H' b = some (.tup xs)) : ObjOk P w H' h' a o := by
  induction o with
  | lst xs => obtain ⟨z, its, n, r, e⟩ := x; exact ⟨z, its, n, r, k _ _ (.inl rfl) e⟩
  | tup xs => obtain ⟨z, its, r, ob, e, c⟩ := x; exact ⟨z, its, r, ob, k _ _ (.inl rfl) e, c⟩
  | dK kvs => obtain ⟨z, y, vs, r, ob, es, ep, e, c⟩ := x; exact ⟨z, y, vs, r, ob, es, ep, k _ _ (.inl rfl) e, c⟩
  | dT kvs =>
    obtain ⟨z, y, xs, r, ob, es, ep, e, c⟩ := x
    exact ⟨z, y, xs, Paired.mapP r fun p q z => ⟨z.1, ht _ _ z.2.1, z.2.2⟩, ob, es, ep, k _ _ (.inl rfl) e, c⟩
  | set S n => obtain ⟨ob, es, ep, t, e, c⟩ := x; exact ⟨ob, es, ep, t, k _ _ (.inl rfl) e, c⟩
  | ins C dx fs =>
    obtain ⟨d, z, ne, e, mA, ⟨od, es, ep, e2, c⟩, r⟩ := x
    exact ⟨ho _ d, z, ne, k _ _ (.inl rfl) e, mA, ⟨od, es, ep, k _ _ (.inr d) e2, c⟩, r⟩
  | own y => obtain ⟨ob, e⟩ := x; exact ⟨ob, k _ _ (.inl rfl) e⟩
  | xd fs => obtain ⟨mA, ⟨od, es, ep, e, c⟩, r⟩ := x; exact ⟨mA, ⟨od, es, ep, k _ _ (.inl rfl) e, c⟩, r⟩
  | rng lo hi => obtain ⟨t, u, v, e⟩ := x; exact ⟨t, u, v, k _ _ (.inl rfl) e⟩
  | frz ob u ih => obtain ⟨e, q⟩ := x; exact ⟨k _ _ (.inl rfl) e, ih q⟩
  | tbl ps =>
    have e : h.get? a = some { cls := .none, data := .fields ps } := x
    show h'.get? a = some { cls := .none, data := .fields ps }
    exact k a _ (.inl rfl) e
  | met f y =>
    have e : h.get? a = some (PySem.W.methodObj (.ref f) (.ref y)) := x
    show h'.get? a = some (PySem.W.methodObj (.ref f) (.ref y))
    exact k a _ (.inl rfl) e
  | ext φ => obtain ⟨p, ⟨o, e⟩, st⟩ := x; exact ⟨st _ _ p fun o q => k _ _ (.inl rfl) q, ⟨o, k _ _ (.inl rfl) e⟩, st⟩
theorem HOk.lt (x : HOk P w H h) (e : H a = some o) : a < h.objs.size := (x a o e).lt
theorem HOk.fresh (x : HOk P w H h) (e : h.objs.size ≤ a) : H a = none := by
  cases q : H a with
  | none => rfl
  | some u => exact absurd (Nat.lt_of_lt_of_le (x.lt q) e) (Nat.lt_irrefl _)
theorem HOk.kept (x : HOk P w H h) (k : ∀ b u, h.get? b = some u → h'.get? b = some u) : HOk P w H h' := fun a o e =>
  (x a o e).stay (fun b u _ q => k b u q) (fun _ q => q) fun _ _ q => q
theorem HOk.laid (x : HOk P w H h) (k : ∀ b u, h.get? b = some u → h'.get? b = some u) (hp : h.objs.size ≤ a) (new : ObjOk P w (upd H a o) h' a o) : HOk P w (upd H a o) h' := fun b u e => by
  have hn := x.fresh hp
  by_cases hb : b = a
  · subst hb; rw [upd_same] at e; cases e; exact new
  · rw [upd_ne hb] at e
    exact (x b u e).stay (fun c v _ q => k c v q) (fun c q => by rw [upd_ne (ne_of_none q hn)]; exact q) fun c xs q => by rw [upd_ne (ne_of_none q hn)]; exact q
end

noncomputable def Rd (H : Hp) (a : Addr) (u : HO) : Prop := H a = some u ∨ ∃ o, H a = some (.frz o u)
theorem Rd.of {H : Hp} {a : Addr} {u : HO} (h : H a = some u) : Rd H a u := .inl h
theorem Rd.ok {P : Program} {w : World} {H : Hp} {h : Heap} {a : Addr} {u : HO} (r : Rd H a u) (x : HOk P w H h) : ObjOk P w H h a u := by
  rcases r with r | ⟨o, r⟩
  · exact x a u r
  · obtain ⟨_, q⟩ := x a _ r
    exact q
noncomputable def Mut : Option HO → Prop
  | some (.lst _) => True
  | some (.dK _) => True
  | some (.dT _) => True
  | some (.set _ _) => True
  | some (.ins _ _ _) => True
  | some (.ext _) => True
  | _ => False
section
variable {P : Program} {w : World} {H : Hp} {h h' : Heap} {x e : Addr} {o' : HO}
theorem HOk.write (ok : HOk P w H h) (mu : Mut (H x)) (he : e = x ∨ H e = some (.own x)) (k : ∀ b u, b ≠ e → h.get? b = some u → h'.get? b = some u) (heo : ∃ u, h'.get? e = some u)
    (new : ObjOk P w (upd H x o') h' x o') : HOk P w (upd H x o') h' := fun b u q => by
  have nown : ∀ c y, H c = some (.own y) → c ≠ x := fun c y r z => by subst z; rw [r] at mu; exact mu
  have ntup : ∀ c xs, H c = some (.tup xs) → c ≠ x := fun c xs r z => by subst z; rw [r] at mu; exact mu
  by_cases hb : b = x
  · subst hb; rw [upd_same] at q; cases q; exact new
  · rw [upd_ne hb] at q
    by_cases hbe : b = e
    · have q' : H b = some (.own x) := by
        rcases he with z | z
        · exact absurd (hbe.trans z) hb
        · rw [hbe]; exact z
      rw [q] at q'; cases q'
      obtain ⟨v, hv⟩ := heo
      exact ⟨v, by rw [hbe]; exact hv⟩
    · refine (ok b u q).stay (fun c v hc r => k c v ?_ r) (fun c r => by rw [upd_ne (nown c b r)]; exact r) fun c xs r => by rw [upd_ne (ntup c xs r)]; exact r
      rcases hc with rfl | hc
      · exact hbe
      · rintro rfl
        rcases he with z | z
        · exact nown c b hc z
        · rw [hc] at z; cases z; exact hb rfl
end

structure Un (fs ex : List Addr) (H H' : Hp) (h h' : Heap) : Prop where
  keep : ∀ b o, h.get? b = some o → H b = none → b ∉ fs → b ∉ ex → h'.get? b = some o
  slot : ∀ b o, h.get? b = some o → H b = none → b ∈ fs → b ∉ ex → ∃ sl, h'.get? b = some { o with slots := sl }
  free : ∀ b o, h.get? b = some o → H b = none → b ∉ ex → H' b = none
  there : ∀ b o, h.get? b = some o → b ∉ ex → ∃ o', h'.get? b = some o'
  tups : ∀ b xs, H b = some (.tup xs) → H' b = some (.tup xs)
  frzs : ∀ b o u, H b = some (.frz o u) → H' b = some (.frz o u)
  tbls : ∀ b ps, H b = some (.tbl ps) → ∃ more, H' b = some (.tbl (ps ++ more))
section
variable {fs fs' ex ex' : List Addr} {H H1 H2 : Hp} {h h1 h2 h' : Heap} {a x e : Addr} {o : HO}
theorem Un.any (u : Un fs ex H H1 h h1) {b : Addr} {ob : Obj} (q : h.get? b = some ob) (n : H b = none) (hx : b ∉ ex) : ∃ sl, h1.get? b = some { ob with slots := sl } := by
  by_cases hb : b ∈ fs
  · exact u.slot b ob q n hb hx
  · exact ⟨ob.slots, u.keep b ob q n hb hx⟩
theorem Un.trans (a : Un fs ex H H1 h h1) (b : Un fs ex H1 H2 h1 h2) : Un fs ex H H2 h h2 where
  keep := fun c ob q n hc hx => b.keep c ob (a.keep c ob q n hc hx) (a.free c ob q n hx) hc hx
  slot := fun c ob q n hc hx => by
    obtain ⟨sl, e1⟩ := a.slot c ob q n hc hx
    obtain ⟨sl', e2⟩ := b.slot c _ e1 (a.free c ob q n hx) hc hx
    exact ⟨sl', e2⟩
  free := fun c ob q n hx => by
    obtain ⟨o', e1⟩ := a.there c ob q hx
    exact b.free c o' e1 (a.free c ob q n hx) hx
  there := fun c ob q hx => by
    obtain ⟨o', e1⟩ := a.there c ob q hx
    exact b.there c o' e1 hx
  tups := fun c xs q => b.tups c xs (a.tups c xs q)
  frzs := fun c ob xs q => b.frzs c ob xs (a.frzs c ob xs q)
  tbls := fun c ps q => by
    obtain ⟨m1, e1⟩ := a.tbls c ps q
    obtain ⟨m2, e2⟩ := b.tbls c _ e1
    exact ⟨m1 ++ m2, by rw [e2, Array.append_assoc]⟩
theorem Un.kept (k : ∀ b u, h.get? b = some u → h'.get? b = some u) : Un fs ex H H h h' :=
  ⟨fun b ob q _ _ _ => k b ob q, fun b ob q _ _ _ => ⟨ob.slots, k b ob q⟩, fun _ _ _ n _ => n, fun b ob q _ => ⟨ob, k b ob q⟩, fun _ _ q => q, fun _ _ _ q => q, fun _ ps q => ⟨#[], by rw [q]; simp⟩⟩
theorem Un.refl : Un fs ex H H h h := Un.kept fun _ _ q => q
theorem Un.laid (k : ∀ b u, h.get? b = some u → h'.get? b = some u) (hp : h.objs.size ≤ a) (hn : H a = none) : Un fs ex H (upd H a o) h h' where
  keep := fun b u q _ _ _ => k b u q
  slot := fun b u q _ _ _ => ⟨u.slots, k b u q⟩
  free := fun b u q n _ => by rw [upd_ne (Nat.ne_of_lt (Nat.lt_of_lt_of_le (Heap.lt_size q) hp))]; exact n
  there := fun b u q _ => ⟨u, k b u q⟩
  tups := fun b xs q => by rw [upd_ne (ne_of_none q hn)]; exact q
  frzs := fun b u xs q => by rw [upd_ne (ne_of_none q hn)]; exact q
  tbls := fun b ps q => ⟨#[], by rw [upd_ne (ne_of_none q hn), q]; simp⟩
theorem Un.write (mu : Mut (H x)) (he : e = x ∨ H e = some (.own x)) (k : ∀ b u, b ≠ e → h.get? b = some u → h'.get? b = some u) (heo : ∃ u, h'.get? e = some u) : Un fs ex H (upd H x o) h h' := by
  have hx : ∀ b, H b = none → b ≠ x := fun b n z => by subst z; rw [n] at mu; exact mu
  have hb : ∀ b, H b = none → b ≠ e := fun b n z => by
    subst z
    rcases he with r | r
    · exact hx b n r
    · rw [n] at r; cases r
  have hm : ∀ b u, H b = some u → ¬ Mut (some u) → b ≠ x := fun b u q nm z => by subst z; rw [q] at mu; exact nm mu
  refine ⟨fun b u q n _ _ => k b u (hb b n) q, fun b u q n _ _ => ⟨u.slots, k b u (hb b n) q⟩, fun b u q n _ => by rw [upd_ne (hx b n)]; exact n, fun b u q _ => ?_,
    fun b xs q => by rw [upd_ne (hm b _ q fun z => z)]; exact q, fun b u xs q => by rw [upd_ne (hm b _ q fun z => z)]; exact q, fun b ps q => ⟨#[], by rw [upd_ne (hm b _ q fun z => z), q]; simp⟩⟩
  by_cases hbe : b = e
  · subst hbe; exact heo
  · exact ⟨u, k b u hbe q⟩
theorem Un.mono (u : Un fs ex H H1 h h1) (hs : ∀ b ∈ fs, b ∈ fs') (hx : ∀ b ∈ ex, b ∈ ex') : Un fs' ex' H H1 h h1 :=
  ⟨fun b ob q n hb he => u.keep b ob q n (fun z => hb (hs b z)) fun z => he (hx b z), fun _ _ q n _ he => u.any q n fun z => he (hx _ z), fun b ob q n he => u.free b ob q n fun z => he (hx b z), fun b ob q he => u.there b ob q fun z => he (hx b z), u.tups, u.frzs, u.tbls⟩
end

noncomputable def trk (h : Heap) (H : Hp) : List Addr := (List.range h.objs.size).filter fun a => (H a).isSome
noncomputable def hidT (h : Heap) (H : Hp) : Heap := PySem.W.hideAll h (trk h H)
theorem hidT_size (h : Heap) (H : Hp) : (hidT h H).objs.size = h.objs.size := PySem.W.hideAll_size _ _
theorem hidT_get {h : Heap} {H : Hp} {b : Addr} {o : Obj} (e : h.get? b = some o) (n : H b = none) : (hidT h H).get? b = some o :=
  PySem.W.hideAll_get _ e fun hm => by
    have q : (H b).isSome = true := (List.mem_filter.mp hm).2
    rw [n] at q; simp at q
theorem of_hidT {h : Heap} {H : Hp} {b : Addr} {o : Obj} (e : (hidT h H).get? b = some o) : h.get? b = some o ∧ H b = none := by
  have e' : h.get? b = some o := PySem.W.of_hideAll (trk h H) e
  refine ⟨e', ?_⟩
  cases q : H b with
  | none => rfl
  | some x =>
    have hm : b ∈ trk h H := List.mem_filter.mpr ⟨List.mem_range.mpr (Heap.lt_size e'), by simp [q]⟩
    have z : (hidT h H).get? b = none := PySem.W.hideAll_none (trk h H) hm
    rw [z] at e; cases e

noncomputable def allNews (g h : Heap) (L : Addr) : List (Addr × Obj) := (List.range h.objs.size).filterMap fun a => if a = L ∨ (g.get? a).isSome = true then none else (h.get? a).map fun o => (a, o)
noncomputable def rest (g h : Heap) (L d : Addr) : List (Addr × Obj) := (allNews g h L).filter fun p => decide (p.1 ≠ d)
end L2

namespace L2
open PySem PySem.Spec PyProof.Rows

structure Mod (K : PySem.W.Frag) (mg : Str → Option Value) (base : Heap) : Prop where
  kin : K.In base
  glob : base.Ns mainGlobals mg
  blt : ∃ mb, base.Ns builtinsNs mb ∧ ∀ x : Str, x ≠ "__name__" → mb x = bootBuiltins x
  nolimit : base.NoLimit

structure Cx where
  prog : Program
  w : World
  K : PySem.W.Frag
  mg : Str → Option Value
  base : Heap
  A : Around
  N : List Str
  s₀ : Shared
  H₀ : Hp
  env : Env
  outer : List Env
  stack : List Env
  ex : List Addr
  fn : Str → Bool
  calm : Bool
  pn : List (Addr × Obj)
  xe : Value → Shared → Prop
noncomputable def frs (l : List Env) : List Addr := l.filterMap (·.frame)
noncomputable abbrev Cx.fs (X : Cx) : List Addr := frs X.outer

noncomputable def Vis (sc : Scope) (x : Str) : Prop := sc.names.lookup x = some .local ∨ sc.names.lookup x = some .cell ∨ sc.names.lookup x = some .free
noncomputable def Loc (sc : Scope) (x : Str) : Prop := sc.names.lookup x = some .local ∨ sc.names.lookup x = some .cell
noncomputable def Look (env : Env) (h : Heap) (m : Str → Option Value) (x : Str) (u : Value) : Prop :=
  (env.kindOf x = some .local ∧ m x = some u) ∨ ((env.kindOf x = some .cell ∨ env.kindOf x = some .free) ∧ ∃ c, env.cells.lookup x = some c ∧ h.IsCell c (some u))

structure Cx.Ok (X : Cx) : Prop where
  mod : Mod X.K X.mg X.base
  kind : X.env.scope.kind = .function
  glob : X.env.globals = mainGlobals
  blt : X.env.builtins = builtinsNs
  above : X.s₀.heap.objs.size ≤ X.env.locals
  inj : ∀ x y c, X.env.cells.lookup x = some c → X.env.cells.lookup y = some c → x = y
  has : ∀ x, (X.env.kindOf x = some .cell ∨ X.env.kindOf x = some .free) → ∃ c, X.env.cells.lookup x = some c
  cab : ∀ x c, X.fn x = true → X.env.cells.lookup x = some c → X.s₀.heap.objs.size ≤ c
  hd : X.calm = true → X.A.handled = none
  frames : X.A.frames = some X.stack
  stk : X.stack = X.outer ∨ (X.stack = X.env :: X.outer ∧ X.env.frame = some X.env.locals)
  exf : ∀ b ∈ X.ex, b ≠ X.env.locals ∧ ∀ x c, X.env.cells.lookup x = some c → c ≠ b
  bs : ∀ b o, X.base.get? b = some o → X.s₀.heap.get? b = some o ∧ X.H₀ b = none
  bsz : X.base.objs.size ≤ X.s₀.heap.objs.size
  noex : ∀ b o, X.base.get? b = some o → b ∉ X.ex
  exfs : ∀ b ∈ X.ex, b ∉ X.fs
  funs : X.s₀.heap.FunFrames X.base X.outer
  frf : ∀ b ∈ X.fs, X.H₀ b = none

structure Inv (X : Cx) (pins : List (Addr × Obj)) (σ : List (Option V)) (H : Hp) (s : Shared) : Prop where
  ok : X.Ok
  os : s.os = X.s₀.os
  bare : AllBare s.gens
  base : Un X.fs X.ex X.H₀ H X.s₀.heap s.heap
  loc : ∃ m, s.heap.Ns X.env.locals m ∧ ∀ (i : Nat) (x : Str) (v : V), X.N[i]? = some x → σ[i]? = some (some v) → Vis X.env.scope x → ∃ u, RelV v u ∧ Look X.env s.heap m x u
  cell : ∀ x c, X.env.cells.lookup x = some c → ∃ v, s.heap.IsCell c v
  free : H X.env.locals = none
  freeC : ∀ x c, X.env.cells.lookup x = some c → H c = none
  pin : ∀ p ∈ X.pn ++ pins, s.heap.get? p.1 = some p.2 ∧ H p.1 = none ∧ p.1 ≠ X.env.locals ∧ p.1 ∉ X.fs ∧ ∀ v, p.2.data ≠ .cell v
  hok : HOk X.prog X.w H s.heap
  len : σ.length = X.N.length

section
variable {X : Cx} {pins : List (Addr × Obj)} {σ : List (Option V)} {H H' : Hp} {s : Shared} {h' : Heap}

theorem Cx.Ok.nofr (ok : X.Ok) {b : Addr} {o : Obj} (e : X.base.get? b = some o) : b ∉ X.fs := fun hb => by
  have := (ok.funs.mem hb).1
  rw [e] at this; cases this
theorem Inv.bs (I : Inv X pins σ H s) : ∀ b o, X.base.get? b = some o → s.heap.get? b = some o ∧ H b = none := fun b o e =>
  ⟨I.base.keep b o (I.ok.bs b o e).1 (I.ok.bs b o e).2 (I.ok.nofr e) (I.ok.noex b o e), I.base.free b o (I.ok.bs b o e).1 (I.ok.bs b o e).2 (I.ok.noex b o e)⟩
theorem Inv.bk (I : Inv X pins σ H s) : ∀ b o, X.base.get? b = some o → s.heap.get? b = some o := fun b o e => (I.bs b o e).1
theorem Inv.mod (I : Inv X pins σ H s) : Mod X.K X.mg X.base := I.ok.mod
theorem Inv.kIn (I : Inv X pins σ H s) : X.K.In s.heap := I.ok.mod.kin.keeps I.bk
theorem Inv.nolimit (I : Inv X pins σ H s) : s.heap.NoLimit := I.ok.mod.nolimit.keeps I.bk
theorem Inv.fr (I : Inv X pins σ H s) : ∃ m, Fr X.base X.env.locals s.heap m :=
  let ⟨m, hn, _⟩ := I.loc
  ⟨m, hn, I.bk, Nat.le_trans I.ok.bsz I.ok.above⟩
theorem Inv.lt (I : Inv X pins σ H s) : X.env.locals < s.heap.objs.size := let ⟨_, hn, _⟩ := I.loc; hn.lt
theorem Inv.sz (I : Inv X pins σ H s) : X.s₀.heap.objs.size ≤ s.heap.objs.size := Nat.le_trans I.ok.above (Nat.le_of_lt I.lt)
theorem Inv.nofs (I : Inv X pins σ H s) {a : Addr} (h : s.heap.objs.size ≤ a) : a ∉ X.fs := fun hb => by
  obtain ⟨_, o, ho, _⟩ := I.ok.funs.mem hb
  exact absurd (Nat.lt_of_lt_of_le (Heap.lt_size ho) (Nat.le_trans I.sz h)) (Nat.lt_irrefl _)
theorem Inv.cne (I : Inv X pins σ H s) : ∀ x c, X.env.cells.lookup x = some c → c ≠ X.env.locals := fun x c e z => by
  obtain ⟨v, o, ho, hd⟩ := I.cell x c e
  obtain ⟨m, ⟨o', es, ep, ho', hd', _⟩, _⟩ := I.loc
  rw [z, ho'] at ho; cases ho; rw [hd'] at hd; cases hd
theorem Inv.funs (I : Inv X pins σ H s) : s.heap.FunFrames X.base X.outer := by
  have all : ∀ (l : List Env), (∀ b ∈ frs l, b ∈ X.fs) → X.s₀.heap.FunFrames X.base l → s.heap.FunFrames X.base l := by
    intro l
    induction l with
    | nil => intro _ _; trivial
    | cons env r ih =>
      intro hs hl
      obtain ⟨hk, ⟨L, o, hf, hn, ho, hd⟩, hr⟩ := hl
      have hL : L ∈ X.fs := hs L (by unfold frs; rw [List.filterMap_cons, hf]; exact List.mem_cons_self)
      obtain ⟨sl, e⟩ := I.base.slot L o ho (I.ok.frf L hL) hL fun z => I.ok.exfs L z hL
      exact ⟨hk, ⟨L, _, hf, hn, e, hd⟩, ih (fun b hb => hs b (by unfold frs; rw [List.filterMap_cons, hf]; exact List.mem_cons_of_mem _ hb)) hr⟩
  exact all X.outer (fun _ hb => hb) I.ok.funs

theorem Inv.stack (I : Inv X pins σ H s) : s.heap.FunFrames X.base X.stack := by
  rcases I.ok.stk with e | ⟨e, hf⟩
  · rw [e]; exact I.funs
  · rw [e]
    obtain ⟨m, hn, _⟩ := I.loc
    refine .cons (by rw [I.ok.kind]; decide) hf hn ?_ I.funs
    exact Heap.get?_none_of_le (Nat.le_trans I.ok.bsz I.ok.above)
theorem Inv.stkSub (I : Inv X pins σ H s) : ∀ b ∈ frs X.stack, b ∈ X.env.locals :: X.fs := fun b hb => by
  rcases I.ok.stk with e | ⟨e, hf⟩
  · rw [e] at hb; exact List.mem_cons_of_mem _ hb
  · rw [e] at hb
    unfold frs at hb
    rw [List.filterMap_cons, hf] at hb
    exact hb
theorem Inv.stkFree (I : Inv X pins σ H s) : ∀ b ∈ frs X.stack, H b = none := fun b hb => by
  rcases List.mem_cons.mp (I.stkSub b hb) with e | hb
  · rw [e]; exact I.free
  · obtain ⟨_, o, ho, _⟩ := I.ok.funs.mem hb
    exact I.base.free b o ho (I.ok.frf b hb) fun z => I.ok.exfs b z hb

theorem Inv.step {g' : Array GenState} {t' : Nat} {d' : Drawn} {ch : List Addr} (I : Inv X pins σ H s)
    (hch : ∀ b ∈ ch, (b ∈ X.ex ∨ X.s₀.heap.objs.size ≤ b) ∧ b ≠ X.env.locals ∧ (∀ x c, X.env.cells.lookup x = some c → c ≠ b) ∧ ∀ p ∈ X.pn ++ pins, p.1 ≠ b)
    (keep : ∀ b o, b ≠ X.env.locals → b ∉ X.fs → b ∉ ch → s.heap.get? b = some o → H b = none → h'.get? b = some o)
    (slot : ∀ b o, b ≠ X.env.locals → b ∈ X.fs → b ∉ ch → s.heap.get? b = some o → H b = none → ∃ sl, h'.get? b = some { o with slots := sl }) (free : ∀ b o, b ∉ ch → s.heap.get? b = some o → H b = none → H' b = none)
    (there : ∀ b o, b ∉ ch → s.heap.get? b = some o → ∃ o', h'.get? b = some o')
    (tups : ∀ b xs, H b = some (.tup xs) → H' b = some (.tup xs)) (frzs : ∀ b o u, H b = some (.frz o u) → H' b = some (.frz o u)) (tbls : ∀ b ps, H b = some (.tbl ps) → ∃ more, H' b = some (.tbl (ps ++ more)))
    (ns : ∀ m, s.heap.Ns X.env.locals m → h'.Ns X.env.locals m) (hok : HOk X.prog X.w H' h') (hg : AllBare g') :
    Inv X pins σ H' { s with heap := h', gens := g', drawn := d', toks := t' } := by
  have neL : ∀ b o, X.s₀.heap.get? b = some o → b ≠ X.env.locals := fun b o e => Nat.ne_of_lt (Nat.lt_of_lt_of_le (Heap.lt_size e) I.ok.above)
  have neC : ∀ b o, X.s₀.heap.get? b = some o → b ∉ X.ex → b ∉ ch := fun b o e hx hb => by
    rcases (hch b hb).1 with z | z
    · exact hx z
    · exact absurd (Nat.lt_of_lt_of_le (Heap.lt_size e) z) (Nat.lt_irrefl _)
  have cellK : ∀ x c, X.env.cells.lookup x = some c → ∀ v, s.heap.IsCell c v → h'.IsCell c v := fun x c e v ⟨o, ho, hd⟩ => by
    have nch : c ∉ ch := fun z => (hch c z).2.2.1 x c e rfl
    by_cases hc : c ∈ X.fs
    · obtain ⟨sl, q⟩ := slot c o (I.cne x c e) hc nch ho (I.freeC x c e)
      exact ⟨_, q, hd⟩
    · exact ⟨o, keep c o (I.cne x c e) hc nch ho (I.freeC x c e), hd⟩
  refine ⟨I.ok, I.os, hg, ⟨fun b o e n hb hx => ?_, fun b o e n hb hx => ?_, fun b o e n hx => ?_, fun b o e hx => ?_, fun b xs e => tups b xs (I.base.tups b xs e), fun b o xs e => frzs b o xs (I.base.frzs b o xs e), fun b ps e => ?_⟩, ?_, fun x c e => ?_, ?_, fun x c e => ?_, fun p hp => ?_, hok, I.len⟩
  · exact keep b o (neL b o e) hb (neC b o e hx) (I.base.keep b o e n hb hx) (I.base.free b o e n hx)
  · obtain ⟨sl, e1⟩ := I.base.slot b o e n hb hx
    obtain ⟨sl', e2⟩ := slot b _ (neL b o e) hb (neC b o e hx) e1 (I.base.free b o e n hx)
    exact ⟨sl', e2⟩
  · obtain ⟨o', e1⟩ := I.base.there b o e hx
    exact free b o' (neC b o e hx) e1 (I.base.free b o e n hx)
  · obtain ⟨o', e1⟩ := I.base.there b o e hx
    exact there b o' (neC b o e hx) e1
  · obtain ⟨m1, e1⟩ := I.base.tbls b ps e
    obtain ⟨m2, e2⟩ := tbls b _ e1
    exact ⟨m1 ++ m2, by rw [e2, Array.append_assoc]⟩
  · obtain ⟨m, hn, hl⟩ := I.loc
    refine ⟨m, ns m hn, fun i x v e1 e2 e3 => ?_⟩
    obtain ⟨u, r, l⟩ := hl i x v e1 e2 e3
    refine ⟨u, r, ?_⟩
    rcases l with l | ⟨k, c, e, z⟩
    · exact .inl l
    · exact .inr ⟨k, c, e, cellK x c e _ z⟩
  · obtain ⟨v, z⟩ := I.cell x c e
    exact ⟨v, cellK x c e v z⟩
  · obtain ⟨m, ⟨o, _, _, ho, _⟩, _⟩ := I.loc
    exact free _ o (fun z => (hch _ z).2.1 rfl) ho I.free
  · obtain ⟨v, o, ho, hd⟩ := I.cell x c e
    exact free c o (fun z => (hch c z).2.2.1 x c e rfl) ho (I.freeC x c e)
  · obtain ⟨e, n, ne, nf, d⟩ := I.pin p hp
    have nch : p.1 ∉ ch := fun z => (hch p.1 z).2.2.2 p hp rfl
    exact ⟨keep p.1 p.2 ne nf nch e n, free p.1 p.2 nch e n, ne, nf, d⟩
theorem Inv.un {t' : Nat} (I : Inv X pins σ H s) (u : Un X.fs [] H H' s.heap h') (hok : HOk X.prog X.w H' h') : Inv X pins σ H' { s with heap := h', toks := t' } := by
  obtain ⟨m, ⟨o, es, ep, ho, r⟩, _⟩ := id I.loc
  obtain ⟨sl, hL⟩ := u.any ho I.free (by simp)
  exact I.step (g' := s.gens) (d' := s.drawn) (ch := []) (fun _ z => nomatch z) (fun b o _ hb _ e n => u.keep b o e n hb (by simp)) (fun b o _ hb _ e n => u.slot b o e n hb (by simp)) (fun b o _ e n => u.free b o e n (by simp)) (fun b o _ e => u.there b o e (by simp)) u.tups u.frzs u.tbls (fun m' hm => by
    obtain ⟨o', es', ep', ho', r'⟩ := hm
    rw [ho] at ho'; cases ho'
    exact ⟨_, es', ep', hL, r'⟩) hok I.bare
theorem Inv.call {g' : Array GenState} {t' : Nat} {d' : Drawn} {ch : List Addr} (I : Inv X pins σ H s) (u : Un (frs X.stack) ch H H' s.heap h') (hok : HOk X.prog X.w H' h') (hg : AllBare g')
    (hch : ∀ b ∈ ch, (b ∈ X.ex ∨ X.s₀.heap.objs.size ≤ b) ∧ b ≠ X.env.locals ∧ (∀ x c, X.env.cells.lookup x = some c → c ≠ b) ∧ ∀ p ∈ X.pn ++ pins, p.1 ≠ b) :
    Inv X pins σ H' { s with heap := h', gens := g', drawn := d', toks := t' } := by
  obtain ⟨m, ⟨o, es, ep, ho, r⟩, _⟩ := id I.loc
  obtain ⟨sl, hL⟩ := u.any ho I.free fun z => (hch _ z).2.1 rfl
  exact I.step (ch := ch) hch (fun b o hL hb hc e n => u.keep b o e n (fun z => (List.mem_cons.mp (I.stkSub b z)).elim hL hb) hc) (fun b o _ _ hc e n => u.any e n hc) (fun b o hc e n => u.free b o e n hc) (fun b o hc e => u.there b o e hc) u.tups u.frzs u.tbls (fun m' hm => by
    obtain ⟨o', es', ep', ho', r'⟩ := hm
    rw [ho] at ho'; cases ho'
    exact ⟨_, es', ep', hL, r'⟩) hok hg
theorem Inv.turned {t' : Nat} {it : Addr} (I : Inv X pins σ H s) (k : ∀ b o, b ≠ it → s.heap.get? b = some o → h'.get? b = some o) (hn : H it = none) (hL : it ≠ X.env.locals)
    (h1 : it ∈ X.ex ∨ X.s₀.heap.objs.size ≤ it) (h2 : ∀ x c, X.env.cells.lookup x = some c → c ≠ it) (h3 : ∀ p ∈ X.pn ++ pins, p.1 ≠ it) : Inv X pins σ H { s with heap := h', toks := t' } := by
  have nit : ∀ b u, H b = some u → b ≠ it := fun b u e z => by rw [z, hn] at e; cases e
  refine I.step (g' := s.gens) (d' := s.drawn) (ch := [it]) (fun b hb => ?_) (fun b o _ _ hc e _ => k b o (fun z => hc (by simp [z])) e) (fun b o _ _ hc e _ => ⟨o.slots, k b o (fun z => hc (by simp [z])) e⟩) (fun _ _ _ _ n => n)
    (fun b o hc e => ⟨o, k b o (fun z => hc (by simp [z])) e⟩) (fun _ _ e => e) (fun _ _ _ e => e) (fun b ps e => ⟨#[], by rw [e]; simp⟩) (fun m hm => ?_) (fun b u e => ?_) I.bare
  · have e : b = it := by simpa using hb
    subst e
    exact ⟨h1, hL, h2, h3⟩
  · obtain ⟨o, es, ep, ho, r⟩ := hm
    exact ⟨o, es, ep, k _ o (Ne.symm hL) ho, r⟩
  · refine (I.hok b u e).stay (fun c v hc q => k c v ?_ q) (fun _ q => q) fun _ _ q => q
    rcases hc with z | z
    · rw [z]; exact nit b u e
    · exact nit c _ z
theorem Inv.tok (I : Inv X pins σ H s) (t : Nat) : Inv X pins σ H { s with toks := t } := I.un (h' := s.heap) (t' := t) Un.refl I.hok
theorem Inv.kept {t' : Nat} (I : Inv X pins σ H s) (k : ∀ b u, s.heap.get? b = some u → h'.get? b = some u) : Inv X pins σ H { s with heap := h', toks := t' } := I.un (Un.kept k) (I.hok.kept k)
theorem Inv.laid {a : Addr} {o : HO} {t' : Nat} (I : Inv X pins σ H s) (k : ∀ b u, s.heap.get? b = some u → h'.get? b = some u) (hp : s.heap.objs.size ≤ a) (new : ObjOk X.prog X.w (upd H a o) h' a o) :
    Inv X pins σ (upd H a o) { s with heap := h', toks := t' } := I.un (Un.laid k hp (I.hok.fresh hp)) (I.hok.laid k hp new)
theorem Inv.write {x e : Addr} {o : HO} {t' : Nat} (I : Inv X pins σ H s) (mu : Mut (H x)) (he : e = x ∨ H e = some (.own x)) (k : ∀ b u, b ≠ e → s.heap.get? b = some u → h'.get? b = some u) (heo : ∃ u, h'.get? e = some u)
    (new : ObjOk X.prog X.w (upd H x o) h' x o) : Inv X pins σ (upd H x o) { s with heap := h', toks := t' } := I.un (Un.write mu he k heo) (I.hok.write mu he k heo new)
theorem Inv.weak {σ' : List (Option V)} (I : Inv X pins σ H s) (hl : σ'.length = σ.length) (w : ∀ (i : Nat) v, σ'[i]? = some (some v) → σ[i]? = some (some v)) : Inv X pins σ' H s :=
  ⟨I.ok, I.os, I.bare, I.base, let ⟨m, hn, hl'⟩ := I.loc; ⟨m, hn, fun i x v e1 e2 e3 => hl' i x v e1 (w i v e2) e3⟩, I.cell, I.free, I.freeC, I.pin, I.hok, hl.trans I.len⟩
theorem Inv.pins_of {pins' : List (Addr × Obj)} (I : Inv X pins σ H s) (h : ∀ p ∈ pins', s.heap.get? p.1 = some p.2 ∧ H p.1 = none ∧ p.1 ≠ X.env.locals ∧ p.1 ∉ X.fs ∧ ∀ v, p.2.data ≠ .cell v) : Inv X pins' σ H s :=
  ⟨I.ok, I.os, I.bare, I.base, I.loc, I.cell, I.free, I.freeC, fun p hp => (List.mem_append.mp hp).elim (fun z => I.pin p (List.mem_append_left _ z)) (h p), I.hok, I.len⟩

theorem nodup_ix {N : List Str} (hN : N.Nodup) {i j : Nat} {x : Str} (a : N[i]? = some x) (b : N[j]? = some x) : i = j := by
  obtain ⟨h1, e1⟩ := List.getElem?_eq_some_iff.mp a
  obtain ⟨h2, e2⟩ := List.getElem?_eq_some_iff.mp b
  exact (List.getElem_inj hN).mp (e1.trans e2.symm)

theorem store_ok2 {M : Model} {A : Around} {E : Value → Shared → Prop} {i : Nat} {x : Str} {v : V} {u : Value} {Q : Unit → Shared → Prop} (I : Inv X pins σ H s) (hN : X.N.Nodup) (hi : X.N[i]? = some x) (hx : Loc X.env.scope x) (r : RelV v u)
    (h : ∀ s', Inv X pins (σ.set i (some v)) H s' → (∃ a, Heap.SameBut a s.heap s'.heap ∧ (a = X.env.locals ∨ X.env.cells.lookup x = some a)) → Q () s') (hf : X.fn x = true ∨ X.env.scope.names.lookup x = some .local := by first | exact .inl rfl | exact .inr rfl | assumption) : wpAny M A (storeName X.env x u) Q E s := by
  obtain ⟨m, hn, hl⟩ := id I.loc
  have hcls : (X.env.scope.kind == .class || (X.env.scope.kind == .module && X.env.locals != X.env.globals)) = false := by rw [I.ok.kind]; rfl
  have hiσ : i < σ.length := by rw [I.len]; exact (List.getElem?_eq_some_iff.mp hi).1
  have cne := I.cne
  have tracked : ∀ {a : Addr} {h' : Heap}, (∃ o, s.heap.get? a = some o ∧ H a = none) → Heap.SameBut a s.heap h' → HOk X.prog X.w H h' := fun {a h'} ha hs b ob e => by
    obtain ⟨_, _, hfree⟩ := ha
    refine (I.hok b ob e).stay (fun c w' hc q => (hs.2 c ?_).trans q) (fun _ q => q) fun _ _ q => q
    rintro rfl
    rcases hc with rfl | hc
    · rw [hfree] at e; cases e
    · rw [hfree] at hc; cases hc
  rcases hx with hk | hk
  · refine wpAny_storeName_local hk hn (fun h' hn' hs => ?_) hcls
    obtain ⟨oL, _, _, hoL, _⟩ := id hn
    refine h _ ⟨I.ok, I.os, I.bare, ⟨fun b o e n hb hx => ?_, fun b o e n hb hx => ?_, I.base.free, fun b o e hx => ?_, I.base.tups, I.base.frzs, I.base.tbls⟩, ⟨_, hn', fun j y v' e1 e2 e3 => ?_⟩, fun y c e => ?_, I.free, I.freeC, fun p hp => ?_, tracked ⟨oL, hoL, I.free⟩ hs, by simpa using I.len⟩ ⟨_, hs, .inl rfl⟩
    · exact (hs.2 b (Nat.ne_of_lt (Nat.lt_of_lt_of_le (Heap.lt_size e) I.ok.above))).trans (I.base.keep b o e n hb hx)
    · obtain ⟨sl, e1⟩ := I.base.slot b o e n hb hx
      exact ⟨sl, (hs.2 b (Nat.ne_of_lt (Nat.lt_of_lt_of_le (Heap.lt_size e) I.ok.above))).trans e1⟩
    · obtain ⟨o', e1⟩ := I.base.there b o e hx
      exact ⟨o', (hs.2 b (Nat.ne_of_lt (Nat.lt_of_lt_of_le (Heap.lt_size e) I.ok.above))).trans e1⟩
    · by_cases hj : j = i
      · subst hj
        rw [hi] at e1; cases e1
        rw [List.getElem?_set_self hiσ] at e2
        cases e2
        exact ⟨u, r, .inl ⟨hk, by simp⟩⟩
      · rw [List.getElem?_set_ne (Ne.symm hj)] at e2
        obtain ⟨u', r', q⟩ := hl j y v' e1 e2 e3
        refine ⟨u', r', ?_⟩
        rcases q with ⟨k, e⟩ | ⟨k, c, e, z⟩
        · refine .inl ⟨k, ?_⟩
          have : y ≠ x := fun e => hj (nodup_ix hN e1 (e ▸ hi))
          simp [this, e]
        · exact .inr ⟨k, c, e, z.sameBut hs (cne y c e)⟩
    · obtain ⟨w', z⟩ := I.cell y c e
      exact ⟨w', z.sameBut hs (cne y c e)⟩
    · obtain ⟨e, n, ne, nf, d⟩ := I.pin p hp
      exact ⟨(hs.2 p.1 ne).trans e, n, ne, nf, d⟩
  · have hfn : X.fn x = true := by
      rcases hf with z | z
      · exact z
      · rw [z] at hk; cases hk
    obtain ⟨c, hc⟩ := I.ok.has x (.inl hk)
    obtain ⟨w', z⟩ := I.cell x c hc
    refine wpAny_storeName_cell I.ok.kind hk hc z (fun h' hc' hs => ?_)
    obtain ⟨oc, hoc, hocd⟩ := id z
    refine h { s with heap := h' } ⟨I.ok, I.os, I.bare, ⟨fun b o e n hb hx => ?_, fun b o e n hb hx => ?_, I.base.free, fun b o e hx => ?_, I.base.tups, I.base.frzs, I.base.tbls⟩, ⟨m, hn.sameBut hs (Ne.symm (cne x c hc)), fun j y v' e1 e2 e3 => ?_⟩, fun y c' e => ?_, I.free, I.freeC, fun p hp => ?_, tracked ⟨oc, hoc, I.freeC x c hc⟩ hs, by simpa using I.len⟩ ⟨c, hs, .inr hc⟩
    · exact (hs.2 b (Nat.ne_of_lt (Nat.lt_of_lt_of_le (Heap.lt_size e) (I.ok.cab x c hfn hc)))).trans (I.base.keep b o e n hb hx)
    · obtain ⟨sl, e1⟩ := I.base.slot b o e n hb hx
      exact ⟨sl, (hs.2 b (Nat.ne_of_lt (Nat.lt_of_lt_of_le (Heap.lt_size e) (I.ok.cab x c hfn hc)))).trans e1⟩
    · obtain ⟨o', e1⟩ := I.base.there b o e hx
      exact ⟨o', (hs.2 b (Nat.ne_of_lt (Nat.lt_of_lt_of_le (Heap.lt_size e) (I.ok.cab x c hfn hc)))).trans e1⟩
    · by_cases hj : j = i
      · subst hj
        rw [hi] at e1; cases e1
        rw [List.getElem?_set_self hiσ] at e2
        cases e2
        exact ⟨u, r, .inr ⟨.inl hk, c, hc, hc'⟩⟩
      · rw [List.getElem?_set_ne (Ne.symm hj)] at e2
        obtain ⟨u', r', q⟩ := hl j y v' e1 e2 e3
        refine ⟨u', r', ?_⟩
        rcases q with q | ⟨k, c', e, z'⟩
        · exact .inl q
        · refine .inr ⟨k, c', e, z'.sameBut hs ?_⟩
          rintro rfl
          exact hj (nodup_ix hN e1 (I.ok.inj _ _ _ e hc ▸ hi))
    · by_cases hcc : c' = c
      · subst hcc; exact ⟨_, hc'⟩
      · obtain ⟨w2, z2⟩ := I.cell y c' e
        exact ⟨w2, z2.sameBut hs hcc⟩
    · obtain ⟨e, n, ne, nf, d⟩ := I.pin p hp
      refine ⟨(hs.2 p.1 ?_).trans e, n, ne, nf, d⟩
      intro q
      rw [q, hoc] at e
      have q' : oc = p.2 := Option.some.inj e
      exact d w' (by rw [← q']; exact hocd)
theorem store_ok {M : Model} {A : Around} {E : Value → Shared → Prop} {i : Nat} {x : Str} {v : V} {u : Value} {Q : Unit → Shared → Prop} (I : Inv X pins σ H s) (hN : X.N.Nodup) (hi : X.N[i]? = some x) (hx : Loc X.env.scope x) (r : RelV v u)
    (h : ∀ s', Inv X pins (σ.set i (some v)) H s' → Q () s') (hf : X.fn x = true ∨ X.env.scope.names.lookup x = some .local := by first | exact .inl rfl | exact .inr rfl | assumption) : wpAny M A (storeName X.env x u) Q E s :=
  store_ok2 I hN hi hx r (fun s' I' _ => h s' I') hf
theorem Inv.call' {s' : Shared} {ch : List Addr} (I : Inv X pins σ H s) (ho : s'.os = s.os) (u : Un (frs X.stack) ch H H' s.heap s'.heap) (hok : HOk X.prog X.w H' s'.heap) (hg : AllBare s'.gens)
    (hch : ∀ b ∈ ch, (b ∈ X.ex ∨ X.s₀.heap.objs.size ≤ b) ∧ b ≠ X.env.locals ∧ (∀ x c, X.env.cells.lookup x = some c → c ≠ b) ∧ ∀ p ∈ X.pn ++ pins, p.1 ≠ b) : Inv X pins σ H' s' := by
  obtain ⟨h', g', d', t', o'⟩ := s'
  have e : o' = s.os := ho
  subst e
  exact I.call (g' := g') (t' := t') (d' := d') u hok hg hch
end

noncomputable abbrev XK := Value → Option Addr → Hp → Prop
noncomputable abbrev St := List (Option V)
noncomputable abbrev VK := V → Hp → Prop
noncomputable abbrev TE := St → Hp → VK → Prop
noncomputable abbrev TT := St → Hp → (Bool → Hp → Prop) → Prop
noncomputable abbrev TA := St → Hp → (List V → Hp → Prop) → Prop
structure Ends where
  nx : St → Hp → Prop
  rt : VK
  bk : St → Hp → Prop := fun _ _ => False
  ct : St → Hp → Prop := fun _ _ => False
noncomputable abbrev TS := Ends → St → Hp → Prop

noncomputable def EP (X : Cx) (pins : List (Addr × Obj)) (σ : St) (Q : VK) (u : Value) (s' : Shared) : Prop := ∃ v H', Inv X pins σ H' s' ∧ RelV v u ∧ Q v H'
noncomputable def TP (X : Cx) (pins : List (Addr × Obj)) (σ : St) (Q : Bool → Hp → Prop) (b : Bool) (s' : Shared) : Prop := ∃ H', Inv X pins σ H' s' ∧ Q b H'
noncomputable def AP (X : Cx) (pins : List (Addr × Obj)) (σ : St) (Q : List V → Hp → Prop) (us : List Value) (s' : Shared) : Prop := ∃ vs H', Inv X pins σ H' s' ∧ Vals vs us ∧ Q vs H'
noncomputable def SP (X : Cx) (pins : List (Addr × Obj)) (D : Ends) (f : Flow) (s' : Shared) : Prop :=
  match f with
  | .next => ∃ σ' H', Inv X pins σ' H' s' ∧ D.nx σ' H'
  | .brk => ∃ σ' H', Inv X pins σ' H' s' ∧ D.bk σ' H'
  | .cont => ∃ σ' H', Inv X pins σ' H' s' ∧ D.ct σ' H'
  | .ret u => ∃ v σ' H', Inv X pins σ' H' s' ∧ RelV v u ∧ D.rt v H'

noncomputable def PE (X : Cx) (e : Expr) (t : TE) : Prop :=
  ∀ (pins : List (Addr × Obj)) (s : Shared) (σ : St) (H : Hp) (Q : VK), Inv X pins σ H s → t σ H Q → wpAny (model X.prog X.w) X.A (eval e X.env) (EP X pins σ Q) X.xe s
noncomputable def PT (X : Cx) (e : Expr) (t : TT) : Prop :=
  ∀ (pins : List (Addr × Obj)) (s : Shared) (σ : St) (H : Hp) (Q : Bool → Hp → Prop), Inv X pins σ H s → t σ H Q → wpAny (model X.prog X.w) X.A (isTrue e X.env (eval e X.env)) (TP X pins σ Q) X.xe s
noncomputable def PW (X : Cx) (e : Expr) (t : TT) : Prop :=
  ∀ (whole : Sem Value) (pins : List (Addr × Obj)) (s : Shared) (σ : St) (H : Hp) (Q : Bool → Hp → Prop), Inv X pins σ H s → t σ H Q → wpAny (model X.prog X.w) X.A (isTrue e X.env whole) (TP X pins σ Q) X.xe s
theorem PW.pt {X : Cx} {e : Expr} {t : TT} (h : PW X e t) : PT X e t := h _
noncomputable def PA (X : Cx) (es : List Expr) (t : TA) : Prop :=
  ∀ (pos : Pos) (pins : List (Addr × Obj)) (s : Shared) (σ : St) (H : Hp) (Q : List V → Hp → Prop), Inv X pins σ H s → t σ H Q → wpAny (model X.prog X.w) X.A (spliced (backTo pos (starEach es X.env))) (AP X pins σ Q) X.xe s
noncomputable def PS (X : Cx) (st : Stmt) (t : TS) : Prop :=
  ∀ (pins : List (Addr × Obj)) (s : Shared) (σ : St) (H : Hp) (D : Ends), Inv X pins σ H s → t D σ H → wpAny (model X.prog X.w) X.A (exec st X.env) (SP X pins D) X.xe s
noncomputable def PSs (X : Cx) (st : List Stmt) (t : TS) : Prop :=
  ∀ (pins : List (Addr × Obj)) (s : Shared) (σ : St) (H : Hp) (D : Ends), Inv X pins σ H s → t D σ H → wpAny (model X.prog X.w) X.A (execs st X.env) (SP X pins D) X.xe s
theorem thn {α : Type} {t : Sem α} {Q Q' : α → Shared → Prop} {M : Model} {A : Around} {E : Value → Shared → Prop} {s : Shared} (h : wpAny M A t Q E s) (hQ : ∀ a s, Q a s → Q' a s) : wpAny M A t Q' E s := wpAny_mono h hQ fun _ _ x => x
end L2

namespace L2
open PySem PySem.Spec PyProof.Rows
section
variable {X : Cx}

noncomputable def tVar (i : Nat) : TE := fun σ H Q => ∃ v, σ[i]? = some (some v) ∧ Q v H
noncomputable def tC (v : V) : TE := fun _ H Q => Q v H
theorem pe_var {i : Nat} {x : Str} {pos : Pos} (hN : X.N[i]? = some x) (hv : Vis X.env.scope x) (hd : (x == ("__debug__" : Str)) = false := by decide) (hcd : (x == ("__classdict__" : Str)) = false := by decide) : PE X (.Name x pos) (tVar i) := by
  intro pins s σ H Q I h
  obtain ⟨v, e, h⟩ := h
  obtain ⟨m, hn, hl⟩ := I.loc
  obtain ⟨u, r, l⟩ := hl i x v hN e hv
  have fin : EP X pins σ Q u s := ⟨v, H, I, r, h⟩
  rcases l with ⟨hk, hm⟩ | ⟨hk, c, hc, hcell⟩
  · exact wpAny_Name (wpAny_loadName_local I.ok.kind hk hn hm fin) hd
  · rcases hk with hk | hk
    · exact wpAny_Name (wpAny_loadName_cell I.ok.kind hk hc hcell fin) hd
    · exact wpAny_Name (wpAny_loadName_free I.ok.kind hk hc hcell fin hcd) hd
theorem pe_int {i j pos} : PE X (.Constant (.int i) j pos) (tC (.int i)) := fun _ _ _ H _ I h => wpAny_Constant_int ⟨.int i, H, I.tok _, ⟨_, rfl⟩, h⟩
theorem pe_bl {b j pos} : PE X (.Constant (.bool b) j pos) (tC (.bl b)) := fun _ _ _ H _ I h => Constant_bool ⟨.bl b, H, I, rfl, h⟩
theorem pe_non {j pos} : PE X (.Constant .none j pos) (tC .non) := fun _ _ _ H _ I h => Constant_none ⟨.non, H, I, rfl, h⟩
noncomputable def Gl (X : Cx) (x : Str) : Prop := X.env.kindOf x = some .globalImplicit
theorem ld_glob {E : Value → Shared → Prop} {pins : List (Addr × Obj)} {s : Shared} {σ : St} {H : Hp} {x : Str} {u : Value} {pos : Pos} {Q : Value → Shared → Prop} (I : Inv X pins σ H s) (hg : Gl X x) (hm : X.mg x = some u) (h : Q u s)
    (hd : (x == ("__debug__" : Str)) = false := by decide) : wpAny (model X.prog X.w) X.A (eval (.Name x pos) X.env) Q E s :=
  Calls.Name_function_global I.ok.kind hg (Calls.loadGlobal_global (by rw [I.ok.glob]; exact I.mod.glob.keeps I.bk) hm h) hd
theorem ld_blt {E : Value → Shared → Prop} {pins : List (Addr × Obj)} {s : Shared} {σ : St} {H : Hp} {x : Str} {u : Value} {pos : Pos} {Q : Value → Shared → Prop} (I : Inv X pins σ H s) (hg : Gl X x) (hm : X.mg x = none) (hv : bootBuiltins x = some u) (h : Q u s)
    (hn : x ≠ "__name__" := by decide) (hd : (x == ("__debug__" : Str)) = false := by decide) : wpAny (model X.prog X.w) X.A (eval (.Name x pos) X.env) Q E s := by
  obtain ⟨mb, h1, h2⟩ := I.mod.blt
  exact Calls.Name_function_global I.ok.kind hg (Calls.loadGlobal_builtin (by rw [I.ok.glob]; exact I.mod.glob.keeps I.bk) hm (by rw [I.ok.blt]; exact h1.keeps I.bk) ((h2 x hn).trans hv) h) hd
theorem pe_glob {x : Str} {v : V} {u : Value} {pos : Pos} (hg : Gl X x) (hm : X.mg x = some u) (r : RelV v u) (hd : (x == ("__debug__" : Str)) = false := by decide) : PE X (.Name x pos) (tC v) :=
  fun _ _ _ H _ I h => ld_glob I hg hm ⟨v, H, I, r, h⟩ hd
theorem pe_bltn {x : Str} {v : V} {u : Value} {pos : Pos} (hg : Gl X x) (hm : X.mg x = none) (hv : bootBuiltins x = some u) (r : RelV v u) (hn : x ≠ "__name__" := by decide) (hd : (x == ("__debug__" : Str)) = false := by decide) : PE X (.Name x pos) (tC v) :=
  fun _ _ _ H _ I h => ld_blt I hg hm hv ⟨v, H, I, r, h⟩ hn hd

variable {a b : Expr} {ta tb : TE} {pos : Pos}
variable {tA tB' : TT} {rest : List Expr}
noncomputable def tOr (t u : TT) : TT := fun σ H Q => t σ H fun c H1 => if c = true then Q true H1 else u σ H1 Q
noncomputable def tNot (t : TT) : TT := fun σ H Q => t σ H fun c H1 => Q (!c) H1
theorem pw_or1 (ha : PT X a tA) : PW X (.BoolOp .Or [a] pos) tA := by
  intro wh pins s σ H Q I h
  refine isTrue_or (thn (ha pins s σ H Q I h) fun c s1 e => ?_)
  cases c with
  | false => exact isTrue_or_nil e
  | true => exact e
theorem pw_or (ha : PT X a tA) (hb : PW X (.BoolOp .Or (b :: rest) pos) tB') : PW X (.BoolOp .Or (a :: b :: rest) pos) (tOr tA tB') := by
  intro wh pins s σ H Q I h
  refine isTrue_or (thn (ha pins s σ H _ I h) fun c s1 ⟨H1, I1, q1⟩ => ?_)
  cases c with
  | true => exact ⟨H1, I1, q1⟩
  | false => exact hb wh pins s1 σ H1 Q I1 q1
theorem pt_not (ha : PT X a tA) : PT X (.UnaryOp .Not a pos) (tNot tA) := by
  intro pins s σ H Q I h
  exact isTrue_not (ha pins s σ H (fun c H1 => Q (!c) H1) I h)
noncomputable def tAndV (ta tb : TE) : TE := fun σ H Q => ta σ H fun x H1 => ∃ c, x = .bl c ∧ if c = true then tb σ H1 Q else Q (.bl false) H1
theorem pe_one {op} {t : TE} (h : PE X a t) : PE X (.BoolOp op [a] pos) t := fun pins s σ H Q I hw => BoolOp_one (h pins s σ H Q I hw)
theorem pe_and (ha : PE X a ta) (hb : PE X (.BoolOp .And (b :: rest) pos) tb) : PE X (.BoolOp .And (a :: b :: rest) pos) (tAndV ta tb) := by
  intro pins s σ H Q I h
  refine BoolOp_and (thn (ha pins s σ H _ I h) fun v s1 ⟨x, H1, I1, r1, q1⟩ => ?_)
  obtain ⟨c, rfl, q1⟩ := q1
  cases r1
  refine wpAny_truthy_bool ?_
  cases c with
  | true => exact hb pins s1 σ H1 Q I1 q1
  | false => exact ⟨.bl false, H1, I1, rfl, q1⟩
noncomputable def tIf (t : TT) (ta tb : TE) : TE := fun σ H Q => t σ H fun c H1 => if c = true then ta σ H1 Q else tb σ H1 Q
theorem pe_ifExp {c : Expr} (hc : PT X c tA) (ha : PE X a ta) (hb : PE X b tb) : PE X (.IfExp c a b pos) (tIf tA ta tb) := by
  intro pins s σ H Q I h
  refine wpAny_IfExp (thn (hc pins s σ H _ I h) fun d s1 ⟨H1, I1, q1⟩ => ?_)
  cases d with
  | true => exact ha pins s1 σ H1 Q I1 q1
  | false => exact hb pins s1 σ H1 Q I1 q1
end
end L2

namespace L2
open PySem PySem.Spec PyProof.Rows

noncomputable def SqL (K : PySem.W.Frag) (H : Hp) (a : Addr) (xs : List V) : Prop :=
  Rd H a (.lst xs) ∨
    ∃ (o : Obj) (its : Array Value) (n : Nat), K.lookup a = some o ∧ o.cls = .type "list" ∧ o.dict = none ∧ o.data = .seq its n ∧ its.size ≤ sizeLine ∧ Vals xs its.toList
noncomputable def SqT (K : PySem.W.Frag) (H : Hp) (a : Addr) (xs : List V) : Prop :=
  Rd H a (.tup xs) ∨
    ∃ (o : Obj) (its : Array Value) (n : Nat), K.lookup a = some o ∧ o.cls = .type "tuple" ∧ o.data = .seq its n ∧ its.size ≤ sizeLine ∧ Vals xs its.toList
noncomputable def absV : Value → Option V
  | .none => some .non
  | .bool b => some (.bl b)
  | .int i _ => some (.int i)
  | .str x _ => some (.str x)
  | .bytes b _ => some (.byt b)
  | .float b _ => some (.flt b)
  | .ref a => some (.ref a)
  | .type n => some (.ty n)
  | _ => none
theorem RelV.abs {x : V} {u : Value} (r : RelV x u) : absV u = some x := by
  cases x with
  | non => cases r; rfl
  | bl _ => cases r; rfl
  | int _ => obtain ⟨t, rfl⟩ := r; rfl
  | str _ => obtain ⟨t, rfl⟩ := r; rfl
  | byt _ => obtain ⟨t, rfl⟩ := r; rfl
  | flt _ => obtain ⟨t, rfl⟩ := r; rfl
  | ref _ => cases r; rfl
  | ty _ => cases r; rfl
theorem RelV.inj {x y : V} {u : Value} (r : RelV x u) (q : RelV y u) : x = y := Option.some.inj (r.abs.symm.trans q.abs)
theorem Vals.inj : ∀ {xs ys : List V} {us : List Value}, Vals xs us → Vals ys us → xs = ys
  | _, _, _, .nil, .nil => rfl
  | _, _, _, .cons r t, .cons r' t' => by rw [r.inj r', Vals.inj t t']
section
variable {X : Cx} {pins : List (Addr × Obj)} {σ : St} {H : Hp} {s : Shared} {a : Addr} {xs ys : List V}
theorem SqL.of {K : PySem.W.Frag} (h : H a = some (.lst xs)) : SqL K H a xs := .inl (.inl h)
theorem SqT.of {K : PySem.W.Frag} (h : H a = some (.tup xs)) : SqT K H a xs := .inl (.inl h)
theorem Inv.list (I : Inv X pins σ H s) (h : SqL X.K H a xs) : ∃ its : List Value, Vals xs its ∧ PlainL s.heap a its.toArray ∧ xs.length ≤ sizeLine := by
  rcases h with h | ⟨o, its, n, hk, hc, hd, hs, hz, r⟩
  · obtain ⟨z, its, n, r, e⟩ := h.ok I.hok
    exact ⟨its, r, ⟨_, n, e, rfl, rfl, rfl⟩, z⟩
  · refine ⟨its.toList, r, ⟨o, n, I.kIn a o hk, hc, hd, by simpa using hs⟩, ?_⟩
    have e := r.length
    simp only [Array.length_toList] at e
    omega
theorem Inv.tuple (I : Inv X pins σ H s) (h : SqT X.K H a xs) : ∃ its : List Value, Vals xs its ∧ IsTup s.heap a its.toArray ∧ xs.length ≤ sizeLine := by
  rcases h with h | ⟨o, its, n, hk, hc, hs, hz, r⟩
  · obtain ⟨z, its, r, p⟩ := h.ok I.hok
    exact ⟨its, r, p, z⟩
  · refine ⟨its.toList, r, ⟨o, I.kIn a o hk, hc, n, by simpa using hs⟩, ?_⟩
    have e := r.length
    simp only [Array.length_toList] at e
    omega
theorem Inv.list_inj (I : Inv X pins σ H s) (h : SqL X.K H a xs) (h' : SqL X.K H a ys) : xs = ys := by
  obtain ⟨its, r, ⟨o, n, e, _, _, d⟩, _⟩ := I.list h
  obtain ⟨its', r', ⟨o', n', e', _, _, d'⟩, _⟩ := I.list h'
  rw [e] at e'; cases e'
  rw [d] at d'
  injection d' with d1 _
  have : its = its' := by simpa using congrArg Array.toList d1
  subst this
  exact r.inj r'
end

noncomputable abbrev Cx.wish (X : Cx) (E : Value → Shared → Prop) : Cx := { X with xe := E }
noncomputable abbrev Cx.nox (X : Cx) : Cx := X.wish fun _ _ => False
theorem Cx.Ok.wish {X : Cx} (ok : X.Ok) (E : Value → Shared → Prop) : (X.wish E).Ok :=
  ⟨ok.mod, ok.kind, ok.glob, ok.blt, ok.above, ok.inj, ok.has, ok.cab, ok.hd, ok.frames, ok.stk, ok.exf, ok.bs, ok.bsz, ok.noex, ok.exfs, ok.funs, ok.frf⟩
theorem Cx.Ok.unwish {X : Cx} {E : Value → Shared → Prop} (ok : (X.wish E).Ok) : X.Ok :=
  ⟨ok.mod, ok.kind, ok.glob, ok.blt, ok.above, ok.inj, ok.has, ok.cab, ok.hd, ok.frames, ok.stk, ok.exf, ok.bs, ok.bsz, ok.noex, ok.exfs, ok.funs, ok.frf⟩
section
variable {X : Cx} {pins : List (Addr × Obj)} {σ : St} {H : Hp} {s : Shared} {E : Value → Shared → Prop}
theorem Inv.wish (I : Inv X pins σ H s) (E : Value → Shared → Prop) : Inv (X.wish E) pins σ H s := ⟨I.ok.wish E, I.os, I.bare, I.base, I.loc, I.cell, I.free, I.freeC, I.pin, I.hok, I.len⟩
theorem Inv.unwish (I : Inv (X.wish E) pins σ H s) : Inv X pins σ H s := ⟨I.ok.unwish, I.os, I.bare, I.base, I.loc, I.cell, I.free, I.freeC, I.pin, I.hok, I.len⟩
theorem SP.unwish {D : Ends} {f : Flow} {s' : Shared} (h : SP (X.wish E) pins D f s') : SP X pins D f s' := by
  cases f with
  | next => obtain ⟨σ', H', I, q⟩ := h; exact ⟨σ', H', I.unwish, q⟩
  | brk => obtain ⟨σ', H', I, q⟩ := h; exact ⟨σ', H', I.unwish, q⟩
  | cont => obtain ⟨σ', H', I, q⟩ := h; exact ⟨σ', H', I.unwish, q⟩
  | ret u => obtain ⟨v, σ', H', I, r, q⟩ := h; exact ⟨v, σ', H', I.unwish, r, q⟩
theorem PE.nox {e : Expr} {t : TE} (h : PE X.nox e t) : PE X e t := fun pins s σ H Q I hw =>
  wpAny_mono (h pins s σ H Q (I.wish _) hw) (fun _ _ ⟨v, H', I', r, q⟩ => ⟨v, H', I'.unwish, r, q⟩) fun _ _ z => False.elim z
theorem PT.nox {e : Expr} {t : TT} (h : PT X.nox e t) : PT X e t := fun pins s σ H Q I hw =>
  wpAny_mono (h pins s σ H Q (I.wish _) hw) (fun _ _ ⟨H', I', q⟩ => ⟨H', I'.unwish, q⟩) fun _ _ z => False.elim z
theorem PSs.nox {st : List Stmt} {t : TS} (h : PSs X.nox st t) : PSs X st t := fun pins s σ H D I hw =>
  wpAny_mono (h pins s σ H D (I.wish _) hw) (fun _ _ q => q.unwish) fun _ _ z => False.elim z
end

section
variable {X : Cx} {st : Stmt} {rest : List Stmt} {t u : TS} {e : Expr} {te : TE} {pos : Pos}
noncomputable def tNext : TS := fun D σ H => D.nx σ H
noncomputable def tSeq (t u : TS) : TS := fun D σ H => t { D with nx := u D } σ H
theorem pss_nil : PSs X [] tNext := fun _ _ σ H _ I h => wpAny_execs_nil ⟨σ, H, I, h⟩
theorem pss_cons (h1 : PS X st t) (h2 : PSs X rest u) : PSs X (st :: rest) (tSeq t u) := by
  intro pins s σ H D I h
  refine wpAny_execs_cons (thn (h1 pins s σ H { D with nx := u D } I h) fun f s1 q => ?_)
  cases f with
  | next =>
    obtain ⟨σ', H', I', q⟩ := q
    exact h2 pins s1 σ' H' D I' q
  | ret v => exact q
  | brk => exact q
  | cont => exact q
theorem pss_one (h1 : PS X st t) : PSs X [st] t := by
  intro pins s σ H D I h
  refine wpAny_execs_cons (thn (h1 pins s σ H D I h) fun f s1 q => ?_)
  cases f with
  | next => exact wpAny_execs_nil q
  | ret v => exact q
  | brk => exact q
  | cont => exact q
theorem Inv.quiet {pins : List (Addr × Obj)} {σ : St} {H : Hp} {s : Shared} (I : Inv X pins σ H s) : interactive X.env = false := by simp [interactive, I.ok.kind]
noncomputable def tDrop (te : TE) : TS := fun D σ H => te σ H fun _ H1 => D.nx σ H1
theorem ps_expr (he : PE X e te) (hs : swapsWith e none pos.line X.env = pure false := by rfl) : PS X (.Expr e pos) (tDrop te) := by
  intro pins s σ H D I h
  exact wpAny_Expr_any (thn (he pins s σ H _ I h) fun v s1 ⟨x, H1, I1, r1, q1⟩ => ⟨σ, H1, I1, q1⟩) I.quiet hs
noncomputable def tRet (te : TE) : TS := fun D σ H => te σ H D.rt
theorem ps_ret (he : PE X e te) : PS X (.Return (some e) pos) (tRet te) := by
  intro pins s σ H D I h
  exact wpAny_Return_some (thn (he pins s σ H _ I h) fun v s1 ⟨x, H1, I1, r1, q1⟩ => ⟨x, σ, H1, I1, r1, q1⟩)
noncomputable def tIfS (c : TT) (t u : TS) : TS := fun D σ H => c σ H fun b H1 => if b = true then t D σ H1 else u D σ H1
theorem ps_if {c : Expr} {a b : List Stmt} {tc : TT} (hc : PT X c tc) (ha : PSs X a t) (hb : PSs X b u) : PS X (.If c a b pos) (tIfS tc t u) := by
  intro pins s σ H D I h
  refine wpAny_If (thn (hc pins s σ H _ I h) fun d s1 ⟨H1, I1, q1⟩ => ?_)
  cases d with
  | true => exact ha pins s1 σ H1 D I1 q1
  | false => exact hb pins s1 σ H1 D I1 q1
noncomputable def tNever : TS := fun _ _ _ => False
theorem ps_never : PS X st tNever := fun _ _ _ _ _ _ h => h.elim
end

noncomputable abbrev TG := V → St → Hp → (St → Hp → Prop) → Prop
noncomputable abbrev TGs := List V → St → Hp → (St → Hp → Prop) → Prop
noncomputable def PG (X : Cx) (target : Expr) (t : TG) : Prop :=
  ∀ (pins : List (Addr × Obj)) (s : Shared) (σ : St) (H : Hp) (v : V) (u : Value) (Q : St → Hp → Prop), Inv X pins σ H s → RelV v u → t v σ H Q →
    wpAny (model X.prog X.w) X.A (assign target X.env u) (fun _ s' => ∃ σ' H', Inv X pins σ' H' s' ∧ Q σ' H') X.xe s
noncomputable def PGs (X : Cx) (ts : List Expr) (t : TGs) : Prop :=
  ∀ (pins : List (Addr × Obj)) (s : Shared) (σ : St) (H : Hp) (vs : List V) (us : List Value) (Q : St → Hp → Prop), Inv X pins σ H s → Vals vs us → t vs σ H Q →
    wpAny (model X.prog X.w) X.A (assignInOrder ((assignEach ts X.env).map (·.2)) us) (fun _ s' => ∃ σ' H', Inv X pins σ' H' s' ∧ Q σ' H') X.xe s
noncomputable abbrev TIp := V → V → Hp → VK → Prop
noncomputable def PIp (X : Cx) (op : Operator) (t : TIp) : Prop :=
  ∀ (pins : List (Addr × Obj)) (s : Shared) (σ : St) (H : Hp) (x y : V) (v u : Value) (Q : VK), Inv X pins σ H s → RelV x v → RelV y u → t x y H Q →
    wpAny (model X.prog X.w) X.A (inplaceOp op v u) (EP X pins σ Q) X.xe s
section
variable {X : Cx} {pos : Pos}
noncomputable def gName (i : Nat) : TG := fun v σ H Q => Q (σ.set i (some v)) H
theorem pg_name {i : Nat} {x : Str} (hN : X.N.Nodup) (hi : X.N[i]? = some x) (hx : Loc X.env.scope x) (hf : X.fn x = true ∨ X.env.scope.names.lookup x = some .local := by first | exact .inl rfl | exact .inr rfl | assumption) : PG X (.Name x pos) (gName i) := by
  intro pins s σ H v u Q I r h
  exact wpAny_assign_Name (store_ok I hN hi hx r (fun s' I' => ⟨_, H, I', h⟩) hf)
noncomputable def gNil : TGs := fun vs σ H Q => vs = [] ∧ Q σ H
noncomputable def gCons (t : TG) (u : TGs) : TGs := fun vs σ H Q => ∃ v r, vs = v :: r ∧ t v σ H fun σ' H' => u r σ' H' Q
theorem pgs_nil : PGs X [] gNil := by
  intro pins s σ H vs us Q I r h
  obtain ⟨e, h⟩ := h
  subst e
  cases r
  exact assignInOrder_nil ⟨σ, H, I, h⟩
theorem pgs_cons {e : Expr} {es : List Expr} {t : TG} {u : TGs} (h1 : PG X e t) (h2 : PGs X es u)
    (hs : (assignEach (e :: es) X.env).map (·.2) = assign e X.env :: (assignEach es X.env).map (·.2) := by rfl) : PGs X (e :: es) (gCons t u) := by
  intro pins s σ H vs us Q I r h
  obtain ⟨v, vr, e1, h⟩ := h
  subst e1
  cases r with
  | cons r rr =>
    rw [hs]
    refine assignInOrder_cons (thn (h1 pins s σ H _ _ _ I r h) fun _ s1 ⟨σ1, H1, I1, q1⟩ => ?_)
    exact h2 pins s1 σ1 H1 _ _ Q I1 rr q1
noncomputable def gTup (K : PySem.W.Frag) (n : Nat) (t : TGs) : TG := fun v σ H Q => ∃ a xs, v = .ref a ∧ SqT K H a xs ∧ xs.length = n ∧ t xs σ H Q
theorem pg_tup {es : List Expr} {k : Nat} {t : TGs} {n : Nat} (hc : X.calm = true) (h : PGs X es t)
    (hn : (assignEach es X.env).length = n := by rfl) (hst : (assignEach es X.env).findIdx? (·.1) = none := by rfl) : PG X (.Tuple es k pos) (gTup X.K n t) := by
  intro pins s σ H v u Q I r hw
  obtain ⟨a, xs, e1, hq, hl, hw⟩ := hw
  subst e1
  cases r
  obtain ⟨its, rv, ht, hz⟩ := I.tuple hq
  refine assign_Tuple_tuple (I.ok.hd hc) ht (by simp [hn, ← hl, rv.length]) hst fun h' hx => ?_
  have I1 : Inv X pins σ H { s with heap := h' } := I.kept (t' := s.toks) fun b o e => hx b o (Nat.ne_of_lt (Heap.lt_size e)) e
  exact h pins _ σ H xs _ Q I1 (by simpa using rv) hw
noncomputable def tAsg (te : TE) (g : TG) : TS := fun D σ H => te σ H fun x H1 => g x σ H1 D.nx
theorem ps_set {i : Nat} {x : Str} {e : Expr} {te : TE} {pos' : Pos} (hN : X.N.Nodup) (hi : X.N[i]? = some x) (hx : Loc X.env.scope x) (he : PE X e te) (hs : swapsWith e (some (.Name x pos')) pos.line X.env = pure false := by rfl) (hf : X.fn x = true ∨ X.env.scope.names.lookup x = some .local := by first | exact .inl rfl | exact .inr rfl | assumption) :
    PS X (.Assign [.Name x pos'] e pos) (tAsg te (gName i)) := by
  intro pins s σ H D I h
  refine wpAny_Assign_Name (thn (he pins s σ H _ I h) fun v s1 ⟨y, H1, I1, r1, q1⟩ => ?_) hs
  exact store_ok I1 hN hi hx r1 (fun s2 I2 => ⟨_, H1, I2, q1⟩) hf
noncomputable def tAug (i : Nat) (te : TE) (ti : TIp) : TS := fun D σ H => ∃ x, σ[i]? = some (some x) ∧ te σ H fun y H1 => ti x y H1 fun z H2 => D.nx (σ.set i (some z)) H2
theorem ps_aug {i : Nat} {x : Str} {e : Expr} {te : TE} {op : Operator} {ti : TIp} {pos' : Pos} (hN : X.N.Nodup) (hi : X.N[i]? = some x) (hx : Loc X.env.scope x) (he : PE X e te) (ho : PIp X op ti) (hf : X.fn x = true ∨ X.env.scope.names.lookup x = some .local := by first | exact .inl rfl | exact .inr rfl | assumption) :
    PS X (.AugAssign (.Name x pos') op e pos) (tAug i te ti) := by
  intro pins s σ H D I h
  obtain ⟨v, e1, h⟩ := h
  obtain ⟨m, hn, hl⟩ := I.loc
  have vis : Vis X.env.scope x := by rcases hx with k | k; exact .inl k; exact .inr (.inl k)
  obtain ⟨u, r, l⟩ := hl i x v hi e1 vis
  refine wpAny_AugAssign_Name ?_
  have go : wpAny (model X.prog X.w) X.A (eval e X.env) (fun w s₂ => wpAny (model X.prog X.w) X.A (inplaceOp op u w) (fun r s₃ => wpAny (model X.prog X.w) X.A (storeName X.env x r) (fun _ => SP X pins D .next) X.xe s₃) X.xe s₂) X.xe s := by
    refine thn (he pins s σ H _ I h) fun w s1 ⟨y, H1, I1, r1, q1⟩ => ?_
    refine thn (ho pins s1 σ H1 v y u w _ I1 r r1 q1) fun z s2 ⟨zv, H2, I2, r2, q2⟩ => ?_
    exact store_ok I2 hN hi hx r2 (fun s3 I3 => ⟨_, H2, I3, q2⟩) hf
  rcases l with ⟨hk, hm⟩ | ⟨hk, c, hc, hcell⟩
  · exact wpAny_loadName_local I.ok.kind hk hn hm go
  · rcases hk with hk | hk
    · exact wpAny_loadName_cell I.ok.kind hk hc hcell go
    · rcases hx with k | k
      · have : X.env.scope.names.lookup x = some .free := hk
        rw [k] at this; cases this
      · have : X.env.scope.names.lookup x = some .free := hk
        rw [k] at this; cases this
end

section
variable {X : Cx} {pos : Pos}
noncomputable def tWhile (c : TT) (tb : TS) : TS := fun D σ H => ∃ W : Nat → St → Hp → Prop, (∃ m, W m σ H) ∧ ∀ m σ H, W m σ H →
  c σ H fun b H1 => if b = true then ∃ N : St → Hp → Prop, (∀ σ' H', N σ' H' → ∃ m', m' < m ∧ W m' σ' H') ∧ tb { D with nx := N, ct := N, bk := D.nx } σ H1 else D.nx σ H1
theorem ps_while {c : Expr} {body : List Stmt} {tc : TT} {tb : TS} (hp : PassesOwn (model X.prog X.w) X.A X.env X.xe) (hc : PT X c tc) (hb : PSs X body tb) : PS X (.While c body [] pos) (tWhile tc tb) := by
  intro pins s σ H D I h
  obtain ⟨W, ⟨m0, w0⟩, turn⟩ := h
  refine wpAny_While (codeAny_whileLoop (fun n s' => ∃ σ' H', Inv X pins σ' H' s' ∧ W n σ' H') ?_ m0 ⟨σ, H, I, w0⟩)
  rintro n s1 ⟨σ1, H1, I1, w1⟩
  refine wpAny_passesOwn hp (thn (hc pins s1 σ1 H1 _ I1 (turn n σ1 H1 w1)) fun b s2 ⟨H2, I2, q2⟩ => ?_)
  cases b with
  | true =>
    obtain ⟨N, hN, q2⟩ := q2
    rw [if_pos rfl]
    refine wpAny_passesOwn hp (thn (hb pins s2 σ1 H2 _ I2 q2) fun f s3 q3 => ?_)
    cases f with
    | next =>
      obtain ⟨σ3, H3, I3, n3⟩ := q3
      obtain ⟨m', hm, w3⟩ := hN σ3 H3 n3
      exact ⟨m', hm, σ3, H3, I3, w3⟩
    | cont =>
      obtain ⟨σ3, H3, I3, n3⟩ := q3
      obtain ⟨m', hm, w3⟩ := hN σ3 H3 n3
      exact ⟨m', hm, σ3, H3, I3, w3⟩
    | brk => exact q3
    | ret v => exact q3
  | false =>
    rw [if_neg Bool.false_ne_true]
    exact wpAny_execs_nil ⟨σ1, H2, I2, q2⟩
end

structure It where
  go : Nat → Hp → Prop
  yld : Nat → Hp → V → Hp → Prop
  stop : Nat → Hp → Prop
noncomputable def FpOk (X : Cx) (pins : List (Addr × Obj)) (H : Hp) (b : Addr) : Prop :=
  H b = none ∧ b ≠ X.env.locals ∧ b ∉ X.fs ∧ (b ∈ X.ex ∨ X.s₀.heap.objs.size ≤ b) ∧ (∀ x c, X.env.cells.lookup x = some c → c ≠ b) ∧ ∀ p ∈ X.pn ++ pins, p.1 ≠ b
theorem Inv.fpOk {X : Cx} {pins : List (Addr × Obj)} {σ : St} {H H' : Hp} {s : Shared} {b : Addr} (I : Inv X pins σ H s) (hb : s.heap.objs.size ≤ b) (hn : H' b = none) : FpOk X pins H' b := by
  refine ⟨hn, Nat.ne_of_gt (Nat.lt_of_lt_of_le I.lt hb), I.nofs hb, .inr (Nat.le_trans I.sz hb), fun x c e z => ?_, fun p hp z => ?_⟩
  · obtain ⟨v, q⟩ := I.cell x c e
    exact absurd (Nat.lt_of_lt_of_le q.lt (by rw [z]; exact hb)) (Nat.lt_irrefl _)
  · exact absurd (Nat.lt_of_lt_of_le (Heap.lt_size (I.pin p hp).1) (by rw [z]; exact hb)) (Nat.lt_irrefl _)
structure Turn (P : Program) (w : World) (K : PySem.W.Frag) (tg : Expr) (J : It) (fp : List Addr) (it : Addr) (tn : Nat → Heap → Prop) : Prop where
  mem : it ∈ fp
  obj : ∀ i h, tn i h → ∀ b ∈ fp, ∃ o, h.get? b = some o ∧ ∀ v, o.data ≠ .cell v
  keep : ∀ i h h', tn i h → (∀ b ∈ fp, ∀ o, h.get? b = some o → h'.get? b = some o) → tn i h'
  item : ∀ (X : Cx), X.prog = P → X.w = w → X.K = K → X.calm = true → ∀ (i : Nat) (pins : List (Addr × Obj)) (s : Shared) (σ : St) (H : Hp) (E : Value → Shared → Prop), Inv X pins σ H s → (∀ b ∈ fp, FpOk X pins H b) → tn i s.heap → J.go i H →
    wpAny (model P w) X.A (pyNext (.ref it)) (fun r s1 => ∃ u, r = some u ∧
      wpAny (model P w) X.A (letOwnedTupleGo tg (.ref it) u) (fun _ s2 => ∃ x H', Inv X pins σ H' s2 ∧ RelV x u ∧ J.yld i H x H' ∧ tn (i + 1) s2.heap ∧ ∀ b ∈ fp, H' b = none) E s1) E s
  done : ∀ (X : Cx), X.prog = P → X.w = w → X.K = K → X.calm = true → ∀ (i : Nat) (pins : List (Addr × Obj)) (s : Shared) (σ : St) (H : Hp) (E : Value → Shared → Prop), Inv X pins σ H s → (∀ b ∈ fp, FpOk X pins H b) → tn i s.heap → J.stop i H →
    wpAny (model P w) X.A (pyNext (.ref it)) (fun r s1 => r = none ∧ Inv X pins σ H s1) E s
  self : ∀ (A : Around) (i : Nat) (s : Shared) (Q : Value → Shared → Prop) (E : Value → Shared → Prop), tn i s.heap → Q (.ref it) s → wpAny (model P w) A (pyIter (.ref it)) Q E s
noncomputable abbrev TI := St → Hp → (It → Hp → Prop) → Prop
noncomputable def PIE (X : Cx) (pins : List (Addr × Obj)) (σ : St) (tg : Expr) (R : It → Hp → Prop) (itv : Value) (s2 : Shared) : Prop :=
  ∃ (it : Addr) (fp : List Addr) (tn : Nat → Heap → Prop) (J : It) (H' : Hp), itv = .ref it ∧ Inv X pins σ H' s2 ∧ Turn X.prog X.w X.K tg J fp it tn ∧ tn 0 s2.heap ∧ (∀ b ∈ fp, FpOk X pins H' b) ∧ R J H'
noncomputable def PI (X : Cx) (tg iter : Expr) (wi : TI) : Prop :=
  ∀ (pins : List (Addr × Obj)) (s : Shared) (σ : St) (H : Hp) (R : It → Hp → Prop), Inv X pins σ H s → wi σ H R →
    wpAny (model X.prog X.w) X.A (eval iter X.env) (fun v s1 => wpAny (model X.prog X.w) X.A (pyIter v) (PIE X pins σ tg R) X.xe s1) X.xe s

theorem go_of {M : Model} {A : Around} {E : Value → Shared → Prop} {s : Shared} {tg : Expr} {it : Addr} {u : Value} {o : Obj} {n : String} {vs : Array Value} {Q : Unit → Shared → Prop} (ho : s.heap.get? it = some o) (hc : o.cls = .type n) (hd : o.data = .fields vs)
    (hn : ["enumerate", "zip", "dict_itemiterator", "dict_reverseitemiterator", "odict_iterator", "itertools.zip_longest", "itertools.pairwise"].contains n = false) (hQ : Q () s) : wpAny M A (letOwnedTupleGo tg (.ref it) u) Q E s := by
  unfold letOwnedTupleGo
  cases tg <;> first
    | exact wpAny_pure hQ
    | (cases u <;> first
        | exact wpAny_pure hQ
        | (refine wpAny_bind (wpAny_load ho ?_)
           rw [hc, hd]
           show wpAny M A (if (["enumerate", "zip", "dict_itemiterator", "dict_reverseitemiterator", "odict_iterator", "itertools.zip_longest", "itertools.pairwise"].contains n && vs[0]? == some (rawInt _)) = true then _ else _) Q E s
           rw [if_neg (by intro h; rw [hn, Bool.false_and] at h; cases h)]
           exact wpAny_pure hQ))

noncomputable def Itl (K : PySem.W.Frag) (a : Addr) : It :=
  ⟨fun i H => ∃ xs x, SqL K H a xs ∧ xs[i]? = some x, fun i H x H' => H' = H ∧ ∀ xs, SqL K H a xs → xs[i]? = some x, fun i H => ∃ xs, SqL K H a xs ∧ xs.length ≤ i⟩
noncomputable def Itr (lo : Int) (n : Nat) : It := ⟨fun i _ => i < n, fun i H x H' => H' = H ∧ x = .int (lo + i), fun i _ => n ≤ i⟩
theorem turn_list {P : Program} {w : World} {K : PySem.W.Frag} {tg : Expr} (a it : Addr) : Turn P w K tg (Itl K a) [it] it (fun i h => h.IsListIter it a i) where
  mem := by simp
  obj := fun i h st b hb => by
    have e : b = it := by simpa using hb
    subst e
    obtain ⟨o, e, c, d⟩ := st
    exact ⟨o, e, fun v z => by rw [d] at z; cases z⟩
  keep := fun i h h' st k => st.at fun o e => k it (by simp) o e
  item := by
    intro X hP hw hK hc i pins s σ H E I hf st hg
    subst hP hw hK
    obtain ⟨xs, x, hq, hx⟩ := hg
    obtain ⟨its, rv, p, hz⟩ := I.list hq
    obtain ⟨u, hu, ru⟩ := rv.get hx
    obtain ⟨f0, f1, f2, f3, f4, f5⟩ := hf it (by simp)
    refine wpAny_pyNext_list_item st p.isList (x := u) (by simpa using hu) fun h' st' sb => ?_
    have I1 : Inv X pins σ H { s with heap := h' } := I.turned (t' := s.toks) (fun b o hb e => (sb.2 b hb).trans e) f0 f1 f3 f4 f5
    obtain ⟨o, e, c, d⟩ := id st'
    exact ⟨u, rfl, go_of (s := { s with heap := h' }) e c d (by decide) ⟨x, H, I1, ru, ⟨rfl, fun ys hy => by rw [I.list_inj hy hq]; exact hx⟩, st', fun b hb => (hf b hb).1⟩⟩
  done := by
    intro X hP hw hK hc i pins s σ H E I hf st hg
    subst hP hw hK
    obtain ⟨xs, hq, hx⟩ := hg
    obtain ⟨its, rv, p, hz⟩ := I.list hq
    obtain ⟨f0, f1, f2, f3, f4, f5⟩ := hf it (by simp)
    have hl := rv.length
    exact wpAny_pyNext_list_end (I.ok.hd hc) st p.isList (by simp; omega) fun h' eb => ⟨rfl, I.turned (t' := s.toks) (fun b o hb e => eb b o hb e) f0 f1 f3 f4 f5⟩
  self := fun _ _ _ _ _ st h => wpAny_pyIter_listiter st h
theorem turn_range {P : Program} {w : World} {K : PySem.W.Frag} {tg : Expr} (it : Addr) (lo : Int) (n : Nat) : Turn P w K tg (Itr lo n) [it] it (fun i h => IsRangeIter h it (lo + (i : Nat) * 1) ((n : Int) - (i : Nat)) 1) where
  mem := by simp
  obj := fun i h st b hb => by
    have e : b = it := by simpa using hb
    subst e
    exact ⟨_, st, fun v z => by
      have z' : Data.fields _ = Data.cell v := z
      cases z'⟩
  keep := fun i h h' st k => k it (by simp) _ st
  item := by
    intro X hP hw hK hc i pins s σ H E I hf st hg
    subst hP hw hK
    obtain ⟨f0, f1, f2, f3, f4, f5⟩ := hf it (by simp)
    have W := Walks.range (prog := X.prog) (w := X.w) (I.ok.hd hc) it lo 1 n
    refine W.item i s _ _ hg st fun v h' tk hv st' kk => ?_
    obtain ⟨t, rfl⟩ := hv
    have I1 : Inv X pins σ H { s with heap := h', toks := tk } := I.turned (fun b o hb e => kk b o (by simpa using hb) e) f0 f1 f3 f4 f5
    refine ⟨_, rfl, go_of (s := { s with heap := h', toks := tk }) (n := "range_iterator") st' rfl rfl (by decide) ⟨.int (lo + i), H, I1, ⟨t, ?_⟩, ⟨rfl, rfl⟩, st', fun b hb => (hf b hb).1⟩⟩
    rw [Int.mul_one]
  done := by
    intro X hP hw hK hc i pins s σ H E I hf st hg
    subst hP hw hK
    obtain ⟨f0, f1, f2, f3, f4, f5⟩ := hf it (by simp)
    exact wpAny_pyNext_range_end (I.ok.hd hc) st (by have : n ≤ i := hg; omega) fun h' eb => ⟨rfl, I.turned (t' := s.toks) (fun b o hb e => eb b o hb e) f0 f1 f3 f4 f5⟩
  self := fun _ _ _ _ _ st h => wpAny_pyIter_rangeiter st h
end L2

namespace L2
open PySem PySem.Spec PyProof.Rows
section
variable {X : Cx} {tg : Expr}
noncomputable def iList (K : PySem.W.Frag) (tl : TE) : TI := fun σ H R => tl σ H fun x H1 => ∃ a, x = .ref a ∧ (∃ xs, SqL K H1 a xs) ∧ R (Itl K a) H1
theorem pi_list {l : Expr} {tl : TE} (hl : PE X l tl) : PI X tg l (iList X.K tl) := by
  intro pins s σ H R I h
  refine thn (hl pins s σ H _ I h) fun v s1 ⟨x, H1, I1, r1, q1⟩ => ?_
  obtain ⟨a, e, ⟨xs, hq⟩, q⟩ := q1
  subst e
  cases r1
  obtain ⟨its, rv, p, hz⟩ := I1.list hq
  refine wpAny_pyIter_list p.isList ?_
  refine ⟨s1.heap.objs.size, [s1.heap.objs.size], _, _, H1, rfl, I1.kept (t' := s1.toks) fun b o e => Heap.get?_push_of_some _ e, turn_list a _, ⟨_, Heap.get?_push_size _ rfl, rfl, rfl⟩, fun b hb => ?_, q⟩
  have e : b = s1.heap.objs.size := by simpa using hb
  subst e
  exact I1.fpOk (Nat.le_refl _) (I1.hok.fresh (Nat.le_refl _))
theorem range_it {pins : List (Addr × Obj)} {σ : St} {H : Hp} {s : Shared} {R : It → Hp → Prop} {E : Value → Shared → Prop} {lo hi : Int} {t u v : Tok} {tk : Nat} (I : Inv X pins σ H s) (h1 : -(2 ^ 62) ≤ lo) (h2 : lo < 2 ^ 62) (h3 : -(2 ^ 62) ≤ hi) (h4 : hi < 2 ^ 62)
    (q : R (Itr lo (hi - lo).toNat) H) : wpAny (model X.prog X.w) X.A (pyIter (.ref s.heap.objs.size)) (PIE X pins σ tg R) E { s with heap := s.heap.push { cls := .type "range", data := .fields #[.int lo t, .int hi u, .int 1 v] }, toks := tk } := by
  refine wpAny_pyIter_range (IsRange.new ..) (small_one h1 h2 h3 h4) ?_
  have I1 : Inv X pins σ H { s with heap := s.heap.push { cls := .type "range", data := .fields #[.int lo t, .int hi u, .int 1 v] }, toks := tk } := I.kept fun b o e => Heap.get?_push_of_some _ e
  refine ⟨(s.heap.push { cls := .type "range", data := .fields #[.int lo t, .int hi u, .int 1 v] }).objs.size, [(s.heap.push { cls := .type "range", data := .fields #[.int lo t, .int hi u, .int 1 v] }).objs.size], _, _, H, rfl,
    I1.kept (t' := tk) fun b o e => Heap.get?_push_of_some _ e, turn_range _ lo (hi - lo).toNat, ?_, fun b hb => ?_, q⟩
  · have e1 : lo + ((0 : Nat) : Int) * 1 = lo := by simp
    have e2 : (((hi - lo).toNat : Nat) : Int) - ((0 : Nat) : Int) = Builtin.Range.rangeSize lo hi 1 := by rw [rangeSize_one]; split <;> omega
    show IsRangeIter _ _ (lo + ((0 : Nat) : Int) * 1) ((((hi - lo).toNat : Nat) : Int) - ((0 : Nat) : Int)) 1
    rw [e1, e2]
    exact Heap.get?_push_size _ rfl
  · have e : b = (s.heap.push { cls := .type "range", data := .fields #[.int lo t, .int hi u, .int 1 v] }).objs.size := by simpa using hb
    subst e
    exact I1.fpOk (Nat.le_refl _) (I1.hok.fresh (Nat.le_refl _))
noncomputable def iRng1 (ta : TA) : TI := fun σ H R => ta σ H fun vs H1 => ∃ j : Int, vs = [.int j] ∧ -(2 ^ 62) ≤ j ∧ j < 2 ^ 62 ∧ R (Itr 0 j.toNat) H1
noncomputable def iRng2 (ta : TA) : TI := fun σ H R => ta σ H fun vs H1 => ∃ i j : Int, vs = [.int i, .int j] ∧ (-(2 ^ 62) ≤ i ∧ i < 2 ^ 62 ∧ -(2 ^ 62) ≤ j ∧ j < 2 ^ 62) ∧ R (Itr i (j - i).toNat) H1
theorem pi_range1 {a : Expr} {ta : TA} {p pos : Pos} (hg : Gl X "range") (hm : X.mg "range" = none) (ha : PA X [a] ta) (hs : starEach [a] X.env = [(false, eval a X.env)] := by rfl) : PI X tg (.Call (.Name "range" p) [a] [] pos) (iRng1 ta) := by
  intro pins s σ H R I h
  refine Call_ (ld_blt I hg hm boot_range (PyProof.Rows.callWith_type1 (thn (ha pos pins s σ H _ I h) fun us s1 ⟨vs, H1, I1, r1, q1⟩ => ?_) hs rfl))
  obtain ⟨j, e, q1, q2, q⟩ := q1
  subst e
  cases r1 with
  | cons r rr =>
    cases rr
    obtain ⟨t, rfl⟩ := r
    exact call_range_1 (range_it I1 (by omega) (by omega) q1 q2 (by simpa using q))
theorem pi_range2 {a b : Expr} {ta : TA} {p pos : Pos} (hg : Gl X "range") (hm : X.mg "range" = none) (ha : PA X [a, b] ta) (hs : starEach [a, b] X.env = [(false, eval a X.env), (false, eval b X.env)] := by rfl) (hs2 : starEach [b] X.env = [(false, eval b X.env)] := by rfl) :
    PI X tg (.Call (.Name "range" p) [a, b] [] pos) (iRng2 ta) := by
  intro pins s σ H R I h
  refine Call_ (ld_blt I hg hm boot_range (PyProof.Rows.callWith_type1 (thn (ha pos pins s σ H _ I h) fun us s1 ⟨vs, H1, I1, r1, q1⟩ => ?_) (by rw [hs, hs2]) (by rw [hs2]; rfl)))
  obtain ⟨i, j, e, ⟨q1, q2, q3, q4⟩, q⟩ := q1
  subst e
  cases r1 with
  | cons r rr =>
    cases rr with
    | cons r' rr =>
      cases rr
      obtain ⟨t, rfl⟩ := r
      obtain ⟨t', rfl⟩ := r'
      exact call_range_2 (range_it I1 q1 q2 q3 q4 q)

noncomputable def tFor (wi : TI) (g : TG) (tb : TS) : TS := fun D σ H => wi σ H fun J H1 => ∃ W : Nat → Nat → St → Hp → Prop, (∃ m, W 0 m σ H1) ∧ ∀ i m σ H, W i m σ H →
  (J.stop i H ∧ D.nx σ H) ∨ (J.go i H ∧ ∃ N : St → Hp → Prop, (∀ σ' H', N σ' H' → ∃ m', m' < m ∧ W (i + 1) m' σ' H') ∧ ∀ x H', J.yld i H x H' → g x σ H' fun σ2 H2 => tb { D with nx := N, ct := N, bk := D.nx } σ2 H2)
noncomputable def pinsAt (fp : List Addr) (h : Heap) : List (Addr × Obj) := fp.filterMap fun b => (h.get? b).map fun o => (b, o)
theorem mem_pinsAt {fp : List Addr} {h : Heap} {b : Addr} {o : Obj} (hb : b ∈ fp) (e : h.get? b = some o) : (b, o) ∈ pinsAt fp h := List.mem_filterMap.mpr ⟨b, hb, by rw [e]; rfl⟩
theorem of_pinsAt {fp : List Addr} {h : Heap} {p : Addr × Obj} (hp : p ∈ pinsAt fp h) : p.1 ∈ fp ∧ h.get? p.1 = some p.2 := by
  obtain ⟨b, hb, e⟩ := List.mem_filterMap.mp hp
  cases q : h.get? b with
  | none => rw [q] at e; cases e
  | some o =>
    rw [q] at e
    have e' : (b, o) = p := Option.some.inj e
    subst e'
    exact ⟨hb, q⟩
theorem Inv.pinned {pins : List (Addr × Obj)} {σ : St} {H : Hp} {s : Shared} {fp : List Addr} (I : Inv X pins σ H s) (hf : ∀ b ∈ fp, FpOk X pins H b) (ho : ∀ b ∈ fp, ∃ o, s.heap.get? b = some o ∧ ∀ v, o.data ≠ .cell v) : Inv X (pins ++ pinsAt fp s.heap) σ H s :=
  I.pins_of fun p hp => (List.mem_append.mp hp).elim (fun z => I.pin p (List.mem_append_right _ z)) fun z => by
    obtain ⟨hb, e⟩ := of_pinsAt z
    obtain ⟨f0, f1, f2, _⟩ := hf p.1 hb
    obtain ⟨o, e', d⟩ := ho p.1 hb
    rw [e] at e'; cases e'
    exact ⟨e, f0, f1, f2, d⟩
theorem Inv.unpinned {pins pl : List (Addr × Obj)} {σ : St} {H : Hp} {s : Shared} (I : Inv X (pins ++ pl) σ H s) : Inv X pins σ H s := I.pins_of fun p hp => I.pin p (List.mem_append_right _ (List.mem_append_left _ hp))
theorem ps_for {iter : Expr} {body : List Stmt} {wi : TI} {g : TG} {tb : TS} {pos : Pos} (hp : PassesOwn (model X.prog X.w) X.A X.env X.xe) (hc : X.calm = true) (hi : PI X tg iter wi) (hg : PG X tg g) (hb : PSs X body tb)
    (hs : ∀ x, foldedSetIterable iter X.env x = pure x := by intro _; rfl) : PS X (.For tg iter body [] pos) (tFor wi g tb) := by
  intro pins s σ H D I h
  refine wpAny_For (thn (hi pins s σ H _ I h) fun v s1 h1 => thn h1 fun itv s2 h2 => ?_) hs
  obtain ⟨it, fp, tn, J, H2, e, I2, T, st2, f2, W, ⟨m0, w0⟩, turn⟩ := h2
  subst e
  -- what stays true of the iterator's objects through the loop
  have stat : ∀ {H' : Hp}, (∀ b ∈ fp, H' b = none) → ∀ b ∈ fp, FpOk X pins H' b := fun hn b hb => ⟨hn b hb, (f2 b hb).2⟩
  refine codeAny_forLoop_any (fun n s' => ∃ i σ' H', Inv X pins σ' H' s' ∧ tn i s'.heap ∧ (∀ b ∈ fp, H' b = none) ∧ W i n σ' H') ?_ m0 ⟨0, σ, H2, I2, st2, fun b hb => (f2 b hb).1, w0⟩
  rintro n s3 ⟨i, σ3, H3, I3, st3, fr3, w3⟩
  rcases turn i n σ3 H3 w3 with ⟨stop, qn⟩ | ⟨go, N, hN, step⟩
  · refine wpAny_passesOwn hp (thn (T.done X rfl rfl rfl hc i pins s3 σ3 H3 X.xe I3 (stat fr3) st3 stop) fun r s4 ⟨hr, I4⟩ => ?_)
    subst hr
    exact wpAny_execs_nil ⟨σ3, H3, I4, qn⟩
  · refine wpAny_passesOwn hp (thn (T.item X rfl rfl rfl hc i pins s3 σ3 H3 X.xe I3 (stat fr3) st3 go) fun r s4 ⟨u, hr, h4⟩ => ?_)
    subst hr
    refine wpAny_passesOwn hp (thn h4 fun _ s5 ⟨x, H5, I5, r5, y5, st5, fr5⟩ => ?_)
    have I5' := I5.pinned (stat fr5) (T.obj _ _ st5)
    refine wpAny_passesOwn hp (thn (hg _ s5 σ3 H5 x u _ I5' r5 (step x H5 y5)) fun _ s6 ⟨σ6, H6, I6, q6⟩ => ?_)
    refine wpAny_passesOwn hp (thn (hb _ s6 σ6 H6 _ I6 q6) fun f s7 q7 => ?_)
    have again : ∀ {σ7 : St} {H7 : Hp}, Inv X (pins ++ pinsAt fp s5.heap) σ7 H7 s7 → N σ7 H7 → ∃ m, m < n ∧ ∃ i σ' H', Inv X pins σ' H' s7 ∧ tn i s7.heap ∧ (∀ b ∈ fp, H' b = none) ∧ W i m σ' H' := fun {σ7 H7} I7 n7 => by
      obtain ⟨m', hm, w7⟩ := hN σ7 H7 n7
      refine ⟨m', hm, i + 1, σ7, H7, I7.unpinned, T.keep _ _ _ st5 fun b hb o e => (I7.pin (b, o) (List.mem_append_right _ (List.mem_append_right _ (mem_pinsAt hb e)))).1, fun b hb => ?_, w7⟩
      obtain ⟨o, e, d⟩ := T.obj _ _ st5 b hb
      exact (I7.pin (b, o) (List.mem_append_right _ (List.mem_append_right _ (mem_pinsAt hb e)))).2.1
    cases f with
    | next => obtain ⟨σ7, H7, I7, n7⟩ := q7; exact again I7 n7
    | cont => obtain ⟨σ7, H7, I7, n7⟩ := q7; exact again I7 n7
    | brk => obtain ⟨σ7, H7, I7, q7⟩ := q7; exact ⟨σ7, H7, I7.unpinned, q7⟩
    | ret v => obtain ⟨x7, σ7, H7, I7, r7, q7⟩ := q7; exact ⟨x7, σ7, H7, I7.unpinned, r7, q7⟩
end

theorem for_list {K : PySem.W.Frag} {a : Addr} {xs : List V} {g : TG} {tb : TS} {D : Ends} {σ : St} {H : Hp} (Pv : Nat → St → Hp → Prop) (h0 : Pv 0 σ H) (hl : ∀ i σ H, i ≤ xs.length → Pv i σ H → SqL K H a xs)
    (hs : ∀ i x σ H, xs[i]? = some x → Pv i σ H → g x σ H fun σ2 H2 => tb { D with nx := Pv (i + 1), ct := Pv (i + 1), bk := D.nx } σ2 H2) (hd : ∀ σ H, Pv xs.length σ H → D.nx σ H) :
    ∃ W : Nat → Nat → St → Hp → Prop, (∃ m, W 0 m σ H) ∧ ∀ i m σ H, W i m σ H →
      ((Itl K a).stop i H ∧ D.nx σ H) ∨ ((Itl K a).go i H ∧ ∃ N : St → Hp → Prop, (∀ σ' H', N σ' H' → ∃ m', m' < m ∧ W (i + 1) m' σ' H') ∧ ∀ x H', (Itl K a).yld i H x H' → g x σ H' fun σ2 H2 => tb { D with nx := N, ct := N, bk := D.nx } σ2 H2) := by
  refine ⟨fun i m σ H => m = xs.length - i ∧ i ≤ xs.length ∧ Pv i σ H, ⟨xs.length, by simp, Nat.zero_le _, h0⟩, ?_⟩
  rintro i m σ H ⟨rfl, hi, p⟩
  have q := hl i σ H hi p
  by_cases hlt : i < xs.length
  · refine .inr ⟨⟨xs, xs[i], q, by simp [hlt]⟩, Pv (i + 1), fun σ' H' p' => ⟨xs.length - (i + 1), by omega, rfl, hlt, p'⟩, fun x H' y => ?_⟩
    obtain ⟨e, y⟩ := y
    subst e
    exact hs i x σ _ (y xs q) p
  · have e : i = xs.length := by omega
    subst e
    exact .inl ⟨⟨xs, q, Nat.le_refl _⟩, hd σ H p⟩
theorem for_range {lo : Int} {n : Nat} {g : TG} {tb : TS} {D : Ends} {σ : St} {H : Hp} (Pv : Nat → St → Hp → Prop) (h0 : Pv 0 σ H)
    (hs : ∀ i σ H, i < n → Pv i σ H → g (.int (lo + i)) σ H fun σ2 H2 => tb { D with nx := Pv (i + 1), ct := Pv (i + 1), bk := D.nx } σ2 H2) (hd : ∀ σ H, Pv n σ H → D.nx σ H) :
    ∃ W : Nat → Nat → St → Hp → Prop, (∃ m, W 0 m σ H) ∧ ∀ i m σ H, W i m σ H →
      ((Itr lo n).stop i H ∧ D.nx σ H) ∨ ((Itr lo n).go i H ∧ ∃ N : St → Hp → Prop, (∀ σ' H', N σ' H' → ∃ m', m' < m ∧ W (i + 1) m' σ' H') ∧ ∀ x H', (Itr lo n).yld i H x H' → g x σ H' fun σ2 H2 => tb { D with nx := N, ct := N, bk := D.nx } σ2 H2) := by
  refine ⟨fun i m σ H => m = n - i ∧ i ≤ n ∧ Pv i σ H, ⟨n, by simp, Nat.zero_le _, h0⟩, ?_⟩
  rintro i m σ H ⟨rfl, hi, p⟩
  by_cases hlt : i < n
  · refine .inr ⟨hlt, Pv (i + 1), fun σ' H' p' => ⟨n - (i + 1), by omega, rfl, hlt, p'⟩, fun x H' y => ?_⟩
    obtain ⟨e, y⟩ := y
    subst e y
    exact hs i σ _ hlt p
  · have e : i = n := by omega
    subst e
    exact .inl ⟨Nat.le_refl _, hd σ H p⟩
theorem while_by {c : TT} {tb : TS} {D : Ends} {σ : St} {H : Hp} (Pv : St → Hp → Prop) (μ : St → Hp → Nat) (h0 : Pv σ H)
    (hs : ∀ σ H, Pv σ H → c σ H fun b H1 => if b = true then tb { D with nx := fun σ' H' => Pv σ' H' ∧ μ σ' H' < μ σ H, ct := fun σ' H' => Pv σ' H' ∧ μ σ' H' < μ σ H, bk := D.nx } σ H1 else D.nx σ H1)
    (mono : ∀ σ H Q Q', (∀ b H1, Q b H1 → Q' b H1) → c σ H Q → c σ H Q') : tWhile c tb D σ H := by
  refine ⟨fun m σ H => m = μ σ H ∧ Pv σ H, ⟨_, rfl, h0⟩, ?_⟩
  rintro m σ H ⟨rfl, p⟩
  refine mono σ H _ _ (fun b H1 q => ?_) (hs σ H p)
  cases b with
  | true => exact ⟨_, fun σ' H' ⟨p', l⟩ => ⟨_, l, rfl, p'⟩, q⟩
  | false => exact q
end L2

namespace L2
open PySem PySem.Spec PyProof.Rows

noncomputable abbrev R2 := V → V → Hp → VK → Prop
noncomputable def OpR (X : Cx) (f : Value → Value → Sem Value) (r : R2) : Prop :=
  ∀ (pins : List (Addr × Obj)) (s : Shared) (σ : St) (H : Hp) (x y : V) (v u : Value) (Q : VK), Inv X pins σ H s → RelV x v → RelV y u → r x y H Q →
    wpAny (model X.prog X.w) X.A (f v u) (EP X pins σ Q) X.xe s
noncomputable def UnR (X : Cx) (f : Value → Sem Value) (r : V → Hp → VK → Prop) : Prop :=
  ∀ (pins : List (Addr × Obj)) (s : Shared) (σ : St) (H : Hp) (x : V) (v : Value) (Q : VK), Inv X pins σ H s → RelV x v → r x H Q →
    wpAny (model X.prog X.w) X.A (f v) (EP X pins σ Q) X.xe s
noncomputable def CallR (X : Cx) (f : Value) (r : List V → Hp → VK → Prop) : Prop :=
  ∀ (pins : List (Addr × Obj)) (s : Shared) (σ : St) (H : Hp) (xs : List V) (us : List Value) (Q : VK), Inv X pins σ H s → Vals xs us → r xs H Q →
    wpAny (model X.prog X.w) X.A (call f us) (EP X pins σ Q) X.xe s
noncomputable def TruR (X : Cx) (r : V → Hp → (Bool → Hp → Prop) → Prop) : Prop :=
  ∀ (pins : List (Addr × Obj)) (s : Shared) (σ : St) (H : Hp) (x : V) (v : Value) (Q : Bool → Hp → Prop), Inv X pins σ H s → RelV x v → r x H Q →
    wpAny (model X.prog X.w) X.A (truthy v) (TP X pins σ Q) X.xe s

noncomputable def tOp (r : R2) (ta tb : TE) : TE := fun σ H Q => ta σ H fun x H1 => tb σ H1 fun y H2 => r x y H2 Q
noncomputable def tUn (r : V → Hp → VK → Prop) (ta : TE) : TE := fun σ H Q => ta σ H fun x H1 => r x H1 Q
noncomputable def rI (C : Int → Int → Prop) (g : Int → Int → V) : R2 := fun x y H Q => ∃ i j, x = .int i ∧ y = .int j ∧ C i j ∧ Q (g i j) H
noncomputable def rI0 (g : Int → Int → V) : R2 := fun x y H Q => ∃ i j, x = .int i ∧ y = .int j ∧ Q (g i j) H
noncomputable def rU (g : Int → V) : V → Hp → VK → Prop := fun x H Q => ∃ i, x = .int i ∧ Q (g i) H

section
variable {X : Cx} {a b c : Expr} {ta tb tc : TE} {pos : Pos}

theorem binT (ha : PE X a ta) (hb : PE X b tb) {pins : List (Addr × Obj)} {s : Shared} {σ : St} {H : Hp} {R : V → V → Hp → Prop} (I : Inv X pins σ H s)
    (h : ta σ H fun x H1 => tb σ H1 fun y H2 => R x y H2) {Q : Value → Shared → Prop} {f : Value → Value → Sem Value}
    (hf : ∀ v u s2 x y H2, Inv X pins σ H2 s2 → RelV x v → RelV y u → R x y H2 → wpAny (model X.prog X.w) X.A (f v u) Q X.xe s2) :
    wpAny (model X.prog X.w) X.A (eval a X.env) (fun v s₁ => wpAny (model X.prog X.w) X.A (eval b X.env) (fun u s₂ => wpAny (model X.prog X.w) X.A (f v u) Q X.xe s₂) X.xe s₁) X.xe s := by
  refine thn (ha pins s σ H _ I h) fun v s1 ⟨x, H1, I1, r1, q1⟩ => ?_
  refine thn (hb pins s1 σ H1 _ I1 q1) fun u s2 ⟨y, H2, I2, r2, q2⟩ => ?_
  exact hf v u s2 x y H2 I2 r1 r2 q2

theorem pe_op {op : Operator} {r : R2} (ho : OpR X (binaryOp op) r) (ha : PE X a ta) (hb : PE X b tb) : PE X (.BinOp a op b pos) (tOp r ta tb) := by
  intro pins s σ H Q I h
  exact wpAny_BinOp (binT ha hb I h fun v u s2 x y H2 I2 rx ry q => ho pins s2 σ H2 x y v u Q I2 rx ry q)
theorem pe_un {op : UnaryOp} {r : V → Hp → VK → Prop} (ho : UnR X (unaryOp op) r) (ha : PE X a ta) : PE X (.UnaryOp op a pos) (tUn r ta) := by
  intro pins s σ H Q I h
  exact UnaryOp_ (thn (ha pins s σ H _ I h) fun v s1 ⟨x, H1, I1, r1, q1⟩ => ho pins s1 σ H1 x v Q I1 r1 q1)
theorem opI {f : Value → Value → Sem Value} {C : Int → Int → Prop} {g : Int → Int → Int}
    (rule : ∀ (i j : Int) (t u : Tok) (s : Shared) (Q : Value → Shared → Prop) (E : Value → Shared → Prop), C i j → Q (.int (g i j) s.toks) { s with toks := s.toks + 1 } → wpAny (model X.prog X.w) X.A (f (.int i t) (.int j u)) Q E s) :
    OpR X f (rI C fun i j => .int (g i j)) := by
  intro pins s σ H x y v u Q I rx ry h
  obtain ⟨i, j, rfl, rfl, hc, q⟩ := h
  obtain ⟨t, rfl⟩ := rx
  obtain ⟨t', rfl⟩ := ry
  exact rule i j t t' s _ _ hc ⟨.int (g i j), H, I.tok _, ⟨_, rfl⟩, q⟩
theorem opI0 {f : Value → Value → Sem Value} {g : Int → Int → Int}
    (rule : ∀ (i j : Int) (t u : Tok) (s : Shared) (Q : Value → Shared → Prop) (E : Value → Shared → Prop), Q (.int (g i j) s.toks) { s with toks := s.toks + 1 } → wpAny (model X.prog X.w) X.A (f (.int i t) (.int j u)) Q E s) :
    OpR X f (rI0 fun i j => .int (g i j)) := by
  intro pins s σ H x y v u Q I rx ry h
  obtain ⟨i, j, rfl, rfl, q⟩ := h
  obtain ⟨t, rfl⟩ := rx
  obtain ⟨t', rfl⟩ := ry
  exact rule i j t t' s _ _ ⟨.int (g i j), H, I.tok _, ⟨_, rfl⟩, q⟩
theorem opB0 {f : Value → Value → Sem Value} {g : Int → Int → Bool}
    (rule : ∀ (i j : Int) (t u : Tok) (s : Shared) (Q : Value → Shared → Prop) (E : Value → Shared → Prop), Q (.bool (g i j)) s → wpAny (model X.prog X.w) X.A (f (.int i t) (.int j u)) Q E s) :
    OpR X f (rI0 fun i j => .bl (g i j)) := by
  intro pins s σ H x y v u Q I rx ry h
  obtain ⟨i, j, rfl, rfl, q⟩ := h
  obtain ⟨t, rfl⟩ := rx
  obtain ⟨t', rfl⟩ := ry
  exact rule i j t t' s _ _ ⟨.bl (g i j), H, I, rfl, q⟩

noncomputable def CDiv (i j : Int) : Prop := 0 < j ∧ j < 1073741824
noncomputable def CPow (i j : Int) : Prop := 0 ≤ j ∧ j ≤ 1000000 ∧ i.natAbs < 2 ^ 64
noncomputable def CMul (i j : Int) : Prop := (-(2 ^ 64) < i ∧ i < 2 ^ 64) ∨ (-(2 ^ 64) < j ∧ j < 2 ^ 64)
theorem CMul.ok {i j : Int} (h : CMul i j) : IntMulOk i j := by
  rcases h with ⟨h1, h2⟩ | ⟨h1, h2⟩
  · exact .of_left (intBits_le_64 h1 h2)
  · exact .of_right (intBits_le_64 h1 h2)
theorem op_add : OpR X (binaryOp .Add) (rI0 fun i j => .int (i + j)) := opI0 fun _ _ _ _ _ _ _ q => add_int q
theorem op_sub : OpR X (binaryOp .Sub) (rI0 fun i j => .int (i - j)) := opI0 fun _ _ _ _ _ _ _ q => sub_int q
theorem op_mul : OpR X (binaryOp .Mult) (rI CMul fun i j => .int (i * j)) := opI fun _ _ _ _ _ _ _ hc q => mul_int q hc.ok
theorem op_fdiv : OpR X (binaryOp .FloorDiv) (rI CDiv fun i j => .int (i / j)) := opI fun i j _ _ _ _ _ hc q => by
  have h1 : (0 : Int) < j := hc.1
  have h2 : j < 1073741824 := hc.2
  exact floordiv_int (by omega) (by rw [Int.fdiv_eq_ediv_of_nonneg i (by omega)]; exact q) (.inl (PyProof.noPylong_small (by omega)))
theorem op_mod : OpR X (binaryOp .Mod) (rI (fun _ j => 0 < j) fun i j => .int (i % j)) := opI fun i j _ _ _ _ _ hc q => by
  have h1 : (0 : Int) < j := hc
  exact mod_int' (by omega) (by rw [Int.fmod_eq_emod_of_nonneg i (by omega)]; exact q)
theorem op_pow : OpR X (binaryOp .Pow) (rI CPow fun i j => .int (i ^ j.toNat)) := opI fun _ _ _ _ _ _ _ hc q => pow_int_small hc.1 hc.2.1 hc.2.2 q
theorem unI {f : Value → Sem Value} {g : Int → Int}
    (rule : ∀ (i : Int) (t : Tok) (s : Shared) (Q : Value → Shared → Prop) (E : Value → Shared → Prop), Q (.int (g i) s.toks) { s with toks := s.toks + 1 } → wpAny (model X.prog X.w) X.A (f (.int i t)) Q E s) :
    UnR X f (rU fun i => .int (g i)) := by
  intro pins s σ H x v Q I rx h
  obtain ⟨i, rfl, q⟩ := h
  obtain ⟨t, rfl⟩ := rx
  exact rule i t s _ _ ⟨.int (g i), H, I.tok _, ⟨_, rfl⟩, q⟩
theorem un_neg : UnR X (unaryOp .USub) (rU fun i => .int (-i)) := unI fun _ _ _ _ _ q => neg_int q
end

noncomputable def scal : V → V → Bool
  | .non, .non => true | .non, .int _ => true | .int _, .non => true | .non, .bl _ => true | .bl _, .non => true | .non, .str _ => true | .str _, .non => true
  | .int _, .int _ => true | .bl _, .bl _ => true | .str _, .str _ => true | .byt _, .byt _ => true
  | .int _, .str _ => true | .str _, .int _ => true | .bl _, .str _ => true | .str _, .bl _ => true
  | _, _ => false
noncomputable def rEq : R2 := fun x y H Q => scal x y = true ∧ Q (.bl (decide (x = y))) H
noncomputable def rNe : R2 := fun x y H Q => scal x y = true ∧ Q (.bl (!decide (x = y))) H

theorem dec_int {i j : Int} : decide (V.int i = V.int j) = (i == j) := by
  rw [Bool.eq_iff_iff]
  simp
theorem dec_bl {i j : Bool} : decide (V.bl i = V.bl j) = (i == j) := by
  rw [Bool.eq_iff_iff]
  simp
theorem dec_str {i j : Str} : decide (V.str i = V.str j) = (i == j) := by
  rw [Bool.eq_iff_iff]
  simp
theorem dec_byt {i j : Array UInt8} : decide (V.byt i = V.byt j) = (i.toList == j.toList) := by
  rw [Bool.eq_iff_iff]
  cases i
  cases j
  simp

section
variable {X : Cx} {a b c : Expr} {ta tb tc : TE} {pos : Pos}
theorem fin_bl {pins : List (Addr × Obj)} {σ : St} {H : Hp} {s : Shared} {Q : VK} {k k' : Bool} (I : Inv X pins σ H s) (q : Q (.bl k) H) (e : k = k') : EP X pins σ Q (.bool k') s := by
  subst e
  exact ⟨.bl k, H, I, rfl, q⟩
theorem op_eq : OpR X (compareOp .Eq) rEq := by
  intro pins s σ H x y v u Q I rx ry h
  obtain ⟨hs, q⟩ := h
  cases x with
  | non =>
    cases rx
    cases y with
    | non => cases ry; exact PySem.EqNone.eq_none_none (fin_bl I q (by simp))
    | bl j => cases ry; exact PySem.EqNone.eq_none_bool (fin_bl I q (by simp))
    | int j => obtain ⟨t', rfl⟩ := ry; exact PySem.EqNone.eq_none_int (fin_bl I q (by simp))
    | str j => obtain ⟨t', rfl⟩ := ry; exact PySem.EqNone.eq_none_str (fin_bl I q (by simp))
    | _ => exact absurd (show false = true from hs) Bool.false_ne_true
  | bl i =>
    cases rx
    cases y with
    | non => cases ry; exact PySem.EqNone.eq_bool_none (fin_bl I q (by simp))
    | bl j => cases ry; exact eq_bool (fin_bl I q dec_bl)
    | str j => obtain ⟨t', rfl⟩ := ry; exact PySem.EqMixed.eq_bool_str (fin_bl I q (by simp))
    | _ => exact absurd (show false = true from hs) Bool.false_ne_true
  | int i =>
    obtain ⟨t, rfl⟩ := rx
    cases y with
    | non => cases ry; exact PySem.EqNone.eq_int_none (fin_bl I q (by simp))
    | int j => obtain ⟨t', rfl⟩ := ry; exact eq_int (fin_bl I q dec_int)
    | str j => obtain ⟨t', rfl⟩ := ry; exact PySem.EqMixed.eq_int_str (fin_bl I q (by simp))
    | _ => exact absurd (show false = true from hs) Bool.false_ne_true
  | str i =>
    obtain ⟨t, rfl⟩ := rx
    cases y with
    | non => cases ry; exact PySem.EqNone.eq_str_none (fin_bl I q (by simp))
    | bl j => cases ry; exact PySem.EqMixed.eq_str_bool (fin_bl I q (by simp))
    | int j => obtain ⟨t', rfl⟩ := ry; exact PySem.EqMixed.eq_str_int (fin_bl I q (by simp))
    | str j => obtain ⟨t', rfl⟩ := ry; exact eq_str (fin_bl I q dec_str)
    | _ => exact absurd (show false = true from hs) Bool.false_ne_true
  | byt i =>
    obtain ⟨t, rfl⟩ := rx
    cases y with
    | byt j => obtain ⟨t', rfl⟩ := ry; exact PySem.W.eq_bytes (fin_bl I q dec_byt)
    | _ => exact absurd (show false = true from hs) Bool.false_ne_true
  | _ => cases y <;> exact absurd (show false = true from hs) Bool.false_ne_true
theorem op_ne : OpR X (compareOp .NotEq) rNe := by
  intro pins s σ H x y v u Q I rx ry h
  obtain ⟨hs, q⟩ := h
  cases x with
  | non =>
    cases rx
    cases y with
    | non => cases ry; exact PySem.EqNone.ne_none_none (fin_bl I q (by simp))
    | bl j => cases ry; exact PySem.EqNone.ne_none_bool (fin_bl I q (by simp))
    | int j => obtain ⟨t', rfl⟩ := ry; exact PySem.EqNone.ne_none_int (fin_bl I q (by simp))
    | str j => obtain ⟨t', rfl⟩ := ry; exact PySem.EqNone.ne_none_str (fin_bl I q (by simp))
    | _ => exact absurd (show false = true from hs) Bool.false_ne_true
  | bl i =>
    cases rx
    cases y with
    | non => cases ry; exact PySem.EqNone.ne_bool_none (fin_bl I q (by simp))
    | bl j => cases ry; exact ne_bool (fin_bl I q (congrArg not dec_bl))
    | str j => obtain ⟨t', rfl⟩ := ry; exact PySem.EqMixed.ne_bool_str (fin_bl I q (by simp))
    | _ => exact absurd (show false = true from hs) Bool.false_ne_true
  | int i =>
    obtain ⟨t, rfl⟩ := rx
    cases y with
    | non => cases ry; exact PySem.EqNone.ne_int_none (fin_bl I q (by simp))
    | int j => obtain ⟨t', rfl⟩ := ry; exact ne_int (fin_bl I q (congrArg not dec_int))
    | str j => obtain ⟨t', rfl⟩ := ry; exact PySem.EqMixed.ne_int_str (fin_bl I q (by simp))
    | _ => exact absurd (show false = true from hs) Bool.false_ne_true
  | str i =>
    obtain ⟨t, rfl⟩ := rx
    cases y with
    | non => cases ry; exact PySem.EqNone.ne_str_none (fin_bl I q (by simp))
    | bl j => cases ry; exact PySem.EqMixed.ne_str_bool (fin_bl I q (by simp))
    | int j => obtain ⟨t', rfl⟩ := ry; exact PySem.EqMixed.ne_str_int (fin_bl I q (by simp))
    | str j => obtain ⟨t', rfl⟩ := ry; exact ne_str (fin_bl I q (congrArg not dec_str))
    | _ => exact absurd (show false = true from hs) Bool.false_ne_true
  | byt i =>
    obtain ⟨t, rfl⟩ := rx
    cases y with
    | byt j => obtain ⟨t', rfl⟩ := ry; exact PySem.W.ne_bytes (fin_bl I q (congrArg not dec_byt))
    | _ => exact absurd (show false = true from hs) Bool.false_ne_true
  | _ => cases y <;> exact absurd (show false = true from hs) Bool.false_ne_true

theorem op_lt : OpR X (compareOp .Lt) (rI0 fun i j => .bl (decide (i < j))) := opB0 fun _ _ _ _ _ _ _ q => lt_int q
theorem op_gt : OpR X (compareOp .Gt) (rI0 fun i j => .bl (decide (j < i))) := opB0 fun _ _ _ _ _ _ _ q => gt_int q
theorem op_isN : OpR X (compareOp .Is) (fun x y H Q => y = .non ∧ Q (.bl (decide (x = .non))) H) := by
  intro pins s σ H x y v u Q I rx ry h
  obtain ⟨rfl, q⟩ := h
  cases ry
  refine is_none_gen (fin_bl I q ?_)
  cases x <;> first
    | (cases rx; rfl)
    | (obtain ⟨t, rfl⟩ := rx; rfl)
theorem OpR.or {f : Value → Value → Sem Value} {r r' : R2} (h : OpR X f r) (h' : OpR X f r') : OpR X f (fun x y H Q => r x y H Q ∨ r' x y H Q) := by
  intro pins s σ H x y v u Q I rx ry q
  rcases q with q | q
  · exact h pins s σ H x y v u Q I rx ry q
  · exact h' pins s σ H x y v u Q I rx ry q

theorem nomark (b : Expr) {op : CmpOp} (h : op ≠ .In := by decide) (h2 : op ≠ .NotIn := by decide) : behindInMarks op b = false := by
  have e1 : (op == CmpOp.In) = false := by cases op <;> first | rfl | exact absurd rfl h
  have e2 : (op == CmpOp.NotIn) = false := by cases op <;> first | rfl | exact absurd rfl h2
  cases b <;> simp [behindInMarks, e1, e2]
theorem pe_cmpR {op : CmpOp} {r : R2} (ho : OpR X (compareOp op) r) (ha : PE X a ta) (hb : PE X b tb) (hm : behindInMarks op b = false) : PE X (.Compare a [op] [b] pos) (tOp r ta tb) := by
  intro pins s σ H Q I h
  exact wpAny_Compare1 (binT ha hb I h fun v u s2 x y H2 I2 rx ry q => ho pins s2 σ H2 x y v u Q I2 rx ry q) hm
noncomputable def tTest (t : TE) : TT := fun σ H Q => t σ H fun x H' => ∃ k, x = .bl k ∧ Q k H'
theorem pt_cmpR {op : CmpOp} {r : R2} (ho : OpR X (compareOp op) r) (ha : PE X a ta) (hb : PE X b tb) (hm : behindInMarks op b = false) : PT X (.Compare a [op] [b] pos) (tTest (tOp r ta tb)) := by
  intro pins s σ H Q I h
  refine wpAny_isTrue_Compare1 (thn (ha pins s σ H _ I h) fun v s1 ⟨x, H1, I1, r1, q1⟩ => thn (hb pins s1 σ H1 _ I1 q1) fun u s2 ⟨y, H2, I2, r2, q2⟩ =>
    thn (ho pins s2 σ H2 x y v u _ I2 r1 r2 q2) fun c s3 ⟨z, H3, I3, r3, k, e, q3⟩ => ?_) hm
  subst e
  cases r3
  exact wpAny_truthy_bool ⟨H3, I3, q3⟩
noncomputable def TruV (K : PySem.W.Frag) (x : V) (H : Hp) (k : Bool) : Prop :=
  match x with
  | .non => k = false
  | .bl b => k = b
  | .int i => k = (i != 0)
  | .str y => y.length ≤ sizeLine ∧ k = ((y.length : Int) != 0)
  | .byt y => y.size ≤ sizeLine ∧ k = ((y.size : Int) != 0)
  | .ref p => (∃ xs, SqL K H p xs ∧ k = !xs.isEmpty) ∨ (∃ xs, SqT K H p xs ∧ k = !xs.isEmpty) ∨ ∃ kvs, H p = some (.dK kvs) ∧ k = !kvs.isEmpty
  | _ => False
theorem isEmpty_kv {κ : Type} {kvs : List (κ × V)} {vs : List (κ × Value)} (r : KV kvs vs) : (!vs.isEmpty) = !kvs.isEmpty := by
  cases r <;> rfl
theorem isEmpty_of {xs : List V} {its : List Value} (r : Vals xs its) : (!its.toArray.isEmpty) = !xs.isEmpty := by
  cases r <;> simp
theorem line63 : (sizeLine : Nat) < 2 ^ 63 := by rw [sizeLine_eq]; decide
theorem tru_ok : TruR X (fun x H Q => ∃ k, TruV X.K x H k ∧ Q k H) := by
  intro pins s σ H x v Q I rx h
  obtain ⟨k, e, q⟩ := h
  have hl := line63
  have hs : sizeLine = 16777216 := sizeLine_eq
  cases x with
  | non =>
    cases rx
    have e' : k = false := e
    subst e'
    exact truthy_none ⟨H, I, q⟩
  | bl b =>
    cases rx
    have e' : k = b := e
    subst e'
    exact wpAny_truthy_bool ⟨H, I, q⟩
  | int i =>
    obtain ⟨t, rfl⟩ := rx
    have e' : k = (i != 0) := e
    subst e'
    exact PySem.P.truthy_int ⟨H, I, q⟩
  | str y =>
    obtain ⟨t, rfl⟩ := rx
    obtain ⟨hy, e'⟩ : y.length ≤ sizeLine ∧ k = ((y.length : Int) != 0) := e
    subst e'
    exact PySem.P.truthy_str (by omega) ⟨H, I.tok _, q⟩
  | byt y =>
    obtain ⟨t, rfl⟩ := rx
    obtain ⟨hy, e'⟩ : y.size ≤ sizeLine ∧ k = ((y.size : Int) != 0) := e
    subst e'
    exact PySem.W.truthy_bytes (by omega) ⟨H, I.tok _, q⟩
  | ref p =>
    cases rx
    have e' : (∃ xs, SqL X.K H p xs ∧ k = !xs.isEmpty) ∨ (∃ xs, SqT X.K H p xs ∧ k = !xs.isEmpty) ∨ ∃ kvs, H p = some (.dK kvs) ∧ k = !kvs.isEmpty := e
    rcases e' with ⟨xs, hx, e'⟩ | ⟨xs, hx, e'⟩ | ⟨kvs, hx, e'⟩
    · subst e'
      obtain ⟨its, r, pl, hz⟩ := I.list hx
      have hlen := r.length
      exact wpAny_truthy_list pl.isList (by simp only [List.size_toArray]; omega) ⟨H, I.tok _, by rw [isEmpty_of r]; exact q⟩
    · subst e'
      obtain ⟨its, r, pl, hz⟩ := I.tuple hx
      have hlen := r.length
      exact truthy_tuple pl (by simp only [List.size_toArray]; omega) ⟨H, I.tok _, by rw [isEmpty_of r]; exact q⟩
    · subst e'
      obtain ⟨hz, hS, vs, r, m⟩ : kvs.length ≤ sizeLine ∧ (p == sysModules) = false ∧ ∃ vs, KV kvs vs ∧ s.heap.DictOf (mixKind X.prog X.w) p vs := I.hok p _ hx
      have hlen : kvs.length = vs.length := Paired.length r
      exact wpAny_truthy_dict hS m (by omega) ⟨H, I.tok _, by rw [isEmpty_kv r]; exact q⟩
  | _ => exact (show False from e).elim
theorem pt_truth (ha : PE X a ta) (he : ∀ whole, isTrue a X.env whole = (do let v ← whole; standAt a.pos; holding [v] (truthy v))) :
    PT X a (fun σ H Q => ta σ H fun x H' => ∃ k, TruV X.K x H' k ∧ Q k H') := by
  intro pins s σ H Q I h
  exact isTrue_plain (thn (ha pins s σ H _ I h) fun v s1 ⟨x, H1, I1, r1, q1⟩ => tru_ok pins s1 σ H1 x v Q I1 r1 q1) (he _)

theorem vals1 {x : V} {us : List Value} (r : Vals [x] us) : ∃ u, us = [u] ∧ RelV x u := by
  cases r with
  | cons r1 r2 => cases r2; exact ⟨_, rfl, r1⟩
theorem vals2 {x y : V} {us : List Value} (r : Vals [x, y] us) : ∃ u w', us = [u, w'] ∧ RelV x u ∧ RelV y w' := by
  cases r with
  | cons r1 r2 =>
    cases r2 with
    | cons r3 r4 => cases r4; exact ⟨_, _, rfl, r1, r3⟩
theorem call_min2 (hc : X.calm = true) : CallR X (.builtin "min") (fun xs H Q => ∃ i j, xs = [.int i, .int j] ∧ Q (.int (if j < i then j else i)) H) := by
  intro pins s σ H xs us Q I r h
  obtain ⟨i, j, rfl, q⟩ := h
  obtain ⟨u, w', rfl, ⟨t, rfl⟩, ⟨t', rfl⟩⟩ := vals2 r
  refine min_two_ints (I.ok.hd hc) fun h' tk k => ⟨_, H, I.kept k, ?_, q⟩
  by_cases hj : j < i
  · rw [if_pos hj, if_pos hj]; exact ⟨_, rfl⟩
  · rw [if_neg hj, if_neg hj]; exact ⟨_, rfl⟩
end
end L2

namespace L2
open PySem PySem.Spec PyProof.Rows

structure ObjM (h : Heap) (x dx C : Addr) (mA : Str → Option Value) : Prop where
  obj : h.get? x = some (PySem.W.instObj C dx)
  ns : h.Ns1 dx mA
  ne : dx ≠ x

theorem lookIn_ns {h : Heap} {dx : Addr} {mA : Str → Option Value} (n : h.Ns1 dx mA) : ∃ od, h.get? dx = some od ∧ ∀ name, PySem.W.lookIn name od = some (mA name) := by
  obtain ⟨o, es, ep, ho, hd, hk, _, hm⟩ := n
  refine ⟨o, ho, fun name => ?_⟩
  have e := hm name
  unfold nsFind findBy at e
  rw [← Array.find?_toList] at e
  unfold PySem.W.lookIn
  rw [hd]
  dsimp only
  split
  · rename_i y q
    rw [q] at e
    exact congrArg some e
  · rename_i q
    rw [q] at e
    have a : es.toList.any (·.refKey) = false := by
      rw [List.any_eq_false]
      intro y hy
      obtain ⟨z, t, hkey⟩ := hk y (Array.mem_toList_iff.mp hy)
      simp [DictEntry.refKey, hkey]
    have a' : ¬ es.toList.any (·.refKey) = true := by rw [a]; exact Bool.false_ne_true
    rw [if_neg a']
    exact congrArg some e

theorem ObjM.look {h : Heap} {x dx C : Addr} {mA : Str → Option Value} (I : ObjM h x dx C mA) : ∃ od, PySem.W.InstAt h x (PySem.W.instObj C dx) C (some od) ∧ ∀ name, PySem.W.lookIn name od = some (mA name) :=
  let ⟨od, ho, hl⟩ := lookIn_ns I.ns
  ⟨od, ⟨I.obj, rfl, rfl, ho⟩, hl⟩

section
variable {prog : Program} {w : World} {A : Around} {E : Value → Shared → Prop} {s : Shared} {K : PySem.W.Frag} {x dx C f : Addr} {mA : Str → Option Value} {name : Str} {v : Value}

end

section
variable {P : Program} {w : World} {H H' : Hp} {h h' : Heap} {a C dx : Addr} {fs fs' : List (Str × V)}
theorem ins_get (hok : HOk P w H h) (e : H a = some (.ins C dx fs)) : ∃ mA, ObjM h a dx C mA ∧ (∀ f, RelO (fs.lookup f) (mA f)) ∧ PySem.Within mA (fs.map (·.1)) ∧ fs.length ≤ 1000 ∧ H dx = some (.own a) := by
  obtain ⟨d, z, ne, ob, mA, n, r, q⟩ := (show ObjOk P w H h a (.ins C dx fs) from hok a _ e)
  exact ⟨mA, ⟨ob, n, ne⟩, r, q, z, d⟩
end

structure Cls (K : PySem.W.Frag) (C : Addr) : Prop where
  pg : PySem.W.plainGet K C Str.empty = true
  hd : PySem.W.hasDictIn K C = true
  po : PySem.W.plainOver K C = true
  sa : PySem.W.findIn K (.ref C) "__setattr__" = some (some (.builtin "object.__setattr__"))
theorem Cls.get {K : PySem.W.Frag} {C : Addr} (c : Cls K C) (f : Str) : PySem.W.plainGet K C f = true := c.pg
structure Con (K : PySem.W.Frag) (C : Addr) (f : Str) (v : V) (u : Value) : Prop where
  at_ : PySem.W.findIn K (.ref C) f = some (some u)
  rel : RelV v u
  get : PySem.W.specialIn K u "__get__" = some none
  cp : PySem.W.copiedNames.contains f = false
structure Meth (K : PySem.W.Frag) (C : Addr) (m : Str) (f : Addr) : Prop where
  at_ : PySem.W.findIn K (.ref C) m = some (some (.ref f))
  fn : PySem.W.isFn K (.ref f) = true
  kp : PySem.W.keepIn K (.ref f) = true

section
variable {X : Cx} {pins : List (Addr × Obj)} {σ : St} {H : Hp} {s : Shared} {a C dx : Addr} {fs : List (Str × V)} {f : Str} {v : V} {A : Around} {E : Value → Shared → Prop}

theorem Inv.made (I : Inv X pins σ H s) : Inv X pins σ (upd (upd H s.heap.objs.size (.own (s.heap.objs.size + 1))) (s.heap.objs.size + 1) (.ins C s.heap.objs.size []))
    { s with heap := (s.heap.push PySem.W.emptyDict).push (PySem.W.instObj C s.heap.objs.size) } := by
  have e1 : (s.heap.push PySem.W.emptyDict).get? s.heap.objs.size = some PySem.W.emptyDict := Heap.get?_push_size s.heap rfl
  have e2 : ((s.heap.push PySem.W.emptyDict).push (PySem.W.instObj C s.heap.objs.size)).get? (s.heap.objs.size + 1) = some (PySem.W.instObj C s.heap.objs.size) := by
    have := Heap.get?_push_size (s.heap.push PySem.W.emptyDict) (o := PySem.W.instObj C s.heap.objs.size) rfl
    rwa [Heap.size_push] at this
  have e3 : (s.heap.push PySem.W.emptyDict).Ns s.heap.objs.size (fun _ => none) := ⟨PySem.W.emptyDict, #[], _, e1, rfl, (fun e he => absurd he (by simp)), fun _ => rfl⟩
  have I1 := I.laid (a := s.heap.objs.size) (o := .own (s.heap.objs.size + 1)) (h' := s.heap.push PySem.W.emptyDict) (t' := s.toks) (fun b u q => Heap.get?_push_of_some _ q) (Nat.le_refl _) ⟨_, e1⟩
  refine I1.laid (a := s.heap.objs.size + 1) (o := .ins C s.heap.objs.size []) (t' := s.toks) (fun b u q => Heap.get?_push_of_some _ q) (Nat.le_of_eq (Heap.size_push _ _)) ?_
  have ne : s.heap.objs.size ≠ s.heap.objs.size + 1 := Nat.ne_of_lt (Nat.lt_succ_self _)
  refine ⟨by rw [upd_ne ne, upd_same], Nat.zero_le _, ne, e2, fun _ => none, (Heap.Ns1.of_empty e3).at fun o q => Heap.get?_push_of_some _ q, fun _ => True.intro, fun y hy => absurd rfl hy⟩

end

section
variable {X : Cx} {o e value : Expr} {f : Str} {pos pos' tpos : Pos} {ta tv : TE}
end

section
variable {X : Cx} {pins : List (Addr × Obj)} {σ : St} {H : Hp} {s : Shared} {A : Around} {E : Value → Shared → Prop} {Q : Value → Shared → Prop} {c : Value} {b : Bool}
inductive TyOf (K : PySem.W.Frag) (H : Hp) : V → Value → Prop where
  | non : TyOf K H .non (.type "NoneType")
  | bl (x : Bool) : TyOf K H (.bl x) (.type "bool")
  | int (i : Int) : TyOf K H (.int i) (.type "int")
  | str (x : Str) : TyOf K H (.str x) (.type "str")
  | flt (x : UInt64) : TyOf K H (.flt x) (.type "float")
  | lst {a : Addr} {xs : List V} (e : H a = some (.lst xs)) : TyOf K H (.ref a) (.type "list")
  | frz {a : Addr} {o : Obj} {xs : List V} (e : H a = some (.frz o (.lst xs))) : TyOf K H (.ref a) (.type "list")
  | tup {a : Addr} {xs : List V} (e : H a = some (.tup xs)) : TyOf K H (.ref a) (.type "tuple")
  | dK {a : Addr} {kvs : List (Key × V)} (e : H a = some (.dK kvs)) : TyOf K H (.ref a) (.type "dict")
  | dT {a : Addr} {kvs : List (List Key × V)} (e : H a = some (.dT kvs)) : TyOf K H (.ref a) (.type "dict")
  | ins {a C dx : Addr} {fs : List (Str × V)} (e : H a = some (.ins C dx fs)) (cl : Cls K C) (ha : PySem.W.findIn K (.ref C) "__class__" = some (some (.builtin "object.__class__")))
      (hn : PySem.W.specialIn K (.builtin "object.__class__") "__get__" = some (some (.builtin "getset_descriptor.__get__"))) (htk : PySem.W.takesIn K (.builtin "object.__class__") = some true)
      (hm : PySem.W.mroIn K C (.type "object") = some true) : TyOf K H (.ref a) (.ref C)
theorem isinst_ok {x : V} {u t : Value} (I : Inv X pins σ H s) (rx : RelV x u) (ty : TyOf X.K H x t) (e : PySem.W.kitOne X.K t c = some b) (h : ∀ tk, Q (.bool b) { s with toks := tk }) :
    wpAny (model X.prog X.w) A (call (.builtin "isinstance") [u, c]) Q E s := by
  cases ty with
  | non => cases (show u = Value.none from rx); exact PySem.W.kia_one PySem.W.kitx_none I.kIn True.intro e (fun z => nomatch z) h
  | bl y => cases (show u = Value.bool y from rx); exact PySem.W.kia_one PySem.W.kitx_bool I.kIn True.intro e (fun z => nomatch z) h
  | int i => obtain ⟨t, q⟩ := (show ∃ t, u = Value.int i t from rx); cases q; exact PySem.W.kia_one PySem.W.kitx_int I.kIn True.intro e (fun z => nomatch z) h
  | str y => obtain ⟨t, q⟩ := (show ∃ t, u = Value.str y t from rx); cases q; exact PySem.W.kia_one PySem.W.kitx_str I.kIn True.intro e (fun z => nomatch z) h
  | flt y => obtain ⟨t, q⟩ := (show ∃ t, u = Value.float y t from rx); cases q; exact PySem.W.kia_one PySem.W.kitx_float I.kIn True.intro e (fun z => nomatch z) h
  | @lst a xs ea =>
    cases (show u = Value.ref a from rx)
    obtain ⟨_, _, n, _, h1⟩ := (show ObjOk X.prog X.w H s.heap a (.lst xs) from I.hok a _ ea)
    exact PySem.W.kia_one PySem.W.kitx_list I.kIn ⟨_, h1, rfl⟩ e (fun z => nomatch z) h
  | @frz a ob xs ea =>
    cases (show u = Value.ref a from rx)
    obtain ⟨_, _, _, n, _, h1⟩ := (show ObjOk X.prog X.w H s.heap a (.frz ob (.lst xs)) from I.hok a _ ea)
    exact PySem.W.kia_one PySem.W.kitx_list I.kIn ⟨_, h1, rfl⟩ e (fun z => nomatch z) h
  | @tup a xs ea =>
    cases (show u = Value.ref a from rx)
    obtain ⟨_, _, _, p⟩ := (show ObjOk X.prog X.w H s.heap a (.tup xs) from I.hok a _ ea)
    obtain ⟨o, h1, h2, _⟩ := p
    exact PySem.W.kia_one PySem.W.kitx_tuple I.kIn ⟨o, h1, h2⟩ e (fun z => nomatch z) h
  | @dK a kvs ea =>
    cases (show u = Value.ref a from rx)
    obtain ⟨_, _, vs, _, p⟩ := (show ObjOk X.prog X.w H s.heap a (.dK kvs) from I.hok a _ ea)
    obtain ⟨o, es, ep, h1, h2, _⟩ := p
    exact PySem.W.kia_one PySem.W.kitx_dict I.kIn ⟨o, h1, h2.1⟩ e (fun z => nomatch z) h
  | @dT a kvs ea =>
    cases (show u = Value.ref a from rx)
    obtain ⟨_, _, xs, _, o, es, ep, h1, h2, _⟩ := (show ObjOk X.prog X.w H s.heap a (.dT kvs) from I.hok a _ ea)
    exact PySem.W.kia_one PySem.W.kitx_dict I.kIn ⟨o, h1, h2.1⟩ e (fun z => nomatch z) h
  | @ins a C dx fs ea cl ha hn htk hm =>
    cases (show u = Value.ref a from rx)
    obtain ⟨mA, O, _⟩ := ins_get I.hok ea
    obtain ⟨od, J, _⟩ := O.look
    exact PySem.W.kia_one (PySem.W.kitx_own (cl.get _) cl.hd ha hn htk hm) I.kIn J e (fun z => nomatch z) h
end
end L2

namespace L2
open PySem PySem.Spec PyProof.Rows

structure Room (k : Nat) (A : Around) : Prop where
  hd : A.handled = none
  dp : A.depth + 3 * k + 5 < recursionLimit
  un : A.units + 16 * k + 200 < cLine
theorem Room.mono {j k : Nat} {A : Around} (r : Room k A) (h : j ≤ k) : Room j A := ⟨r.hd, by have := r.dp; omega, by have := r.un; omega⟩
theorem Room.deeper {k : Nat} {A : Around} (r : Room (k + 1) A) (env : Env) : Room k (A.deeper env) :=
  ⟨r.hd, by have := r.dp; show A.depth + 1 + 3 * k + 5 < _; omega, by have := r.un; show A.units + 3 + 16 * k + 200 < _; omega⟩
theorem Room.in1 {k : Nat} {A : Around} (r : Room (k + 1) A) : Room k A.in1 :=
  ⟨r.hd, by have := r.dp; show A.depth + 3 * k + 5 < _; omega, by have := r.un; show A.units + 1 + 16 * k + 200 < _; omega⟩
theorem Room.depth {k : Nat} {A : Around} (r : Room k A) : A.depth < recursionLimit := by have := r.dp; omega
theorem Room.units {k : Nat} {A : Around} (r : Room k A) : A.units + 64 < cLine := by have := r.un; omega
noncomputable def tNil : TA := fun _ H Q => Q [] H
noncomputable def tCons (ta : TE) (tr : TA) : TA := fun σ H Q => ta σ H fun x H1 => tr σ H1 fun xs H2 => Q (x :: xs) H2
section
variable {X : Cx} {e : Expr} {es : List Expr} {te : TE} {t : TA} {pos : Pos}
theorem pa_nil : PA X [] tNil := fun _ _ _ _ H Q I h => Calls.spliced_nil ⟨[], H, I, .nil, h⟩
theorem pa_cons (ha : PE X e te) (hr : PA X es t) (hs : starEach (e :: es) X.env = (false, eval e X.env) :: starEach es X.env := by rfl) : PA X (e :: es) (tCons te t) := by
  intro pos pins s σ H Q I h
  rw [hs]
  show wpAny _ _ (spliced ((false, eval e X.env) :: backTo pos (starEach es X.env))) _ _ s
  refine Calls.spliced_cons (thn (ha pins s σ H _ I h) fun u s1 ⟨x, H1, I1, r1, q1⟩ => ?_)
  exact thn (hr pos pins s1 σ H1 _ I1 q1) fun us s2 ⟨xs, H2, I2, r2, q2⟩ => ⟨x :: xs, H2, I2, .cons r1 r2, q2⟩

noncomputable def tTup (t : TA) : TE := fun σ H Q => t σ H fun xs H1 => xs.length ≤ sizeLine ∧ ∀ p, H1 p = none → Q (.ref p) (upd H1 p (.tup xs))
noncomputable def tLst (t : TA) : TE := fun σ H Q => t σ H fun xs H1 => xs.length ≤ sizeLine ∧ ∀ p, H1 p = none → Q (.ref p) (upd H1 p (.lst xs))
theorem pe_tup {x1} (h : PA X es t) : PE X (.Tuple es x1 pos) (tTup t) := by
  intro pins s σ H Q I hq
  refine wpAny_Tuple_spliced (thn (h pos pins s σ H _ I hq) fun us s1 ⟨xs, H1, I1, r, z, q⟩ => ⟨by rw [← r.length]; exact z, ?_⟩)
  have hf : H1 s1.heap.objs.size = none := I1.hok.fresh (Nat.le_refl _)
  refine ⟨.ref s1.heap.objs.size, upd H1 s1.heap.objs.size (.tup xs), I1.laid (t' := s1.toks) (fun b u e => Heap.get?_push_of_some _ e) (Nat.le_refl _) ?_, rfl, q _ hf⟩
  exact ⟨z, us, r, ⟨_, Heap.get?_push_size _ rfl, rfl, _, rfl⟩⟩
theorem pe_lst (h : PA X es t) : PE X (.List es pos) (tLst t) := by
  intro pins s σ H Q I hq
  refine wpAny_List_spliced (thn (h pos pins s σ H _ I hq) fun us s1 ⟨xs, H1, I1, r, z, q⟩ => ⟨by rw [← r.length]; exact z, ?_⟩)
  have hf : H1 s1.heap.objs.size = none := I1.hok.fresh (Nat.le_refl _)
  refine ⟨.ref s1.heap.objs.size, upd H1 s1.heap.objs.size (.lst xs), I1.laid (t' := s1.toks) (fun b u e => Heap.get?_push_of_some _ e) (Nat.le_refl _) ?_, rfl, q _ hf⟩
  exact ⟨z, us, 0, r, Heap.get?_push_size _ rfl⟩
end

noncomputable abbrev Sp := List V → Hp → VK → XK → Prop
noncomputable abbrev CXT := List Env → Hp → Shared → XK → Value → Shared → Prop

structure Env0 (P : Program) (w : World) (K : PySem.W.Frag) (mg : Str → Option Value) (base : Heap) (A : Around) (outer : List Env) (s : Shared) (H : Hp) : Prop where
  frames : A.frames = some outer
  mod : Mod K mg base
  bs : ∀ b o, base.get? b = some o → s.heap.get? b = some o ∧ H b = none
  bsz : base.objs.size ≤ s.heap.objs.size
  funs : s.heap.FunFrames base outer
  frf : ∀ b ∈ frs outer, H b = none
  hok : HOk P w H s.heap
  bare : AllBare s.gens
noncomputable def CE (outer : List Env) (P : Program) (w : World) (H : Hp) (s : Shared) (Q : VK) (u : Value) (s' : Shared) : Prop :=
  ∃ v H', s'.os = s.os ∧ AllBare s'.gens ∧ Un (frs outer) [] H H' s.heap s'.heap ∧ HOk P w H' s'.heap ∧ RelV v u ∧ Q v H'
noncomputable def CR (CX : CXT) (outer : List Env) (P : Program) (w : World) (H : Hp) (s : Shared) (Q : VK) (E : XK) (r : Result) (s' : Shared) : Prop :=
  match r with
  | .ok (.ret u) => CE outer P w H s Q u s'
  | .ok _ => False
  | .error e => CX outer H s E e s'
structure FnOk (P : Program) (w : World) (K : PySem.W.Frag) (mg : Str → Option Value) (base : Heap) (CX : CXT) (k : Nat) (f : Addr) (fd : FuncData) (ps : List Str) (sp : Sp) : Prop where
  len : ∀ vs H Q E, sp vs H Q E → vs.length = ps.length
  run : ∀ (A : Around) (outer : List Env) (s : Shared) (H : Hp) (args : Args) (us : List Value) (vs : List V) (Q : VK) (E : XK), Room k A → Env0 P w K mg base A outer s H → BindsTo s fd args (ps.zip us) → Vals vs us → sp vs H Q E →
    codeAny (model P w) A (.call (.ref f) args) (CR CX outer P w H s Q E) s
theorem FnOk.mono {P : Program} {w : World} {K : PySem.W.Frag} {mg : Str → Option Value} {base : Heap} {CX : CXT} {j k : Nat} {f : Addr} {fd : FuncData} {ps : List Str} {sp : Sp} (F : FnOk P w K mg base CX j f fd ps sp) (h : j ≤ k) :
    FnOk P w K mg base CX k f fd ps sp := ⟨F.len, fun A outer s H args us vs Q E hr => F.run A outer s H args us vs Q E (hr.mono h)⟩
theorem FnOk.imp {P : Program} {w : World} {K : PySem.W.Frag} {mg : Str → Option Value} {base : Heap} {CX : CXT} {k : Nat} {f : Addr} {fd : FuncData} {ps : List Str} {sp sp' : Sp} (F : FnOk P w K mg base CX k f fd ps sp)
    (h : ∀ vs H Q E, sp' vs H Q E → sp vs H Q E) : FnOk P w K mg base CX k f fd ps sp' :=
  ⟨fun vs H Q E q => F.len vs H Q E (h _ _ _ _ q), fun A outer s H args us vs Q E hr he hb hv hs => F.run A outer s H args us vs Q E hr he hb hv (h _ _ _ _ hs)⟩

theorem Env0.in1 {P : Program} {w : World} {K : PySem.W.Frag} {mg : Str → Option Value} {base : Heap} {A : Around} {outer : List Env} {s : Shared} {H : Hp} (e : Env0 P w K mg base A outer s H) :
    Env0 P w K mg base A.in1 outer s H := ⟨e.frames, e.mod, e.bs, e.bsz, e.funs, e.frf, e.hok, e.bare⟩

section
variable {X : Cx} {pins : List (Addr × Obj)} {σ : St} {H : Hp} {s s' : Shared}
theorem Inv.env0 (I : Inv X pins σ H s) : Env0 X.prog X.w X.K X.mg X.base X.A X.stack s H :=
  ⟨I.ok.frames, I.ok.mod, I.bs, Nat.le_trans I.ok.bsz I.sz, I.stack, I.stkFree, I.hok, I.bare⟩
theorem Inv.after {Q : VK} {u : Value} (I : Inv X pins σ H s) (h : CE X.stack X.prog X.w H s Q u s') : EP X pins σ Q u s' := by
  obtain ⟨v, H', os, bare, un, hok, r, q⟩ := h
  obtain ⟨hh, g, d, t, os'⟩ := s'
  obtain rfl : os' = s.os := os
  exact ⟨v, H', I.call (h' := hh) (g' := g) (d' := d) (t' := t) (ch := []) un hok bare (fun b z => absurd z (by simp)), r, q⟩
end

noncomputable def tCall (sp : Sp) (dvs : List V) (E : XK) (t : TA) : TE := fun σ H Q => t σ H fun vs H1 => sp (vs ++ dvs) H1 Q E
noncomputable def Binds (K : PySem.W.Frag) (fd : FuncData) (ps : List Str) (ds : List Value) : Prop :=
  ∀ (s : Shared) (us : List Value), K.In s.heap → (us ++ ds).length = ps.length → BindsTo s fd ⟨us, []⟩ (ps.zip (us ++ ds))
theorem Binds.all {K : PySem.W.Frag} {fd : FuncData} {ps : List Str} (h : ∀ us : List Value, us.length = ps.length → bindArgs fd ⟨us, []⟩ = pure (ps.zip us)) : Binds K fd ps [] := fun s us _ hl => by
  rw [List.append_nil] at hl ⊢
  exact .of_eq (h us hl)

noncomputable def Passes (CX : CXT) (X : Cx) (E : XK) : Prop := ∀ (pins : List (Addr × Obj)) (σ : St) (H : Hp) (s : Shared) (e : Value) (s' : Shared), Inv X pins σ H s → CX X.stack H s E e s' → X.xe e s'

section
variable {X : Cx} {CX : CXT} {k : Nat} {f C : Addr} {fd : FuncData} {ps : List Str} {sp : Sp} {dvs : List V} {ds : List Value} {E : XK} {x m : Str} {p pos apos : Pos} {e o : Expr} {es : List Expr} {ta : TE} {t : TA}

theorem run_fn {pins : List (Addr × Obj)} {σ : St} {H : Hp} {s : Shared} {Q : VK} {us : List Value} {vs : List V} (F : FnOk X.prog X.w X.K X.mg X.base CX k f fd ps sp) (hr : Room k X.A) (hb : Binds X.K fd ps ds) (hd : Vals dvs ds) (hx : Passes CX X E)
    (I : Inv X pins σ H s) (r : Vals vs us) (h : sp (vs ++ dvs) H Q E) : wpAny (model X.prog X.w) X.A (call (.ref f) us) (EP X pins σ Q) X.xe s := by
  have r2 : Vals (vs ++ dvs) (us ++ ds) := r.append hd
  have hl : (us ++ ds).length = ps.length := by rw [← r2.length]; exact F.len _ _ _ _ h
  refine wpAny_call (codeAny_mono (F.run X.A X.stack s H ⟨us, []⟩ (us ++ ds) (vs ++ dvs) Q E hr I.env0 (hb s us I.kIn hl) r2 h) fun r s' hq => ?_)
  cases r with
  | error e => exact hx pins σ H s e s' I hq
  | ok fl =>
    cases fl with
    | ret u => exact I.after hq
    | next => exact False.elim hq
    | brk => exact False.elim hq
    | cont => exact False.elim hq

theorem pe_call (F : FnOk X.prog X.w X.K X.mg X.base CX k f fd ps sp) (hr : Room k X.A) (hg : Gl X x) (hm : X.mg x = some (.ref f)) (hk : PySem.W.keepIn X.K (.ref f) = true) (hb : Binds X.K fd ps ds) (hd : Vals dvs ds) (hx : Passes CX X E)
    (ha : PA X (e :: es) t) (hdb : (x == ("__debug__" : Str)) = false := by decide) (he : starEach (e :: es) X.env = (false, eval e X.env) :: starEach es X.env := by rfl) (hpl : (backTo pos (starEach es X.env)).any (·.1) = false := by rfl) :
    PE X (.Call (.Name x p) (e :: es) [] pos) (tCall sp dvs E t) := by
  intro pins s σ H Q I h
  refine wpAny_Call_Name_kw (ld_glob I hg hm ?_ hdb)
  refine PySem.W.callWith_K (h₀ := X.base) I.ok.mod.kin hk (thn (ha pos pins s σ H _ I h) fun us s1 ⟨vs, H1, I1, r, q⟩ => ⟨I1.kIn, ?_⟩) he hpl
  exact run_fn F hr hb hd hx I1 r q
structure Mk (K : PySem.W.Frag) (C f : Addr) : Prop where
  makes : PySem.W.makesIn K C = true
  init : PySem.W.findIn K (.ref C) "__init__" = some (some (.ref f))
  fn : PySem.W.isFn K (.ref f) = true
  kp : PySem.W.keepIn K (.ref C) = true

end

section
variable {X : Cx} {CX : CXT} {k : Nat} {f C : Addr} {fd : FuncData} {ps ks : List Str} {sp : Sp} {E : XK} {x m : Str} {p pos apos kpos : Pos} {e o : Expr} {es : List Expr} {kws : List Keyword} {te ta : TE} {t tk : TA} {nm : Option Str}
structure KBinds (K : PySem.W.Frag) (fd : FuncData) (ps ks : List Str) (g : List Value → List Value → List Value) (gV : List V → List V → List V) : Prop where
  to : ∀ (s : Shared) (us ws : List Value), K.In s.heap → (g us ws).length = ps.length → BindsTo s fd ⟨us, ks.zip ws⟩ (ps.zip (g us ws))
  rel : ∀ {vs : List V} {us : List Value} {zs : List V} {ws : List Value}, Vals vs us → Vals zs ws → Vals (gV vs zs) (g us ws)
variable {g : List Value → List Value → List Value} {gV : List V → List V → List V}
end

structure FnScope (N P : List Str) (sc : Scope) : Prop where
  kind : sc.kind = .function
  co : sc.isCoroutine = false
  gen : sc.isGenerator = false
  nd : N.Nodup
  pre : N.take P.length = P
  par : ∀ x ∈ P, sc.names.lookup x = some .local ∨ sc.names.lookup x = some .cell
  nofree : ∀ y ∈ sc.names, y.2 ≠ .free

theorem bindL_out {kindOf : Str → Option NameKind} {x : Str} : ∀ {binds : List (Str × Value)} {m : Str → Option Value}, (∀ v, (x, v) ∉ binds) → bindL kindOf binds m x = m x
  | [], _, _ => rfl
  | (n, v) :: r, m, h => by
    unfold bindL
    rw [bindL_out fun w hw => h w (List.mem_cons_of_mem _ hw)]
    split
    · have : x ≠ n := by rintro rfl; exact h v List.mem_cons_self
      simp [this]
    · rfl
theorem bindC_out {kindOf : Str → Option NameKind} {x : Str} : ∀ {binds : List (Str × Value)} {m : Str → Option Value}, (∀ v, (x, v) ∉ binds) → bindC kindOf binds m x = m x
  | [], _, _ => rfl
  | (n, v) :: r, m, h => by
    unfold bindC
    rw [bindC_out fun w hw => h w (List.mem_cons_of_mem _ hw)]
    split
    · rfl
    · have : x ≠ n := by rintro rfl; exact h v List.mem_cons_self
      simp [this]
theorem bindL_get {kindOf : Str → Option NameKind} {x : Str} {v : Value} : ∀ {P : List Str} {vs : List Value} {i : Nat} {m : Str → Option Value}, P.Nodup → P[i]? = some x → vs[i]? = some v → kindOf x = some .local →
    bindL kindOf (P.zip vs) m x = some v
  | [], _, _, _, _, h, _, _ => by simp at h
  | _ :: _, [], _, _, _, _, h, _ => by simp at h
  | p :: P, w :: vs, 0, m, nd, h1, h2, hk => by
    simp at h1 h2; subst h1; subst h2
    show bindL kindOf ((p, w) :: P.zip vs) m p = _
    unfold bindL
    rw [bindL_out fun v hv => (List.nodup_cons.mp nd).1 (List.of_mem_zip hv).1, if_pos hk]
    simp
  | p :: P, w :: vs, i + 1, m, nd, h1, h2, hk => by
    show bindL kindOf ((p, w) :: P.zip vs) m x = _
    unfold bindL
    exact bindL_get (i := i) (List.nodup_cons.mp nd).2 (by simpa using h1) (by simpa using h2) hk
theorem bindC_get {kindOf : Str → Option NameKind} {x : Str} {v : Value} : ∀ {P : List Str} {vs : List Value} {i : Nat} {m : Str → Option Value}, P.Nodup → P[i]? = some x → vs[i]? = some v → kindOf x ≠ some .local →
    bindC kindOf (P.zip vs) m x = some v
  | [], _, _, _, _, h, _, _ => by simp at h
  | _ :: _, [], _, _, _, _, h, _ => by simp at h
  | p :: P, w :: vs, 0, m, nd, h1, h2, hk => by
    simp at h1 h2; subst h1; subst h2
    show bindC kindOf ((p, w) :: P.zip vs) m p = _
    unfold bindC
    rw [bindC_out fun v hv => (List.nodup_cons.mp nd).1 (List.of_mem_zip hv).1, if_neg hk]
    simp
  | p :: P, w :: vs, i + 1, m, nd, h1, h2, hk => by
    show bindC kindOf ((p, w) :: P.zip vs) m x = _
    unfold bindC
    exact bindC_get (i := i) (List.nodup_cons.mp nd).2 (by simpa using h1) (by simpa using h2) hk

noncomputable def start (N : List Str) (vs : List V) : St := vs.map some ++ List.replicate (N.length - vs.length) none

noncomputable def cxOf (CX : CXT) (P : Program) (w : World) (K : PySem.W.Frag) (mg : Str → Option Value) (base : Heap) (N : List Str) (qual : Str) (scope : Scope) (f : Addr) (cd : Value) (A : Around) (outer : List Env) (s : Shared) (H : Hp) (E : XK) : Cx where
  prog := P
  w := w
  K := K
  mg := mg
  base := base
  A := A.deeper (envOfC qual scope s.heap.objs.size f cd)
  N := N
  s₀ := s
  H₀ := H
  env := envOfC qual scope s.heap.objs.size f cd
  outer := outer
  stack := envOfC qual scope s.heap.objs.size f cd :: outer
  ex := []
  calm := true
  fn := fun _ => true
  pn := []
  xe := fun e s' => wpAny (model P w) (A.deeper (envOfC qual scope s.heap.objs.size f cd)) (leaving (envOfC qual scope s.heap.objs.size f cd) e) (fun _ s'' => CX outer H s E e s'') (fun e' s'' => CX outer H s E e' s'') s'

theorem cell_has {sc : Scope} {n : Nat} {x : Str} (h : sc.names.lookup x = some .cell) : ∃ c, (cellsFrom n sc.names []).lookup x = some c := by
  have q := PySem.W.cellsFrom_some sc.names n [] (.inl h)
  exact Option.isSome_iff_exists.mp q

theorem inv_start {CX : CXT} {P : Program} {w : World} {K : PySem.W.Frag} {mg : Str → Option Value} {base : Heap} {N ps : List Str} {qual : Str} {scope : Scope} {f : Addr} {cd : Value} {A : Around} {outer : List Env} {s s1 : Shared} {H : Hp} {E : XK} {us : List Value} {vs : List V}
    (S : FnScope N ps scope) (hd : A.handled = none) (e0 : Env0 P w K mg base A outer s H) (hl : vs.length = ps.length) (r : Vals vs us)
    (x : InCallC s s.heap.objs.size (bindL (envOfC qual scope s.heap.objs.size f cd).kindOf (ps.zip us) fun _ => none) (cellsFrom (s.heap.objs.size + 1) scope.names []) (bindC (envOfC qual scope s.heap.objs.size f cd).kindOf (ps.zip us) fun _ => none) s1) :
    Inv (cxOf CX P w K mg base N qual scope f cd A outer s H E) [] (start N vs) H s1 := by
  have hpl : ps.length ≤ N.length := by have := congrArg List.length S.pre; rw [List.length_take] at this; omega
  obtain ⟨h1, tk, rfl, hk⟩ := x.done
  have noA : ∀ b : Addr, b ∉ (cxOf CX P w K mg base N qual scope f cd A outer s H E).ex := fun b z => absurd (show b ∈ ([] : List Addr) from z) (by simp)
  refine ⟨⟨e0.mod, S.kind, rfl, rfl, Nat.le_refl _, fun y z c h1 h2 => ?_, fun y hy => ?_, fun y c _ h => ?_, fun _ => hd, Around.frames_deeper e0.frames, .inr ⟨rfl, rfl⟩, fun b z => absurd z (noA b), e0.bs, e0.bsz, fun b _ _ => noA b, fun b z => absurd z (noA b), e0.funs, e0.frf⟩,
    rfl, e0.bare, Un.kept hk, ⟨_, x.toInCall.ns, fun i y v h1 h2 h3 => ?_⟩, fun y c h => ⟨_, x.cell y c h⟩, e0.hok.fresh (Nat.le_refl _), fun y c h => ?_, fun p hp => absurd (show p ∈ ([] : List (Addr × Obj)) from hp) (by simp), e0.hok.kept hk, ?_⟩
  · exact name_of_addr x.apart (PySem.mem_of_lookup h1) (PySem.mem_of_lookup h2)
  · have hy : scope.names.lookup y = some .cell ∨ scope.names.lookup y = some .free := hy
    rcases hy with hy | hy
    · exact cell_has hy
    · exact absurd rfl (S.nofree _ (PySem.mem_of_lookup hy))
  · exact Nat.le_of_lt (x.above y c (PySem.mem_of_lookup h))
  · have hi : i < vs.length := by
      unfold start at h2
      by_cases hi : i < vs.length
      · exact hi
      · rw [List.getElem?_append_right (by simpa using hi)] at h2
        rw [List.getElem?_replicate] at h2
        split at h2 <;> cases h2
    have ha : vs[i]? = some v := by
      unfold start at h2
      rw [List.getElem?_append_left (by simpa using hi), List.getElem?_map] at h2
      cases e : vs[i]? with
      | none => rw [e] at h2; cases h2
      | some a => rw [e] at h2; cases h2; rfl
    obtain ⟨u, hu, rv⟩ := r.get ha
    have hp : ps[i]? = some y := by
      rw [← S.pre, List.getElem?_take_of_lt (by omega)]; exact h1
    have ndP : ps.Nodup := by rw [← S.pre]; exact S.nd.sublist (List.take_sublist _ _)
    refine ⟨u, rv, ?_⟩
    rcases S.par y (List.mem_of_getElem? hp) with k | k
    · exact .inl ⟨k, bindL_get ndP hp hu k⟩
    · obtain ⟨c, e⟩ := cell_has (n := s.heap.objs.size + 1) k
      refine .inr ⟨.inl k, c, e, ?_⟩
      have q := x.cell y c e
      rw [bindC_get ndP hp hu (by show scope.names.lookup y ≠ _; rw [k]; decide)] at q
      exact q
  · exact e0.hok.fresh (Nat.le_of_lt (x.above y c (PySem.mem_of_lookup h)))
  · unfold start
    show _ = N.length
    rw [List.length_append, List.length_map, List.length_replicate]
    omega

theorem fn_of {CX : CXT} {P : Program} {w : World} {K : PySem.W.Frag} {mg : Str → Option Value} {base : Heap} {k : Nat} {f : Addr} {name qual : Str} {params : Arguments} {body : List Stmt} {scope : Scope} {dV kV doc pm cdv ct oc : Value} {an od : Option Addr}
    {osl : Array (Option Value)} {N ps : List Str} {sp : Sp} (lk : K.lookup f = some ⟨oc, od, .func (PySem.W.fnOf name qual params body scope dV kV doc pm an cdv ct), osl⟩) (hcd : PySem.W.codeIn K cdv qual = true) (S : FnScope N ps scope)
    (len : ∀ vs H Q E, sp vs H Q E → vs.length = ps.length)
    (hbody : ∀ (A : Around) (outer : List Env) (s : Shared) (H : Hp) (vs : List V) (Q : VK) (E : XK), Room k (A.deeper (envOfC qual scope s.heap.objs.size f cdv)) → sp vs H Q E →
      ∃ t, PSs (cxOf CX P w K mg base N qual scope f cdv A outer s H E) body t ∧ t { nx := fun _ H' => Q .non H', rt := Q } (start N vs) H) :
    FnOk P w K mg base CX (k + 1) f (PySem.W.fnOf name qual params body scope dV kV doc pm an cdv ct) ps sp := by
  refine ⟨len, fun A outer s H args us vs Q E hr e0 hb r hsp => ?_⟩
  have hl := len _ _ _ _ hsp
  have KX : K.In s.heap := e0.mod.kin.keeps fun b o e => (e0.bs b o e).1
  have lim : s.heap.NoLimit := e0.mod.nolimit.keeps fun b o e => (e0.bs b o e).1
  have hkind : ∀ y ∈ ps.zip us, scope.names.lookup y.1 = some .local ∨ (scope.names.lookup y.1 = some .cell ∧ ((cellsFrom (s.heap.objs.size + 1) scope.names []).lookup y.1).isSome = true) := fun ⟨n, v⟩ hy => by
    rcases S.par n (List.of_mem_zip hy).1 with q | q
    · exact .inl q
    · exact .inr ⟨q, PySem.W.cellsFrom_some _ _ _ (.inl q)⟩
  refine codeAny_call_function hr.depth (KX _ _ lk) rfl S.co S.gen rfl (PySem.W.codeRec_of KX hcd) (hb _ _ _ _ ?_)
  refine wpAny_newFunctionEnv_cells S.kind hkind fun env he s1 x => ?_
  subst he
  refine ⟨lim.keeps x.toInCall.keep, codeAny_func ?_⟩
  obtain ⟨t, ht, hq⟩ := hbody A outer s H vs Q E (hr.deeper _) hsp
  have I : Inv (cxOf CX P w K mg base N qual scope f cdv A outer s H E) [] (start N vs) H s1 := inv_start S hr.hd e0 hl r x
  refine wpAny_mono (ht [] s1 (start N vs) H _ I hq) (fun fl s' hs => ?_) fun e s' hs => hs
  have fin : ∀ {σ' : St} {H' : Hp} {v : V} {u : Value}, Inv (cxOf CX P w K mg base N qual scope f cdv A outer s H E) [] σ' H' s' → RelV v u → Q v H' → CE outer P w H s Q u s' :=
    fun {σ' H' v u} J rv q => ⟨v, H', J.os, J.bare, J.base, J.hok, rv, q⟩
  cases fl with
  | ret u =>
    obtain ⟨v, σ', H', J, rv, q⟩ := hs
    exact fin J rv q
  | next =>
    obtain ⟨σ', H', J, q⟩ := hs
    exact fin (v := V.non) (u := Value.none) J rfl q
  | brk =>
    obtain ⟨_, _, _, q⟩ := hs
    exact False.elim q
  | cont =>
    obtain ⟨_, _, _, q⟩ := hs
    exact False.elim q
end L2

namespace L2
open PySem PySem.Spec PyProof.Rows
section
variable {X : Cx} {x : Str} {p pos : Pos} {e : Expr} {es : List Expr} {t : TA} {id T : String} {r : List V → Hp → VK → Prop}

noncomputable def tCB (r : List V → Hp → VK → Prop) (t : TA) : TE := fun σ H Q => t σ H fun vs H1 => r vs H1 Q
theorem pe_callB (hc : CallR X (.builtin id) r) (hg : Gl X x) (hm : X.mg x = none) (hv : bootBuiltins x = some (.builtin id)) (ha : PA X (e :: es) t) (hn : x ≠ "__name__" := by decide) (hdb : (x == ("__debug__" : Str)) = false := by decide)
    (he : starEach (e :: es) X.env = (false, eval e X.env) :: starEach es X.env := by rfl) (hpl : (backTo pos (starEach es X.env)).any (·.1) = false := by rfl) : PE X (.Call (.Name x p) (e :: es) [] pos) (tCB r t) := by
  intro pins s σ H Q I h
  refine wpAny_Call_Name_kw (ld_blt I hg hm hv ?_ hn hdb)
  exact PyProof.Rows.callWith_builtin1 (thn (ha pos pins s σ H _ I h) fun us s1 ⟨vs, H1, I1, r1, q1⟩ => hc pins s1 σ H1 vs us Q I1 r1 q1) he hpl
theorem pe_callTy (hc : CallR X (.type T) r) (hg : Gl X x) (hm : X.mg x = none) (hv : bootBuiltins x = some (.type T)) (ha : PA X (e :: es) t) (hn : x ≠ "__name__" := by decide) (hdb : (x == ("__debug__" : Str)) = false := by decide)
    (he : starEach (e :: es) X.env = (false, eval e X.env) :: starEach es X.env := by rfl) (hpl : (backTo pos (starEach es X.env)).any (·.1) = false := by rfl) : PE X (.Call (.Name x p) (e :: es) [] pos) (tCB r t) := by
  intro pins s σ H Q I h
  refine wpAny_Call_Name_kw (ld_blt I hg hm hv ?_ hn hdb)
  exact PyProof.Rows.callWith_type1 (thn (ha pos pins s σ H _ I h) fun us s1 ⟨vs, H1, I1, r1, q1⟩ => hc pins s1 σ H1 vs us Q I1 r1 q1) he hpl
end
end L2

namespace HT
open PySem PyProof.Rows

section
open PySem.SeqAt
open PySem.AutoSeq1 (wpAny_loadPart')
open PySem.MeetsSeq PySem.MeetsSeq2 PySem.MeetsSeq3

end

section
variable {prog : Program} {w : World} {A : Around} {E : Value → Shared → Prop} {s : Shared}

noncomputable def sIx (n d : Nat) : Option Int → Nat
  | none => d
  | some v => if v < 0 then (v + (n : Int)).toNat else min v.toNat n
theorem sIx_none (n d : Nat) : sIx n d none = d := rfl
theorem sIx_nat (n d k : Nat) : sIx n d (some (k : Int)) = min k n := by
  show (if (k : Int) < 0 then ((k : Int) + (n : Int)).toNat else min (k : Int).toNat n) = min k n
  rw [if_neg (by omega), Int.toNat_natCast]
end
end HT

namespace L2
open PySem PySem.Spec PyProof.Rows

noncomputable abbrev TO := St → Hp → (Option Int → Hp → Prop) → Prop
noncomputable def PO (X : Cx) (e : Option Expr) (t : TO) : Prop :=
  ∀ (pins : List (Addr × Obj)) (s : Shared) (σ : St) (H : Hp) (Q : Option Int → Hp → Prop), Inv X pins σ H s → t σ H Q →
    wpAny (model X.prog X.w) X.A (evalPart e X.env) (fun u s' => ∃ o H', Inv X pins σ H' s' ∧ IsPart u o ∧ Q o H') X.xe s
noncomputable def tNoPart : TO := fun _ H Q => Q none H
noncomputable def tPart (t : TE) : TO := fun σ H Q => t σ H fun x H1 => ∃ i, x = .int i ∧ Q (some i) H1

section
variable {X : Cx} {e : Expr} {te : TE} {lo hi : Option Expr} {tl th : TO} {pos p2 : Pos}

theorem po_none : PO X none tNoPart := by
  intro pins s σ H Q I h
  rw [evalPart_none]
  exact wpAny_pure ⟨none, H, I, .none, h⟩
theorem po_some (h : PE X e te) : PO X (some e) (tPart te) := by
  intro pins s σ H Q I hw
  rw [evalPart_some]
  refine thn (h pins s σ H _ I hw) fun u s1 ⟨x, H1, I1, r1, q1⟩ => ?_
  obtain ⟨i, rfl, q⟩ := q1
  obtain ⟨t, rfl⟩ := r1
  exact ⟨some i, H1, I1, .int i t, q⟩

noncomputable def SlR (X : Cx) (r : V → Option Int → Option Int → Hp → VK → Prop) : Prop :=
  ∀ (pins : List (Addr × Obj)) (s : Shared) (σ : St) (H : Hp) (x : V) (v vl vu : Value) (lo hi : Option Int) (sl : Addr) (Q : VK), Inv X pins σ H s → RelV x v → s.heap.IsSliceOf sl vl vu .none → IsPart vl lo → IsPart vu hi → r x lo hi H Q →
    ∃ T id, typeLookup (.type T) "__getitem__" = pure (some (.builtin id)) ∧ s.TypeIs v T ∧ wpAny (model X.prog X.w) X.A (getItem v (.ref sl)) (EP X pins σ Q) X.xe s
theorem SlR.or {r r' : V → Option Int → Option Int → Hp → VK → Prop} (h : SlR X r) (h' : SlR X r') : SlR X (fun x lo hi H Q => r x lo hi H Q ∨ r' x lo hi H Q) := by
  intro pins s σ H x v vl vu lo hi sl Q I rx hs pl pu q
  rcases q with q | q
  · exact h pins s σ H x v vl vu lo hi sl Q I rx hs pl pu q
  · exact h' pins s σ H x v vl vu lo hi sl Q I rx hs pl pu q
noncomputable def tSl (r : V → Option Int → Option Int → Hp → VK → Prop) (te : TE) (tl th : TO) : TE := fun σ H Q => te σ H fun x H1 => tl σ H1 fun l H2 => th σ H2 fun u H3 => r x l u H3 Q
theorem pe_slice {r : V → Option Int → Option Int → Hp → VK → Prop} (hr : SlR X r) (he : PE X e te) (hl : PO X lo tl) (hu : PO X hi th) : PE X (.Subscript e (.Slice lo hi none p2) pos) (tSl r te tl th) := by
  intro pins s σ H Q I h
  refine Subscript_ (thn (he pins s σ H _ I h) fun v s1 ⟨x, H1, I1, r1, q1⟩ => ?_)
  refine wpAny_Slice (thn (hl pins s1 σ H1 _ I1 q1) fun vl s2 ⟨l, H2, I2, pl, q2⟩ => thn (hu pins s2 σ H2 _ I2 q2) fun vu s3 ⟨u, H3, I3, pu, q3⟩ => ?_)
  rw [evalPart_none]
  refine wpAny_pure ?_
  have I4 : Inv X pins σ H3 { s3 with heap := s3.heap.push { cls := .type "slice", data := .fields #[vl, vu, .none] } } := I3.kept (t' := s3.toks) fun b ob q => Heap.get?_push_of_some _ q
  obtain ⟨T, id, hT, ht, hg⟩ := hr pins { s3 with heap := s3.heap.push { cls := .type "slice", data := .fields #[vl, vu, .none] } } σ H3 x v vl vu l u s3.heap.objs.size Q I4 r1 (Heap.IsSliceOf.new ..) pl pu q3
  show wpAny (model X.prog X.w) X.A (subscriptTail e (.Slice lo hi none p2) v (.ref s3.heap.objs.size)) (EP X pins σ Q) X.xe { s3 with heap := s3.heap.push { cls := .type "slice", data := .fields #[vl, vu, .none] } }
  exact tail_any (ops := [.ref s3.heap.objs.size, v]) ht hT hg (by with_unfolding_all rfl)

noncomputable def cutV (xs : List V) (lo hi : Option Int) : List V := (xs.drop (HT.sIx xs.length 0 lo)).take (HT.sIx xs.length xs.length hi - HT.sIx xs.length 0 lo)
theorem cutV_length (xs : List V) (lo hi : Option Int) : (cutV xs lo hi).length ≤ xs.length := by
  unfold cutV
  rw [List.length_take, List.length_drop]
  omega
end
end L2

namespace L2
open PySem PySem.Spec PyProof.Rows

noncomputable def ixN (n : Nat) (i : Int) : Option Nat := if 0 ≤ i then (if i < n then some i.toNat else none) else if -(n : Int) ≤ i then some (i + n).toNat else none
noncomputable def atI {α : Type} (xs : List α) (i : Int) : Option α := (ixN xs.length i).bind fun j => xs[j]?
theorem ixN_seq {n : Nat} {i : Int} {j : Nat} (h : ixN n i = some j) : seqIndex? i n = some j ∧ j < n ∧ -(n : Int) ≤ i ∧ i < n := by
  unfold ixN at h
  by_cases h0 : 0 ≤ i
  · rw [if_pos h0] at h
    by_cases h1 : i < n
    · rw [if_pos h1] at h
      have e : i.toNat = j := Option.some.inj h
      exact ⟨by rw [seqIndex_of h0 h1, e], by omega, by omega, h1⟩
    · rw [if_neg h1] at h; cases h
  · rw [if_neg h0] at h
    by_cases h1 : -(n : Int) ≤ i
    · rw [if_pos h1] at h
      have e : (i + n).toNat = j := Option.some.inj h
      exact ⟨by rw [seqIndex_neg (by omega) h1, e], by omega, h1, by omega⟩
    · rw [if_neg h1] at h; cases h
theorem atI_get {α : Type} {xs : List α} {i : Int} {v : α} (h : atI xs i = some v) : ∃ j, seqIndex? i xs.length = some j ∧ xs[j]? = some v ∧ j < xs.length ∧ -(xs.length : Int) ≤ i ∧ i < xs.length := by
  unfold atI at h
  cases e : ixN xs.length i with
  | none => rw [e] at h; cases h
  | some j =>
    rw [e] at h
    obtain ⟨h1, h2, h3, h4⟩ := ixN_seq e
    exact ⟨j, h1, h, h2, h3, h4⟩
theorem atI_nat {α : Type} {xs : List α} {j : Nat} {v : α} (h : xs[j]? = some v) : atI xs (j : Int) = some v := by
  have hj : j < xs.length := (List.getElem?_eq_some_iff.mp h).1
  have e : ixN xs.length (j : Int) = some j := by
    unfold ixN
    rw [if_pos (by omega), if_pos (by omega)]; simp
  unfold atI; rw [e]; exact h
noncomputable def PlainIx (b : Expr) : Prop := ∀ o i, subscripted b false o i = operate [o, i] (getItem o i)
noncomputable def IxR (X : Cx) (r : R2) : Prop :=
  ∀ (value slice : Expr) (pins : List (Addr × Obj)) (s : Shared) (σ : St) (H : Hp) (x y : V) (v u : Value) (Q : VK), Inv X pins σ H s → RelV x v → RelV y u → r x y H Q →
    subscripted slice false v u = operate [v, u] (getItem v u) → wpAny (model X.prog X.w) X.A (subscriptTail value slice v u) (EP X pins σ Q) X.xe s
noncomputable def MtR (X : Cx) (id : String) (r : V → List V → Hp → VK → Prop) : Prop :=
  ∀ (pins : List (Addr × Obj)) (s : Shared) (σ : St) (H : Hp) (x : V) (xs : List V) (v : Value) (us : List Value) (Q : VK), Inv X pins σ H s → RelV x v → Vals xs us → r x xs H Q →
    wpAny (model X.prog X.w) X.A (call (.builtin id) (v :: us)) (EP X pins σ Q) X.xe s
section
variable {X : Cx} {a b : Expr} {ta tb : TE} {pos : Pos}
theorem IxR.or {r r' : R2} (h : IxR X r) (h' : IxR X r') : IxR X (fun x y H Q => r x y H Q ∨ r' x y H Q) := by
  intro value slice pins s σ H x y v u Q I rx ry q hs
  rcases q with q | q
  · exact h value slice pins s σ H x y v u Q I rx ry q hs
  · exact h' value slice pins s σ H x y v u Q I rx ry q hs
theorem MtR.or {id : String} {r r' : V → List V → Hp → VK → Prop} (h : MtR X id r) (h' : MtR X id r') : MtR X id (fun x xs H Q => r x xs H Q ∨ r' x xs H Q) := by
  intro pins s σ H x xs v us Q I rx rs q
  rcases q with q | q
  · exact h pins s σ H x xs v us Q I rx rs q
  · exact h' pins s σ H x xs v us Q I rx rs q
theorem pe_ix {r : R2} (hr : IxR X r) (ha : PE X a ta) (hb : PE X b tb) (hs : PlainIx b) : PE X (.Subscript a b pos) (tOp r ta tb) := by
  intro pins s σ H Q I h
  exact Subscript_ (binT ha hb I h fun v u s2 x y H2 I2 rx ry q => hr a b pins s2 σ H2 x y v u Q I2 rx ry q (hs _ _))

noncomputable def rIxL (K : PySem.W.Frag) : R2 := fun x y H Q => ∃ p xs i v, x = .ref p ∧ y = .int i ∧ SqL K H p xs ∧ atI xs i = some v ∧ Q v H
noncomputable def rIxT (K : PySem.W.Frag) : R2 := fun x y H Q => ∃ p xs i v, x = .ref p ∧ y = .int i ∧ SqT K H p xs ∧ atI xs i = some v ∧ Q v H
noncomputable def rIxS : R2 := fun x y H Q => ∃ z i c, x = .str z ∧ y = .int i ∧ z.length ≤ sizeLine ∧ atI z.cps.toList i = some c ∧ Q (.str ⟨#[c]⟩) H
theorem ix_list : IxR X (rIxL X.K) := by
  intro value slice pins s σ H x y v u Q I rx ry h hs
  obtain ⟨p, xs, i, z, rfl, rfl, hq, he, q⟩ := h
  cases rx
  obtain ⟨t, rfl⟩ := ry
  obtain ⟨its, r, pl, hz⟩ := I.list hq
  obtain ⟨j, h1, h2, h3, h4, h5⟩ := atI_get he
  obtain ⟨w, ew, rw'⟩ := r.get h2
  have hl := r.length
  have hn := line63
  have fin : EP X pins σ Q w s := ⟨z, H, I, rw', q⟩
  by_cases h0 : 0 ≤ i
  · have hj : i.toNat = j := by
      rw [seqIndex_of h0 h5] at h1
      exact Option.some.inj h1
    exact item_listR pl.isList h0 (by omega) (by rw [hj]; simpa using ew) fin hs
  · have hj : (i + (its.toArray.size : Int)).toNat = j := by
      rw [seqIndex_neg (by omega) h4] at h1
      rw [List.size_toArray, ← hl]
      exact Option.some.inj h1
    exact subscriptTail_builtinR (x := w) pl.isList.typeIs slot_list_getitem.lookup
      (wpAny_getItem_list_neg (Q := fun r s' => r = w ∧ EP X pins σ Q r s') pl.isList (by omega) (by rw [List.size_toArray] <;> omega) (by omega) (by rw [hj]; simpa using ew) ⟨rfl, fin⟩) hs
theorem ix_tup : IxR X (rIxT X.K) := by
  intro value slice pins s σ H x y v u Q I rx ry h hs
  obtain ⟨p, xs, i, z, rfl, rfl, hq, he, q⟩ := h
  cases rx
  obtain ⟨t, rfl⟩ := ry
  obtain ⟨its, r, pl, hz⟩ := I.tuple hq
  obtain ⟨j, h1, h2, h3, h4, h5⟩ := atI_get he
  obtain ⟨w, ew, rw'⟩ := r.get h2
  have hl := r.length
  have hn := line63
  have fin : EP X pins σ Q w s := ⟨z, H, I, rw', q⟩
  exact subscriptTail_builtinR (x := w) pl.typeIs slot_tuple_getitem.lookup
    (getItem_tuple (j := j) (Q := fun r s' => r = w ∧ EP X pins σ Q r s') pl (by omega) (by omega) (by rw [List.size_toArray, ← hl]; exact h1) (by simpa using ew) ⟨rfl, fin⟩) hs
theorem ix_str : IxR X rIxS := by
  intro value slice pins s σ H x y v u Q I rx ry h hs
  obtain ⟨z, i, c, rfl, rfl, hz, he, q⟩ := h
  obtain ⟨t, rfl⟩ := rx
  obtain ⟨t', rfl⟩ := ry
  obtain ⟨j, h1, h2, h3, h4, h5⟩ := atI_get he
  have hl : z.cps.toList.length = z.length := by simp [Str.length]
  rw [hl] at h1 h4 h5
  have hn := line63
  exact tail_any (typeIs_str s z t) slot_str_getitem.lookup (getItem_str (c := c) (by
    have e1 : decide (i < -(2 ^ 63 : Int)) = false := decide_eq_false (by omega)
    have e2 : decide (i ≥ 2 ^ 63) = false := decide_eq_false (by omega)
    rw [e1, e2, Bool.or_false]) (by rw [h1]; simpa using h2) ⟨.str ⟨#[c]⟩, H, I.tok _, ⟨_, rfl⟩, q⟩) hs
noncomputable def rIx (K : PySem.W.Frag) : R2 := fun x y H Q => rIxL K x y H Q ∨ rIxT K x y H Q ∨ rIxS x y H Q
theorem ix_seq : IxR X (rIx X.K) := ix_list.or (ix_tup.or ix_str)

theorem Inv.lst {pins : List (Addr × Obj)} {σ : St} {H : Hp} {s : Shared} {p : Addr} {xs : List V} (I : Inv X pins σ H s) (h : H p = some (.lst xs)) :
    ∃ (its : List Value) (n : Nat), Vals xs its ∧ s.heap.get? p = some { cls := .type "list", data := .seq its.toArray n } ∧ xs.length ≤ sizeLine := by
  obtain ⟨z, its, n, r, e⟩ := I.hok p _ h
  exact ⟨its, n, r, e, z⟩
theorem slice_bounds (lo hi : Option Int) (n : Nat) : (sliceBounds lo hi none n).1 = ((HT.sIx n 0 lo : Nat) : Int) ∧ (sliceBounds lo hi none n).2.1 = ((HT.sIx n n hi : Nat) : Int) ∧ (sliceBounds lo hi none n).2.2 = 1 := by
  refine ⟨?_, ?_, rfl⟩
  · cases lo with
    | none => simp [sliceBounds, HT.sIx]
    | some i =>
      simp only [sliceBounds, HT.sIx, Option.getD_none, show (1 : Int) > 0 by decide, if_true]
      by_cases h : i < 0
      · simp only [h, if_true] <;> omega
      · simp only [h, if_false] <;> omega
  · cases hi with
    | none => simp [sliceBounds, HT.sIx]
    | some i =>
      simp only [sliceBounds, HT.sIx, Option.getD_none, show (1 : Int) > 0 by decide, if_true]
      by_cases h : i < 0
      · simp only [h, if_true] <;> omega
      · simp only [h, if_false] <;> omega
theorem slicePick_cut (its : List Value) (lo hi : Option Int) : slicePick its.toArray lo hi none = ((its.drop (HT.sIx its.length 0 lo)).take (HT.sIx its.length its.length hi - HT.sIx its.length 0 lo)).toArray := by
  obtain ⟨h1, h2, h3⟩ := slice_bounds lo hi its.toArray.size
  unfold slicePick
  rw [h1, h2, h3]
  simp only [sliceRange_one, pick_run, List.size_toArray] <;> rfl
noncomputable def rSlL (K : PySem.W.Frag) : V → Option Int → Option Int → Hp → VK → Prop := fun x lo hi H Q => ∃ a xs, x = .ref a ∧ SqL K H a xs ∧ ∀ p, H p = none → Q (.ref p) (upd H p (.lst (cutV xs lo hi)))
theorem sl_list : SlR X (rSlL X.K) := by
  intro pins s σ H x v vl vu lo hi sl Q I rx hs pl pu h
  obtain ⟨a, xs, rfl, hx, q⟩ := h
  cases rx
  obtain ⟨its, r, ht, hz⟩ := I.list hx
  have hlen := r.length
  refine ⟨"list", _, slot_list_getitem.lookup, ht.isList.typeIs, ?_⟩
  refine wpAny_getItem_list_slice ht.isList hs pl pu .none (by simp) ?_ (by rw [List.size_toArray] <;> omega)
  rw [slicePick_cut, ← hlen]
  refine ⟨.ref s.heap.objs.size, _, I.laid (t' := s.toks) (o := .lst (cutV xs lo hi)) (fun b ob q => Heap.get?_push_of_some _ q) (Nat.le_refl _) ?_, rfl, q _ (I.hok.fresh (Nat.le_refl _))⟩
  exact ⟨Nat.le_trans (cutV_length xs lo hi) hz, _, 0, (r.drop (HT.sIx xs.length 0 lo)).take (HT.sIx xs.length xs.length hi - HT.sIx xs.length 0 lo), Heap.get?_push_size _ rfl⟩

theorem call_len_seq : CallR X (.builtin "len") (fun xs H Q => ∃ p ys, xs = [.ref p] ∧ (SqL X.K H p ys ∨ SqT X.K H p ys) ∧ Q (.int ys.length) H) := by
  intro pins s σ H xs us Q I r h
  obtain ⟨p, ys, rfl, hq, q⟩ := h
  obtain ⟨u, rfl, rx⟩ := vals1 r
  cases rx
  have hn := line63
  rcases hq with hq | hq
  · obtain ⟨its, r', pl, hz⟩ := I.list hq
    have hlen := r'.length
    exact Calls.call_len_list pl.isList (by simp only [List.size_toArray] <;> omega) ⟨.int ys.length, H, I.tok _, ⟨s.toks + 1, by rw [List.size_toArray, hlen]⟩, q⟩
  · obtain ⟨its, r', pl, hz⟩ := I.tuple hq
    have hlen := r'.length
    exact len_tuple pl (by simp only [List.size_toArray] <;> omega) ⟨.int ys.length, H, I.tok _, ⟨s.toks + 1, by rw [List.size_toArray, hlen]⟩, q⟩
theorem CallR.or {f : Value} {r r' : List V → Hp → VK → Prop} (h : CallR X f r) (h' : CallR X f r') : CallR X f (fun xs H Q => r xs H Q ∨ r' xs H Q) := by
  intro pins s σ H xs us Q I rs q
  rcases q with q | q
  · exact h pins s σ H xs us Q I rs q
  · exact h' pins s σ H xs us Q I rs q
theorem call_list_of : CallR X (.type "list") (fun xs H Q => ∃ p ys, xs = [.ref p] ∧ (SqL X.K H p ys ∨ SqT X.K H p ys) ∧ ∀ l, H l = none → Q (.ref l) (upd H l (.lst ys))) := by
  intro pins s σ H xs us Q I r h
  obtain ⟨p, ys, rfl, hq, q⟩ := h
  obtain ⟨u, rfl, rx⟩ := vals1 r
  cases rx
  have fin : ∀ (its : List Value), Vals ys its → ys.length ≤ sizeLine → ∀ (h' : Heap) (c' : Nat), (∀ b o', s.heap.get? b = some o' → h'.get? b = some o') →
      h'.get? s.heap.objs.size = some { cls := .type "list", dict := none, data := .seq its.toArray c', slots := #[] } → EP X pins σ Q (.ref s.heap.objs.size) { s with heap := h' } := fun its r' hz h' c' kp e =>
    ⟨.ref s.heap.objs.size, _, I.laid (t' := s.toks) kp (Nat.le_refl _) (show ObjOk X.prog X.w _ h' _ (.lst ys) from ⟨hz, its, c', r', e⟩), rfl, q _ (I.hok.fresh (Nat.le_refl _))⟩
  rcases hq with hq | hq
  · obtain ⟨its, r', pl, hz⟩ := I.list hq
    have hlen := r'.length
    obtain ⟨o, ho, hc, n, hd⟩ := pl.isList
    exact call_list_seq p (.inl rfl) ho hc hd (fun h' c' kp e => fin its r' hz h' c' kp e) (by simp only [List.size_toArray] <;> omega)
  · obtain ⟨its, r', pl, hz⟩ := I.tuple hq
    have hlen := r'.length
    obtain ⟨o, ho, hc, n, hd⟩ := pl
    exact call_list_seq p (.inr rfl) ho hc hd (fun h' c' kp e => fin its r' hz h' c' kp e) (by simp only [List.size_toArray] <;> omega)
noncomputable def tyV (K : PySem.W.Frag) (T : String) (x : V) (H : Hp) : Prop := match x with
  | .str _ => T = "str"
  | .int _ => T = "int"
  | .ref p => (T = "list" ∧ ∃ xs, SqL K H p xs) ∨ (T = "tuple" ∧ ∃ o, K.lookup p = some o ∧ o.cls = .type "tuple" ∧ o.dict = none) ∨
      (T = "dict" ∧ ((∃ kvs, H p = some (.dK kvs)) ∨ ∃ kvs, H p = some (.dT kvs))) ∨ (T = "set" ∧ ∃ S n, H p = some (.set S n))
  | _ => False
theorem tyV_is {pins : List (Addr × Obj)} {σ : St} {H : Hp} {s : Shared} {T : String} {x : V} {v : Value} (I : Inv X pins σ H s) (r : RelV x v) (ty : tyV X.K T x H) :
    s.TypeIs v T ∧ ∀ a, v = .ref a → ∃ ob, s.heap.get? a = some ob ∧ ob.dict = none := by
  cases x with
  | str z =>
    obtain ⟨t, rfl⟩ := r
    cases (show T = "str" from ty)
    exact ⟨typeIs_str s z t, fun _ e => nomatch e⟩
  | int i =>
    obtain ⟨t, rfl⟩ := r
    cases (show T = "int" from ty)
    exact ⟨typeIs_int s i t, fun _ e => nomatch e⟩
  | ref p =>
    cases r
    rcases ty with ⟨rfl, xs, hq⟩ | ⟨rfl, o, hk, hc, hd⟩ | ⟨rfl, hk⟩ | ⟨rfl, S, n, hk⟩
    · obtain ⟨its, _, pl, _⟩ := I.list hq
      refine ⟨pl.isList.typeIs, fun a e => ?_⟩
      cases e
      obtain ⟨o, n, e, c, hd, _⟩ := pl
      exact ⟨o, e, hd⟩
    · refine ⟨⟨o, I.kIn p o hk, hc⟩, fun a e => ?_⟩
      cases e
      exact ⟨o, I.kIn _ o hk, hd⟩
    · have z : ∃ o, s.heap.get? p = some o ∧ o.ExactDict := by
        rcases hk with ⟨kvs, hk⟩ | ⟨kvs, hk⟩
        · obtain ⟨_, _, _, _, o, _, _, e, ex, _⟩ := I.hok p _ hk
          exact ⟨o, e, ex⟩
        · obtain ⟨_, _, _, _, o, _, _, e, ex, _⟩ := I.hok p _ hk
          exact ⟨o, e, ex⟩
      obtain ⟨o, e, ex⟩ := z
      refine ⟨⟨o, e, ex.1⟩, fun a e2 => ?_⟩
      cases e2
      exact ⟨o, e, ex.2.1⟩
    · obtain ⟨o, _, _, _, e, ex, _⟩ := I.hok p _ hk
      refine ⟨⟨o, e, ex.1⟩, fun a e2 => ?_⟩
      cases e2
      exact ⟨o, e, ex.2.1⟩
  | _ => exact False.elim ty
noncomputable def tBM (K : PySem.W.Frag) (T : String) (r : V → List V → Hp → VK → Prop) (to : TE) (t : TA) : TE := fun σ H Q => to σ H fun x H1 => tyV K T x H1 ∧ t σ H1 fun xs H2 => r x xs H2 Q
variable {o e : Expr} {es : List Expr} {to : TE} {t : TA} {name : Str} {apos cpos : Pos} {T id : String} {r : V → List V → Hp → VK → Prop}
theorem pe_bm (pa : PlainAttrs T) (slot : Slot T name id) (hty : typeOf (.builtin id) = pure (.type "method_descriptor")) (hm : MtR X id r) (ho : PE X o to) (ha : PA X (e :: es) t)
    (hbase : attributeBase o name X.env (eval o X.env) = eval o X.env := by rfl)
    (hfew : ((backTo cpos (starEach (e :: es) X.env)).all (fun x => !x.1) && (backToKw cpos (keywordEach [] X.env)).all (fun x => x.1.isSome)
      && decide ((e :: es).length + ([] : List Keyword).length + (if ([] : List Keyword).isEmpty then 0 else 1) < 30)) = true := by rfl)
    (hline : (apos.endLine == cpos.line) = true := by rfl) (hs : starEach (e :: es) X.env = (false, eval e X.env) :: starEach es X.env := by rfl) (hplain : (backTo cpos (starEach es X.env)).any (·.1) = false := by rfl) :
    PE X (.Call (.Attribute o name apos) (e :: es) [] cpos) (tBM X.K T r to t) := by
  intro pins s σ H Q I h
  refine wpAny_Call_method_late hbase hfew hline rfl (thn (ho pins s σ H _ I h) fun v s1 ⟨x, H1, I1, r1, ty, q1⟩ => ?_)
  obtain ⟨h1, h2⟩ := tyV_is I1 r1 ty
  refine ⟨T, id, pa, slot, hty, h1, h2, ?_⟩
  have hA := ha cpos pins s1 σ H1 _ I1 q1
  rw [hs] at hA ⊢
  refine Calls.callWith_builtin (by show (false || (backTo cpos (starEach es X.env)).any (·.1)) = false; rw [hplain] <;> rfl) (Calls.evalArgs_plain ?_)
  exact thn hA fun us s2 ⟨vs, H2, I2, r2, q2⟩ => hm pins s2 σ H2 x vs v us Q I2 r1 r2 q2
/- xs.append(e), list.index on a module's tuple .. are MtR facts of 06m -/
end
end L2

namespace L2
open PySem PySem.Spec PyProof.Rows

noncomputable def MtM (X : Cx) (id : String) (r : V → List V → Hp → VK → Prop) : Prop :=
  ∀ (pins : List (Addr × Obj)) (s : Shared) (σ : St) (H : Hp) (x : V) (xs : List V) (v : Value) (us : List Value) (Q : VK), Inv X pins σ H s → RelV x v → Vals xs us → r x xs H Q →
    wpAny (model X.prog X.w) X.A (call (.builtin id) (v :: us)) (EP X pins σ Q) X.xe s

theorem Vals.one : ∀ {x : V} {us : List Value}, Vals [x] us → ∃ u, us = [u] ∧ RelV x u
  | _, _, .cons r .nil => ⟨_, rfl, r⟩
theorem Vals.two {x y : V} {us : List Value} (h : Vals [x, y] us) : ∃ u v, us = [u, v] ∧ RelV x u ∧ RelV y v := by
  cases h with
  | cons r h =>
    obtain ⟨u, e, q⟩ := Vals.one h
    exact ⟨_, u, by rw [e], r, q⟩
theorem Vals.zero : ∀ {us : List Value}, Vals [] us → us = []
  | _, .nil => rfl
theorem Vals.dropLast {xs : List V} {us : List Value} (h : Vals xs us) : Vals xs.dropLast us.dropLast := by
  induction h with
  | nil => exact .nil
  | cons r t ih =>
    cases t with
    | nil => exact .nil
    | cons q t' => exact .cons r ih
theorem Vals.reverse {xs : List V} {us : List Value} (h : Vals xs us) : Vals xs.reverse us.reverse := by
  induction h with
  | nil => exact .nil
  | cons r t ih => rw [List.reverse_cons, List.reverse_cons]; exact Vals.append ih (.cons r .nil)
theorem Vals.rep {xs : List V} {us : List Value} (h : Vals xs us) : ∀ k : Nat, Vals (List.replicate k xs).flatten (List.replicate k us).flatten
  | 0 => .nil
  | k + 1 => by
    rw [List.replicate_succ, List.replicate_succ, List.flatten_cons, List.flatten_cons]
    exact Vals.append h (Vals.rep h k)
theorem foldl_rep (its : List Value) : ∀ (k : Nat) (acc : List Value),
    List.foldl (fun x1 x2 => x1 ++ x2) acc.toArray (List.replicate k its.toArray) = (acc ++ (List.replicate k its).flatten).toArray
  | 0, acc => by simp
  | k + 1, acc => by
    have e : acc.toArray ++ its.toArray = (acc ++ its).toArray := by simp
    have e2 : (acc ++ its) ++ (List.replicate k its).flatten = acc ++ (List.replicate (k + 1) its).flatten := by
      rw [List.replicate_succ, List.flatten_cons, List.append_assoc]
    rw [← e2, ← foldl_rep its k (acc ++ its), ← e, List.replicate_succ, List.foldl_cons]

section
variable {X : Cx} {pins : List (Addr × Obj)} {σ : St} {H : Hp} {s : Shared} {l b : Addr} {xs ys zs : List V}

theorem Inv.lset {its its' : List Value} {n : Nat} {f : Array Value → Array Value} {t' : Nat} (I : Inv X pins σ H s) (hH : H l = some (.lst xs))
    (e : s.heap.get? l = some { cls := .type "list", data := .seq its.toArray n }) (hf : f its.toArray = its'.toArray) (hv : Vals ys its') (hz : ys.length ≤ sizeLine) :
    Inv X pins σ (upd H l (.lst ys)) { s with heap := s.heap.update l (Obj.mapSeq f), toks := t' } := by
  have q := PySem.IsL.update e f
  rw [hf] at q
  refine I.write (x := l) (e := l) (by rw [hH]; exact trivial) (.inl rfl) (fun b' u hb hu => (Heap.get?_update_other s.heap (Obj.mapSeq f) (Ne.symm hb)).trans hu) ⟨_, q⟩ ?_
  exact ⟨hz, its', _, hv, q⟩
theorem Inv.lnew {its : List Value} {t' : Nat} (I : Inv X pins σ H s) (hv : Vals ys its) (hz : ys.length ≤ sizeLine) :
    Inv X pins σ (upd H s.heap.objs.size (.lst ys)) { s with heap := s.heap.push { cls := .type "list", data := .seq its.toArray }, toks := t' } :=
  I.laid (fun _ _ q => Heap.get?_push_of_some _ q) (Nat.le_refl _) ⟨hz, its, 0, hv, Heap.get?_push_size _ rfl⟩
theorem Inv.fresh (I : Inv X pins σ H s) : H s.heap.objs.size = none := I.hok.fresh (Nat.le_refl _)
theorem Inv.lstM (I : Inv X pins σ H s) (hH : H l = some (.lst xs)) : xs.length ≤ sizeLine ∧ ∃ (its : List Value) (n : Nat), Vals xs its ∧ xs.length = its.length ∧ s.heap.get? l = some { cls := .type "list", data := .seq its.toArray n } := by
  obtain ⟨z, its, n, r, e⟩ := I.hok l _ hH
  exact ⟨z, its, n, r, r.length, e⟩

theorem notLongL {n : Nat} (h : n ≤ sizeLine) : Builtin.List.listTooLong n = false := by
  unfold Builtin.List.listTooLong
  exact decide_eq_false (by omega)
end

section
variable {X : Cx}

noncomputable def rAppend : V → List V → Hp → VK → Prop := fun x vs H Q => ∃ l xs y, x = .ref l ∧ vs = [y] ∧ H l = some (.lst xs) ∧ xs.length < sizeLine ∧ Q .non (upd H l (.lst (xs ++ [y])))
theorem mt_append : MtM X "list.append" rAppend := by
  intro pins s σ H x vs v us Q I rx rv h
  obtain ⟨l, xs, y, rfl, rfl, hH, hz, q⟩ := h
  cases rx
  obtain ⟨u, rfl, ru⟩ := rv.one
  obtain ⟨z, its, n, r, hl, e⟩ := I.lstM hH
  refine call_meets F.slot_list_append ⟨_, e, rfl⟩ F.entry_list_append (F.args_list_append_2 _ _) (PySem.list_append l its.toArray n u (by rw [List.size_toArray]; omega)) ⟨e, ?_⟩
  refine ⟨.non, _, I.lset (its' := its ++ [u]) hH e (by simp) (r.append (.cons ru .nil)) ?_, rfl, q⟩
  rw [List.length_append, List.length_singleton]
  omega

noncomputable def rRep : R2 := fun x y H Q => ∃ l k xs, x = .ref l ∧ y = .int k ∧ H l = some (.lst xs) ∧ -(2 ^ 63) ≤ k ∧ k < 2 ^ 63 ∧ xs.length * k.toNat ≤ sizeLine ∧
  ∀ p, H p = none → Q (.ref p) (upd H p (.lst (List.replicate k.toNat xs).flatten))
theorem len_rep {α : Type} (xs : List α) (k : Nat) : (List.replicate k xs).flatten.length = k * xs.length := by
  induction k with
  | zero => simp
  | succ k ih => rw [List.replicate_succ, List.flatten_cons, List.length_append, ih, Nat.succ_mul, Nat.add_comm]
theorem op_rep : OpR X (binaryOp .Mult) rRep := by
  intro pins s σ H x y v u Q I rx ry h
  obtain ⟨l, k, xs, rfl, rfl, hH, h1, h2, hz, q⟩ := h
  cases rx
  obtain ⟨t, rfl⟩ := ry
  obtain ⟨z, its, n, r, hl, e⟩ := I.lstM hH
  have hlen : its.toArray.size * k.toNat ≤ sizeLine := by rw [List.size_toArray, ← hl]; exact hz
  have hcap : ¬ its.toArray.size * k.toNat > (2 ^ 63 - 1) / 8 := by
    have : (sizeLine : Nat) ≤ (2 ^ 63 - 1) / 8 := by decide
    omega
  have hfit : ¬ (!Builtin.List.listFitsIndex k) = true := by
    rw [fitsIndex_both h1 h2]
    exact Bool.false_ne_true
  have hlong : ¬ Builtin.List.listTooLong (its.toArray.size * k.toNat) = true := by
    rw [notLongL hlen]
    exact Bool.false_ne_true
  have hnew : List.foldl (fun x1 x2 => x1 ++ x2) #[] (List.replicate (if its.toArray.isEmpty = true then 0 else k.toNat) its.toArray) = (List.replicate k.toNat its).flatten.toArray := by
    have f0 : ∀ m : Nat, List.foldl (fun x1 x2 => x1 ++ x2) #[] (List.replicate m its.toArray) = (List.replicate m its).flatten.toArray := fun m => by
      have := foldl_rep its m []
      rw [List.nil_append] at this
      exact this
    rw [f0]
    cases its with
    | nil => simp
    | cons a r' => rw [if_neg (by simp)]
  refine wpAny_binaryOp_repeat_ref (T := "list") (U := "int") (by decide) ⟨_, e, rfl⟩ (fun s' => typeIs_int s' k t) noFill_list_mul F.fills_int_mul F.slot_int_rmul repeat_list F.slot_int_index.lookup
    (call_meets F.slot_int_rmul (typeIs_int s k t) F.entry_int_rmul (F.args_int_rmul_2 _ _) (int___rmul___int_list k t l its.toArray n)
      ⟨e, rfl, ⟨_, e, rfl⟩, call_meets F.slot_list_mul ⟨_, e, rfl⟩ F.entry_list_mul (F.args_list_mul_2 _ _) (AutoListH.list___mul___list_int_3 l its.toArray n k t hfit hcap hlong) ⟨e, ?_⟩⟩)
  rw [hnew]
  exact ⟨.ref _, _, I.lnew (t' := s.toks) (r.rep k.toNat) (by rw [len_rep, Nat.mul_comm]; exact hz), rfl, q _ I.fresh⟩

end

section
variable {prog : Program} {w : World} {A : Around} {E : Value → Shared → Prop} {s : Shared}
end

section
variable {X : Cx}
end
end L2

namespace Att
open PySem PySem.W PySem.Calls PyProof.Rows

theorem ints_of_wellAll {P : Params} {h : Heap} : ∀ (ns : List Int) (vs : List Value), WellAll P h vs (ns.map WData.int) → IntsAre vs ns := by
  intro ns
  induction ns with
  | nil =>
    intro vs w
    rw [List.map_nil] at w
    cases w
    exact .nil
  | cons n ns ih =>
    intro vs w
    rw [List.map_cons] at w
    cases w with
    | cons a b =>
      cases a
      exact .cons _ _ (ih _ b)

theorem script_of {l : OpenLaw} {n : Nat} (hn : l.most = some n) {P : Params} {h : Heap} {args : List WData} {vals : List Value}
    (hpre : l.row.toRowW.claim.pre args = true) (hwl : WellAll P h vals args) :
    ∃ a vs ns, vals = [Value.ref a] ∧ args = [WData.list (ns.map WData.int)] ∧ h.get? a = some { cls := .type "list", data := .seq vs.toArray } ∧ IntsAre vs ns ∧ ns.length ≤ n := by
  have hsh : WShape.hasAll [] args [.list .int] = true := (pre_splitW hpre).1
  have hc : l.pre.holds [] { args := args } = true := (pre_splitW hpre).2
  obtain ⟨d, r, rfl, h1, h2⟩ := hasAllW_cons hsh
  obtain rfl := hasAllW_nil h2
  obtain ⟨xs, rfl, h3⟩ := hasW_list h1
  obtain ⟨ns, rfl⟩ := items_int h3
  have hlen : ns.length ≤ n := by
    unfold OpenLaw.pre at hc
    have h4 : (WTm.not (.lt (.lit (.int (n : Int))) (.len (.arg 0)))).holds [] { args := [.list (ns.map .int)] } = true := by
      have h4 := (holds_andW hc).1
      rw [hn] at h4
      exact h4
    have h5 := condW_of h4 (w_not (w_lt w_lit (w_len_list (w_arg rfl))))
    rw [List.length_map] at h5
    refine Nat.le_of_not_lt fun q => ?_
    have q' : (n : Int) < ((ns.length : Nat) : Int) := by omega
    first
      | (rw [decide_eq_true q'] at h5; exact absurd h5 (by decide))
      | (simp at h5; omega)
  cases hwl with
  | cons w1 w2 =>
    cases w2
    cases w1 with
    | list ho hall => exact ⟨_, _, ns, rfl, rfl, ho, ints_of_wellAll ns _ hall, hlen⟩

theorem post_true (l : OpenLaw) (args : List WData) : l.row.toRowW.claim.post args (.bool true) args = true :=
  postW_of (r := l.row.toRowW) (X := (true == true))
    (show WShape.has [] (.bool true) .bool = true by first | rfl | decide | simp [WShape.has, WShape.arms, WShape.armsAll])
    (show (WTm.eq .res (.lit (.bool true))).value [] { args := args, res := some (.bool true), after := args } = some (.bool (true == true)) from w_eq_bool (w_res rfl) w_lit) rfl

theorem attach_call {l : OpenLaw} {n : Nat} {q : Program} {loose : List Str} {XP : (Str → Option Value) → Heap → Prop} {YP : World → Heap → Prop} {d : DefRec}
    (hn : l.most = some n) (hdf : d.params.defaults = [])
    (call : ∀ (w : World) (s₀ s₁ : Shared) (mg mb : Str → Option Value) (fa : Addr) (o : Obj) (pm cd doc : Value) (a : Addr) (vs : List Value) (ns : List Int),
      Ground q loose [] XP w s₀ mg mb s₁.heap → YP w s₁.heap →
      s₁.heap.get? fa = some o → o.data = .func (docDef d.name d.params d.body d.scope pm cd doc) → s₁.heap.CodeRec cd d.name → mg d.name = some (.ref fa) →
      s₁.heap.get? a = some { cls := .type "list", data := .seq vs.toArray } → IntsAre vs ns → ns.length ≤ n → s₁.gens = #[] →
      codeAny (model l.prog w) callerA (.call (.ref fa) ⟨[.ref a], []⟩) (fun r s' => r = .ok (.ret (.bool true)) ∧ OldK s₁.heap s'.heap ∧ s'.os = s₁.os ∧ AllBare s'.gens) s₁) :
    WalkO q loose XP YP l.row.toRowW d [] (fun f vs => PySem.call f vs) := by
  intro w s₀ s₁ mg mb G Y fa o pm cd doc dV kV ho hd hcd hD hmg hg args vals as hpre hlay hrd hwl hlo
  obtain rfl : dV = .none := Dflts.none hD hdf
  obtain rfl : kV = .none := Dflts.noKw hD
  obtain ⟨a, vs, ns, rfl, rfl, hobj, hints, hlen⟩ := script_of hn hpre hwl
  refine enter_call (codeAny_mono (call w s₀ s₁ mg mb fa o pm cd doc a vs ns G Y ho (fd_plain hd) hcd hmg hobj hints hlen hg) fun r s' hq => ?_)
  obtain ⟨rfl, h2, h3, h4⟩ := hq
  exact ⟨.inl ⟨.bool true, .bool true, [], rfl, fun _ => rfl, .bool true, post_true l _, fun _ => ⟨List.Pairwise.nil, fun _ hm => (nomatch hm)⟩⟩, h2, h3, h4⟩

section
variable {prog : Program} {w : World} {A : Around} {E : Value → Shared → Prop} {s : Shared} {K : Frag}

noncomputable def ledger (h : Heap) (L d : Addr) : List (Addr × Obj) := (List.range h.objs.size).filterMap fun a => if a = L ∨ a = d then none else (h.get? a).map fun o => (a, o)
end
end Att

namespace L2
open PySem PySem.Spec PyProof.Rows

theorem vals_ints : ∀ {vs : List Value} {ns : List Int}, IntsAre vs ns → Vals (ns.map V.int) vs
  | _, _, .nil => .nil
  | _, _, .cons n t h => .cons ⟨t, rfl⟩ (vals_ints h)

noncomputable def Only (H : Hp) : Prop := ∀ b, H b = none ∨ ∃ o xs, H b = some (.frz o (.lst xs))

theorem law_call {P : Program} {w : World} {K : PySem.W.Frag} {mg mb : Str → Option Value} {CX : CXT} {k : Nat} {fa a : Addr} {fd : FuncData} {x : Str} {sp : Sp} {s₁ : Shared} {vs : List Value} {ns : List Int}
    (KX : K.In s₁.heap) (hns : s₁.heap.Ns mainGlobals mg) (hb : s₁.heap.Ns builtinsNs mb) (hbb : ∀ x : Str, x ≠ "__name__" → mb x = bootBuiltins x) (hlim : s₁.heap.NoLimit) (hg : s₁.gens = #[])
    (ha : s₁.heap.get? a = some { cls := .type "list", data := .seq vs.toArray }) (hi : IntsAre vs ns) (hl : ns.length ≤ sizeLine) (hr : Room k callerA)
    (F : ∀ base : Heap, K.In base → base.Ns mainGlobals mg → FnOk P w K mg base CX k fa fd [x] sp) (hbind : ∀ (s : Shared) (u : Value), BindsTo s fd ⟨[u], []⟩ [(x, u)])
    (hsp : ∀ H : Hp, Only H → SqL K H a (ns.map V.int) → sp [.ref a] H (fun v _ => v = .bl true) fun _ _ _ => False)
    (hCX : ∀ H e s', CX [] H s₁ (fun _ _ _ => False) e s' → False) :
    codeAny (model P w) callerA (.call (.ref fa) ⟨[.ref a], []⟩) (fun r s' => r = .ok (.ret (.bool true)) ∧ OldK s₁.heap s'.heap ∧ s'.os = s₁.os ∧ AllBare s'.gens) s₁ := by
  have rv := vals_ints hi
  have lenV := hi.length
  -- from an abstract heap in which nothing but the script may be tracked
  have core : ∀ H : Hp, Only H → SqL K H a (ns.map V.int) → HOk P w H s₁.heap → (∀ b, H b ≠ none → b = a) → (H a ≠ none → K.lookup a = none) →
      codeAny (model P w) callerA (.call (.ref fa) ⟨[.ref a], []⟩) (fun r s' => r = .ok (.ret (.bool true)) ∧ OldK s₁.heap s'.heap ∧ s'.os = s₁.os ∧ AllBare s'.gens) s₁ := by
    intro H hO hS hok hA hK
    have base_of : ∀ {b : Addr} {o : Obj}, s₁.heap.get? b = some o → H b = none → (hidT s₁.heap H).get? b = some o := fun e n => hidT_get e n
    have noA : ∀ {b : Addr} {o : Obj} {es : Array DictEntry} {ep : Nat}, s₁.heap.get? b = some o → o.data = .dict es ep → H b = none := fun {b o es ep} e d => by
      cases q : H b with
      | none => rfl
      | some u =>
        have e' : b = a := hA b (by rw [q]; simp)
        subst e'
        rw [ha] at e; cases e
        have d' : Data.seq vs.toArray _ = Data.dict es ep := d
        cases d'
    have nsK : ∀ {b : Addr} {m : Str → Option Value}, s₁.heap.Ns b m → (hidT s₁.heap H).Ns b m := fun {b m} ⟨o, es, ep, e, d, r⟩ => ⟨o, es, ep, base_of e (noA e d), d, r⟩
    have hKb : K.In (hidT s₁.heap H) := fun b o e => base_of (KX b o e) (by
      cases q : H b with
      | none => rfl
      | some u =>
        have e' : b = a := hA b (by rw [q]; simp)
        subst e'
        rw [hK (by rw [q]; simp)] at e; cases e)
    have hM : Mod K mg (hidT s₁.heap H) := ⟨hKb, nsK hns, ⟨mb, nsK hb, hbb⟩, let ⟨mc, h1, h2⟩ := hlim; ⟨mc, nsK h1, h2⟩⟩
    have e0 : Env0 P w K mg (hidT s₁.heap H) callerA [] s₁ H := ⟨rfl, hM, fun b o e => of_hidT e, Nat.le_of_eq (hidT_size _ _), trivial, fun b hb => absurd (show b ∈ ([] : List Addr) from hb) (by simp), hok, .of_eq hg⟩
    refine codeAny_mono ((F _ hKb (nsK hns)).run callerA [] s₁ H ⟨[.ref a], []⟩ [.ref a] [.ref a] _ _ hr e0 (hbind s₁ (.ref a)) (.cons rfl .nil) (hsp H hO hS)) fun r s' h => ?_
    cases r with
    | error e => exact (hCX H e s' h).elim
    | ok fl =>
      cases fl with
      | next => exact False.elim h
      | brk => exact False.elim h
      | cont => exact False.elim h
      | ret u =>
        obtain ⟨v, H', os, bare, un, hok', r', q⟩ := h
        have q' : v = .bl true := q
        subst q'
        obtain rfl : u = Value.bool true := r'
        refine ⟨rfl, OldK.of_keep fun b o e => ?_, os, bare⟩
        cases q : H b with
        | none => exact un.keep b o e q (by intro z; exact absurd (show b ∈ ([] : List Addr) from z) (by simp)) (by simp)
        | some u =>
          rcases hO b with z | ⟨ob, xs, z⟩
          · rw [q] at z; cases z
          · have z2 := un.frzs b ob _ z
            obtain ⟨e1, _⟩ := hok b _ z
            obtain ⟨e2, _⟩ := hok' b _ z2
            rw [e] at e1; cases e1
            exact e2
  cases hk : K.lookup a with
  | some o =>
    -- the script is one of the module's own objects
    have e := KX a o hk
    rw [ha] at e
    cases e
    refine core (fun _ => none) (fun _ => .inl rfl) (.inr ⟨_, vs.toArray, _, hk, rfl, rfl, rfl, by rw [List.size_toArray, lenV]; exact hl, by simpa using rv⟩) (fun b u z => by have z' : (none : Option HO) = some u := z; cases z') (fun b z => absurd rfl z) fun z => absurd rfl z
  | none =>
    refine core (fun b => if b = a then some (.frz { cls := .type "list", data := .seq vs.toArray } (.lst (ns.map V.int))) else none) (fun b => ?_) (.inl (.inr ⟨{ cls := .type "list", data := .seq vs.toArray }, if_pos rfl⟩)) (fun b u z => ?_) (fun b z => ?_) fun _ => hk
    · by_cases hb : b = a
      · exact .inr ⟨_, _, if_pos hb⟩
      · exact .inl (if_neg hb)
    · by_cases hb : b = a
      · have z' := (if_pos hb).symm.trans z
        cases z'
        subst hb
        exact ⟨ha, by rw [List.length_map]; exact hl, vs, _, rv, ha⟩
      · have z' := (if_neg hb).symm.trans z
        cases z'
    · by_cases hb : b = a
      · exact hb
      · exact absurd (if_neg hb) z
end L2

namespace L2
open PySem PySem.Spec PyProof.Rows

theorem walk_of {l : PySem.W.OpenLaw} {n k : Nat} {q : Program} {loose : List Str} {XP : (Str → Option Value) → Heap → Prop} {YP : World → Heap → Prop} {d : DefRec} {K : Params → PySem.W.Frag} {CX : World → CXT} {sp : World → Sp} {x : Str}
    (hn : l.most = some n) (hn2 : n ≤ sizeLine) (hdf : d.params.defaults = []) (hr : Room k callerA)
    (hY : ∀ (w : World) (h : Heap), YP w h → (K w.params).In h)
    (F : ∀ (w : World) (mg : Str → Option Value) (fa : Addr) (h : Heap), (K w.params).In h → h.Ns mainGlobals mg → mg d.name = some (.ref fa) →
      ∃ fd : FuncData, (∀ (s : Shared) (u : Value), BindsTo s fd ⟨[u], []⟩ [(x, u)]) ∧
        ∀ base : Heap, (K w.params).In base → base.Ns mainGlobals mg → FnOk l.prog w (K w.params) mg base (CX w) k fa fd [x] (sp w))
    (hsp : ∀ (w : World) (H : Hp) (a : Addr) (ns : List Int), ns.length ≤ n → Only H → SqL (K w.params) H a (ns.map V.int) → sp w [.ref a] H (fun v _ => v = .bl true) fun _ _ _ => False)
    (hCX : ∀ (w : World) (H : Hp) (s : Shared) (e : Value) (s' : Shared), CX w [] H s (fun _ _ _ => False) e s' → False) :
    PySem.W.WalkO q loose XP YP l.row.toRowW d [] (fun f vs => PySem.call f vs) := by
  refine Att.attach_call hn hdf fun w s₀ s₁ mg mb fa o pm cd doc a vs ns G Y ho hd hcd hmg hobj hints hlen hg => ?_
  have KX := hY w _ Y
  obtain ⟨fd, hb, hF⟩ := F w mg fa _ KX G.T.g hmg
  exact law_call KX G.T.g G.T.b G.T.builtins G.T.nolimit hg hobj hints (Nat.le_trans hlen hn2) hr hF hb (fun H hO hS => hsp w H a ns hlen hO hS) fun H e s' => hCX w H s₁ e s'
end L2

namespace L2
open PySem PySem.Spec PyProof.Rows

noncomputable def defArgs (s : Stmt) : Arguments := match s with
  | .FunctionDef _ a _ _ _ _ _ _ _ _ => a
  | _ => { posonlyargs := [], args := [], vararg := none, kwonlyargs := [], kw_defaults := [], kwarg := none, defaults := [] }
noncomputable def defBody (s : Stmt) : List Stmt := match s with
  | .FunctionDef _ _ b _ _ _ _ _ _ _ => b
  | _ => []
noncomputable def defScope (s : Stmt) : Scope := match s with
  | .FunctionDef _ _ _ _ _ _ sc _ _ _ => sc
  | _ => { kind := .function, names := [], isGenerator := false, isCoroutine := false }

noncomputable abbrev CX0 : CXT := fun _ _ _ _ _ _ => False
noncomputable abbrev E0 : XK := fun _ _ _ => False
theorem pass0 {X : Cx} : Passes CX0 X E0 := fun _ _ _ _ _ _ _ h => h.elim

structure Fun (K : PySem.W.Frag) (x qual : Str) (st : Stmt) (f : Addr) (fd : FuncData) : Prop where
  ex : ∃ (oc : Value) (od : Option Addr) (kV doc pm : Value) (an : Option Addr) (cdv ct : Value) (osl : Array (Option Value)),
    fd = PySem.W.fnOf x qual (defArgs st) (defBody st) (defScope st) .none kV doc pm an cdv ct ∧ K.lookup f = some ⟨oc, od, .func fd, osl⟩ ∧ PySem.W.codeIn K cdv qual = true
  kp : PySem.W.keepIn K (.ref f) = true
section
variable {P : Program} {w : World} {K : PySem.W.Frag} {mg : Str → Option Value} {base : Heap}
theorem Fun.ok {x qual : Str} {st : Stmt} {f : Addr} {fd : FuncData} {N ps : List Str} {k : Nat} {sp : Sp} (F : Fun K x qual st f fd) (S : FnScope N ps (defScope st)) (len : ∀ vs H Q E, sp vs H Q E → vs.length = ps.length)
    (hbody : ∀ (cdv : Value) (A : Around) (outer : List Env) (s : Shared) (H : Hp) (vs : List V) (Q : VK) (E : XK), Room k (A.deeper (envOfC qual (defScope st) s.heap.objs.size f cdv)) → sp vs H Q E →
      ∃ t, PSs (cxOf CX0 P w K mg base N qual (defScope st) f cdv A outer s H E).nox (defBody st) t ∧ t { nx := fun _ H' => Q .non H', rt := Q } (start N vs) H) : FnOk P w K mg base CX0 (k + 1) f fd ps sp := by
  obtain ⟨oc, od, kV, doc, pm, an, cdv, ct, osl, rfl, lk, hcd⟩ := F.ex
  refine fn_of lk hcd S len fun A outer s H vs Q E hr hsp => ?_
  obtain ⟨t, h, q⟩ := hbody cdv A outer s H vs Q E hr hsp
  exact ⟨t, h.nox, q⟩
theorem Fun.binds {x qual : Str} {st : Stmt} {f : Addr} {fd : FuncData} {ps : List Str} (F : Fun K x qual st f fd)
    (h : ∀ (kV doc pm : Value) (an : Option Addr) (cdv ct : Value) (us : List Value), us.length = ps.length → bindArgs (PySem.W.fnOf x qual (defArgs st) (defBody st) (defScope st) .none kV doc pm an cdv ct) ⟨us, []⟩ = pure (ps.zip us)) : Binds K fd ps [] := by
  obtain ⟨oc, od, kV, doc, pm, an, cdv, ct, osl, rfl, lk, hcd⟩ := F.ex
  exact .all (h kV doc pm an cdv ct)
theorem fun_mk {x qual : Str} {st : Stmt} {f : Addr} {oc : Value} {od an : Option Addr} {osl : Array (Option Value)} {kV doc pm cdv ct : Value} (l : K.lookup f = some ⟨oc, od, .func (PySem.W.fnOf x qual (defArgs st) (defBody st) (defScope st) .none kV doc pm an cdv ct), osl⟩)
    (c : PySem.W.codeIn K cdv qual = true) (k : PySem.W.keepIn K (.ref f) = true) : Fun K x qual st f (PySem.W.fnOf x qual (defArgs st) (defBody st) (defScope st) .none kV doc pm an cdv ct) := ⟨⟨oc, od, kV, doc, pm, an, cdv, ct, osl, rfl, l, c⟩, k⟩
end
section
variable {X : Cx}
theorem pv (i : Nat) {x : Str} {pos : Pos} (hN : X.N[i]? = some x := by rfl) (hv : Vis X.env.scope x := by first | exact Or.inl rfl | exact Or.inr (Or.inl rfl) | exact Or.inr (Or.inr rfl)) (hd : (x == ("__debug__" : Str)) = false := by decide)
    (hcd : (x == ("__classdict__" : Str)) = false := by decide) : PE X (.Name x pos) (tVar i) := pe_var hN hv hd hcd
end

noncomputable def Same (H H' : Hp) : Prop := ∀ b o, H b = some o → H' b = some o
theorem Same.refl (H : Hp) : Same H H := fun _ _ h => h
theorem Same.trans {H H1 H2 : Hp} (a : Same H H1) (b : Same H1 H2) : Same H H2 := fun c o h => b c o (a c o h)
theorem Same.free {H H' : Hp} (e : Same H H') {l : Addr} (h : H' l = Option.none) : H l = Option.none := by
  cases q : H l with
  | none => rfl
  | some o =>
    rw [e l o q] at h
    cases h
theorem Same.seq {K : PySem.W.Frag} {H H' : Hp} {a : Addr} {xs : List V} (e : Same H H') (h : SqL K H a xs) : SqL K H' a xs := by
  rcases h with (h | ⟨o, h⟩) | h
  · exact .inl (.inl (e _ _ h))
  · exact .inl (.inr ⟨o, e _ _ h⟩)
  · exact .inr h

end L2

set_option Elab.async false
set_option linter.all false
set_option maxRecDepth 100000
namespace L2
open PySem PySem.Spec PyProof.Rows
noncomputable def closL (scope : Scope) (env : Env) : List (Str × Addr) :=
  scope.names.foldl (fun acc y => if y.2 == .free then (match env.cells.lookup y.1 with | some c => (y.1, c) :: acc | none => acc) else acc) []
theorem closFor_aux {env : Env} : ∀ (names : List (Str × NameKind)) (acc : List (Str × Addr)), (∀ y ∈ names, y.2 = .free → ∃ c, env.cells.lookup y.1 = some c) →
    (forIn names acc fun (y : Str × NameKind) (r : List (Str × Addr)) => (match y with | (name, kind) => if (kind == NameKind.free) = true then (do let a ← cellOf env name; pure (ForInStep.yield ((name, a) :: r))) else pure (ForInStep.yield r) : Sem (ForInStep (List (Str × Addr))))) =
      pure (names.foldl (fun acc y => if y.2 == .free then (match env.cells.lookup y.1 with | some c => (y.1, c) :: acc | none => acc) else acc) acc)
  | [], acc, _ => rfl
  | (n, k) :: r, acc, h => by
    rw [List.forIn_cons, List.foldl_cons]
    have ih := fun acc => closFor_aux (env := env) r acc fun y hy => h y (List.mem_cons_of_mem _ hy)
    by_cases hk : k = .free
    · subst hk
      obtain ⟨c, e⟩ := h (n, .free) List.mem_cons_self rfl
      have e' : env.cells.lookup n = some c := e
      simp only [cellOf, e', beq_self_eq_true, if_true]
      exact ih _
    · have hb : (k == NameKind.free) = false := by simpa using hk
      simp only [hb, Bool.false_eq_true, if_false]
      exact ih _
theorem closFor {scope : Scope} {env : Env} (h : ∀ y ∈ scope.names, y.2 = .free → ∃ c, env.cells.lookup y.1 = some c) : closureFor scope env = pure (closL scope env) := by
  have e := closFor_aux (env := env) scope.names [] h
  unfold closureFor closL
  rw [← e]
  first | rfl | simp
theorem closL_aux {env : Env} {x : Str} {c : Addr} : ∀ (names : List (Str × NameKind)) (acc : List (Str × Addr)), (∀ z d, acc.lookup z = some d → env.cells.lookup z = some d) →
    (names.foldl (fun acc y => if y.2 == .free then (match env.cells.lookup y.1 with | some c => (y.1, c) :: acc | none => acc) else acc) acc).lookup x = some c → env.cells.lookup x = some c
  | [], acc, h, e => h x c e
  | (n, k) :: r, acc, h, e => by
    rw [List.foldl_cons] at e
    refine closL_aux r _ ?_ e
    intro z d q
    by_cases hk : (k == NameKind.free) = true
    · simp only [hk, if_true] at q
      cases el : env.cells.lookup n with
      | none => simp only [el] at q; exact h z d q
      | some a =>
        simp only [el, List.lookup_cons] at q
        by_cases hz : (z == n) = true
        · simp only [hz] at q
          have : z = n := by simpa using hz
          subst this
          rw [el]; exact q
        · have hz' : (z == n) = false := by simpa using hz
          simp only [hz'] at q
          exact h z d q
    · simp only [hk, if_false] at q
      exact h z d q
theorem closL_sub {scope : Scope} {env : Env} {x : Str} {c : Addr} (e : (closL scope env).lookup x = some c) : env.cells.lookup x = some c := closL_aux _ _ (fun _ _ q => by simp at q) e
theorem closL_has_aux {env : Env} {x : Str} : ∀ (names : List (Str × NameKind)) (acc : List (Str × Addr)), (∀ y ∈ names, y.2 = .free → ∃ c, env.cells.lookup y.1 = some c) → ((x, NameKind.free) ∈ names ∨ (acc.lookup x).isSome = true) →
    ((names.foldl (fun acc y => if y.2 == .free then (match env.cells.lookup y.1 with | some c => (y.1, c) :: acc | none => acc) else acc) acc).lookup x).isSome = true
  | [], acc, _, h => by
    rcases h with h | h
    · cases h
    · exact h
  | (n, k) :: r, acc, hc, h => by
    rw [List.foldl_cons]
    refine closL_has_aux r _ (fun y hy => hc y (List.mem_cons_of_mem _ hy)) ?_
    rcases h with h | h
    · rcases List.mem_cons.mp h with h | h
      · cases h
        obtain ⟨c, e⟩ := hc (x, .free) List.mem_cons_self rfl
        have e' : env.cells.lookup x = some c := e
        right
        simp [e', List.lookup_cons]
      · exact .inl h
    · right
      by_cases hk : (k == NameKind.free) = true
      · simp only [hk, if_true]
        cases el : env.cells.lookup n with
        | none => exact h
        | some a =>
          simp only [List.lookup_cons]
          by_cases hz : (x == n) = true
          · simp [hz]
          · have hz' : (x == n) = false := by simpa using hz
            simp only [hz']; exact h
      · simp only [hk]; exact h
theorem closL_has {scope : Scope} {env : Env} {x : Str} (hc : ∀ y ∈ scope.names, y.2 = .free → ∃ c, env.cells.lookup y.1 = some c) (h : (x, NameKind.free) ∈ scope.names) : ∃ c, (closL scope env).lookup x = some c :=
  Option.isSome_iff_exists.mp (closL_has_aux _ _ hc (.inl h))

noncomputable def compOk (sc inn : Scope) (N : List Str) (js : List Nat) (cs : List Str) : Bool :=
  (inn.kind == .function) && inn.names.all (fun y => y.2 != .cell && (y.2 != .local || inn.names.lookup y.1 == some .local) && (y.2 != .free || (sc.names.lookup y.1 == some .cell || sc.names.lookup y.1 == some .free))) &&
  (js.map fun j => N[j]?) == cs.map some && cs.all (fun x => inn.names.lookup x == some .free)
structure CompOk (sc inn : Scope) (N : List Str) (js : List Nat) (cs : List Str) : Prop where
  kind : inn.kind = .function
  nocell : ∀ y ∈ inn.names, y.2 ≠ .cell
  names : ∀ y ∈ inn.names, y.2 = .local → inn.names.lookup y.1 = some .local
  frees : ∀ y ∈ inn.names, y.2 = .free → sc.names.lookup y.1 = some .cell ∨ sc.names.lookup y.1 = some .free
  slots : (js.map fun j => N[j]?) = cs.map some
  caps : ∀ x ∈ cs, inn.names.lookup x = some .free
theorem CompOk.of {sc inn : Scope} {N : List Str} {js : List Nat} {cs : List Str} (h : compOk sc inn N js cs = true) : CompOk sc inn N js cs := by
  unfold compOk at h
  simp only [Bool.and_eq_true] at h
  obtain ⟨⟨⟨h1, h2⟩, h3⟩, h4⟩ := h
  rw [List.all_eq_true] at h2 h4
  refine ⟨by simpa using h1, fun y hy => ?_, fun y hy e => ?_, fun y hy e => ?_, by simpa using h3, fun x hx => by simpa using h4 x hx⟩
  · have := h2 y hy
    simp only [Bool.and_eq_true] at this
    simpa using this.1.1
  · have := h2 y hy
    simp only [Bool.and_eq_true, e] at this
    simpa using this.1.2
  · have := h2 y hy
    simp only [Bool.and_eq_true, e] at this
    simpa using this.2

noncomputable def sIn (nt : Nat) (js : List Nat) (σ : St) : St := List.replicate nt none ++ js.map fun j => (σ[j]?).join
noncomputable def cxIn (X : Cx) (inn : Scope) (N' : List Str) (s₀ : Shared) (H₀ : Hp) (ex : List Addr) : Cx where
  prog := X.prog
  w := X.w
  K := X.K
  mg := X.mg
  base := X.base
  A := X.A
  N := N'
  s₀ := s₀
  H₀ := H₀
  env := compEnvC inn (closL inn X.env) s₀.heap.objs.size X.env
  outer := X.stack
  stack := X.stack
  ex := ex
  fn := fun _ => false
  calm := X.calm
  pn := []
  xe := fun _ _ => False

noncomputable def PIf (X : Cx) (ifs : List Expr) (t : TT) : Prop :=
  ∀ (pins : List (Addr × Obj)) (s : Shared) (σ : St) (H : Hp) (Q : Bool → Hp → Prop), Inv X pins σ H s → t σ H Q →
    wpAny (model X.prog X.w) X.A (forIn ifs true fun c r => if r = true then do let ok ← isTrue c X.env (eval c X.env); pure (ForInStep.yield ok) else pure (ForInStep.yield r)) (TP X pins σ Q) X.xe s
noncomputable def tYes : TT := fun _ H Q => Q true H
theorem pif_nil {X : Cx} : PIf X [] tYes := fun _ _ _ H _ I h => wpAny_tests_nil ⟨H, I, h⟩
noncomputable def CompR (J : It) (σ0 : St) (g : TG) (tt : TT) (te : TE) (Q : VK) (H1 : Hp) : Prop := ∃ W : Nat → Nat → List V → Hp → Prop, (∃ m, W 0 m [] H1) ∧ ∀ i m ys H, W i m ys H →
  ys.length < sizeLine ∧ ((J.stop i H ∧ ∀ D, H D = none → Q (.ref D) (upd H D (.lst ys))) ∨
    (J.go i H ∧ ∃ N : List V → Hp → Prop, (∀ ys' H', N ys' H' → ∃ m', m' < m ∧ W (i + 1) m' ys' H') ∧ ∀ x H', J.yld i H x H' → g x σ0 H' fun σ2 H2 => tt σ2 H2 fun b H3 =>
      if b = true then te σ2 H3 fun y H4 => N (ys ++ [y]) H4 else N ys H3))
noncomputable def tComp (wi : TI) (nt : Nat) (js : List Nat) (g : TG) (tt : TT) (te : TE) : TE := fun σ H Q => wi σ H fun J H1 => CompR J (sIn nt js σ) g tt te Q H1
end L2

set_option Elab.async false
set_option linter.all false
set_option maxRecDepth 100000
set_option maxHeartbeats 4000000
namespace L2
open PySem PySem.Spec PyProof.Rows
theorem lookup_relabel_free {env : Env} : ∀ {names : List (Str × NameKind)} {x : Str}, names.lookup x = some .free →
    (names.map fun (n, k) => if (k == NameKind.free && env.scope.kind == .function && env.kindOf n == some .cell) then (n, NameKind.cell) else (n, k)).lookup x = some .cell ∨
    (names.map fun (n, k) => if (k == NameKind.free && env.scope.kind == .function && env.kindOf n == some .cell) then (n, NameKind.cell) else (n, k)).lookup x = some .free
  | [], _, h => by simp at h
  | (n, k) :: r, x, h => by
    have ih := @lookup_relabel_free env r x
    show List.lookup x ((if (k == NameKind.free && env.scope.kind == .function && env.kindOf n == some .cell) = true then (n, NameKind.cell) else (n, k)) :: _) = _ ∨ List.lookup x ((if (k == NameKind.free && env.scope.kind == .function && env.kindOf n == some .cell) = true then (n, NameKind.cell) else (n, k)) :: _) = _
    cases hx : x == n with
    | true =>
      simp only [List.lookup_cons, hx] at h
      cases h
      by_cases hc : (NameKind.free == NameKind.free && env.scope.kind == .function && env.kindOf n == some .cell) = true
      · left; rw [if_pos hc]; simp [List.lookup_cons, hx]
      · right; rw [if_neg hc]; simp [List.lookup_cons, hx]
    | false =>
      simp only [List.lookup_cons, hx] at h
      by_cases hc : (k == NameKind.free && env.scope.kind == .function && env.kindOf n == some .cell) = true
      · rw [if_pos hc]; simp only [List.lookup_cons, hx]; exact ih h
      · rw [if_neg hc]; simp only [List.lookup_cons, hx]; exact ih h
theorem relabel_cf_mem {env : Env} : ∀ {names : List (Str × NameKind)} {x : Str}, (∀ y ∈ names, y.2 ≠ NameKind.cell) →
    ((names.map fun (n, k) => if (k == NameKind.free && env.scope.kind == .function && env.kindOf n == some .cell) then (n, NameKind.cell) else (n, k)).lookup x = some .cell ∨
    (names.map fun (n, k) => if (k == NameKind.free && env.scope.kind == .function && env.kindOf n == some .cell) then (n, NameKind.cell) else (n, k)).lookup x = some .free) → (x, NameKind.free) ∈ names
  | [], _, _, h => by simp at h
  | (n, k) :: r, x, hn, h => by
    have ih := @relabel_cf_mem env r x (fun y hy => hn y (List.mem_cons_of_mem _ hy))
    have hk := hn (n, k) List.mem_cons_self
    rw [List.map_cons] at h
    cases hx : x == n with
    | true =>
      have e : x = n := by simpa using hx
      subst e
      by_cases hc : (k == NameKind.free && env.scope.kind == .function && env.kindOf x == some .cell) = true
      · have : k = .free := by simp only [Bool.and_eq_true] at hc; simpa using hc.1.1
        subst this
        exact List.mem_cons_self
      · simp only [if_neg hc, List.lookup_cons, hx] at h
        rcases h with h | h
        · cases h; exact absurd rfl hk
        · cases h; exact List.mem_cons_self
    | false =>
      refine List.mem_cons_of_mem _ (ih ?_)
      by_cases hc : (k == NameKind.free && env.scope.kind == .function && env.kindOf n == some .cell) = true
      · simp only [if_pos hc, List.lookup_cons, hx] at h; exact h
      · simp only [if_neg hc, List.lookup_cons, hx] at h; exact h

section
variable {X : Cx} {pins : List (Addr × Obj)} {σ : St} {H H' : Hp} {s : Shared} {inn : Scope} {js : List Nat} {cs ts : List Str} {nt : Nat}

theorem sIn_get {i : Nat} {v : V} (h : (sIn nt js σ)[i]? = some (some v)) : nt ≤ i ∧ ∃ j, js[i - nt]? = some j ∧ σ[j]? = some (some v) := by
  unfold sIn at h
  by_cases hi : i < nt
  · rw [List.getElem?_append_left (by simpa using hi), List.getElem?_replicate] at h
    split at h <;> cases h
  · rw [List.getElem?_append_right (by simpa using hi), List.length_replicate, List.getElem?_map] at h
    refine ⟨by omega, ?_⟩
    cases e : js[i - nt]? with
    | none => rw [e] at h; cases h
    | some j =>
      rw [e] at h
      have h' : (σ[j]?).join = some v := Option.some.inj h
      refine ⟨j, rfl, ?_⟩
      cases q : σ[j]? with
      | none => rw [q] at h'; cases h'
      | some o =>
        rw [q] at h'
        have h'' : o = some v := h'
        rw [h'']

theorem in_ok {ex : List Addr} (I : Inv X pins σ H s) (O : CompOk X.env.scope inn X.N js cs) (hex : ∀ b ∈ ex, b < s.heap.objs.size ∧ b ≠ X.env.locals ∧ b ∉ X.fs ∧ (∀ x c, X.env.cells.lookup x = some c → c ≠ b) ∧ ∀ o, X.base.get? b ≠ some o) :
    (cxIn X inn (ts ++ cs) s H ex).Ok where
  mod := I.ok.mod
  kind := O.kind
  glob := I.ok.glob
  blt := I.ok.blt
  above := Nat.le_refl _
  inj := fun x y c h1 h2 => I.ok.inj x y c (closL_sub h1) (closL_sub h2)
  has := fun x hx => by
    have hm : (x, NameKind.free) ∈ inn.names := relabel_cf_mem O.nocell hx
    exact closL_has (fun y hy e => I.ok.has y.1 (O.frees y hy e)) hm
  cab := fun _ _ h => absurd h (by show ¬ (false = true); decide)
  hd := I.ok.hd
  frames := I.ok.frames
  stk := .inl rfl
  exf := fun b hb => ⟨Nat.ne_of_lt (hex b hb).1, fun x c e => (hex b hb).2.2.2.1 x c (closL_sub e)⟩
  bs := I.bs
  bsz := Nat.le_trans I.ok.bsz I.sz
  noex := fun b o e hb => (hex b hb).2.2.2.2 o e
  exfs := fun b hb hs => by
    rcases List.mem_cons.mp (I.stkSub b hs) with e | e
    · exact (hex b hb).2.1 e
    · exact (hex b hb).2.2.1 e
  funs := I.stack
  frf := I.stkFree

theorem in_inv {ex : List Addr} {h' : Heap} {tk : Nat} (hts : ts.length = nt) (I : Inv X pins σ H s) (O : CompOk X.env.scope inn X.N js cs) (hex : ∀ b ∈ ex, b < s.heap.objs.size ∧ b ≠ X.env.locals ∧ b ∉ X.fs ∧ (∀ x c, X.env.cells.lookup x = some c → c ≠ b) ∧ ∀ o, X.base.get? b ≠ some o)
    (hn : ∃ m, h'.Ns s.heap.objs.size m) (hk : ∀ b o, s.heap.get? b = some o → h'.get? b = some o) :
    Inv (cxIn X inn (ts ++ cs) s H ex) [] (sIn nt js σ) H { s with heap := h', toks := tk } := by
  have ok : (cxIn X inn (ts ++ cs) s H ex).Ok := in_ok I O hex
  obtain ⟨m, hn⟩ := hn
  have cellK : ∀ c v, s.heap.IsCell c v → h'.IsCell c v := fun c v ⟨o, ho, hd⟩ => ⟨o, hk c o ho, hd⟩
  have hlen : js.length = cs.length := by have := congrArg List.length O.slots; simpa using this
  refine ⟨ok, rfl, I.bare, Un.kept hk, ⟨m, hn, fun i x v e1 e2 e3 => ?_⟩, fun x c e => ?_, I.hok.fresh (Nat.le_refl _), fun x c e => I.freeC x c (closL_sub e), fun p hp => ?_, I.hok.kept hk, ?_⟩
  · obtain ⟨hi, j, hj, hv⟩ := sIn_get e2
    have e1' : (ts ++ cs)[i]? = some x := e1
    rw [List.getElem?_append_right (by omega), hts] at e1'
    have hN : X.N[j]? = some x := by
      have q : (js.map fun j => X.N[j]?)[i - nt]? = (cs.map some)[i - nt]? := by rw [O.slots]
      rw [List.getElem?_map, List.getElem?_map, hj, e1'] at q
      exact Option.some.inj q
    have hcap := O.caps x (List.mem_of_getElem? e1')
    have hmem : (x, NameKind.free) ∈ inn.names := PySem.mem_of_lookup hcap
    have hout := O.frees _ hmem rfl
    obtain ⟨mo, hno, hl⟩ := I.loc
    obtain ⟨u, r, l⟩ := hl j x v hN hv (.inr hout)
    refine ⟨u, r, .inr ?_⟩
    rcases l with ⟨l1, _⟩ | ⟨k, c, ec, z⟩
    · have l1' : X.env.scope.names.lookup x = some .local := l1
      rcases hout with q | q <;> (rw [q] at l1'; cases l1')
    · refine ⟨?_, ?_⟩
      · exact lookup_relabel_free (env := X.env) hcap
      · obtain ⟨c', ec'⟩ := closL_has (env := X.env) (fun y hy e => I.ok.has y.1 (O.frees y hy e)) hmem
        have := closL_sub ec'
        rw [ec] at this; cases this
        exact ⟨c, ec', cellK _ _ z⟩
  · obtain ⟨v, z⟩ := I.cell x c (closL_sub e)
    exact ⟨v, cellK _ _ z⟩
  · exact absurd (show p ∈ ([] : List (Addr × Obj)) from hp) (by simp)
  · show (sIn nt js σ).length = (ts ++ cs).length
    unfold sIn
    simp [hts, hlen]

theorem Inv.track {a : Addr} {o : HO} (I : Inv X pins σ H s) (hn : H a = none) (h0 : X.s₀.heap.objs.size ≤ a) (hL : a ≠ X.env.locals) (hc : ∀ x c, X.env.cells.lookup x = some c → c ≠ a) (hp : ∀ p ∈ X.pn ++ pins, p.1 ≠ a)
    (new : ObjOk X.prog X.w (upd H a o) s.heap a o) : Inv X pins σ (upd H a o) s := by
  have ne0 : ∀ b ob, X.s₀.heap.get? b = some ob → b ≠ a := fun b ob e => Nat.ne_of_lt (Nat.lt_of_lt_of_le (Heap.lt_size e) h0)
  have neT : ∀ b u, H b = some u → b ≠ a := fun b u e => ne_of_none e hn
  refine ⟨I.ok, I.os, I.bare, ⟨I.base.keep, I.base.slot, fun b ob e n hx => ?_, I.base.there, fun b xs e => ?_, fun b ob u e => ?_, fun b ps e => ?_⟩, I.loc, I.cell, ?_, fun x c e => ?_, fun p hp' => ?_, fun b u e => ?_, I.len⟩
  · rw [upd_ne (ne0 b ob e)]; exact I.base.free b ob e n hx
  · have q := I.base.tups b xs e; rw [upd_ne (neT b _ q)]; exact q
  · have q := I.base.frzs b ob u e; rw [upd_ne (neT b _ q)]; exact q
  · obtain ⟨more, q⟩ := I.base.tbls b ps e; exact ⟨more, by rw [upd_ne (neT b _ q)]; exact q⟩
  · rw [upd_ne (Ne.symm hL)]; exact I.free
  · rw [upd_ne (hc x c e)]; exact I.freeC x c e
  · obtain ⟨q1, q2, q3, q4, q5⟩ := I.pin p hp'
    exact ⟨q1, by rw [upd_ne (hp p hp')]; exact q2, q3, q4, q5⟩
  · by_cases hb : b = a
    · subst hb; rw [upd_same] at e; cases e; exact new
    · rw [upd_ne hb] at e
      exact (I.hok b u e).stay (fun _ _ _ q => q) (fun c q => by rw [upd_ne (neT c _ q)]; exact q) fun c xs q => by rw [upd_ne (neT c _ q)]; exact q
end
end L2

set_option Elab.async false
set_option linter.all false
set_option maxRecDepth 100000
set_option maxHeartbeats 4000000
namespace L2
open PySem PySem.Spec PyProof.Rows
noncomputable def GK (nt : Nat) (g : TG) : Prop := ∀ v σ H Q, g v σ H Q → g v σ H fun σ' H' => ((∀ i, nt ≤ i → σ'[i]? = σ[i]?) ∧ σ'.length = σ.length) ∧ Q σ' H'
theorem kg_name {nt i : Nat} (h : i < nt) : GK nt (gName i) := fun v σ H Q q => ⟨⟨fun j hj => by rw [List.getElem?_set_ne (by omega)], by simp⟩, q⟩
section
variable {X : Cx} {pins : List (Addr × Obj)} {σ : St} {inn : Scope} {js : List Nat} {cs ts : List Str} {nt : Nat} {elt tg iter : Expr} {ifs : List Expr} {pos : Pos} {g : TG} {tt : TT} {te : TE}
theorem comp_core {J : It} {fp : List Addr} {it : Addr} {tn : Nat → Heap → Prop} {H2 : Hp} {s2 : Shared} {E : Value → Shared → Prop} {Q : VK} {RR : Value → Addr → Result → Shared → Prop}
    (hcalm : X.calm = true) (O : CompOk X.env.scope inn X.N js cs) (hts : ts.length = nt)
    (hg : ∀ s₀ H₀ ex, PG (cxIn X inn (ts ++ cs) s₀ H₀ ex) tg g) (hk : GK nt g) (ht : ∀ s₀ H₀ ex, PIf (cxIn X inn (ts ++ cs) s₀ H₀ ex) ifs tt) (he : ∀ s₀ H₀ ex, PE (cxIn X inn (ts ++ cs) s₀ H₀ ex) elt te)
    (I2 : Inv X pins σ H2 s2) (T : Turn X.prog X.w X.K tg J fp it tn) (st2 : tn 0 s2.heap) (f2 : ∀ b ∈ fp, FpOk X pins H2 b)
    (R : CompR J (sIn nt js σ) g tt te Q H2)
    (hRR : ∀ D C s' H', Inv X pins σ H' s' → (∃ m, s'.heap.Ns C m) → H' C = none → C ≠ X.env.locals → X.s₀.heap.objs.size ≤ C → (∀ x c, X.env.cells.lookup x = some c → c ≠ C) → (∀ p ∈ X.pn ++ pins, p.1 ≠ C) → Q (.ref D) H' → RR (.ref D) C (.ok .next) s') :
    wpAny (model X.prog X.w) X.A (newList []) (fun acc s₃ => wpAny (model X.prog X.w) X.A (newFunctionEnv inn X.env.globals (closL inn X.env) [] X.env.qual none .none (some X.env)) (fun cenv s₄ =>
      codeAny (model X.prog X.w) X.A (.compStart (.ListComp elt [⟨tg, iter, ifs, 0⟩] inn pos) 0 (.ref it) acc { cenv with scope := relabel inn X.env }) (RR acc cenv.locals) s₄) E s₃) E s2 := by
  refine wpAny_newObj_type (wpAny_newFunctionEnv O.nocell (by intro y hy; simp at hy) (fun h₁ hns₁ hsb₁ => ?_) O.kind)
  dsimp only at hns₁ hsb₁ ⊢
  generalize hD : s2.heap.objs.size = D
  have I3 : Inv X pins σ H2 { s2 with heap := s2.heap.push { cls := .type "list", dict := none, data := .seq ([] : List Value).toArray } } := I2.kept (t' := s2.toks) fun b o e => Heap.get?_push_of_some _ e
  generalize hs3 : ({ s2 with heap := s2.heap.push { cls := .type "list", dict := none, data := .seq ([] : List Value).toArray } } : Shared) = s3 at I3
  have e3 : s3.heap = s2.heap.push { cls := .type "list", dict := none, data := .seq ([] : List Value).toArray } := by rw [← hs3]
  have hD3 : s3.heap.get? D = some { cls := .type "list", dict := none, data := .seq ([] : List Value).toArray } := by rw [e3, ← hD]; exact Heap.get?_push_size _ rfl
  have hsz3 : s3.heap.objs.size = D + 1 := by rw [e3, Heap.size_push, hD]
  have e3' : (s2.heap.push { cls := .type "list", dict := none, data := .seq ([] : List Value).toArray }) = s3.heap := e3.symm
  rw [e3'] at hns₁ hsb₁ ⊢
  have fH2D : H2 D = none := I2.hok.fresh (by rw [hD]; exact Nat.le_refl _)
  have up : ∀ b o, s3.heap.get? b = some o → h₁.get? b = some o := fun b o e => hsb₁.extBut b o (Nat.ne_of_lt (Heap.lt_size e)) (Heap.get?_push_of_some _ e)
  -- what lies in ex
  have fpo : ∀ b ∈ fp, b < s3.heap.objs.size ∧ b ≠ D := fun b hb => by
    obtain ⟨o, eo, _⟩ := T.obj 0 _ st2 b hb
    have h1 := Heap.lt_size eo
    rw [hD] at h1
    exact ⟨by rw [hsz3]; exact Nat.lt_succ_of_lt h1, Nat.ne_of_lt h1⟩
  have nb : ∀ b, X.s₀.heap.objs.size ≤ b → ∀ o, X.base.get? b ≠ some o := fun b hb o e => absurd (Nat.lt_of_lt_of_le (Heap.lt_size e) (Nat.le_trans I2.ok.bsz hb)) (Nat.lt_irrefl _)
  have dge : s2.heap.objs.size ≤ D := by rw [hD]; exact Nat.le_refl _
  have fD : FpOk X pins H2 D := I2.fpOk dge fH2D
  have hex : ∀ b ∈ D :: fp, b < s3.heap.objs.size ∧ b ≠ X.env.locals ∧ b ∉ X.fs ∧ (∀ x c, X.env.cells.lookup x = some c → c ≠ b) ∧ ∀ o, X.base.get? b ≠ some o := fun b hb => by
    rcases List.mem_cons.mp hb with rfl | hb
    · exact ⟨by rw [hsz3]; exact Nat.lt_succ_self _, fD.2.1, fD.2.2.1, fD.2.2.2.2.1, nb _ (Nat.le_trans I2.sz dge)⟩
    · obtain ⟨f0, f1, f2', f3, f4, f5⟩ := f2 b hb
      refine ⟨(fpo b hb).1, f1, f2', f4, fun o e => ?_⟩
      rcases f3 with z | z
      · exact I2.ok.noex b o e z
      · exact nb b z o e
  have hC : s3.heap.objs.size = s3.heap.objs.size := rfl
  generalize hXi : cxIn X inn (ts ++ cs) s3 H2 (D :: fp) = Xi
  have I4 : Inv Xi [] (sIn nt js σ) H2 { s3 with heap := h₁, toks := s3.toks } := by
    rw [← hXi]; exact in_inv hts I3 O hex ⟨_, hns₁⟩ up
  have xp : Xi.prog = X.prog := by rw [← hXi]; rfl
  have xw : Xi.w = X.w := by rw [← hXi]; rfl
  have xK : Xi.K = X.K := by rw [← hXi]; rfl
  have xA : Xi.A = X.A := by rw [← hXi]; rfl
  have xc : Xi.calm = true := by rw [← hXi]; exact hcalm
  have xe : Xi.env = compEnvC inn (closL inn X.env) s3.heap.objs.size X.env := by rw [← hXi]; rfl
  have xx : Xi.xe = fun _ _ => False := by rw [← hXi]; rfl
  have xex : Xi.ex = D :: fp := by rw [← hXi]; rfl
  have xpn : Xi.pn = [] := by rw [← hXi]; rfl
  have xs0 : Xi.s₀ = s3 := by rw [← hXi]; rfl
  have xH0 : Xi.H₀ = H2 := by rw [← hXi]; rfl
  have xfs : Xi.fs = frs X.stack := by rw [← hXi]; rfl
  have hgX : PG Xi tg g := by rw [← hXi]; exact hg _ _ _
  have htX : PIf Xi ifs tt := by rw [← hXi]; exact ht _ _ _
  have heX : PE Xi elt te := by rw [← hXi]; exact he _ _ _
  have okX := I4.ok
  have xl : Xi.env.locals = s3.heap.objs.size := by rw [xe]; rfl
  have Dl : D ≠ Xi.env.locals := by rw [xl, hsz3]; exact Nat.ne_of_lt (Nat.lt_succ_self _)
  have stat : ∀ {H' : Hp} {pl : List (Addr × Obj)}, (∀ b ∈ fp, H' b = none) → (∀ p ∈ pl, p.1 = D) → ∀ b ∈ fp, FpOk Xi pl H' b := fun {H' pl} hn hpl b hb => by
    have hbx : b ∈ Xi.ex := by rw [xex]; exact List.mem_cons_of_mem _ hb
    refine ⟨hn b hb, (okX.exf b hbx).1, fun z => okX.exfs b hbx z, .inl hbx, (okX.exf b hbx).2, fun p hp => ?_⟩
    rw [xpn, List.nil_append] at hp
    rw [hpl p hp]
    exact Ne.symm (fpo b hb).2
  have DX : D ∈ Xi.ex := by rw [xex]; exact List.mem_cons_self
  obtain ⟨W, ⟨m0, w0⟩, turn⟩ := R
  have loop : codeAny (model X.prog X.w) X.A (.compLoop (.ListComp elt [⟨tg, iter, ifs, 0⟩] inn pos) 0 (.ref it) (.ref D) Xi.env) (RR (.ref D) s3.heap.objs.size) { s3 with heap := h₁, toks := s3.toks } := by
    refine codeAny_loop rfl (fun n s' => ∃ i ys H', Inv Xi [] (sIn nt js σ) H' s' ∧ tn i s'.heap ∧ (∀ b ∈ fp, H' b = none) ∧ H' D = none ∧ (∃ (its : List Value) (c : Nat), Vals ys its ∧ s'.heap.get? D = some { cls := .type "list", data := .seq its.toArray c }) ∧ W i n ys H') ?_ m0
      ⟨0, [], H2, I4, ?_, fun b hb => (f2 b hb).1, fH2D, ⟨[], 0, .nil, up D _ hD3⟩, w0⟩
    · rintro n s5 ⟨i, ys, H5, I5, st5, fr5, fD5, ⟨its, c, rv, eD⟩, w5⟩
      show wpAny _ X.A ((compTurn (.ListComp elt [⟨tg, iter, ifs, 0⟩] inn pos) 0 (.ref it) (.ref D) Xi.env).onRaise (fun x => do noteFrame x Xi.env; theTreesLotGoes x)) _ _ s5
      refine wpAny_noted ?_
      rw [compTurn_list]
      refine wpAny_bind (wpAny_standAt (wpAny_bind ?_))
      -- D is pinned
      have pinD : Inv Xi (pinsAt [D] s5.heap) (sIn nt js σ) H5 s5 := by
        have q := I5.pinned (fp := [D]) (fun b hb => ?_) (fun b hb => ?_)
        · simpa using q
        · have e : b = D := by simpa using hb
          subst e
          refine ⟨fD5, Dl, fun z => okX.exfs b DX z, .inl DX, (okX.exf b DX).2, fun p hp => ?_⟩
          rw [xpn, List.nil_append] at hp; cases hp
        · have e : b = D := by simpa using hb
          subst e
          exact ⟨_, eD, fun v z => by cases z⟩
      have plD : ∀ p ∈ pinsAt [D] s5.heap, p.1 = D := fun p hp => by simpa using (of_pinsAt hp).1
      have memD : (D, ({ cls := .type "list", data := .seq its.toArray c } : Obj)) ∈ pinsAt [D] s5.heap := mem_pinsAt (by simp) eD
      obtain ⟨hz, tn5⟩ := turn i n ys H5 w5
      rcases tn5 with ⟨stop, fin⟩ | ⟨go, N, hN, step⟩
      · have q := T.done Xi xp xw xK xc i _ s5 _ H5 (notedBy (model X.prog X.w) X.A Xi.env fun e s' => RR (.ref D) s3.heap.objs.size (.error e) s') pinD (stat fr5 plD) st5 stop
        rw [xA] at q
        refine wpAny_mono q (fun r s6 ⟨hr, I6⟩ => ?_) fun _ _ z => z
        subst hr
        refine wpAny_pure ?_
        have eD6 := (I6.pin (D, _) (List.mem_append_right _ memD)).1
        -- back to the def
        have un : Un (frs X.stack) (D :: fp) H2 H5 s3.heap s6.heap := by
          have z := I6.base
          rw [xfs, xex, xH0, xs0] at z
          exact z
        have os6 : s6.os = s3.os := by have z := I6.os; rw [xs0] at z; exact z
        have hok6 : HOk X.prog X.w H5 s6.heap := by have z := I6.hok; rw [xp, xw] at z; exact z
        have I7 : Inv X pins σ H5 s6 := I3.call' os6 un hok6 I6.bare fun b hb => by
          rcases List.mem_cons.mp hb with e | hb
          · rw [e]; exact ⟨.inr (Nat.le_trans I2.sz dge), fD.2.1, fD.2.2.2.2.1, fD.2.2.2.2.2⟩
          · obtain ⟨f0, f1, f2', f3, f4, f5⟩ := f2 b hb
            exact ⟨f3, f1, f4, f5⟩
        have I8 : Inv X pins σ (upd H5 D (.lst ys)) s6 := I7.track fD5 (Nat.le_trans I2.sz dge) fD.2.1 fD.2.2.2.2.1 fD.2.2.2.2.2 ⟨Nat.le_of_lt hz, its, c, rv, eD6⟩
        have Cge : s3.heap.objs.size ≤ s3.heap.objs.size := Nat.le_refl _
        have fC : FpOk X pins (upd H5 D (.lst ys)) s3.heap.objs.size := I3.fpOk Cge (by
          rw [upd_ne (by rw [← xl]; exact Ne.symm Dl)]
          have z := I6.free
          rw [xl] at z; exact z)
        obtain ⟨mm, hmm, _⟩ := I6.loc
        rw [xl] at hmm
        exact hRR D _ s6 _ I8 ⟨mm, hmm⟩ fC.1 fC.2.1 (Nat.le_trans I3.sz Cge) fC.2.2.2.2.1 fC.2.2.2.2.2 (fin D fD5)
      · have q := T.item Xi xp xw xK xc i _ s5 _ H5 (notedBy (model X.prog X.w) X.A Xi.env fun e s' => RR (.ref D) s3.heap.objs.size (.error e) s') pinD (stat fr5 plD) st5 go
        rw [xA] at q
        refine wpAny_mono q (fun r s6 ⟨u, hr, h6⟩ => ?_) fun _ _ z => z
        subst hr
        refine wpAny_bind (wpAny_mono h6 (fun _ s7 ⟨x, H7, I7, r7, y7, st7, fr7⟩ => ?_) fun _ _ z => z)
        have I7' := I7.pinned (fp := fp) (fun b hb => stat fr7 plD b hb) (T.obj _ _ st7)
        have q8 := hgX _ s7 _ H7 x u _ I7' r7 (hk x _ H7 _ (step x H7 y7))
        rw [xp, xw, xA, xx] at q8
        refine wpAny_bind (wpAny_mono q8 (fun _ s8 ⟨σ8, H8, I8, ⟨k8, l8⟩, q8⟩ => ?_) fun _ _ z => z.elim)
        have q9 := htX _ s8 σ8 H8 _ I8 q8
        rw [xp, xw, xA, xx] at q9
        refine wpAny_bind (wpAny_mono q9 (fun ok s9 ⟨H9, I9, q9⟩ => ?_) fun _ _ z => z.elim)
        have keepσ : ∀ (j : Nat) v, (sIn nt js σ)[j]? = some (some v) → σ8[j]? = some (some v) := fun j v e => by
          have hj := (sIn_get e).1
          rw [k8 j hj]; exact e
        -- what stays of the iterator behind the turn
        have ends : ∀ {H9 : Hp} {s9 : Shared} {ys' : List V}, Inv Xi (pinsAt [D] s5.heap ++ pinsAt fp s7.heap) σ8 H9 s9 → ∀ {h' : Heap} {its' : List Value} {c' : Nat}, (∀ b o, b ≠ D → s9.heap.get? b = some o → h'.get? b = some o) → Vals ys' its' → h'.get? D = some { cls := .type "list", data := .seq its'.toArray c' } → N ys' H9 →
            ∀ tk, ∃ m, m < n ∧ ∃ i ys H', Inv Xi [] (sIn nt js σ) H' { s9 with heap := h', toks := tk } ∧ tn i h' ∧ (∀ b ∈ fp, H' b = none) ∧ H' D = none ∧ (∃ (its : List Value) (c : Nat), Vals ys its ∧ h'.get? D = some { cls := .type "list", data := .seq its.toArray c }) ∧ W i m ys H' := fun {H9 s9 ys'} I9 {h' its' c'} kp rv' eD' n9 tk => by
          obtain ⟨m', hm, w9⟩ := hN ys' H9 n9
          have fD9 : H9 D = none := (I9.pin (D, _) (List.mem_append_right _ (List.mem_append_left _ memD))).2.1
          have fr9 : ∀ b ∈ fp, H9 b = none := fun b hb => by
            obtain ⟨o, e, d⟩ := T.obj _ _ st7 b hb
            exact (I9.pin (b, o) (List.mem_append_right _ (List.mem_append_right _ (mem_pinsAt hb e)))).2.1
          have I10 : Inv Xi [] σ8 H9 s9 := I9.pins_of fun p hp => by cases hp
          have I11 : Inv Xi [] σ8 H9 { s9 with heap := h', toks := tk } := I10.turned (it := D) kp fD9 Dl (.inl DX) (okX.exf D DX).2 (fun p hp => by rw [xpn] at hp; cases hp)
          refine ⟨m', hm, i + 1, ys', H9, I11.weak l8.symm keepσ, T.keep _ _ _ st7 fun b hb o e => kp b o (fpo b hb).2 (I9.pin (b, o) (List.mem_append_right _ (List.mem_append_right _ (mem_pinsAt hb e)))).1, fr9, fD9, ⟨its', c', rv', eD'⟩, w9⟩
        cases ok with
        | false =>
          rw [if_neg Bool.false_ne_true] at q9
          have eD9 := (I9.pin (D, _) (List.mem_append_right _ (List.mem_append_left _ memD))).1
          exact wpAny_pure ⟨rfl, ends I9 (h' := s9.heap) (fun _ _ _ e => e) rv eD9 q9 s9.toks⟩
        | true =>
          rw [if_pos rfl] at q9
          have q10 := heX _ s9 σ8 H9 _ I9 q9
          rw [xp, xw, xA, xx] at q10
          refine wpAny_bind (wpAny_bind (wpAny_mono q10 (fun v s10 ⟨y, H10, I10, r10, q10⟩ => ?_) fun _ _ z => z.elim))
          have eD10 := (I10.pin (D, _) (List.mem_append_right _ (List.mem_append_left _ memD))).1
          have hlen := rv.length
          refine wpAny_bind (wpAny_list_append_plain (items := its.toArray) ⟨c, eD10⟩ (fun h' hl hs => wpAny_pure (wpAny_pure ⟨rfl, ?_⟩)) (by rw [List.size_toArray]; omega))
          obtain ⟨c', e'⟩ := hl
          have e'' : h'.get? D = some { cls := .type "list", data := .seq (its ++ [v]).toArray c' } := by rw [e']; simp
          exact ends I10 (h' := h') (fun b o hb e => hs.extBut b o hb e) (rv.append (.cons r10 .nil)) e'' q10 s10.toks
    · exact T.keep 0 _ _ st2 fun b hb o e => up b o (by rw [e3]; exact Heap.get?_push_of_some _ e)
  have e4 : ({ s2 with heap := h₁, toks := s2.toks + ([] : List (Str × Value)).length } : Shared) = { s3 with heap := h₁, toks := s3.toks } := by rw [← hs3]; rfl
  rw [e4]
  show codeAny _ _ (.compStart (.ListComp elt [⟨tg, iter, ifs, 0⟩] inn pos) 0 (.ref it) (.ref D) (compEnvC inn (closL inn X.env) s3.heap.objs.size X.env)) (RR (.ref D) s3.heap.objs.size) _
  rw [← xe]
  refine codeAny_compStart_list loop ?_
  refine T.self X.A 0 _ _ _ ?_ loop
  exact T.keep 0 _ _ st2 fun b hb o e => up b o (by rw [e3]; exact Heap.get?_push_of_some _ e)
end
end L2
namespace L2
open PySem PySem.Spec PyProof.Rows
section
variable {X : Cx} {inn : Scope} {js : List Nat} {cs ts : List Str} {nt : Nat} {elt tg iter : Expr} {ifs : List Expr} {pos : Pos} {g : TG} {tt : TT} {te : TE} {wi : TI}
theorem pe_comp (ts cs : List Str) (js : List Nat) (hcalm : X.calm = true) (O : CompOk X.env.scope inn X.N js cs) (hi : PI X tg iter wi)
    (hg : ∀ s₀ H₀ ex, PG (cxIn X inn (ts ++ cs) s₀ H₀ ex) tg g) (hk : GK ts.length g) (ht : ∀ s₀ H₀ ex, PIf (cxIn X inn (ts ++ cs) s₀ H₀ ex) ifs tt) (he : ∀ s₀ H₀ ex, PE (cxIn X inn (ts ++ cs) s₀ H₀ ex) elt te)
    (hs : ∀ x, foldedSetIterable iter X.env x = pure x := by intro _; rfl) : PE X (.ListComp elt [⟨tg, iter, ifs, 0⟩] inn pos) (tComp wi ts.length js g tt te) := by
  intro pins s σ H Q I h
  rw [eval_ListComp]
  refine wpAny_comprehension_free (use := none) rfl hs (closFor fun y hy e => I.ok.has y.1 (O.frees y hy e)) O.kind O.names (thn (hi pins s σ H _ I h) fun xv s1 h1 => thn h1 fun itv s2 h2 => ?_)
  obtain ⟨it, fp, tn, J, H2, e, I2, T, st2, f2, R⟩ := h2
  subst e
  refine comp_core (Q := Q) (RR := fun acc C => compPost (model X.prog X.w) X.A X.xe none (EP X pins σ Q) acc C) hcalm O rfl hg hk ht he I2 T st2 f2 R ?_
  intro D C s' H' I' ⟨m, hm⟩ c1 c2 c3 c4 c5 q
  refine ⟨m, hm, fun h' hsb => ?_⟩
  exact ⟨.ref D, H', I'.turned (it := C) (t' := s'.toks) (fun b o hb e => hsb.extBut b o hb e) c1 c2 (.inr c3) c4 c5, rfl, q⟩
theorem ps_setc {i : Nat} {x : Str} {pos' spos : Pos} (ts cs : List Str) (js : List Nat) (hcalm : X.calm = true) (hN : X.N.Nodup) (hi' : X.N[i]? = some x) (hx : X.env.scope.names.lookup x = some .local) (O : CompOk X.env.scope inn X.N js cs) (hi : PI X tg iter wi)
    (hg : ∀ s₀ H₀ ex, PG (cxIn X inn (ts ++ cs) s₀ H₀ ex) tg g) (hk : GK ts.length g) (ht : ∀ s₀ H₀ ex, PIf (cxIn X inn (ts ++ cs) s₀ H₀ ex) ifs tt) (he : ∀ s₀ H₀ ex, PE (cxIn X inn (ts ++ cs) s₀ H₀ ex) elt te)
    (hsw : swapsWith (.ListComp elt [⟨tg, iter, ifs, 0⟩] inn pos) (some (.Name x pos')) spos.line X.env = pure true) (hs : ∀ x, foldedSetIterable iter X.env x = pure x := by intro _; rfl) :
    PS X (.Assign [.Name x pos'] (.ListComp elt [⟨tg, iter, ifs, 0⟩] inn pos) spos) (tAsg (tComp wi ts.length js g tt te) (gName i)) := by
  intro pins s σ H D I h
  rw [exec_Assign_Name_used _ _ _ _ hsw]
  refine wpAny_bind (wpAny_standAt (wpAny_bind ?_))
  show wpAny _ X.A (do let _ ← comprehension (.ListComp elt [⟨tg, iter, ifs, 0⟩] inn pos) inn X.env _ (newList []) false (eval iter X.env) (some (assign (.Name x pos') X.env))) _ _ s
  refine wpAny_bind (wpAny_mono (wpAny_comprehension_free (use := some (assign (.Name x pos') X.env)) (Q := fun _ s' => SP X pins D .next s') rfl hs (closFor fun y hy e => I.ok.has y.1 (O.frees y hy e)) O.kind O.names
    (thn (hi pins s σ H _ I h) fun xv s1 h1 => thn h1 fun itv s2 h2 => ?_)) (fun _ s' hq => wpAny_pure (wpAny_pure hq)) fun _ _ e => e)
  obtain ⟨it, fp, tn, J, H2, e, I2, T, st2, f2, R⟩ := h2
  subst e
  refine comp_core (Q := fun v H' => D.nx (σ.set i (some v)) H') (RR := fun acc C => compPost (model X.prog X.w) X.A X.xe (some (assign (.Name x pos') X.env)) (fun _ s' => SP X pins D .next s') acc C) hcalm O rfl hg hk ht he I2 T st2 f2 R ?_
  intro D' C s' H' I' ⟨m, hm⟩ c1 c2 c3 c4 c5 q
  show wpAny _ X.A (assign (.Name x pos') X.env (.ref D')) _ _ _
  refine wpAny_assign_Name (store_ok2 (v := .ref D') I' hN hi' (.inl hx) rfl (fun s2 I2 ⟨a, hsb, ha⟩ => ?_) (.inr hx))
  have hCa : C ≠ a := by
    rcases ha with e | e
    · rw [e]; exact c2
    · exact fun z => c4 _ _ e z.symm
  refine ⟨m, hm.sameBut hsb hCa, fun h' hsb' => ?_⟩
  exact ⟨_, H', I2.turned (it := C) (t' := s2.toks) (fun b o hb e => hsb'.extBut b o hb e) c1 c2 (.inr c3) c4 c5, q⟩
end
theorem comp_list {K : PySem.W.Frag} {a : Addr} {xs : List V} {σ0 : St} {g : TG} {tt : TT} {te : TE} {H : Hp} {Q : VK} (Pv : Nat → List V → Hp → Prop) (h0 : Pv 0 [] H) (hl : ∀ i ys H, i ≤ xs.length → Pv i ys H → SqL K H a xs ∧ ys.length < sizeLine)
    (hs : ∀ i x ys H, xs[i]? = some x → Pv i ys H → g x σ0 H fun σ2 H2 => tt σ2 H2 fun b H3 => if b = true then te σ2 H3 fun y H4 => Pv (i + 1) (ys ++ [y]) H4 else Pv (i + 1) ys H3) (hd : ∀ ys H, Pv xs.length ys H → ∀ D, H D = none → Q (.ref D) (upd H D (.lst ys))) :
    CompR (Itl K a) σ0 g tt te Q H := by
  refine ⟨fun i m ys H => m = xs.length - i ∧ i ≤ xs.length ∧ Pv i ys H, ⟨xs.length, by simp, Nat.zero_le _, h0⟩, ?_⟩
  rintro i m ys H ⟨rfl, hi, p⟩
  obtain ⟨q, hz⟩ := hl i ys H hi p
  refine ⟨hz, ?_⟩
  by_cases hlt : i < xs.length
  · refine .inr ⟨⟨xs, xs[i], q, by simp [hlt]⟩, Pv (i + 1), fun ys' H' p' => ⟨xs.length - (i + 1), by omega, rfl, hlt, p'⟩, fun x H' y => ?_⟩
    obtain ⟨e, y⟩ := y
    subst e
    exact hs i x ys _ (y xs q) p
  · have e : i = xs.length := by omega
    subst e
    exact .inl ⟨⟨xs, q, Nat.le_refl _⟩, hd ys H p⟩
theorem comp_range {lo : Int} {n : Nat} {σ0 : St} {g : TG} {tt : TT} {te : TE} {H : Hp} {Q : VK} (Pv : Nat → List V → Hp → Prop) (h0 : Pv 0 [] H) (hl : ∀ i ys H, i ≤ n → Pv i ys H → ys.length < sizeLine)
    (hs : ∀ i ys H, i < n → Pv i ys H → g (.int (lo + i)) σ0 H fun σ2 H2 => tt σ2 H2 fun b H3 => if b = true then te σ2 H3 fun y H4 => Pv (i + 1) (ys ++ [y]) H4 else Pv (i + 1) ys H3) (hd : ∀ ys H, Pv n ys H → ∀ D, H D = none → Q (.ref D) (upd H D (.lst ys))) :
    CompR (Itr lo n) σ0 g tt te Q H := by
  refine ⟨fun i m ys H => m = n - i ∧ i ≤ n ∧ Pv i ys H, ⟨n, by simp, Nat.zero_le _, h0⟩, ?_⟩
  rintro i m ys H ⟨rfl, hi, p⟩
  refine ⟨hl i ys H hi p, ?_⟩
  by_cases hlt : i < n
  · refine .inr ⟨hlt, Pv (i + 1), fun ys' H' p' => ⟨n - (i + 1), by omega, rfl, hlt, p'⟩, fun x H' y => ?_⟩
    obtain ⟨e, y⟩ := y
    subst e y
    exact hs i ys _ hlt p
  · have e : i = n := by omega
    subst e
    exact .inl ⟨Nat.le_refl _, hd ys H p⟩
end L2

set_option Elab.async false
set_option linter.all false
set_option maxRecDepth 100000
set_option maxHeartbeats 4000000
namespace L2
open PySem PySem.Spec PyProof.Rows
mutual
inductive Den (H : Hp) : V → PyData → Prop
  | non : Den H .non .none
  | bl (b : Bool) : Den H (.bl b) (.bool b)
  | int (i : Int) : Den H (.int i) (.int i)
  | str (x : Str) : Den H (.str x) (.str x)
  | lst {a : Addr} {vs : List V} {ds : List PyData} : H a = some (.lst vs) → Dens H vs ds → Den H (.ref a) (.list ds)
  | tup {a : Addr} {vs : List V} {ds : List PyData} : H a = some (.tup vs) → Dens H vs ds → Den H (.ref a) (.tuple ds)
inductive Dens (H : Hp) : List V → List PyData → Prop
  | nil : Dens H [] []
  | cons {v : V} {d : PyData} {vs : List V} {ds : List PyData} : Den H v d → Dens H vs ds → Dens H (v :: vs) (d :: ds)
end
theorem Dens.length : ∀ {H : Hp} {vs : List V} {ds : List PyData}, Dens H vs ds → vs.length = ds.length
  | _, _, _, .nil => rfl
  | _, _, _, .cons _ t => congrArg Nat.succ (Dens.length t)
theorem Dens.get : ∀ {H : Hp} {vs : List V} {ds : List PyData} {i : Nat} {d : PyData}, Dens H vs ds → ds[i]? = some d → ∃ v, vs[i]? = some v ∧ Den H v d
  | _, _, _, _, _, .nil, e => by simp at e
  | _, _, _, 0, _, .cons r _, e => by simp at e; subst e; exact ⟨_, rfl, r⟩
  | _, _, _, i + 1, d, .cons _ t, e => by
    obtain ⟨v, h1, h2⟩ := Dens.get (i := i) (d := d) t (by simpa using e)
    exact ⟨v, by simpa using h1, h2⟩
theorem Dens.append : ∀ {H : Hp} {vs us : List V} {ds es : List PyData}, Dens H vs ds → Dens H us es → Dens H (vs ++ us) (ds ++ es)
  | _, _, _, _, _, .nil, s => s
  | _, _, _, _, _, .cons r t, s => .cons r (Dens.append t s)
mutual
theorem Den.mono {H H' : Hp} (e : Same H H') : ∀ {v : V} {d : PyData}, Den H v d → Den H' v d
  | _, _, .non => .non
  | _, _, .bl b => .bl b
  | _, _, .int i => .int i
  | _, _, .str x => .str x
  | _, _, .lst h t => .lst (e _ _ h) (Dens.mono e t)
  | _, _, .tup h t => .tup (e _ _ h) (Dens.mono e t)
theorem Dens.mono {H H' : Hp} (e : Same H H') : ∀ {vs : List V} {ds : List PyData}, Dens H vs ds → Dens H' vs ds
  | _, _, .nil => .nil
  | _, _, .cons r t => .cons (Den.mono e r) (Dens.mono e t)
end
theorem Dens.ints {H : Hp} : ∀ ns : List Int, Dens H (ns.map V.int) (ns.map PyData.int)
  | [] => .nil
  | n :: r => .cons (.int n) (Dens.ints r)
theorem Den.ints {H : Hp} {a : Addr} {ns : List Int} (h : H a = some (.lst (ns.map V.int))) : Den H (.ref a) (.list (ns.map PyData.int)) := .lst h (Dens.ints ns)
theorem Same.upd {H : Hp} {a : Addr} {o : HO} (h : H a = none) : Same H (upd H a o) := fun b u e => by rw [upd_ne (ne_of_none e h)]; exact e
theorem Same.upd' {H H0 : Hp} {a : Addr} {o : HO} (h : H0 a = none) (s : Same H0 H) : Same H0 (L2.upd H a o) := fun b u e => by rw [upd_ne (ne_of_none e h)]; exact s b u e

section
variable {P : Program} {w : World} {H : Hp} {h : Heap}
mutual
theorem Den.reads (ok : HOk P w H h) : ∀ {v : V} {d : PyData} {u : Value}, Den H v d → RelV v u → ∃ as, Reads h u d as
  | _, _, _, .non, r => by cases r; exact ⟨_, .none⟩
  | _, _, _, .bl b, r => by cases r; exact ⟨_, .bool b⟩
  | _, _, _, .int i, r => by obtain ⟨t, rfl⟩ := r; exact ⟨_, .int i t⟩
  | _, _, _, .str x, r => by obtain ⟨t, rfl⟩ := r; exact ⟨_, .str x t⟩
  | _, _, _, .lst (a := a) e t, r => by
    cases r
    obtain ⟨_, its, n, rv, ho⟩ := ok a _ e
    obtain ⟨as, q⟩ := Dens.reads ok t rv
    exact ⟨_, .list ho rfl rfl (by simpa using q)⟩
  | _, _, _, .tup (a := a) e t, r => by
    cases r
    obtain ⟨_, its, rv, o, ho, hc, n, hd⟩ := ok a _ e
    obtain ⟨as, q⟩ := Dens.reads ok t rv
    exact ⟨_, .tuple ho hc hd (by simpa using q)⟩
theorem Dens.reads (ok : HOk P w H h) : ∀ {vs : List V} {ds : List PyData} {us : List Value}, Dens H vs ds → Vals vs us → ∃ as, ReadsAll h us ds as
  | _, _, _, .nil, .nil => ⟨_, .nil⟩
  | _, _, _, .cons r t, .cons q s => by
    obtain ⟨a, x⟩ := Den.reads ok r q
    obtain ⟨b, y⟩ := Dens.reads ok t s
    exact ⟨_, .cons x y⟩
end
end

noncomputable def rEqD : R2 := fun x y H Q => ∃ d e, Den H x d ∧ Den H y e ∧ SeqAt.shaped d = true ∧ SeqAt.shaped e = true ∧ Q (.bl (PyData.eqv d e)) H
noncomputable def rNeD : R2 := fun x y H Q => ∃ d e, Den H x d ∧ Den H y e ∧ SeqAt.shaped d = true ∧ SeqAt.shaped e = true ∧ Q (.bl (!PyData.eqv d e)) H
section
variable {X : Cx}
theorem op_eqD (hu : X.A.units + 64 < cLine) : OpR X (compareOp .Eq) rEqD := by
  intro pins s σ H x y v u Q I rx ry h
  obtain ⟨d, e, hd, he, sd, se, q⟩ := h
  obtain ⟨as, r1⟩ := hd.reads I.hok rx
  obtain ⟨bs, r2⟩ := he.reads I.hok ry
  exact eq_dataH r1 r2 sd se hu ⟨.bl _, H, I, rfl, q⟩
theorem op_neD (hu : X.A.units + 64 < cLine) : OpR X (compareOp .NotEq) rNeD := by
  intro pins s σ H x y v u Q I rx ry h
  obtain ⟨d, e, hd, he, sd, se, q⟩ := h
  obtain ⟨as, r1⟩ := hd.reads I.hok rx
  obtain ⟨bs, r2⟩ := he.reads I.hok ry
  exact ne_dataH r1 r2 sd se hu ⟨.bl _, H, I, rfl, q⟩

noncomputable def tyD : PyData → String
  | .none => "NoneType" | .bool _ => "bool" | .int _ => "int" | .str _ => "str" | .list _ => "list" | .tuple _ => "tuple" | .dict _ => "dict"
theorem Den.ty {K : PySem.W.Frag} {H : Hp} {v : V} {d : PyData} (h : Den H v d) : TyOf K H v (.type (tyD d)) := by
  cases h with
  | non => exact .non
  | bl b => exact .bl b
  | int i => exact .int i
  | str x => exact .str x
  | lst e _ => exact .lst e
  | tup e _ => exact .tup e
theorem call_isi : CallR X (.builtin "isinstance") (fun xs H Q => ∃ x T d b, xs = [x, .ty T] ∧ Den H x d ∧ PySem.W.kitOne X.K (.type (tyD d)) (.type T) = some b ∧ Q (.bl b) H) := by
  intro pins s σ H xs us Q I r h
  obtain ⟨x, T, d, b, rfl, hd, e, q⟩ := h
  obtain ⟨u, v, rfl, r1, r2⟩ := r.two
  cases r2
  exact isinst_ok I r1 (hd.ty (K := X.K)) e fun tk => ⟨.bl b, H, I.tok tk, rfl, q⟩
theorem kitTup {P : Program} {w : World} {H : Hp} {s : Shared} {K : PySem.W.Frag} {x : V} {u : Value} {d : PyData} {A : Around} {E : Value → Shared → Prop} {tp : Addr} {its : List Value} {n : Nat} {b : Bool} {Q : Value → Shared → Prop} (ok : HOk P w H s.heap) (kin : K.In s.heap) (rx : RelV x u) (hd : Den H x d)
    (htp : ∃ o, s.heap.get? tp = some o ∧ o.cls = .type "tuple" ∧ o.data = .seq its.toArray n) (e : PySem.W.kitAny K (.type (tyD d)) its = some b) (h : ∀ tk, Q (.bool b) { s with toks := tk }) : wpAny (model P w) A (call (.builtin "isinstance") [u, .ref tp]) Q E s := by
  obtain ⟨⟨cls, dd, data, sl⟩, ho, hc, hda⟩ := htp
  simp only at hc hda
  subst hc hda
  cases hd with
  | non => cases rx; exact PySem.W.kia_tup PySem.W.kitx_none kin True.intro ho e (fun z => nomatch z) h
  | bl y => cases rx; exact PySem.W.kia_tup PySem.W.kitx_bool kin True.intro ho e (fun z => nomatch z) h
  | int i => obtain ⟨t, rfl⟩ := rx; exact PySem.W.kia_tup PySem.W.kitx_int kin True.intro ho e (fun z => nomatch z) h
  | str y => obtain ⟨t, rfl⟩ := rx; exact PySem.W.kia_tup PySem.W.kitx_str kin True.intro ho e (fun z => nomatch z) h
  | @lst a vs ds ea _ =>
    cases rx
    obtain ⟨_, _, n, _, h1⟩ := (show ObjOk P w H s.heap a (.lst vs) from ok a _ ea)
    exact PySem.W.kia_tup PySem.W.kitx_list kin ⟨_, h1, rfl⟩ ho e (fun z => nomatch z) h
  | @tup a vs ds ea _ =>
    cases rx
    obtain ⟨_, _, _, p⟩ := (show ObjOk P w H s.heap a (.tup vs) from ok a _ ea)
    obtain ⟨o, h1, h2, _⟩ := p
    exact PySem.W.kia_tup PySem.W.kitx_tuple kin ⟨o, h1, h2⟩ ho e (fun z => nomatch z) h
theorem vals_ty : ∀ {Ts : List String} {us : List Value}, Vals (Ts.map V.ty) us → us = Ts.map Value.type
  | [], _, .nil => rfl
  | T :: r, _, .cons q t => by
    have e : _ = Value.type T := q
    rw [List.map_cons, e, vals_ty t]
theorem call_isiT : CallR X (.builtin "isinstance") (fun xs H Q => ∃ (x : V) (tp : Addr) (Ts : List String) (d : PyData) (b : Bool), xs = [x, .ref tp] ∧ H tp = some (.tup (Ts.map V.ty)) ∧ Den H x d ∧ PySem.W.kitAny X.K (.type (tyD d)) (Ts.map Value.type) = some b ∧ Q (.bl b) H) := by
  intro pins s σ H xs us Q I r h
  obtain ⟨x, tp, Ts, d, b, rfl, ht, hd, e, q⟩ := h
  obtain ⟨u, v, rfl, r1, r2⟩ := r.two
  cases r2
  obtain ⟨_, its, rv, o, ho, hc, n, hda⟩ := (show ObjOk X.prog X.w H s.heap tp (.tup (Ts.map V.ty)) from I.hok tp _ ht)
  have e2 := vals_ty rv
  subst e2
  exact kitTup I.hok I.kIn r1 hd ⟨o, ho, hc, hda⟩ e fun tk => ⟨.bl b, H, I.tok tk, rfl, q⟩

theorem call_all (hc : X.calm = true) : CallR X (.builtin "all") (fun xs H Q => ∃ (p : Addr) (bs : List Bool), xs = [.ref p] ∧ H p = some (.lst (bs.map V.bl)) ∧ Q (.bl (bs.all id)) H) := by
  intro pins s σ H xs us Q I r h
  obtain ⟨p, bs, rfl, hp, q⟩ := h
  obtain ⟨u, rfl, rx⟩ := vals1 r
  cases rx
  obtain ⟨its, rv, pl, hz⟩ := I.list (SqL.of hp)
  have hl := pl.isList
  have hlt : p < s.heap.objs.size := by obtain ⟨_, e, _⟩ := hl; exact Heap.lt_size e
  have hlen : bs.length = its.length := by have := rv.length; simpa using this
  refine call_all_walk (wpAny_pyIter_list hl ?_)
  refine ⟨s.heap.objs.size, [s.heap.objs.size, p], [s.heap.objs.size], its.toArray.size, _, _, fun i => (bs[i]?).getD true, rfl, Walks.list (A := X.A.in1) (I.ok.hd hc) _ p (Nat.ne_of_lt hlt) its.toArray,
    ⟨⟨_, Heap.get?_push_size _ rfl, rfl, rfl⟩, hl.push _⟩, fun i v s' Q' E' hP hQ => ?_, fun h' tk hk => ?_⟩
  · have hv : its[i]? = some v := by simpa using hP
    have hi : i < its.length := (List.getElem?_eq_some_iff.mp hv).1
    have hb : (bs.map V.bl)[i]? = some (V.bl (bs[i]'(by omega))) := by simp [hlen, hi]
    obtain ⟨u, eu, ru⟩ := rv.get hb
    rw [hv] at eu
    cases eu
    cases ru
    have e : (bs[i]?).getD true = bs[i]'(by omega) := by simp [show i < bs.length by omega]
    have hQ' : Q' ((bs[i]?).getD true) s' := hQ
    rw [e] at hQ'
    exact wpAny_truthy_bool hQ'
  · have e : ((List.range its.toArray.size).all fun i => (bs[i]?).getD true) = bs.all id := by
      rw [List.size_toArray, ← hlen]; exact LSm.range_all bs
    rw [e]
    have kp : ∀ b x, s.heap.get? b = some x → h'.get? b = some x := LSm.kept_iter hk
    exact ⟨.bl _, H, I.kept kp, rfl, q⟩

theorem pickAll (l : List Value) : ∀ (k : Nat), k ≤ l.length → (List.range k).filterMap (fun i => l[i]?) = l.take k
  | 0, _ => by simp
  | k + 1, h => by
    rw [List.range_succ, List.filterMap_append, pickAll l k (by omega)]
    have e : l[k]? = some (l[k]'(by omega)) := by simp [show k < l.length by omega]
    rw [List.filterMap_cons, e, List.filterMap_nil, List.take_succ, e]
    rfl
theorem rangeRev (n : Nat) : ((List.range n).map fun (k : Nat) => ((n : Int) - 1 + -1 * (k : Int)).toNat) = (List.range n).reverse := by
  apply List.ext_getElem
  · simp
  · intro i h1 h2
    simp at h1
    simp
    omega
theorem slicePick_rev (its : List Value) : slicePick its.toArray none none (some (-1)) = its.reverse.toArray := by
  unfold slicePick
  have e : sliceBounds none none (some (-1)) its.toArray.size = ((its.length : Int) - 1, -1, -1) := by simp [sliceBounds]
  rw [e]
  have e2 : sliceRange ((its.length : Int) - 1) (-1) (-1) = (List.range its.length).reverse := by
    unfold sliceRange
    rw [← rangeRev]
    have c : (if (-1 : Int) > 0 then (if ((its.length : Int) - 1) < -1 then ((-1 : Int) - ((its.length : Int) - 1) + -1 - 1) / -1 else 0) else if ((its.length : Int) - 1) > -1 then (((its.length : Int) - 1) - -1 - -1 - 1) / (- -1) else 0).toNat = its.length := by
      rw [if_neg (by decide)]
      by_cases h : ((its.length : Int) - 1) > -1
      · rw [if_pos h]
        have : (((its.length : Int) - 1) - -1 - -1 - 1) / (- -1) = its.length := by
          rw [show (- -1 : Int) = 1 from rfl, Int.ediv_one]; omega
        rw [this]; simp
      · rw [if_neg h]; omega
    simp only
    rw [c]
  show ((sliceRange ((its.length : Int) - 1) (-1) (-1)).filterMap (its.toArray[·]?)).toArray = _
  rw [e2, List.filterMap_reverse]
  congr 2
  have := pickAll its its.length (Nat.le_refl _)
  rw [List.take_length] at this
  simpa using this
noncomputable def tRev (K : PySem.W.Frag) (te : TE) : TE := fun σ H Q => te σ H fun x H1 => ∃ a xs, x = .ref a ∧ SqL K H1 a xs ∧ ∀ p, H1 p = none → Q (.ref p) (upd H1 p (.lst xs.reverse))
theorem pe_rev {e : Expr} {te : TE} {pos p2 p3 p4 : Pos} {j} (he : PE X e te) : PE X (.Subscript e (.Slice none none (some (.UnaryOp .USub (.Constant (.int 1) j p4) p3)) p2) pos) (tRev X.K te) := by
  intro pins s σ H Q I h
  refine Subscript_ (thn (he pins s σ H _ I h) fun v s1 ⟨x, H1, I1, r1, q1⟩ => ?_)
  obtain ⟨a, xs, rfl, hx, q⟩ := q1
  cases r1
  refine wpAny_Slice ?_
  rw [evalPart_none]
  refine wpAny_pure (wpAny_pure ?_)
  rw [evalPart_some]
  refine thn ((pe_un un_neg pe_int) pins s1 σ H1 (fun y H2 => y = .int (-1) ∧ H2 = H1) I1 ⟨_, rfl, rfl, rfl⟩) fun u s2 ⟨y, H2, I2, r2, e2, e3⟩ => ?_
  subst e2 e3
  obtain ⟨t, rfl⟩ := r2
  have I3 : Inv X pins σ H2 { s2 with heap := s2.heap.push { cls := .type "slice", data := .fields #[.none, .none, .int (-1) t] } } := I2.kept (t' := s2.toks) fun b ob q => Heap.get?_push_of_some _ q
  show wpAny (model X.prog X.w) X.A (subscriptTail e (.Slice none none (some (.UnaryOp .USub (.Constant (.int 1) j p4) p3)) p2) (.ref a) (.ref s2.heap.objs.size)) (EP X pins σ Q) X.xe { s2 with heap := s2.heap.push { cls := .type "slice", data := .fields #[.none, .none, .int (-1) t] } }
  obtain ⟨its, r, ht, hz⟩ := I3.list hx
  have hlen := r.length
  refine tail_any (ops := [.ref a, .ref s2.heap.objs.size]) ht.isList.typeIs slot_list_getitem.lookup ?_ (by with_unfolding_all rfl)
  refine wpAny_getItem_list_slice (lo := none) (hi := none) (st := some (-1)) ht.isList (Heap.IsSliceOf.new ..) .none .none (.int (-1) t) (by simp) ?_ (by rw [List.size_toArray] <;> omega)
  rw [slicePick_rev]
  refine ⟨.ref _, _, I3.laid (t' := s2.toks) (o := .lst xs.reverse) (fun b ob q => Heap.get?_push_of_some _ q) (Nat.le_refl _) ?_, rfl, q _ (I3.hok.fresh (Nat.le_refl _))⟩
  exact ⟨by rw [List.length_reverse]; exact hz, _, 0, r.reverse, Heap.get?_push_size _ rfl⟩

end
end L2

set_option Elab.async false
set_option linter.all false
set_option maxRecDepth 100000
set_option maxHeartbeats 4000000
namespace L2
open PySem PySem.Spec PyProof.Rows
theorem boot_list : bootBuiltins "list" = some (.type "list") := by decide +kernel
theorem boot_tuple : bootBuiltins "tuple" = some (.type "tuple") := by decide +kernel
theorem boot_bool : bootBuiltins "bool" = some (.type "bool") := by decide +kernel
theorem boot_str : bootBuiltins "str" = some (.type "str") := by decide +kernel
theorem boot_int : bootBuiltins "int" = some (.type "int") := by decide +kernel
theorem boot_isinstance : bootBuiltins "isinstance" = some (.builtin "isinstance") := by decide +kernel
theorem boot_all : bootBuiltins "all" = some (.builtin "all") := by decide +kernel
theorem boot_sorted : bootBuiltins "sorted" = some (.builtin "sorted") := by decide +kernel
theorem boot_min : bootBuiltins "min" = some (.builtin "min") := by decide +kernel
theorem boot_set : bootBuiltins "set" = some (.type "set") := by decide +kernel
structure Bt (mg : Str → Option Value) : Prop where
  len : mg "len" = none
  range : mg "range" = none
  list : mg "list" = none
  tuple : mg "tuple" = none
  bool : mg "bool" = none
  str : mg "str" = none
  int : mg "int" = none
  isinstance : mg "isinstance" = none
  all : mg "all" = none
  sorted : mg "sorted" = none
  max : mg "max" = none
  min : mg "min" = none
  set : mg "set" = none
  reversed : mg "reversed" = none
  sum : mg "sum" = none
  enumerate : mg "enumerate" = none
  zip : mg "zip" = none
  any : mg "any" = none
  abs : mg "abs" = none
noncomputable def FnAt (P : Program) (w : World) (K : PySem.W.Frag) (mg : Str → Option Value) (base : Heap) (x : Str) (k : Nat) (ps : List Str) (sp : Sp) : Prop :=
  ∃ f fd, FnOk P w K mg base CX0 k f fd ps sp ∧ mg x = some (.ref f) ∧ PySem.W.keepIn K (.ref f) = true ∧ Binds K fd ps []
section
variable {X : Cx} {x : Str} {j k : Nat} {ps : List Str} {sp : Sp} {t : TA} {e : Expr} {es : List Expr} {p pos : Pos}
theorem pe_fn (F : FnAt X.prog X.w X.K X.mg X.base x j ps sp) (hr : Room k X.A) (hg : Gl X x) (ha : PA X (e :: es) t) (hj : j ≤ k := by decide) (hdb : (x == ("__debug__" : Str)) = false := by decide)
    (he : starEach (e :: es) X.env = (false, eval e X.env) :: starEach es X.env := by rfl) (hpl : (backTo pos (starEach es X.env)).any (·.1) = false := by rfl) :
    PE X (.Call (.Name x p) (e :: es) [] pos) (tCall sp [] E0 t) := by
  obtain ⟨f, fd, G, hm, hk, hb⟩ := F
  exact pe_call (hdb := hdb) (he := he) (hpl := hpl) G (hr.mono hj) hg hm hk hb .nil pass0 ha
theorem op_eqI : OpR X (compareOp .Eq) (rI0 fun i j => .bl (decide (i = j))) := opB0 fun i j _ _ _ _ _ q => eq_int (by
  have e : (i == j) = decide (i = j) := by rw [Bool.eq_iff_iff]; simp
  rw [e]; exact q)
end
noncomputable def tCut (t u : TS) : TS := fun D σ H => ∃ M : St → Hp → Prop, t { D with nx := M } σ H ∧ ∀ σ' H', M σ' H' → u D σ' H'
theorem pss_cut {X : Cx} {st : Stmt} {rest : List Stmt} {t u : TS} (h1 : PS X st t) (h2 : PSs X rest u) : PSs X (st :: rest) (tCut t u) := by
  intro pins s σ H D I h
  obtain ⟨M, h, hM⟩ := h
  refine wpAny_execs_cons (thn (h1 pins s σ H { D with nx := M } I h) fun f s1 q => ?_)
  cases f with
  | next =>
    obtain ⟨σ', H', I', q⟩ := q
    exact h2 pins s1 σ' H' D I' (hM σ' H' q)
  | ret v => exact q
  | brk => exact q
  | cont => exact q
noncomputable def tCutE (t : TE) : TE := fun σ H Q => ∃ R : VK, t σ H R ∧ ∀ v H', R v H' → Q v H'
theorem pe_cut {X : Cx} {e : Expr} {t : TE} (h : PE X e t) : PE X e (tCutE t) := by
  intro pins s σ H Q I hw
  obtain ⟨R, hw, hR⟩ := hw
  exact thn (h pins s σ H R I hw) fun u s1 ⟨v, H1, I1, r1, q1⟩ => ⟨v, H1, I1, r1, hR v H1 q1⟩
theorem iteD {c : Prop} [Decidable c] {A B : Prop} (h1 : c → A) (h2 : ¬ c → B) : if decide c = true then A else B := by
  by_cases h : c
  · rw [decide_eq_true h, if_pos rfl]; exact h1 h
  · rw [decide_eq_false h, if_neg Bool.false_ne_true]; exact h2 h
theorem iteDT {c : Prop} [Decidable c] {A B : Prop} (hc : c) (h1 : A) : if decide c = true then A else B := by
  rw [decide_eq_true hc, if_pos rfl]; exact h1
theorem iteDF {c : Prop} [Decidable c] {A B : Prop} (hc : ¬ c) (h1 : B) : if decide c = true then A else B := by
  rw [decide_eq_false hc, if_neg Bool.false_ne_true]; exact h1
section
variable {X : Cx} (K : PySem.W.Frag)
theorem ix_listK (h : X.K = K) : IxR X (rIxL K) := h ▸ ix_list
theorem ix_seqK (h : X.K = K) : IxR X (rIx K) := h ▸ ix_seq
end
end L2

set_option linter.all false
namespace CW
noncomputable def goM (c : Int) : List Int → Nat → Int → List Int
  | [], h, n => (List.range h).map (fun (k : Nat) => n + (k : Int))
  | p :: r, h, n => (List.range (min h (p - n).toNat)).map (fun (k : Nat) => n + (k : Int)) ++
      (if ((h - min h (p - n).toNat : Nat) : Int) < c then goM c r (h - min h (p - n).toNat + 1) (p + 1) else p :: goM c r (h - min h (p - n).toNat) (p + 1))
noncomputable def walkM (row : List Int) (c : Int) : List Int := goM c row 0 0
theorem range_map_succ (k : Nat) (n : Int) : (List.range (k + 1)).map (fun (j : Nat) => n + (j : Int)) = n :: (List.range k).map (fun (j : Nat) => (n + 1) + (j : Int)) := by
  rw [List.range_succ_eq_map, List.map_cons, List.map_map]
  congr 1
  · simp
  · apply List.map_congr_left
    intro j _
    simp only [Function.comp]
    omega
theorem goM_hit {c : Int} {p : Int} {r : List Int} {h : Nat} {n : Int} (hh : h = 0 ∨ p ≤ n) : goM c (p :: r) h n = if (h : Int) < c then goM c r (h + 1) (p + 1) else p :: goM c r h (p + 1) := by
  have e : min h (p - n).toNat = 0 := by omega
  simp only [goM, e, List.range_zero, List.map_nil, List.nil_append, Nat.sub_zero]
theorem goM_gap {c : Int} {p : Int} {r : List Int} {h : Nat} {n : Int} (hp : n < p) : goM c (p :: r) (h + 1) n = n :: goM c (p :: r) h (n + 1) := by
  have e : min (h + 1) (p - n).toNat = min h (p - (n + 1)).toNat + 1 := by omega
  have e2 : h + 1 - (min h (p - (n + 1)).toNat + 1) = h - min h (p - (n + 1)).toNat := by omega
  rw [goM, goM, e, e2, range_map_succ]
  simp
theorem goM_nil_succ (c : Int) (h : Nat) (n : Int) : goM c [] (h + 1) n = n :: goM c [] h (n + 1) := by
  simp only [goM]
  exact range_map_succ h n
theorem goM_nil_zero (c : Int) (n : Int) : goM c [] 0 n = [] := rfl
theorem goM_zero {c : Int} {row : List Int} {n m : Int} : goM c row 0 n = goM c row 0 m := by
  cases row with
  | nil => rfl
  | cons p r => rw [goM_hit (.inl rfl), goM_hit (.inl rfl)]
theorem goM_len {c : Int} : ∀ (row : List Int) (h : Nat) (n : Int), (goM c row h n).length = row.length + h
  | [], h, n => by simp [goM]
  | p :: r, h, n => by
    rw [goM]
    have hm : min h (p - n).toNat ≤ h := Nat.min_le_left _ _
    split
    · rw [List.length_append, List.length_map, List.length_range, goM_len r, List.length_cons]; omega
    · rw [List.length_append, List.length_map, List.length_range, List.length_cons, goM_len r, List.length_cons]; omega
theorem walkM_len (row : List Int) (c : Int) : (walkM row c).length = row.length := by simp [walkM, goM_len]
noncomputable def RowP (r : List Int) : Prop := r.Pairwise (· < ·)
theorem goM_ge {c : Int} : ∀ (row : List Int) (h : Nat) (n : Int), RowP row → (∀ x ∈ row, n ≤ x ∨ h = 0) → ∀ y ∈ goM c row h n, (n ≤ y ∨ h = 0) ∧ (h = 0 → ∀ x, row.head? = some x → x ≤ y)
  | [], h, n, _, _ => fun y hy => by
    simp only [goM, List.mem_map, List.mem_range] at hy
    obtain ⟨k, hk, rfl⟩ := hy
    exact ⟨.inl (by omega), fun h0 => by omega⟩
  | p :: r, h, n, hr, hn => fun y hy => by
    have hp : n ≤ p ∨ h = 0 := hn p List.mem_cons_self
    have hrr : RowP r := (List.pairwise_cons.mp hr).2
    have hlt : ∀ x ∈ r, p + 1 ≤ x := fun x hx => by have := (List.pairwise_cons.mp hr).1 x hx; omega
    rw [goM] at hy
    have fst : y ∈ (List.range (min h (p - n).toNat)).map (fun (k : Nat) => n + (k : Int)) → n ≤ y ∧ h ≠ 0 := fun q => by
      simp only [List.mem_map, List.mem_range] at q
      obtain ⟨k, hk, rfl⟩ := q
      omega
    have snd : ∀ h', y ∈ goM c r h' (p + 1) → p ≤ y := fun h' q => by
      have z := goM_ge r h' (p + 1) hrr (fun x hx => .inl (hlt x hx)) y q
      rcases z.1 with z1 | z1
      · omega
      · cases r with
        | nil => subst z1; simp [goM] at q
        | cons x r' =>
          have := z.2 z1 x rfl
          have := hlt x List.mem_cons_self
          omega
    rcases List.mem_append.mp hy with q | q
    · have := fst q
      exact ⟨.inl this.1, fun h0 => absurd h0 this.2⟩
    · have hy' : p ≤ y := by
        split at q
        · exact snd _ q
        · rcases List.mem_cons.mp q with q | q
          · omega
          · exact snd _ q
      refine ⟨?_, fun _ x hx => ?_⟩
      · rcases hp with z | z
        · exact .inl (by omega)
        · exact .inr z
      · cases hx; exact hy'
theorem goM_row {c : Int} (hc : 1 ≤ c) : ∀ (row : List Int) (h : Nat) (n : Int), RowP row → (∀ x ∈ row, n ≤ x ∨ h = 0) → RowP (goM c row h n)
  | [], h, n, _, _ => by
    unfold RowP
    simp only [goM]
    rw [List.pairwise_map]
    exact (List.pairwise_lt_range).imp (fun {x y} q => by omega)
  | p :: r, h, n, hr, hn => by
    have hp : n ≤ p ∨ h = 0 := hn p List.mem_cons_self
    have hrr : RowP r := (List.pairwise_cons.mp hr).2
    have hlt : ∀ x ∈ r, p + 1 ≤ x := fun x hx => by have := (List.pairwise_cons.mp hr).1 x hx; omega
    have ihr : ∀ h', RowP (goM c r h' (p + 1)) := fun h' => goM_row hc r h' (p + 1) hrr (fun x hx => .inl (hlt x hx))
    have ge : ∀ h' y, y ∈ goM c r h' (p + 1) → p + 1 ≤ y := fun h' y q => by
      have z := goM_ge r h' (p + 1) hrr (fun x hx => .inl (hlt x hx)) y q
      rcases z.1 with z1 | z1
      · exact z1
      · cases r with
        | nil => subst z1; simp [goM] at q
        | cons x r' =>
          have := z.2 z1 x rfl
          have := hlt x List.mem_cons_self
          omega
    rw [goM]
    unfold RowP
    rw [List.pairwise_append]
    refine ⟨?_, ?_, fun x hx y hy => ?_⟩
    · rw [List.pairwise_map]
      exact (List.pairwise_lt_range).imp (fun {x y} q => by omega)
    · split
      · exact ihr _
      · rw [List.pairwise_cons]
        exact ⟨fun y hy => by have := ge _ y hy; omega, ihr _⟩
    · simp only [List.mem_map, List.mem_range] at hx
      obtain ⟨k, hk, rfl⟩ := hx
      have hy' : p ≤ y := by
        split at hy
        · have := ge _ y hy; omega
        · rcases List.mem_cons.mp hy with q | q
          · omega
          · have := ge _ y q; omega
      omega
end CW

set_option linter.all false
namespace CW
noncomputable def stp (c : Int) (l : Nat) (x : Bool) : Nat × Bool :=
  if x then (if (l : Int) < c then (l + 1, false) else (l, true)) else (if 0 < l then (l - 1, true) else (0, false))
noncomputable def run (c : Int) : Nat → List Bool → Nat × List Bool
  | l, [] => (l, [])
  | l, x :: xs => ((run c (stp c l x).1 xs).1, (stp c l x).2 :: (run c (stp c l x).1 xs).2)
noncomputable def places : Int → List Bool → List Int
  | _, [] => []
  | n, true :: xs => n :: places (n + 1) xs
  | n, false :: xs => places (n + 1) xs
noncomputable def bits : List Int → Int → Nat → List Bool
  | _, _, 0 => []
  | [], n, k + 1 => false :: bits [] (n + 1) k
  | p :: r, n, k + 1 => if p = n then true :: bits r (n + 1) k else false :: bits (p :: r) (n + 1) k
theorem bits_len : ∀ (k : Nat) (row : List Int) (n : Int), (bits row n k).length = k
  | 0, row, n => by cases row <;> rfl
  | k + 1, [], n => by rw [bits, List.length_cons, bits_len k]
  | k + 1, p :: r, n => by
    rw [bits]
    split <;> rw [List.length_cons, bits_len k]
theorem run_len (c : Int) : ∀ (xs : List Bool) (l : Nat), (run c l xs).2.length = xs.length
  | [], _ => rfl
  | x :: xs, l => by rw [run, List.length_cons, List.length_cons, run_len c xs]
theorem go_run {c : Int} : ∀ (k : Nat) (row : List Int) (h : Nat) (n : Int), RowP row → (∀ x ∈ row, n ≤ x ∧ x < n + k) →
    goM c row h n = places n (run c h (bits row n k)).2 ++ goM c [] (run c h (bits row n k)).1 (n + k)
  | 0, row, h, n, _, hx => by
    cases row with
    | nil => simp [bits, run, places]
    | cons p r => have := hx p List.mem_cons_self; omega
  | k + 1, [], h, n, hr, hx => by
    have ih := fun h' => go_run (c := c) k [] h' (n + 1) hr (fun x q => by cases q)
    have e : n + 1 + (k : Int) = n + ((k + 1 : Nat) : Int) := by omega
    rw [e] at ih
    rw [bits, run]
    cases h with
    | zero =>
      simp only [stp, Bool.false_eq_true, if_false, Nat.lt_irrefl, places]
      rw [← ih 0]
      rfl
    | succ h =>
      simp only [stp, Bool.false_eq_true, if_false, Nat.succ_pos, if_true, Nat.add_sub_cancel, places, List.cons_append]
      rw [← ih h, goM_nil_succ]
  | k + 1, p :: r, h, n, hr, hx => by
    have e : n + 1 + (k : Int) = n + ((k + 1 : Nat) : Int) := by omega
    have hp := hx p List.mem_cons_self
    have hrr : RowP r := (List.pairwise_cons.mp hr).2
    have hlt : ∀ x ∈ r, p < x := fun x q => (List.pairwise_cons.mp hr).1 x q
    by_cases hpn : p = n
    · subst hpn
      have ih := fun h' => go_run (c := c) k r h' (p + 1) hrr (fun x q => by have := hlt x q; have := hx x (List.mem_cons_of_mem _ q); omega)
      rw [e] at ih
      rw [bits, if_pos rfl, run, goM_hit (.inr (Int.le_refl _))]
      by_cases hc : (h : Int) < c
      · simp only [stp, if_true, hc, places]
        exact ih _
      · simp only [stp, if_true, hc, if_false, places, List.cons_append]
        rw [← ih]
    · have ih := fun h' => go_run (c := c) k (p :: r) h' (n + 1) hr (fun x q => by
        have := hx x q
        rcases List.mem_cons.mp q with rfl | q'
        · omega
        · have := hlt x q'; omega)
      rw [e] at ih
      rw [bits, if_neg hpn, run]
      cases h with
      | zero =>
        simp only [stp, Bool.false_eq_true, if_false, Nat.lt_irrefl, places]
        rw [← ih 0]
        exact goM_zero
      | succ h =>
        simp only [stp, Bool.false_eq_true, if_false, Nat.succ_pos, if_true, Nat.add_sub_cancel, places, List.cons_append]
        rw [← ih h, goM_gap (by omega)]
theorem run_append (c : Int) : ∀ (xs ys : List Bool) (l : Nat), run c l (xs ++ ys) = ((run c (run c l xs).1 ys).1, (run c l xs).2 ++ (run c (run c l xs).1 ys).2)
  | [], ys, l => rfl
  | x :: xs, ys, l => by
    rw [List.cons_append, run, run, run_append c xs ys]
    rfl
theorem stp_back {c : Int} {l : Nat} {x : Bool} (hl : (l : Int) ≤ c) : stp c (stp c l x).1 (stp c l x).2 = (l, x) ∧ (((stp c l x).1 : Nat) : Int) ≤ c := by
  unfold stp
  cases x with
  | true =>
    by_cases h : (l : Int) < c
    · simp [h]; omega
    · simp [h]; omega
  | false =>
    by_cases h : 0 < l
    · have h2 : ((l - 1 : Nat) : Int) < c := by omega
      simp [h, h2]; omega
    · have : l = 0 := by omega
      subst this
      simp
      omega
theorem run_back {c : Int} : ∀ (xs : List Bool) (l : Nat), (l : Int) ≤ c → run c (run c l xs).1 (run c l xs).2.reverse = (l, xs.reverse)
  | [], l, _ => rfl
  | x :: xs, l, h => by
    have hb := stp_back (x := x) h
    have ih := run_back xs (stp c l x).1 hb.2
    rw [run]
    simp only [List.reverse_cons]
    rw [run_append, ih]
    simp only [run, hb.1]
theorem places_append : ∀ (xs ys : List Bool) (n : Int), places n (xs ++ ys) = places n xs ++ places (n + xs.length) ys
  | [], ys, n => by simp [places]
  | true :: xs, ys, n => by
    rw [List.cons_append, places, places, places_append xs ys, List.cons_append, List.length_cons]
    congr 3; omega
  | false :: xs, ys, n => by
    rw [List.cons_append, places, places, places_append xs ys, List.length_cons]
    congr 2; omega
theorem places_mem : ∀ (xs : List Bool) (n : Int) (y : Int), y ∈ places n xs → n ≤ y ∧ y < n + xs.length
  | [], n, y, h => by cases h
  | true :: xs, n, y, h => by
    rw [List.length_cons]
    rcases List.mem_cons.mp h with rfl | h
    · omega
    · have := places_mem xs (n + 1) y h; omega
  | false :: xs, n, y, h => by
    have := places_mem xs (n + 1) y h
    rw [List.length_cons]; omega
theorem places_row : ∀ (xs : List Bool) (n : Int), RowP (places n xs)
  | [], n => List.Pairwise.nil
  | true :: xs, n => by
    unfold RowP
    rw [places, List.pairwise_cons]
    exact ⟨fun y hy => by have := places_mem xs (n + 1) y hy; omega, places_row xs (n + 1)⟩
  | false :: xs, n => places_row xs (n + 1)
theorem bits_places : ∀ (xs : List Bool) (n : Int), bits (places n xs) n xs.length = xs
  | [], n => rfl
  | true :: xs, n => by rw [places, List.length_cons, bits, if_pos rfl, bits_places xs]
  | false :: xs, n => by
    rw [places, List.length_cons]
    have ih := bits_places xs (n + 1)
    cases e : places (n + 1) xs with
    | nil => rw [e] at ih; rw [bits, ih]
    | cons p r =>
      have := places_mem xs (n + 1) p (by rw [e]; exact List.mem_cons_self)
      rw [e] at ih
      rw [bits, if_neg (by omega), ih]
theorem places_bits : ∀ (k : Nat) (row : List Int) (n : Int), RowP row → (∀ x ∈ row, n ≤ x ∧ x < n + k) → places n (bits row n k) = row
  | 0, row, n, _, hx => by
    cases row with
    | nil => rfl
    | cons p r => have := hx p List.mem_cons_self; omega
  | k + 1, [], n, hr, hx => by rw [bits, places]; exact places_bits k [] (n + 1) hr (fun x q => by cases q)
  | k + 1, p :: r, n, hr, hx => by
    have hp := hx p List.mem_cons_self
    have hrr : RowP r := (List.pairwise_cons.mp hr).2
    have hlt : ∀ x ∈ r, p < x := fun x q => (List.pairwise_cons.mp hr).1 x q
    rw [bits]
    by_cases hpn : p = n
    · subst hpn
      rw [if_pos rfl, places, places_bits k r (p + 1) hrr (fun x q => by have := hlt x q; have := hx x (List.mem_cons_of_mem _ q); omega)]
    · rw [if_neg hpn, places]
      exact places_bits k (p :: r) (n + 1) hr (fun x q => by
        have := hx x q
        rcases List.mem_cons.mp q with rfl | q'
        · omega
        · have := hlt x q'; omega)
noncomputable def mirP (row : List Int) : List Int := row.reverse.map (fun z => -z)
theorem places_mir : ∀ (xs : List Bool) (n : Int), mirP (places n xs) = places (1 - n - xs.length) xs.reverse
  | [], n => rfl
  | true :: xs, n => by
    have ih := places_mir xs (n + 1)
    unfold mirP at *
    rw [places, List.reverse_cons, List.map_append, ih, List.reverse_cons, places_append, List.length_cons, List.length_reverse]
    simp only [List.map_cons, List.map_nil, places]
    congr 1
    · congr 1; omega
    · congr 1; omega
  | false :: xs, n => by
    have ih := places_mir xs (n + 1)
    unfold mirP at *
    rw [places, ih, List.reverse_cons, places_append, List.length_cons]
    simp only [places, List.append_nil]
    congr 1; omega
theorem run_false (c : Int) : ∀ (j l : Nat), (run c l (List.replicate j false)).1 = l - j
  | 0, l => by simp [run]
  | j + 1, l => by
    rw [List.replicate_succ, run]
    simp only
    rw [run_false c j]
    unfold stp
    by_cases h : 0 < l
    · simp [h]; omega
    · simp [h]; omega
theorem window (c : Int) {row : List Int} (hr : RowP row) : ∃ (n : Int) (k : Nat), (∀ x ∈ row, n ≤ x ∧ x < n + k) ∧ (run c 0 (bits row n k)).1 = 0 := by
  have h1 : ∃ (n : Int) (k : Nat), ∀ x ∈ row, n ≤ x ∧ x < n + k := by
    clear hr
    induction row with
    | nil => exact ⟨0, 0, fun x h => by cases h⟩
    | cons p r ih =>
      obtain ⟨n, k, h⟩ := ih
      refine ⟨min n p, ((max (n + k) (p + 1)) - min n p).toNat, fun x hx => ?_⟩
      rcases List.mem_cons.mp hx with rfl | hx
      · omega
      · have := h x hx; omega
  obtain ⟨n, k, h⟩ := h1
  refine ⟨n, k + (run c 0 (bits row n k)).1, fun x hx => by have := h x hx; omega, ?_⟩
  have e : ∀ (k j : Nat) (row : List Int) (n : Int), RowP row → (∀ x ∈ row, n ≤ x ∧ x < n + k) → bits row n (k + j) = bits row n k ++ List.replicate j false := by
    intro k
    induction k with
    | zero =>
      intro j row n hr hx
      cases row with
      | nil =>
        rw [Nat.zero_add]
        show bits [] n j = [] ++ _
        rw [List.nil_append]
        clear hx
        induction j generalizing n with
        | zero => rfl
        | succ j ih => rw [bits, ih, List.replicate_succ]
      | cons p r => have := hx p List.mem_cons_self; omega
    | succ k ih =>
      intro j row n hr hx
      rw [show k + 1 + j = (k + j) + 1 by omega]
      cases row with
      | nil => rw [bits, bits, ih j [] (n + 1) hr (fun x q => by cases q)]; rfl
      | cons p r =>
        have hp := hx p List.mem_cons_self
        have hrr : RowP r := (List.pairwise_cons.mp hr).2
        have hlt : ∀ x ∈ r, p < x := fun x q => (List.pairwise_cons.mp hr).1 x q
        rw [bits, bits]
        by_cases hpn : p = n
        · subst hpn
          rw [if_pos rfl, if_pos rfl, ih j r (p + 1) hrr (fun x q => by have := hlt x q; have := hx x (List.mem_cons_of_mem _ q); omega)]; rfl
        · rw [if_neg hpn, if_neg hpn, ih j (p :: r) (n + 1) hr (fun x q => by
            have := hx x q
            rcases List.mem_cons.mp q with rfl | q'
            · omega
            · have := hlt x q'; omega)]; rfl
  rw [e k _ row n hr h, run_append]
  simp only
  rw [run_false]
  omega
theorem walk_eq {c : Int} {row : List Int} {n : Int} {k : Nat} (hr : RowP row) (hx : ∀ x ∈ row, n ≤ x ∧ x < n + k) (h0 : (run c 0 (bits row n k)).1 = 0) : walkM row c = places n (run c 0 (bits row n k)).2 := by
  unfold walkM
  rw [goM_zero (m := n), go_run k row 0 n hr hx, h0, goM_nil_zero, List.append_nil]
theorem walk_places {c : Int} {xs : List Bool} {n : Int} (h0 : (run c 0 xs).1 = 0) : walkM (places n xs) c = places n (run c 0 xs).2 := by
  have e := bits_places xs n
  have := walk_eq (c := c) (row := places n xs) (n := n) (k := xs.length) (places_row xs n) (fun x hx => places_mem xs n x hx) (by rw [e]; exact h0)
  rw [e] at this
  exact this
theorem back_walk {c : Int} {row : List Int} (hc : 0 ≤ c) (hr : RowP row) : mirP (walkM (mirP (walkM row c)) c) = row := by
  obtain ⟨n, k, hx, h0⟩ := window c hr
  have hb := run_back (c := c) (bits row n k) 0 (by omega)
  rw [h0] at hb
  rw [walk_eq hr hx h0, places_mir, walk_places (by rw [hb]), hb, places_mir, List.reverse_reverse, List.length_reverse, run_len, bits_len]
  rw [show 1 - (1 - n - (k : Int)) - (k : Int) = n by omega]
  exact places_bits k row n hr hx
end CW

set_option Elab.async false
set_option linter.all false
set_option maxRecDepth 100000
set_option maxHeartbeats 4000000
namespace CW
open PySem L2

theorem at_mem {ns : List Int} {i : Int} (h0 : 0 ≤ i) (h1 : i < ns.length) : ∃ n, n ∈ ns ∧ ns[i.toNat]? = some n ∧ atI (ns.map V.int) i = some (.int n) := by
  have hj : i.toNat < ns.length := by omega
  refine ⟨ns[i.toNat], List.getElem_mem hj, by simp [hj], ?_⟩
  have q : atI (ns.map V.int) ((i.toNat : Nat) : Int) = some (.int ns[i.toNat]) := atI_nat (by simp [hj])
  rw [Int.toNat_of_nonneg h0] at q
  exact q
theorem line_of {n : Nat} (h : n ≤ 10000) : n < sizeLine := Nat.lt_of_le_of_lt h (by decide)
theorem line_le {n : Nat} (h : n ≤ 10000) : n ≤ sizeLine := Nat.le_of_lt (line_of h)
noncomputable def Nums (ns : List Int) : Prop := ∀ n ∈ ns, 0 ≤ n ∧ n < 9967
theorem cutV_ints (ns : List Int) (lo hi : Option Int) : ∃ ms : List Int, cutV (ns.map V.int) lo hi = ms.map V.int ∧ ms.length ≤ ns.length ∧ ∀ n ∈ ms, n ∈ ns := by
  refine ⟨(ns.drop (HT.sIx ns.length 0 lo)).take (HT.sIx ns.length ns.length hi - HT.sIx ns.length 0 lo), ?_, ?_, ?_⟩
  · unfold cutV
    simp only [List.length_map, List.map_take, List.map_drop]
  · simp only [List.length_take, List.length_drop]; omega
  · intro n hn
    exact List.mem_of_mem_drop (List.mem_of_mem_take hn)
theorem cut_to (ns : List Int) (k : Nat) (h : k ≤ ns.length) : cutV (ns.map V.int) none (some (k : Int)) = (ns.take k).map V.int := by
  unfold cutV
  rw [HT.sIx_none, HT.sIx_nat, List.length_map, List.drop_zero, Nat.sub_zero, Nat.min_eq_left h, List.map_take]
theorem cut_from (ns : List Int) (k : Nat) (h : k ≤ ns.length) : cutV (ns.map V.int) (some (k : Int)) none = (ns.drop k).map V.int := by
  unfold cutV
  rw [HT.sIx_none, HT.sIx_nat, List.length_map, Nat.min_eq_left h, ← List.map_drop, ← List.map_take, List.take_of_length_le (by simp)]
inductive spTen (vs : List V) (H : Hp) (Q : VK) (E_ : XK) : Prop
  | mk (n : Nat) (h0_ : vs = [.int n]) (h1_ : n ≤ 1000) (h2_ : Q (.int (10 ^ n)) H) : spTen vs H Q E_
noncomputable def sd1 (seed z : Int) : Int := (seed * 40014 + z % 999983 + 29) % 2147483563
noncomputable def sd2 (seed : Int) (ys : List Int) : Int := (seed * seed + 52774 * seed + 13 * ((List.map V.int ys).length : Int) + 7) % 2147483629
noncomputable def rs1 (z : Int) : Int := z - 10 ^ (18 : Int).toNat
inductive spNumbers (K : PySem.W.Frag) (vs : List V) (H : Hp) (Q : VK) (E_ : XK) : Prop
  | mk (a : Addr) (script : List Int) (m : Nat) (h0_ : vs = [.ref a, .int m]) (h1_ : SqL K H a (script.map V.int)) (h2_ : script.length ≤ 63) (h3_ : m ≤ 1000) (h4_ : ∀ (l : Addr) (ns : List Int) (H' : Hp), ns.length = m → Nums ns → H l = none → Same H H' → H' l = some (.lst (ns.map V.int)) → Q (.ref l) H') : spNumbers K vs H Q E_
noncomputable def Row (r : List Int) : Prop := r.Pairwise (· < ·)
theorem Row.lt {r : List Int} (h : Row r) {i j : Nat} {x y : Int} (hij : i < j) (hx : r[i]? = some x) (hy : r[j]? = some y) : x < y := by
  obtain ⟨h1, rfl⟩ := List.getElem?_eq_some_iff.mp hx
  obtain ⟨h2, rfl⟩ := List.getElem?_eq_some_iff.mp hy
  exact List.pairwise_iff_getElem.mp h i j h1 h2 hij
noncomputable def RetL (H : Hp) (Q : VK) (ns : List Int) : Prop := ∀ (l : Addr) (H' : Hp), H l = none → Same H H' → H' l = some (.lst (ns.map V.int)) → Q (.ref l) H'
inductive spLook (vs : List V) (H : Hp) (Q : VK) (E_ : XK) : Prop
  | mk (a : Addr) (row : List Int) (h0_ : vs = [.ref a]) (h1_ : H a = some (.lst (row.map V.int))) (h2_ : Row row) (h3_ : row.length ≤ 60) (h4_ : Q .non H) : spLook vs H Q E_
structure Cn (mg : Str → Option Value) (tC : Tok) : Prop where
  MOST_STONES : mg "MOST_STONES" = some (.int 60 tC)
theorem snoc_map {l : List Int} {i : Nat} {z : Int} (f : Int → Int) (h : l[i]? = some z) : ((l.take i).map f).map V.int ++ [V.int (f z)] = ((l.take (i + 1)).map f).map V.int := by
  rw [List.take_succ, h]
  simp
theorem int_at {l : List Int} {i : Nat} {x : V} (h : (l.map V.int)[i]? = some x) : ∃ z, x = .int z ∧ l[i]? = some z := by
  rw [List.getElem?_map] at h
  cases e : l[i]? with
  | none => rw [e] at h; cases h
  | some z => rw [e] at h; exact ⟨z, (Option.some.inj h).symm, rfl⟩
noncomputable def mirM (row : List Int) : List Int := row.reverse.map (fun z => -z)
noncomputable def movM (row : List Int) (b : Int) : List Int := row.map (fun z => z + b)
inductive spMirrored (vs : List V) (H : Hp) (Q : VK) (E_ : XK) : Prop
  | mk (a : Addr) (row : List Int) (h0_ : vs = [.ref a]) (h1_ : H a = some (.lst (row.map V.int))) (h2_ : Row row) (h3_ : row.length ≤ 60) (h4_ : RetL H Q (mirM row)) : spMirrored vs H Q E_
inductive spMoved (vs : List V) (H : Hp) (Q : VK) (E_ : XK) : Prop
  | mk (a : Addr) (row : List Int) (b : Int) (h0_ : vs = [.ref a, .int b]) (h1_ : H a = some (.lst (row.map V.int))) (h2_ : Row row) (h3_ : row.length ≤ 60) (h4_ : RetL H Q (movM row b)) : spMoved vs H Q E_
inductive spTurned (vs : List V) (H : Hp) (Q : VK) (E_ : XK) : Prop
  | mk (a : Addr) (row : List Int) (h0_ : vs = [.ref a]) (h1_ : H a = some (.lst (row.map V.int))) (h2_ : row.length ≤ 60) (h3_ : RetL H Q (mirM row)) : spTurned vs H Q E_
noncomputable def PairAt (H : Hp) (v : V) (p : Int × Int) : Prop := ∃ t, v = .ref t ∧ H t = some (.tup [.int p.1, .int p.2])
noncomputable abbrev Prs (H : Hp) : List V → List (Int × Int) → Prop := Paired (PairAt H)
noncomputable def TupS (H H' : Hp) : Prop := ∀ t xs, H t = some (.tup xs) → H' t = some (.tup xs)
theorem Prs.mono {H H' : Hp} (h : TupS H H') {vs : List V} {ps : List (Int × Int)} (r : Prs H vs ps) : Prs H' vs ps := Paired.mapP r fun _ _ ⟨t, e, q⟩ => ⟨t, e, h _ _ q⟩
theorem TupS.new {H : Hp} {a : Addr} {o : HO} (h : H a = none) : TupS H (upd H a o) := fun t xs e => by rw [upd_ne (ne_of_none e h)]; exact e
theorem TupS.lst {H : Hp} {a : Addr} {xs ys : List V} (h : H a = some (.lst xs)) : TupS H (upd H a (.lst ys)) := fun t zs e => by rw [upd_ne (ne_of e h (by intro z; cases z))]; exact e
theorem TupS.same {H H' : Hp} (h : Same H H') : TupS H H' := fun t xs e => h _ _ e
theorem TupS.trans {H H1 H2 : Hp} (a : TupS H H1) (b : TupS H1 H2) : TupS H H2 := fun t xs e => b _ _ (a _ _ e)
noncomputable def stepR (ps : List (Int × Int)) (x : Int) : List (Int × Int) :=
  match ps.getLast? with
  | some p => if p.2 = x - 1 then ps.dropLast ++ [(p.1, x)] else ps ++ [(x, x)]
  | none => [(x, x)]
noncomputable def runsM (row : List Int) : List (Int × Int) := row.foldl stepR []
noncomputable def RetP (H : Hp) (Q : VK) (ps : List (Int × Int)) : Prop := ∀ (l : Addr) (vs : List V) (H' : Hp), H l = none → Same H H' → H' l = some (.lst vs) → Prs H' vs ps → Q (.ref l) H'
inductive spStretches (vs : List V) (H : Hp) (Q : VK) (E_ : XK) : Prop
  | mk (a : Addr) (row : List Int) (h0_ : vs = [.ref a]) (h1_ : H a = some (.lst (row.map V.int))) (h2_ : Row row) (h3_ : row.length ≤ 60) (h4_ : RetP H Q (runsM row)) : spStretches vs H Q E_
inductive spRuns (vs : List V) (H : Hp) (Q : VK) (E_ : XK) : Prop
  | mk (a : Addr) (row : List Int) (h0_ : vs = [.ref a]) (h1_ : H a = some (.lst (row.map V.int))) (h2_ : row.length ≤ 60) (h3_ : RetP H Q (runsM row)) : spRuns vs H Q E_
theorem canLay_ints (ns : List Int) : PyData.canLayAll0 (ns.map PyData.int) = true := by
  induction ns with
  | nil => rfl
  | cons p r ih => simp [PyData.canLayAll0, PyData.canLay0, ih]
theorem depth_ints (ns : List Int) : PyData.depthAll (ns.map PyData.int) = 0 := by
  induction ns with
  | nil => simp [PyData.depthAll]
  | cons p r ih => simp [PyData.depthAll, PyData.depth, ih]
theorem shaped_ints (ns : List Int) : SeqAt.shaped (.list (ns.map PyData.int)) = true := by
  simp [SeqAt.shaped, PyData.canLay0, canLay_ints, PyData.depth, depth_ints]
inductive spRow (vs : List V) (H : Hp) (Q : VK) (E_ : XK) : Prop
  | mk (a : Addr) (ns : List Int) (m : Nat) (h0_ : vs = [.ref a, .int m]) (h1_ : H a = some (.lst (ns.map V.int))) (h2_ : Nums ns) (h3_ : m + 3 ≤ ns.length) (h4_ : m ≤ 60) (h5_ : ∀ row, Row row → row.length ≤ m → (∀ x ∈ row, -15 ≤ x ∧ x ≤ 800) → RetL H Q row) : spRow vs H Q E_
theorem row_snoc {r : List Int} {x : Int} (h : Row r) (hx : ∀ y ∈ r, y < x) : Row (r ++ [x]) := by
  unfold Row
  rw [List.pairwise_append]
  exact ⟨h, List.pairwise_singleton _ _, fun a ha b hb => by rw [List.mem_singleton.mp hb]; exact hx a ha⟩
inductive spLong (vs : List V) (H : Hp) (Q : VK) (E_ : XK) : Prop
  | mk (a : Addr) (ns : List Int) (m : Nat) (h0_ : vs = [.ref a, .int m]) (h1_ : H a = some (.lst (ns.map V.int))) (h2_ : Nums ns) (h3_ : m + 3 ≤ ns.length) (h4_ : m ≤ 60) (h5_ : ∀ row, Row row → row.length ≤ m → RetL H Q row) : spLong vs H Q E_
mutual
noncomputable def sml : PyData → Bool
  | .list xs => decide (xs.length ≤ 5000) && smlAll xs
  | .tuple xs => decide (xs.length ≤ 5000) && smlAll xs
  | .dict _ => false
  | .none => true
  | .bool _ => true
  | .int _ => true
  | .str _ => true
noncomputable def smlAll : List PyData → Bool
  | [] => true
  | x :: xs => sml x && smlAll xs
end
theorem sml_mem {ds : List PyData} {d : PyData} (h : d ∈ ds) (hc : smlAll ds = true) : sml d = true := by
  induction ds with
  | nil => cases h
  | cons x r ih =>
    simp only [smlAll, Bool.and_eq_true] at hc
    rcases List.mem_cons.mp h with rfl | h
    · exact hc.1
    · exact ih h hc.2
inductive spSame (n : Nat) (vs : List V) (H : Hp) (Q : VK) (E_ : XK) : Prop
  | mk (x y : V) (d : PyData) (h0_ : vs = [x, y]) (h1_ : Den H x d) (h2_ : Den H y d) (h3_ : d.depth ≤ n) (h4_ : SeqAt.shaped d = true) (h5_ : sml d = true) (h6_ : ∀ H', Same H H' → Q (.bl true) H') : spSame n vs H Q E_
theorem depth_mem {ds : List PyData} {d : PyData} (h : d ∈ ds) : d.depth ≤ PyData.depthAll ds := by
  induction ds with
  | nil => cases h
  | cons x r ih =>
    simp only [PyData.depthAll]
    rcases List.mem_cons.mp h with rfl | h
    · omega
    · have := ih h; omega
theorem canLay_mem {ds : List PyData} {d : PyData} (h : d ∈ ds) (hc : PyData.canLayAll0 ds = true) : d.canLay0 = true := by
  induction ds with
  | nil => cases h
  | cons x r ih =>
    simp only [PyData.canLayAll0, Bool.and_eq_true] at hc
    rcases List.mem_cons.mp h with rfl | h
    · exact hc.1
    · exact ih h hc.2
theorem eqv_self {d : PyData} (h : SeqAt.shaped d = true) : PyData.eqv d d = true := SeqAt.eqv_refl d (SeqAt.canLay_of_shaped h)
theorem mirM_row {row : List Int} (h : Row row) : Row (mirM row) := by
  unfold Row mirM at *
  rw [List.pairwise_map, List.pairwise_reverse]
  exact h.imp (fun {x y} q => by omega)
theorem mirM_len (row : List Int) : (mirM row).length = row.length := by simp [mirM]
theorem mirM_mirM (row : List Int) : mirM (mirM row) = row := by
  unfold mirM
  rw [← List.map_reverse, List.reverse_reverse, List.map_map]
  conv => rhs; rw [← List.map_id row]
  apply List.map_congr_left
  intro x _
  simp
inductive spLaw (K : PySem.W.Frag) (vs : List V) (H : Hp) (Q : VK) (E_ : XK) : Prop
  | mk (a : Addr) (ns : List Int) (h0_ : vs = [.ref a]) (h1_ : SqL K H a (ns.map V.int)) (h2_ : ns.length ≤ 63) (h3_ : ∀ H', Q (.bl true) H') : spLaw K vs H Q E_
theorem walkM_row {row : List Int} {c : Int} (h : Row row) (hc : 1 ≤ c := by omega) : Row (walkM row c) := goM_row hc row 0 0 h (fun _ _ => .inr rfl)
inductive spLookCreel (vs : List V) (H : Hp) (Q : VK) (E_ : XK) : Prop
  | mk (c : Int) (h0_ : vs = [.int c]) (h1_ : 1 ≤ c) (h2_ : Q .non H) : spLookCreel vs H Q E_
inductive spWalked (vs : List V) (H : Hp) (Q : VK) (E_ : XK) : Prop
  | mk (a : Addr) (row : List Int) (c : Int) (h0_ : vs = [.ref a, .int c]) (h1_ : H a = some (.lst (row.map V.int))) (h2_ : Row row) (h3_ : row.length ≤ 60) (h4_ : 1 ≤ c) (h5_ : RetL H Q (walkM row c)) : spWalked vs H Q E_
noncomputable def backM (row : List Int) (c : Int) : List Int := mirM (walkM (mirM row) c)
inductive spBack (vs : List V) (H : Hp) (Q : VK) (E_ : XK) : Prop
  | mk (a : Addr) (row : List Int) (c : Int) (h0_ : vs = [.ref a, .int c]) (h1_ : H a = some (.lst (row.map V.int))) (h2_ : Row row) (h3_ : row.length ≤ 60) (h4_ : 1 ≤ c) (h5_ : RetL H Q (backM row c)) : spBack vs H Q E_
theorem backM_row {row : List Int} {c : Int} (h : Row row) (hc : 1 ≤ c := by omega) : Row (backM row c) := mirM_row (walkM_row (mirM_row h))
theorem backM_len (row : List Int) (c : Int) : (backM row c).length = row.length := by simp [backM, mirM_len, walkM_len]
theorem back_there {row : List Int} {c : Int} (h : Row row) (hc : 1 ≤ c) : backM (walkM row c) c = row := back_walk (by omega) h
theorem there_back {row : List Int} {c : Int} (h : Row row) (hc : 1 ≤ c) : walkM (backM row c) c = row := by
  have := back_there (mirM_row h) hc
  unfold backM at *
  rw [← mirM_mirM (walkM (mirM (walkM (mirM row) c)) c), this, mirM_mirM]
end CW

set_option linter.all false
namespace CW
end CW

set_option Elab.async false
set_option linter.all false
set_option maxRecDepth 100000
set_option maxHeartbeats 4000000
namespace CW
open PySem L2
noncomputable def goW (row : List Int) (wk : Int × Bool) : List Int := if wk.2 then walkM row wk.1 else backM row wk.1
inductive spGo (vs : List V) (H : Hp) (Q : VK) (E_ : XK) : Prop
  | mk (a t : Addr) (row : List Int) (wk : Int × Bool) (h0_ : vs = [.ref a, .ref t]) (h1_ : H a = some (.lst (row.map V.int))) (h2_ : H t = some (.tup [.int wk.1, .bl wk.2])) (h3_ : Row row) (h4_ : row.length ≤ 60) (h5_ : 1 ≤ wk.1) (h6_ : RetL H Q (goW row wk)) : spGo vs H Q E_
theorem paired_get {α β : Type} {F : α → β → Prop} : ∀ {l₁ : List α} {l₂ : List β} {i : Nat} {x : α}, Paired F l₁ l₂ → l₁[i]? = some x → ∃ y, l₂[i]? = some y ∧ F x y
  | _, _, _, _, .nil, e => by simp at e
  | _, _, 0, _, .cons r _, e => by simp at e; subst e; exact ⟨_, rfl, r⟩
  | _, _, i + 1, x, .cons _ t, e => by
    obtain ⟨y, h1, h2⟩ := paired_get (i := i) (x := x) t (by simpa using e)
    exact ⟨y, by simpa using h1, h2⟩
end CW

set_option Elab.async false
set_option linter.all false
set_option maxRecDepth 100000
set_option maxHeartbeats 1000000
namespace L2
open PySem PySem.Spec PyProof.Rows
noncomputable abbrev two (b : Int) (t : Tok) (c : Nat) : Obj := { cls := .type "list", dict := none, data := .seq #[.int b t, .int b t] c, slots := #[] }
section
variable {prog : Program} {w : World} {A : Around} {R : Result → Shared → Prop} {l it S : Addr} {its : List Value} {ns : List Int} {d : Value}
end
section
variable {X : Cx} {e f : Expr} {te tf : TE} {p pos kp : Pos}
end
end L2

set_option Elab.async false
set_option linter.all false
set_option maxRecDepth 100000
set_option maxHeartbeats 1000000
namespace L2
open PySem PySem.Spec PyProof.Rows
section
variable {X : Cx}
end
end L2

set_option Elab.async false
set_option linter.all false
set_option maxRecDepth 100000
set_option maxHeartbeats 4000000
namespace CW
open PySem L2
inductive spPlain (vs : List V) (H : Hp) (Q : VK) (E_ : XK) : Prop
  | mk (a : Addr) (row : List Int) (c : Int) (h0_ : vs = [.ref a, .int c]) (h1_ : H a = some (.lst (row.map V.int))) (h2_ : Row row) (h3_ : row.length ≤ 60) (h4_ : (∀ x ∈ row, -1000 ≤ x ∧ x ≤ 1000)) (h5_ : RetL H Q (walkM row c)) : spPlain vs H Q E_
structure Mid (row : List Int) (c : Int) (n : Int) (fs : List Int) (ld : Nat) : Prop where
  ex : ∃ dn r, row = dn ++ r ∧ (∀ x ∈ dn, x < n) ∧ (∀ x ∈ r, n ≤ x) ∧ fs ++ goM c r ld n = walkM row c ∧ fs.length + ld = dn.length
inductive spPlainBack (vs : List V) (H : Hp) (Q : VK) (E_ : XK) : Prop
  | mk (a : Addr) (row : List Int) (c : Int) (h0_ : vs = [.ref a, .int c]) (h1_ : H a = some (.lst (row.map V.int))) (h2_ : Row row) (h3_ : row.length ≤ 60) (h4_ : 1 ≤ c) (h5_ : (∀ x ∈ row, -1000 ≤ x ∧ x ≤ 1000)) (h6_ : RetL H Q (backM row c)) : spPlainBack vs H Q E_
end CW

set_option Elab.async false
set_option linter.all false
set_option maxRecDepth 100000
set_option maxHeartbeats 1000000
namespace L2
open PySem PySem.Spec PyProof.Rows
theorem boot_sum : bootBuiltins "sum" = some (.builtin "sum") := by decide +kernel
theorem boot_enumerate : bootBuiltins "enumerate" = some (.type "enumerate") := by decide +kernel
theorem ints_are : ∀ {ns : List Int} {us : List Value}, Vals (ns.map V.int) us → IntsAre us ns
  | [], _, .nil => .nil
  | _ :: _, _, .cons ⟨_, e⟩ t => by subst e; exact .cons _ _ (ints_are t)
section
variable {X : Cx}
theorem call_sum (hc : X.calm = true) : CallR X (.builtin "sum") (fun xs H Q => ∃ (p : Addr) (ns : List Int), xs = [.ref p] ∧ H p = some (.lst (ns.map V.int)) ∧ Q (.int ns.sum) H) := by
  intro pins s σ H xs us Q I r h
  obtain ⟨p, ns, rfl, hp, q⟩ := h
  obtain ⟨u, rfl, rx⟩ := vals1 r
  cases rx
  obtain ⟨its, rv, pl, hz⟩ := I.list (SqL.of hp)
  have hl := pl.isList
  have hi := ints_are rv
  obtain ⟨xs, hx⟩ := hi.allInts.items
  have hl' : s.heap.IsList p (intItems xs) := hx ▸ hl
  refine sum_intListG (I.ok.hd hc) hl' fun h' tk t' hk => ?_
  have e1 : ns = xs.toList.map (·.1) := by
    rw [← nums_intItems, ← hx]
    exact (show numsOf its.toArray.toList = ns from hi.numsOf).symm
  have e2 : preSum (numAt xs) xs.size = ns.sum := by
    rw [preSum_eq, List.take_of_length_le (by simp), e1]
  rw [e2]
  exact ⟨.int _, H, I.kept hk, ⟨_, rfl⟩, q⟩
theorem Inv.turnedF {h' : Heap} {pins : List (Addr × Obj)} {σ : St} {H : Hp} {s : Shared} {t' : Nat} {fp : List Addr} (I : Inv X pins σ H s) (k : ∀ b o, b ∉ fp → s.heap.get? b = some o → h'.get? b = some o) (hf : ∀ b ∈ fp, FpOk X pins H b) : Inv X pins σ H { s with heap := h', toks := t' } := by
  have nit : ∀ b u, H b = some u → b ∉ fp := fun b u e z => by rw [(hf b z).1] at e; cases e
  refine I.step (g' := s.gens) (d' := s.drawn) (ch := fp) (fun b hb => ?_) (fun b o _ _ hc e _ => k b o hc e) (fun b o _ _ hc e _ => ⟨o.slots, k b o hc e⟩) (fun _ _ _ _ n => n)
    (fun b o hc e => ⟨o, k b o hc e⟩) (fun _ _ e => e) (fun _ _ _ e => e) (fun b ps e => ⟨#[], by rw [e]; simp⟩) (fun m hm => ?_) (fun b u e => ?_) I.bare
  · obtain ⟨_, h1, _, h3, h4, h5⟩ := hf b hb
    exact ⟨h3, h1, h4, h5⟩
  · obtain ⟨o, es, ep, ho, r⟩ := hm
    exact ⟨o, es, ep, k _ o (fun z => (hf _ z).2.1 rfl) ho, r⟩
  · refine (I.hok b u e).stay (fun c v hc q => k c v ?_ q) (fun _ q => q) fun _ _ q => q
    rcases hc with z | z
    · rw [z]; exact nit b u e
    · exact nit c _ z
theorem Inv.turnLaid {h' : Heap} {pins : List (Addr × Obj)} {σ : St} {H : Hp} {s : Shared} {t' : Nat} {fp : List Addr} {a : Addr} {o : HO} (I : Inv X pins σ H s) (k : ∀ b o, b ∉ fp → s.heap.get? b = some o → h'.get? b = some o) (hf : ∀ b ∈ fp, FpOk X pins H b) (hp : s.heap.objs.size ≤ a) (new : ObjOk X.prog X.w (upd H a o) h' a o) :
    Inv X pins σ (upd H a o) { s with heap := h', toks := t' } := by
  have hn : H a = none := I.hok.fresh hp
  have nit : ∀ b u, H b = some u → b ∉ fp := fun b u e z => by rw [(hf b z).1] at e; cases e
  have ne : ∀ b u, H b = some u → b ≠ a := fun b u e => ne_of_none e hn
  refine I.step (g' := s.gens) (d' := s.drawn) (ch := fp) (fun b hb => ?_) (fun b o _ _ hc e _ => k b o hc e) (fun b o _ _ hc e _ => ⟨o.slots, k b o hc e⟩) (fun b ob _ e n => ?_)
    (fun b o hc e => ⟨o, k b o hc e⟩) (fun b _ e => by rw [upd_ne (ne b _ e)]; exact e) (fun b _ _ e => by rw [upd_ne (ne b _ e)]; exact e) (fun b ps e => ⟨#[], by rw [upd_ne (ne b _ e), e]; simp⟩) (fun m hm => ?_) (fun b u e => ?_) I.bare
  · obtain ⟨_, h1, _, h3, h4, h5⟩ := hf b hb
    exact ⟨h3, h1, h4, h5⟩
  · have : b ≠ a := Nat.ne_of_lt (Nat.lt_of_lt_of_le (Heap.lt_size e) hp)
    rw [upd_ne this]; exact n
  · obtain ⟨o, es, ep, ho, r⟩ := hm
    exact ⟨o, es, ep, k _ o (fun z => (hf _ z).2.1 rfl) ho, r⟩
  · by_cases hb : b = a
    · subst hb
      rw [upd_same] at e
      cases e
      exact new
    · rw [upd_ne hb] at e
      refine (I.hok b u e).stay (fun c v hc q => k c v ?_ q) (fun c q => by rw [upd_ne (ne c _ q)]; exact q) fun c _ q => by rw [upd_ne (ne c _ q)]; exact q
      rcases hc with z | z
      · rw [z]; exact nit b u e
      · exact nit c _ z
end
noncomputable def Ite (K : PySem.W.Frag) (a : Addr) : It :=
  ⟨fun i H => ∃ xs x, SqL K H a xs ∧ xs[i]? = some x, fun i H v H' => ∃ t x, v = .ref t ∧ H t = none ∧ (∀ xs, SqL K H a xs → xs[i]? = some x) ∧ H' = upd H t (.tup [.int i, x]), fun i H => ∃ xs, SqL K H a xs ∧ xs.length ≤ i⟩
theorem turn_enum {P : Program} {w : World} {K : PySem.W.Frag} {elts : List Expr} {x1} {pos : Pos} (a e it : Addr) (hne : e ≠ it) : Turn P w K (.Tuple elts x1 pos) (Ite K a) [e, it] e (fun i h => (∃ old, IsEnum h e it (i : Nat) old) ∧ h.IsListIter it a i) where
  mem := by simp
  obj := fun i h st b hb => by
    obtain ⟨⟨old, he⟩, o, ho, c, d⟩ := st
    rcases List.mem_cons.mp hb with z | z
    · subst z; exact ⟨_, he, fun v z => by have z' : Data.fields _ = Data.cell v := z; cases z'⟩
    · have z : b = it := by simpa using z
      subst z; exact ⟨o, ho, fun v z => by rw [d] at z; cases z⟩
  keep := fun i h h' st k => ⟨let ⟨old, he⟩ := st.1; ⟨old, k e (by simp) _ he⟩, st.2.at fun o e => k it (by simp) o e⟩
  item := by
    intro X hP hw hK hc i pins s σ H E I hf st hg
    subst hP hw hK
    obtain ⟨xs, x, hq, hx⟩ := hg
    obtain ⟨its, rv, p, hz⟩ := I.list hq
    obtain ⟨u, hu, ru⟩ := rv.get hx
    obtain ⟨⟨old, he⟩, hit⟩ := st
    have le : e < s.heap.objs.size := Heap.lt_size he
    have li : it < s.heap.objs.size := by obtain ⟨_, z, _⟩ := hit; exact Heap.lt_size z
    refine wpAny_pyNext_enum_item he hit p.isList (x := u) (by simpa using hu) hne fun h' e1 e2 e3 e4 kp => ?_
    refine ⟨_, rfl, ?_⟩
    have hn : H s.heap.objs.size = none := I.hok.fresh (Nat.le_refl _)
    have k1 : ∀ b o, b ∉ [e, it] → s.heap.get? b = some o → h'.get? b = some o := fun b o hb q => kp b o (fun z => hb (by simp [z])) (fun z => hb (by simp [z])) q
    have tupOk : ∀ h2 : Heap, h2.get? s.heap.objs.size = some { cls := .type "tuple", data := .seq #[.int i s.toks, u] } → ObjOk X.prog X.w (upd H s.heap.objs.size (.tup [.int i, x])) h2 s.heap.objs.size (.tup [.int i, x]) := fun h2 q =>
      ⟨by show 2 ≤ sizeLine; decide, [.int i s.toks, u], .cons ⟨_, rfl⟩ (.cons ru .nil), _, q, rfl, _, rfl⟩
    refine wpAny_letOwnedTupleGo_enum (i := ((i : Nat) : Int) + 1) e1 fun h2 f1 sb => ?_
    have k2 : ∀ b o, b ∉ [e, it] → s.heap.get? b = some o → h2.get? b = some o := fun b o hb q => sb.extBut b o (fun z => hb (by simp [z])) (k1 b o hb q)
    have n1 : s.heap.objs.size ≠ e := Nat.ne_of_gt le
    refine ⟨.ref s.heap.objs.size, _, I.turnLaid (t' := s.toks + 1) (h' := h2) (o := .tup [.int i, x]) k2 hf (Nat.le_refl _) (tupOk _ (sb.extBut _ _ n1 e3)), rfl, ⟨_, x, rfl, hn, fun ys hy => by rw [I.list_inj hy hq]; exact hx, rfl⟩, ⟨⟨u, ?_⟩, ?_⟩, fun b hb => ?_⟩
    · have : (((i + 1 : Nat) : Int)) = (i : Int) + 1 := by omega
      rw [this]; exact f1
    · exact e2.extBut sb.extBut (Ne.symm hne)
    · have hb' : b ≠ s.heap.objs.size := by
        rcases List.mem_cons.mp hb with z | z
        · subst z; exact Nat.ne_of_lt le
        · have z : b = it := by simpa using z
          subst z; exact Nat.ne_of_lt li
      rw [upd_ne hb']; exact (hf b hb).1
  done := by
    intro X hP hw hK hc i pins s σ H E I hf st hg
    subst hP hw hK
    obtain ⟨xs, hq, hx⟩ := hg
    obtain ⟨its, rv, p, hz⟩ := I.list hq
    have hl := rv.length
    obtain ⟨⟨old, he⟩, hit⟩ := st
    exact wpAny_pyNext_enum_end (I.ok.hd hc) he hit p.isList (by simp; omega) fun h' eb => ⟨rfl, I.turnedF (fp := [e, it]) (t' := s.toks) (fun b o hb e => eb b o (fun z => hb (by simp [z])) e) hf⟩
  self := fun _ _ _ _ _ st h => let ⟨_, he⟩ := st.1; wpAny_pyIter_enum he h
noncomputable def iEnum (K : PySem.W.Frag) (ta : TA) : TI := fun σ H R => ta σ H fun vs H1 => ∃ a xs, vs = [.ref a] ∧ SqL K H1 a xs ∧ R (Ite K a) H1
theorem pi_enum {X : Cx} {elts : List Expr} {x1} {tpos : Pos} {a : Expr} {ta : TA} {p pos : Pos} (hg : Gl X "enumerate") (hm : X.mg "enumerate" = none) (ha : PA X [a] ta) (hs : starEach [a] X.env = [(false, eval a X.env)] := by rfl) : PI X (.Tuple elts x1 tpos) (.Call (.Name "enumerate" p) [a] [] pos) (iEnum X.K ta) := by
  intro pins s σ H R I h
  refine Call_ (ld_blt I hg hm boot_enumerate (PyProof.Rows.callWith_type1 (thn (ha pos pins s σ H _ I h) fun us s1 ⟨vs, H1, I1, r1, q1⟩ => ?_) hs rfl))
  obtain ⟨a, xs, e, hq, q⟩ := q1
  subst e
  obtain ⟨u, rfl, rx⟩ := vals1 r1
  cases rx
  obtain ⟨its, rv, pl, hz⟩ := I1.list hq
  refine call_enumerate_list pl.isList fun h' g1 g2 g3 kp => ?_
  have I2 : Inv X pins σ H1 { s1 with heap := h' } := I1.kept (t' := s1.toks) kp
  refine wpAny_pyIter_enum g1 ?_
  refine ⟨s1.heap.objs.size + 1, [s1.heap.objs.size + 1, s1.heap.objs.size], _, _, H1, rfl, I2, turn_enum a _ _ (Nat.ne_of_gt (Nat.lt_succ_self _)), ⟨⟨_, g1⟩, g2⟩, fun b hb => ?_, q⟩
  have e : s1.heap.objs.size ≤ b := by
    rcases List.mem_cons.mp hb with z | z
    · rw [z]; exact Nat.le_succ _
    · have z : b = s1.heap.objs.size := by simpa using z
      rw [z]; exact Nat.le_refl _
  exact I1.fpOk e (I1.hok.fresh e)
theorem for_enum {K : PySem.W.Frag} {a : Addr} {xs : List V} {g : TG} {tb : TS} {D : Ends} {σ : St} {H : Hp} (Pv : Nat → St → Hp → Prop) (h0 : Pv 0 σ H) (hl : ∀ i σ H, i ≤ xs.length → Pv i σ H → SqL K H a xs)
    (hs : ∀ i x σ H t, xs[i]? = some x → Pv i σ H → H t = none → g (.ref t) σ (upd H t (.tup [.int i, x])) fun σ2 H2 => tb { D with nx := Pv (i + 1), ct := Pv (i + 1), bk := D.nx } σ2 H2) (hd : ∀ σ H, Pv xs.length σ H → D.nx σ H) :
    ∃ W : Nat → Nat → St → Hp → Prop, (∃ m, W 0 m σ H) ∧ ∀ i m σ H, W i m σ H →
      ((Ite K a).stop i H ∧ D.nx σ H) ∨ ((Ite K a).go i H ∧ ∃ N : St → Hp → Prop, (∀ σ' H', N σ' H' → ∃ m', m' < m ∧ W (i + 1) m' σ' H') ∧ ∀ x H', (Ite K a).yld i H x H' → g x σ H' fun σ2 H2 => tb { D with nx := N, ct := N, bk := D.nx } σ2 H2) := by
  refine ⟨fun i m σ H => m = xs.length - i ∧ i ≤ xs.length ∧ Pv i σ H, ⟨xs.length, by simp, Nat.zero_le _, h0⟩, ?_⟩
  rintro i m σ H ⟨rfl, hi, p⟩
  have q := hl i σ H hi p
  by_cases hlt : i < xs.length
  · refine .inr ⟨⟨xs, xs[i], q, by simp [hlt]⟩, Pv (i + 1), fun σ' H' p' => ⟨xs.length - (i + 1), by omega, rfl, hlt, p'⟩, fun x H' y => ?_⟩
    obtain ⟨t, x, rfl, hn, y, rfl⟩ := y
    exact hs i x σ _ t (y xs q) p hn
  · have e : i = xs.length := by omega
    subst e
    exact .inl ⟨⟨xs, q, Nat.le_refl _⟩, hd σ H p⟩

end L2

set_option Elab.async false
set_option linter.all false
set_option maxRecDepth 100000
set_option maxHeartbeats 4000000
namespace CW
open PySem L2
noncomputable def LP (H : Hp) (a : Addr) (ps : List (Int × Int)) : Prop := ∃ us, H a = some (.lst us) ∧ Prs H us ps
theorem LP.mono {H H' : Hp} (h : Same H H') {a : Addr} {ps : List (Int × Int)} (r : LP H a ps) : LP H' a ps := let ⟨us, e, p⟩ := r; ⟨us, h _ _ e, p.mono (TupS.same h)⟩
theorem Prs.len {H : Hp} {us : List V} {ps : List (Int × Int)} (h : Prs H us ps) : us.length = ps.length := Paired.length h
noncomputable def szs (ps : List (Int × Int)) : List Int := ps.map (·.1)
noncomputable def lesI (j : Int) (p : Int × Int) : Int := if p.1 < j then p.1 else j
noncomputable def lesM (ps : List (Int × Int)) (j : Int) : Int := (ps.map (lesI j)).sum
structure Trn (ps : List (Int × Int)) : Prop where
  pos : ∀ p ∈ ps, 1 ≤ p.1
  few : (szs ps).sum ≤ 60
theorem len_le_sum : ∀ {ps : List (Int × Int)}, (∀ p ∈ ps, 1 ≤ p.1) → (ps.length : Int) ≤ (szs ps).sum
  | [], _ => by simp [szs]
  | p :: r, h => by
    have h1 := h p (List.mem_cons_self)
    have h2 := len_le_sum (ps := r) fun q hq => h q (List.mem_cons_of_mem _ hq)
    simp only [szs, List.map_cons, List.sum_cons, List.length_cons] at h2 ⊢
    omega
theorem Trn.len {ps : List (Int × Int)} (h : Trn ps) : ps.length ≤ 60 := by
  have h1 := len_le_sum h.pos
  have := h.few
  omega
inductive spLookT (vs : List V) (H : Hp) (Q : VK) (E_ : XK) : Prop
  | mk (a : Addr) (ps : List (Int × Int)) (h0_ : vs = [.ref a]) (h1_ : LP H a ps) (h2_ : Trn ps) (h3_ : ∀ H', Same H H' → Q .non H') : spLookT vs H Q E_
inductive spCrowd (vs : List V) (H : Hp) (Q : VK) (E_ : XK) : Prop
  | mk (a : Addr) (ps : List (Int × Int)) (j : Int) (h0_ : vs = [.ref a, .int j]) (h1_ : LP H a ps) (h2_ : ps.length ≤ 200) (h3_ : ∀ H', Same H H' → Q (.int (2 * lesM ps j)) H') : spCrowd vs H Q E_
inductive spLesser (vs : List V) (H : Hp) (Q : VK) (E_ : XK) : Prop
  | mk (a : Addr) (ps : List (Int × Int)) (j : Int) (h0_ : vs = [.ref a, .int j]) (h1_ : LP H a ps) (h2_ : ps.length ≤ 200) (h3_ : ∀ H', Same H H' → Q (.int (lesM ps j)) H') : spLesser vs H Q E_
inductive spMark (vs : List V) (H : Hp) (Q : VK) (E_ : XK) : Prop
  | mk (a : Addr) (ps : List (Int × Int)) (j p : Int) (h0_ : vs = [.ref a, .int j, .int p]) (h1_ : LP H a ps) (h2_ : Trn ps) (h3_ : ∀ H', Same H H' → Q (.int (p - 2 * lesM ps j)) H') : spMark vs H Q E_
inductive spPairs (vs : List V) (H : Hp) (Q : VK) (E_ : XK) : Prop
  | mk (a : Addr) (ns : List Int) (h0_ : vs = [.ref a]) (h1_ : H a = some (.lst (ns.map V.int))) (h2_ : Nums ns) (h3_ : 19 ≤ ns.length) (h4_ : ∀ ps : List (Int × Int), ps.length ≤ 6 → (∀ p ∈ ps, 1 ≤ p.1 ∧ p.1 ≤ 9) → RetP H Q ps) : spPairs vs H Q E_
theorem paired_at {H : Hp} {us : List V} {ps : List (Int × Int)} (h : Prs H us ps) {i : Nat} {x : V} (e : us[i]? = some x) : ∃ p t, ps[i]? = some p ∧ x = .ref t ∧ H t = some (.tup [.int p.1, .int p.2]) := by
  obtain ⟨p, hp, t, e1, e2⟩ := paired_get h e
  exact ⟨p, t, hp, e1, e2⟩
end CW

set_option Elab.async false
set_option linter.all false
set_option maxRecDepth 100000
set_option maxHeartbeats 1000000
namespace L2
open PySem PySem.Spec PyProof.Rows
section
variable {X : Cx} {tg : Expr}
end
end L2

set_option Elab.async false
set_option linter.all false
set_option maxRecDepth 100000
set_option maxHeartbeats 1000000
namespace L2
open PySem PySem.W PySem.Spec PyProof.Rows
section
variable {O : KeyOrd} {key : Nat → O.α} {n : Nat} {cmp : Nat → Nat → (Bool → Shared → Prop) → Shared → Prop} {s : Shared}
noncomputable def KP (O : KeyOrd) (key : Nat → O.α) (p : Array Nat) (i : Nat) : O.α := key (p.getD i 0)
structure InR (n : Nat) (p : Array Nat) : Prop where
  pos : 0 < n
  size : p.size = n
  mem : ∀ x ∈ p, x < n
theorem InR.at {p : Array Nat} (h : InR n p) (i : Nat) : p.getD i 0 < n := by
  unfold Array.getD
  split
  · exact h.mem _ (Array.getElem_mem _)
  · exact h.pos
theorem InR.perm {p q : Array Nat} (h : InR n p) (e : q.Perm p) : InR n q := ⟨h.pos, e.size_eq.trans h.size, fun x hx => h.mem x (e.mem_iff.mp hx)⟩
noncomputable def Up (O : KeyOrd) (key : Nat → O.α) (p : Array Nat) (m : Nat) : Prop := ∀ i j, i ≤ j → j < m → O.kle (KP O key p i) (KP O key p j)
noncomputable def Dn (O : KeyOrd) (key : Nat → O.α) (p : Array Nat) (m : Nat) : Prop := ∀ i j, i ≤ j → j < m → O.kle (KP O key p j) (KP O key p i)
theorem Up.more {p : Array Nat} {m : Nat} (h : Up O key p m) (hm : 1 ≤ m) (hl : O.kle (KP O key p (m - 1)) (KP O key p m)) : Up O key p (m + 1) := fun i j hij hj => by
  by_cases q : j < m
  · exact h i j hij q
  · have : j = m := by omega
    subst this
    by_cases r : i = j
    · subst r; exact KeyOrd.kle_refl _
    · exact KeyOrd.kle_trans (h i (j - 1) (by omega) (by omega)) hl
theorem Dn.more {p : Array Nat} {m : Nat} (h : Dn O key p m) (hm : 1 ≤ m) (hl : O.kle (KP O key p m) (KP O key p (m - 1))) : Dn O key p (m + 1) := fun i j hij hj => by
  by_cases q : j < m
  · exact h i j hij q
  · have : j = m := by omega
    subst this
    by_cases r : i = j
    · subst r; exact KeyOrd.kle_refl _
    · exact KeyOrd.kle_trans hl (h i (j - 1) (by omega) (by omega))
theorem Dn.same {p q : Array Nat} {m : Nat} (h : Dn O key p m) (e : ∀ k, KP O key q k = KP O key p k) : Dn O key q m := fun i j h1 h2 => by rw [e, e]; exact h i j h1 h2
theorem Up.same {p q : Array Nat} {m : Nat} (h : Up O key p m) (e : ∀ k, KP O key q k = KP O key p k) : Up O key q m := fun i j h1 h2 => by rw [e, e]; exact h i j h1 h2
end
end L2

set_option Elab.async false
set_option linter.all false
set_option maxRecDepth 100000
set_option maxHeartbeats 4000000
namespace CW
open PySem L2
noncomputable def rkP (p q : Int × Int) : Prop := p.2 - p.1 ≤ q.2 - q.1 ∧ p.2 - p.1 + 1 ≤ q.1 - p.2 - 1
noncomputable def Rnk (ps : List (Int × Int)) : Prop := ∀ (j : Nat) (p q : Int × Int), ps[j]? = some p → ps[j + 1]? = some q → rkP p q
inductive spRanked (vs : List V) (H : Hp) (Q : VK) (E_ : XK) : Prop
  | mk (a : Addr) (row : List Int) (h0_ : vs = [.ref a]) (h1_ : H a = some (.lst (row.map V.int))) (h2_ : Row row) (h3_ : row.length ≤ 60) (h4_ : ∀ (b : Bool) (H' : Hp), (b = true ↔ Rnk (runsM row)) → Same H H' → Q (.bl b) H') : spRanked vs H Q E_
inductive spRankedRow (vs : List V) (H : Hp) (Q : VK) (E_ : XK) : Prop
  | mk (a : Addr) (ns : List Int) (h0_ : vs = [.ref a]) (h1_ : H a = some (.lst (ns.map V.int))) (h2_ : Nums ns) (h3_ : 20 ≤ ns.length) (h4_ : ∀ row, Row row → row.length ≤ 40 → Rnk (runsM row) → RetL H Q row) : spRankedRow vs H Q E_
theorem Rnk.nil : Rnk (runsM []) := fun j p q h => by simp [runsM] at h
theorem Rnk.snoc {ps : List (Int × Int)} {q : Int × Int} (h : Rnk ps) (hl : ∀ p, ps.getLast? = some p → rkP p q) : Rnk (ps ++ [q]) := by
  intro j a b ha hb
  have hj : j + 1 < (ps ++ [q]).length := (List.getElem?_eq_some_iff.mp hb).1
  simp only [List.length_append, List.length_singleton] at hj
  by_cases hlt : j + 1 < ps.length
  · rw [List.getElem?_append_left (by omega)] at ha
    rw [List.getElem?_append_left hlt] at hb
    exact h j a b ha hb
  · have e : j + 1 = ps.length := by omega
    rw [List.getElem?_append_left (by omega)] at ha
    rw [List.getElem?_append_right (by omega), e, Nat.sub_self] at hb
    have eb : q = b := by simpa using hb
    subst eb
    refine hl a ?_
    rw [List.getLast?_eq_getElem?, show ps.length - 1 = j by omega]
    exact ha
noncomputable def LastOk (ps : List (Int × Int)) (size place : Int) : Prop := ∀ q, ps.getLast? = some q → q.1 ≤ q.2 ∧ q.2 - q.1 + 1 ≤ size ∧ q.2 - q.1 + 1 ≤ place - q.2 - 1
theorem LastOk.mono {ps : List (Int × Int)} {size size' place : Int} (h : LastOk ps size place) (hs : size ≤ size') : LastOk ps size' place := fun q hq => by have := h q hq; omega
noncomputable def RowAt (H : Hp) (u : V) : Prop := ∃ l row, u = .ref l ∧ H l = some (.lst (row.map V.int)) ∧ Row row ∧ row.length ≤ 60
theorem RowAt.mono {H H' : Hp} (h : Same H H') {u : V} (r : RowAt H u) : RowAt H' u := let ⟨l, row, e, q, z⟩ := r; ⟨l, row, e, h _ _ q, z⟩
noncomputable def RowsOk (H : Hp) (lr : Addr) (us : List V) : Prop := H lr = some (.lst us) ∧ (∃ x r, us = .ref x :: r) ∧ ∀ u ∈ us, RowAt H u
theorem RowsOk.mono {H H' : Hp} (h : Same H H') {lr : Addr} {us : List V} (r : RowsOk H lr us) : RowsOk H' lr us := ⟨h _ _ r.1, r.2.1, fun u hu => (r.2.2 u hu).mono h⟩
theorem ints_ne {row : List Int} {x : Addr} {r : List V} : HO.lst (row.map V.int) ≠ HO.lst (.ref x :: r) := by
  intro z
  cases row with
  | nil => cases z
  | cons a b => cases z
theorem RowAt.set {H : Hp} {lr x : Addr} {r vs : List V} (h : H lr = some (.lst (.ref x :: r))) {u : V} (q : RowAt H u) : RowAt (upd H lr (.lst vs)) u := by
  obtain ⟨l, row, e, q, z⟩ := q
  exact ⟨l, row, e, by rw [upd_ne (ne_of q h ints_ne)]; exact q, z⟩
theorem RowsOk.snoc {H : Hp} {lr : Addr} {us : List V} {u : V} (h : RowsOk H lr us) (hu : RowAt H u) : RowsOk (upd H lr (.lst (us ++ [u]))) lr (us ++ [u]) := by
  obtain ⟨e, ⟨x, r, rfl⟩, q⟩ := h
  refine ⟨upd_same, ⟨x, r ++ [u], rfl⟩, fun v hv => ?_⟩
  rcases List.mem_append.mp hv with z | z
  · exact (q v z).set e
  · rw [List.mem_singleton.mp z]; exact hu.set e
end CW

set_option Elab.async false
set_option linter.all false
set_option maxRecDepth 100000
set_option maxHeartbeats 4000000
namespace CW
open PySem L2
noncomputable def cnt (l : List Int) (p : Int) : Nat := (l.filter fun x => decide (x ≤ p)).length
noncomputable def heldM (row : List Int) (c p : Int) : Int := (cnt row p : Int) - (cnt (walkM row c) p : Int)
noncomputable def carM (row : List Int) (c : Int) : Nat := ((walkM row c).filter fun x => decide (x ∉ row)).length
inductive spUpTo (vs : List V) (H : Hp) (Q : VK) (E_ : XK) : Prop
  | mk (a : Addr) (row : List Int) (p : Int) (h0_ : vs = [.ref a, .int p]) (h1_ : H a = some (.lst (row.map V.int))) (h2_ : row.length ≤ 60) (h3_ : ∀ H', Same H H' → Q (.int (cnt row p)) H') : spUpTo vs H Q E_
inductive spHolding (vs : List V) (H : Hp) (Q : VK) (E_ : XK) : Prop
  | mk (a : Addr) (row : List Int) (c p : Int) (h0_ : vs = [.ref a, .int c, .int p]) (h1_ : H a = some (.lst (row.map V.int))) (h2_ : Row row) (h3_ : row.length ≤ 60) (h4_ : 1 ≤ c) (h5_ : ∀ H', Same H H' → Q (.int (heldM row c p)) H') : spHolding vs H Q E_
inductive spCarried (vs : List V) (H : Hp) (Q : VK) (E_ : XK) : Prop
  | mk (a : Addr) (row : List Int) (c : Int) (h0_ : vs = [.ref a, .int c]) (h1_ : H a = some (.lst (row.map V.int))) (h2_ : Row row) (h3_ : row.length ≤ 60) (h4_ : 1 ≤ c) (h5_ : ∀ H', Same H H' → Q (.int (carM row c)) H') : spCarried vs H Q E_
inductive spHeld (vs : List V) (H : Hp) (Q : VK) (E_ : XK) : Prop
  | mk (a : Addr) (row : List Int) (c p : Int) (h0_ : vs = [.ref a, .int c, .int p]) (h1_ : H a = some (.lst (row.map V.int))) (h2_ : Row row) (h3_ : row.length ≤ 60) (h4_ : (∀ x ∈ row, -1000 ≤ x ∧ x ≤ 1000)) (h5_ : 1 ≤ c) (h6_ : Q (.int (heldM row c p)) H) : spHeld vs H Q E_
end CW

set_option Elab.async false
set_option linter.all false
set_option maxRecDepth 100000
set_option maxHeartbeats 1000000
namespace L2
open PySem PySem.W PySem.Spec PyProof.Rows
noncomputable def plt (a b : Int × Int) : Bool := decide (a.1 < b.1) || (decide (a.1 = b.1) && decide (a.2 < b.2))
theorem plt_iff {a b : Int × Int} : plt a b = true ↔ a.1 < b.1 ∨ (a.1 = b.1 ∧ a.2 < b.2) := by simp [plt]
theorem plt_not {a b : Int × Int} : plt a b = false ↔ ¬ (a.1 < b.1 ∨ (a.1 = b.1 ∧ a.2 < b.2)) := by rw [← plt_iff]; simp
noncomputable def PairV (h : Heap) (v : Value) (p : Int × Int) : Prop := ∃ t o n k1 k2, v = .ref t ∧ h.get? t = some o ∧ o.cls = .type "tuple" ∧ o.data = .seq #[.int p.1 k1, .int p.2 k2] n
section
variable {prog : Program} {w : World} {A : Around} {E : Value → Shared → Prop} {s : Shared}
end
noncomputable def ple (a b : Int × Int) : Prop := a.1 < b.1 ∨ (a.1 = b.1 ∧ a.2 ≤ b.2)
section
variable {X : Cx}
end
end L2

set_option Elab.async false
set_option linter.all false
set_option maxRecDepth 100000
namespace L2
open PySem PySem.Spec PyProof.Rows

section
variable {κ : Type} [DecidableEq κ]
noncomputable def valV (kvs : List (κ × V)) (k : κ) : Option V := (kvs.find? fun kv => decide (kv.1 = k)).map (·.2)
noncomputable def putK (kvs : List (κ × V)) (k : κ) (v : V) : List (κ × V) :=
  if (kvs.any fun kv => decide (kv.1 = k)) = true then kvs.map (fun kv => if kv.1 = k then (kv.1, v) else kv) else kvs ++ [(k, v)]
noncomputable def dropK (kvs : List (κ × V)) (k : κ) : List (κ × V) := kvs.filter fun kv => decide (kv.1 ≠ k)

theorem valV_pos {p : κ × V} {r : List (κ × V)} {k : κ} (e : p.1 = k) : valV (p :: r) k = some p.2 := by simp [valV, List.find?_cons, e]
theorem valV_neg {p : κ × V} {r : List (κ × V)} {k : κ} (e : ¬ p.1 = k) : valV (p :: r) k = valV r k := by simp [valV, List.find?_cons, e]
theorem valV_any (k : κ) : ∀ kvs : List (κ × V), (kvs.any fun kv => decide (kv.1 = k)) = (valV kvs k).isSome
  | [] => rfl
  | p :: r => by
    rw [List.any_cons]
    by_cases e : p.1 = k
    · simp only [valV_pos e, decide_eq_true e, Bool.true_or, Option.isSome_some]
    · rw [valV_neg e, decide_eq_false e, Bool.false_or]; exact valV_any k r
theorem RelO.isSome_eq {o : Option V} {u : Option Value} (r : RelO o u) : o.isSome = u.isSome := by
  cases o with
  | none => cases u with
    | none => rfl
    | some _ => exact (show False from r).elim
  | some _ => cases u with
    | none => exact (show False from r).elim
    | some _ => rfl
theorem RelO.getD {o : Option V} {u : Option Value} {d : V} {d' : Value} (r : RelO o u) (rd : RelV d d') : RelV (o.getD d) (u.getD d') := by
  cases o with
  | none => cases u with
    | none => exact rd
    | some _ => exact (show False from r).elim
  | some _ => cases u with
    | none => exact (show False from r).elim
    | some _ => exact r

theorem KV.val {kvs : List (κ × V)} {vs : List (κ × Value)} (r : KV kvs vs) (k : κ) : RelO (valV kvs k) (valueAt vs k) := by
  unfold KV at r
  induction r with
  | nil => exact True.intro
  | @cons p q ps qs h t ih =>
    obtain ⟨h1, h2⟩ := h
    by_cases e : p.1 = k
    · have e' : q.1 = k := h1.symm.trans e
      have b : valueAt (q :: qs) k = some q.2 := by simp [valueAt, List.find?_cons, e']
      rw [valV_pos e, b]; exact h2
    · have e' : ¬ q.1 = k := fun z => e (h1.trans z)
      have b : valueAt (q :: qs) k = valueAt qs k := by simp [valueAt, List.find?_cons, e']
      rw [valV_neg e, b]; exact ih
theorem KV.any {kvs : List (κ × V)} {vs : List (κ × Value)} (r : KV kvs vs) (k : κ) : (kvs.any fun kv => decide (kv.1 = k)) = vs.any fun kv => decide (kv.1 = k) := by
  unfold KV at r
  induction r with
  | nil => rfl
  | cons h t ih => rw [List.any_cons, List.any_cons, ih, h.1]
theorem KV.repl {kvs : List (κ × V)} {vs : List (κ × Value)} (r : KV kvs vs) (k : κ) {y : V} {u : Value} (ry : RelV y u) :
    KV (kvs.map fun kv => if kv.1 = k then (kv.1, y) else kv) (vs.map fun kv => if kv.1 = k then (kv.1, u) else kv) := by
  unfold KV at r ⊢
  induction r with
  | nil => exact .nil
  | @cons p q ps qs h t ih =>
    rw [List.map_cons, List.map_cons]
    refine .cons ?_ ih
    obtain ⟨h1, h2⟩ := h
    by_cases e : p.1 = k
    · rw [if_pos e, if_pos (h1.symm.trans e)]; exact ⟨h1, ry⟩
    · rw [if_neg e, if_neg (fun z => e (h1.trans z))]; exact ⟨h1, h2⟩
theorem KV.put {kvs : List (κ × V)} {vs : List (κ × Value)} (r : KV kvs vs) (k : κ) {y : V} {u : Value} (ry : RelV y u) : KV (putK kvs k y) (stored vs k u) := by
  unfold putK stored
  rw [r.any k]
  by_cases e : (vs.any fun kv => decide (kv.1 = k)) = true
  · rw [if_pos e, if_pos e]; exact r.repl k ry
  · rw [if_neg e, if_neg e]; exact Paired.snoc r ⟨rfl, ry⟩
theorem KV.drop {kvs : List (κ × V)} {vs : List (κ × Value)} (r : KV kvs vs) (k : κ) : KV (dropK kvs k) (without vs k) := by
  unfold KV at r ⊢
  unfold dropK without
  induction r with
  | nil => exact .nil
  | @cons p q ps qs h t ih =>
    obtain ⟨h1, h2⟩ := h
    rw [List.filter_cons, List.filter_cons]
    by_cases e : p.1 = k
    · have a : ¬ decide (p.1 ≠ k) = true := by simp [e]
      have b : ¬ decide (q.1 ≠ k) = true := by simp [h1.symm.trans e]
      rw [if_neg a, if_neg b]; exact ih
    · have e' : ¬ q.1 = k := fun z => e (h1.trans z)
      have a : decide (p.1 ≠ k) = true := by simp [e]
      have b : decide (q.1 ≠ k) = true := by simp [e']
      rw [if_pos a, if_pos b]; exact .cons ⟨h1, h2⟩ ih
theorem KV.keys {kvs : List (κ × V)} {vs : List (κ × Value)} (r : KV kvs vs) : kvs.map (·.1) = vs.map (·.1) := by
  unfold KV at r
  induction r with
  | nil => rfl
  | cons h t ih => rw [List.map_cons, List.map_cons, ih, h.1]
theorem KV.length {kvs : List (κ × V)} {vs : List (κ × Value)} (r : KV kvs vs) : kvs.length = vs.length := Paired.length r
end


noncomputable abbrev KT (H : Hp) : List (List Key × V) → List (List Key × Addr × Value) → Prop := Paired fun p q => p.1 = q.1 ∧ H q.2.1 = some (.tup (p.1.map kV)) ∧ RelV p.2 q.2.2
theorem KT.val {H : Hp} {kvs : List (List Key × V)} {xs : List (List Key × Addr × Value)} (r : KT H kvs xs) (k : List Key) : RelO (valV kvs k) ((atKey xs k).map (·.2)) := by
  induction r with
  | nil => exact True.intro
  | @cons p q ps qs h t ih =>
    obtain ⟨h1, _, h2⟩ := h
    by_cases e : p.1 = k
    · have e' : q.1 = k := h1.symm.trans e
      have b : atKey (q :: qs) k = some q.2 := by simp [atKey, List.find?_cons, e']
      rw [valV_pos e, b]; exact h2
    · have e' : ¬ q.1 = k := fun z => e (h1.trans z)
      have b : atKey (q :: qs) k = atKey qs k := by simp [atKey, List.find?_cons, e']
      rw [valV_neg e, b]; exact ih
theorem KT.repl {H : Hp} {kvs : List (List Key × V)} {xs : List (List Key × Addr × Value)} (r : KT H kvs xs) (k : List Key) {y : V} {u : Value} (ry : RelV y u) :
    KT H (kvs.map fun kv => if kv.1 = k then (kv.1, y) else kv) (xs.map (putAt k u)) := by
  induction r with
  | nil => exact .nil
  | @cons p q ps qs h t ih =>
    rw [List.map_cons, List.map_cons]
    refine .cons ?_ ih
    obtain ⟨h1, h2, h3⟩ := h
    unfold putAt
    by_cases e : p.1 = k
    · rw [if_pos e, if_pos (h1.symm.trans e)]; exact ⟨h1, h2, ry⟩
    · rw [if_neg e, if_neg (fun z => e (h1.trans z))]; exact ⟨h1, h2, h3⟩
theorem KT.put {H : Hp} {kvs : List (List Key × V)} {xs : List (List Key × Addr × Value)} (r : KT H kvs xs) (k : List Key) {b : Addr} {y : V} {u : Value} (hb : H b = some (.tup (k.map kV))) (ry : RelV y u) :
    KT H (putK kvs k y) (storedH xs k b u) := by
  have e : (kvs.any fun kv => decide (kv.1 = k)) = (atKey xs k).isSome := by
    rw [valV_any, (r.val k).isSome_eq, Option.isSome_map]
  unfold putK storedH
  rw [e]
  by_cases q : (atKey xs k).isSome = true
  · rw [if_pos q, if_pos q]; exact r.repl k ry
  · rw [if_neg q, if_neg q]; exact Paired.snoc r ⟨rfl, hb, ry⟩
theorem KT.keeps {H H' : Hp} {kvs : List (List Key × V)} {xs : List (List Key × Addr × Value)} (r : KT H kvs xs) (ht : ∀ b ys, H b = some (.tup ys) → H' b = some (.tup ys)) : KT H' kvs xs :=
  Paired.mapP r fun _ _ z => ⟨z.1, ht _ _ z.2.1, z.2.2⟩

section
variable {P : Program} {w : World} {H : Hp} {h : Heap} {a : Addr}
end

noncomputable def DGet (H : Hp) (a : Addr) (y : V) (r : Option V) : Prop :=
  (∃ kvs k, Rd H a (.dK kvs) ∧ y = kV k ∧ r = valV kvs k) ∨ ∃ kvs k b, Rd H a (.dT kvs) ∧ y = .ref b ∧ H b = some (.tup (k.map kV)) ∧ r = valV kvs k
noncomputable def DPut (H : Hp) (a : Addr) (y v : V) (H' : Hp) : Prop :=
  (∃ kvs k, H a = some (.dK kvs) ∧ y = kV k ∧ kvs.length < sizeLine ∧ H' = upd H a (.dK (putK kvs k v))) ∨
  ∃ kvs k b, H a = some (.dT kvs) ∧ y = .ref b ∧ H b = some (.tup (k.map kV)) ∧ kvs.length < sizeLine ∧ H' = upd H a (.dT (putK kvs k v))
theorem DGet.k {H : Hp} {a : Addr} {kvs : List (Key × V)} {k : Key} (e : H a = some (.dK kvs)) : DGet H a (kV k) (valV kvs k) := .inl ⟨kvs, k, .inl e, rfl, rfl⟩
theorem DGet.t {H : Hp} {a b : Addr} {kvs : List (List Key × V)} {k : List Key} (e : H a = some (.dT kvs)) (eb : H b = some (.tup (k.map kV))) : DGet H a (.ref b) (valV kvs k) := .inr ⟨kvs, k, b, .inl e, rfl, eb, rfl⟩
theorem DPut.k {H : Hp} {a : Addr} {kvs : List (Key × V)} {k : Key} {v : V} (e : H a = some (.dK kvs)) (hl : kvs.length < sizeLine) : DPut H a (kV k) v (upd H a (.dK (putK kvs k v))) := .inl ⟨kvs, k, e, rfl, hl, rfl⟩
theorem DPut.t {H : Hp} {a b : Addr} {kvs : List (List Key × V)} {k : List Key} {v : V} (e : H a = some (.dT kvs)) (eb : H b = some (.tup (k.map kV))) (hl : kvs.length < sizeLine) :
    DPut H a (.ref b) v (upd H a (.dT (putK kvs k v))) := .inr ⟨kvs, k, b, e, rfl, eb, hl, rfl⟩


section
variable {X : Cx} {pins : List (Addr × Obj)} {σ : St} {H : Hp} {s : Shared} {a : Addr} {y v : V} {u r : Value} {o : Option V} {A : Around} {E : Value → Shared → Prop}

end

section
variable {X : Cx} {pins : List (Addr × Obj)} {σ : St} {H : Hp} {s : Shared} {a : Addr} {kvs : List (Key × V)} {k : Key} {u : Value} {A : Around} {E : Value → Shared → Prop}
end


section
variable {X : Cx} {o i e value : Expr} {pos pos' tpos : Pos} {td ty tv : TE}
end


section
variable {X : Cx} {pos : Pos}
end

structure M1 (X : Cx) (o : Expr) (m : Str) (apos : Pos) (e : Expr) (cpos : Pos) : Prop where
  base : attributeBase o m X.env (eval o X.env) = eval o X.env
  few : ((backTo cpos (starEach [e] X.env)).all (fun x => !x.1) && (backToKw cpos (keywordEach [] X.env)).all (fun x => x.1.isSome)
    && decide (([e] : List Expr).length + ([] : List Keyword).length + (if ([] : List Keyword).isEmpty then 0 else 1) < 30)) = true
  line : (apos.endLine == cpos.line) = true
  trees : backTo cpos (starEach [e] X.env) = [(false, eval e X.env)]
structure M2 (X : Cx) (o : Expr) (m : Str) (apos : Pos) (e f : Expr) (cpos : Pos) : Prop where
  base : attributeBase o m X.env (eval o X.env) = eval o X.env
  few : ((backTo cpos (starEach [e, f] X.env)).all (fun x => !x.1) && (backToKw cpos (keywordEach [] X.env)).all (fun x => x.1.isSome)
    && decide (([e, f] : List Expr).length + ([] : List Keyword).length + (if ([] : List Keyword).isEmpty then 0 else 1) < 30)) = true
  line : (apos.endLine == cpos.line) = true
  trees : backTo cpos (starEach [e, f] X.env) = [(false, eval e X.env), (false, eval f X.env)]

section
variable {X : Cx} {pins : List (Addr × Obj)} {σ : St} {H : Hp} {s : Shared} {a : Addr} {y d : V} {u r : Value} {o : Option V} {A : Around} {E : Value → Shared → Prop}
end

section
variable {X : Cx} {o e f : Expr} {apos cpos : Pos} {td ty tx : TE}
end

section
variable {X : Cx} {pins : List (Addr × Obj)} {σ : St} {H : Hp} {s : Shared} {a : Addr} {kvs : List (Key × V)} {A : Around} {E : Value → Shared → Prop}
end


section
variable {X : Cx} {pins : List (Addr × Obj)} {σ : St} {H : Hp} {s : Shared} {a : Addr} {y : V} {u : Value} {A : Around} {E : Value → Shared → Prop}
end
end L2

set_option Elab.async false
set_option linter.all false
set_option maxRecDepth 100000
set_option maxHeartbeats 1000000
namespace L2
open PySem PySem.Spec PyProof.Rows
section
variable {X : Cx} {pins : List (Addr × Obj)} {σ : St} {H : Hp} {s : Shared} {d : Addr} {kvs : List (Key × V)}
end
section
variable {X : Cx} {o e f : Expr} {apos cpos : Pos} {td ty tx : TE}
end
end L2

set_option Elab.async false
set_option linter.all false
set_option maxRecDepth 100000
set_option maxHeartbeats 4000000
namespace CW
open PySem L2
theorem nodup_inj {α β : Type} {f : α → β} : ∀ {l : List α}, (l.map f).Nodup → ∀ {x y : α}, x ∈ l → y ∈ l → f x = f y → x = y
  | [], _, _, _, hx, _, _ => by cases hx
  | z :: r, h, x, y, hx, hy, e => by
    rw [List.map_cons, List.nodup_cons] at h
    rcases List.mem_cons.mp hx with ex | hx'
    · rcases List.mem_cons.mp hy with ey | hy'
      · rw [ex, ey]
      · exact absurd (List.mem_map.mpr ⟨y, hy', by rw [← e, ex]⟩) h.1
    · rcases List.mem_cons.mp hy with ey | hy'
      · exact absurd (List.mem_map.mpr ⟨x, hx', by rw [e, ey]⟩) h.1
      · exact nodup_inj h.2 hx' hy' e
noncomputable abbrev Grp := Int × Addr × List Int
noncomputable def kvG (gs : List Grp) : List (Key × V) := gs.map fun g => ((Sum.inl g.1 : Key), V.ref g.2.1)
structure DG (H : Hp) (d : Addr) (gs : List Grp) : Prop where
  at_ : H d = some (.dK (kvG gs))
  lst : ∀ g ∈ gs, H g.2.1 = some (.lst (g.2.2.map V.int))
  adr : (gs.map (·.2.1)).Nodup
  key : (gs.map (·.1)).Nodup
noncomputable def SameD (d : Addr) (H H' : Hp) : Prop := ∀ b o, b ≠ d → H b = some o → H' b = some o
theorem SameD.trans {d : Addr} {H H1 H2 : Hp} (a : SameD d H H1) (b : SameD d H1 H2) : SameD d H H2 := fun c o n h => b c o n (a c o n h)
noncomputable def wgt (f : Int → Int) (gs : List Grp) : Int := (gs.map fun g => f g.1 * (g.2.2.length : Int)).sum
noncomputable def tot (f : Int → Int) (ps : List (Int × Int)) : Int := (ps.map fun p => f p.1).sum
theorem valV_kvG (k : Int) : ∀ gs : List Grp, valV (kvG gs) (Sum.inl k : Key) = (gs.find? fun g => decide (g.1 = k)).map fun g => V.ref g.2.1
  | [] => rfl
  | g :: r => by
    by_cases h : g.1 = k
    · have : valV (kvG (g :: r)) (Sum.inl k : Key) = some (V.ref g.2.1) := valV_pos (p := ((Sum.inl g.1 : Key), V.ref g.2.1)) (by rw [h])
      rw [this, List.find?_cons, decide_eq_true h]
      rfl
    · have : valV (kvG (g :: r)) (Sum.inl k : Key) = valV (kvG r) (Sum.inl k : Key) := valV_neg (p := ((Sum.inl g.1 : Key), V.ref g.2.1)) (fun z => h (Sum.inl.inj z))
      rw [this, List.find?_cons, decide_eq_false h]
      exact valV_kvG k r
noncomputable def grow (k o : Int) (gs : List Grp) : List Grp := gs.map fun g => if g.1 = k then (g.1, g.2.1, g.2.2 ++ [o]) else g
noncomputable def lesJ (j k : Int) : Int := if k < j then k else j
section
variable {P : Program} {w : World} {K : PySem.W.Frag} {mg : Str → Option Value} {base : Heap}
inductive spBySize (vs : List V) (H : Hp) (Q : VK) (E_ : XK) : Prop
  | mk (a : Addr) (ps : List (Int × Int)) (h0_ : vs = [.ref a]) (h1_ : LP H a ps) (h2_ : ps.length ≤ 60) (h3_ : ∀ (d : Addr) (gs : List Grp) (H' : Hp), H d = none → Same H H' → DG H' d gs → (∀ f, wgt f gs = tot f ps) → gs.length ≤ 60 → (∀ g ∈ gs, g.2.2.length ≤ 60) → Q (.ref d) H') : spBySize vs H Q E_
inductive spCrowdD (vs : List V) (H : Hp) (Q : VK) (E_ : XK) : Prop
  | mk (d : Addr) (gs : List Grp) (j : Int) (h0_ : vs = [.ref d, .int j]) (h1_ : DG H d gs) (h2_ : gs.length ≤ 60) (h3_ : (∀ g ∈ gs, g.2.2.length ≤ 60)) (h4_ : ∀ H', SameD d H H' → Q (.int (2 * wgt (lesJ j) gs)) H') : spCrowdD vs H Q E_
end
end CW

set_option Elab.async false
set_option linter.all false
set_option maxRecDepth 100000
set_option maxHeartbeats 1000000
namespace L2
open PySem PySem.Spec PyProof.Rows
end L2

set_option Elab.async false
set_option linter.all false
set_option maxRecDepth 100000
set_option maxHeartbeats 1000000
namespace L2
open PySem PySem.W PySem.Spec PyProof.Rows
section
variable {X : Cx}
end
end L2

set_option Elab.async false
set_option linter.all false
set_option maxRecDepth 100000
set_option maxHeartbeats 1000000
namespace L2
open PySem PySem.Spec PyProof.Rows
end L2

set_option Elab.async false
set_option linter.all false
set_option maxRecDepth 100000
set_option maxHeartbeats 1000000
namespace L2
open PySem PySem.Spec PyProof.Rows
section
open PySem.SeqAt
open PySem.AutoSeq1 (wpAny_loadPart')
open PySem.MeetsSeq PySem.MeetsSeq2 PySem.MeetsSeq3
end
section
variable {prog : Program} {w : World} {A : Around} {E : Value → Shared → Prop} {s : Shared}
end
noncomputable def Top (ps : List (Int × Int)) (i : Nat) (j : Nat) : Prop := j < i ∧ ∀ k, k < i → plt (ps.getD j (0, 0)) (ps.getD k (0, 0)) = false
theorem Top.keep {ps : List (Int × Int)} {i j : Nat} (h : Top ps i j) (g : plt (ps.getD j (0, 0)) (ps.getD i (0, 0)) = false) : Top ps (i + 1) j := ⟨Nat.lt_succ_of_lt h.1, fun k hk => by
  by_cases e : k = i
  · rw [e]; exact g
  · exact h.2 k (by omega)⟩
theorem Top.take {ps : List (Int × Int)} {i j : Nat} (h : Top ps i j) (g : plt (ps.getD j (0, 0)) (ps.getD i (0, 0)) = true) : Top ps (i + 1) i := ⟨Nat.lt_succ_self i, fun k hk => by
  by_cases e : k = i
  · rw [e, plt_not]; omega
  · have h1 := h.2 k (by omega)
    rw [plt_not] at h1 ⊢
    rw [plt_iff] at g
    omega⟩
section
variable {prog : Program} {w : World} {A : Around} {R : Result → Shared → Prop} {l it S : Addr} {its : List Value} {ps : List (Int × Int)}
theorem PairV.at {h h' : Heap} {v : Value} {p : Int × Int} (x : PairV h v p) (k : ∀ t o, v = .ref t → h.get? t = some o → o.cls = .type "tuple" → h'.get? t = some o) : PairV h' v p := by
  obtain ⟨t, o, n, k1, k2, e, ho, hc, hd⟩ := x
  exact ⟨t, o, n, k1, k2, e, k t o e ho hc, hc, hd⟩
end
end L2

set_option Elab.async false
set_option linter.all false
set_option maxRecDepth 100000
set_option maxHeartbeats 1000000
namespace L2
open PySem PySem.Spec PyProof.Rows
section
variable {X : Cx} {pins : List (Addr × Obj)} {σ : St} {H : Hp} {s : Shared}
end
end L2
namespace L2
open PySem PySem.Spec PyProof.Rows
end L2

set_option Elab.async false
set_option linter.all false
set_option maxRecDepth 100000
set_option maxHeartbeats 4000000
namespace CW
open PySem L2
noncomputable def StayG (d : Addr) (gs : List Grp) (H H' : Hp) : Prop := ∀ b o, b ≠ d → (∀ g ∈ gs, b ≠ g.2.1) → H b = some o → H' b = some o
noncomputable def pops (k : Int) (gs : List Grp) : List Grp := gs.map fun g => if g.1 = k then (g.1, g.2.1, g.2.2.dropLast) else g
noncomputable def outs (k : Int) (gs : List Grp) : List Grp := gs.filter fun g => decide (g.1 ≠ k)
theorem kvG_pops (k : Int) (gs : List Grp) : kvG (pops k gs) = kvG gs := by
  unfold kvG pops
  rw [List.map_map]
  refine List.map_congr_left fun g _ => ?_
  simp only [Function.comp]
  split <;> rfl
theorem adr_pops (k : Int) (gs : List Grp) : (pops k gs).map (·.2.1) = gs.map (·.2.1) := by
  unfold pops
  rw [List.map_map]
  refine List.map_congr_left fun g _ => ?_
  simp only [Function.comp]
  split <;> rfl
theorem key_pops (k : Int) (gs : List Grp) : (pops k gs).map (·.1) = gs.map (·.1) := by
  unfold pops
  rw [List.map_map]
  refine List.map_congr_left fun g _ => ?_
  simp only [Function.comp]
  split <;> rfl
theorem mem_pops {k : Int} {gs : List Grp} {g' : Grp} (h : g' ∈ pops k gs) : ∃ g ∈ gs, g'.2.1 = g.2.1 ∧ g'.1 = g.1 ∧ g'.2.2 = if g.1 = k then g.2.2.dropLast else g.2.2 := by
  obtain ⟨g, hg, rfl⟩ := List.mem_map.mp h
  refine ⟨g, hg, ?_⟩
  by_cases hk : g.1 = k
  · rw [if_pos hk, if_pos hk]; exact ⟨rfl, rfl, rfl⟩
  · rw [if_neg hk, if_neg hk]; exact ⟨rfl, rfl, rfl⟩
theorem DG.pops {H : Hp} {d : Addr} {gs : List Grp} (dg : DG H d gs) {g : Grp} (hg : g ∈ gs) : DG (upd H g.2.1 (.lst (g.2.2.dropLast.map V.int))) d (pops g.1 gs) := by
  have hnd : d ≠ g.2.1 := ne_of dg.at_ (dg.lst g hg) (by intro z; cases z)
  refine ⟨by rw [kvG_pops, upd_ne hnd]; exact dg.at_, fun g' hg' => ?_, by rw [adr_pops]; exact dg.adr, by rw [key_pops]; exact dg.key⟩
  obtain ⟨g0, h0, e1, e2, e3⟩ := mem_pops hg'
  rw [e1, e3]
  by_cases ha : g0.2.1 = g.2.1
  · have : g0 = g := nodup_inj (f := fun g : Grp => g.2.1) dg.adr h0 hg ha
    subst this
    rw [upd_same, if_pos rfl]
  · have hk : g0.1 ≠ g.1 := fun e => ha (by rw [nodup_inj (f := fun g : Grp => g.1) dg.key h0 hg e])
    rw [upd_ne ha, if_neg hk]
    exact dg.lst g0 h0
theorem kvG_outs (k : Int) : ∀ gs : List Grp, dropK (kvG gs) (Sum.inl k : Key) = kvG (outs k gs) := by
  intro gs
  unfold dropK kvG outs
  rw [List.filter_map]
  congr 1
  refine List.filter_congr fun g _ => ?_
  simp only [Function.comp, ne_eq, Sum.inl.injEq]
theorem DG.outs {H : Hp} {d : Addr} {gs : List Grp} (dg : DG H d gs) (k : Int) : DG (upd H d (.dK (dropK (kvG gs) (Sum.inl k : Key)))) d (outs k gs) := by
  refine ⟨by rw [upd_same, kvG_outs], fun g hg => ?_, ?_, ?_⟩
  · have hm := (List.mem_filter.mp hg).1
    rw [upd_ne (ne_of (dg.lst g hm) dg.at_ (by intro z; cases z))]
    exact dg.lst g hm
  · exact dg.adr.sublist (List.filter_sublist.map _)
  · exact dg.key.sublist (List.filter_sublist.map _)
theorem find_key {gs : List Grp} {g : Grp} (hk : (gs.map (·.1)).Nodup) (hg : g ∈ gs) : gs.find? (fun x => decide (x.1 = g.1)) = some g := by
  cases h : gs.find? (fun x => decide (x.1 = g.1)) with
  | none => exact absurd (List.find?_eq_none.mp h g hg) (by simp)
  | some x =>
    have h1 := List.mem_of_find?_eq_some h
    have h2 : x.1 = g.1 := by simpa using List.find?_some h
    rw [nodup_inj (f := fun g : Grp => g.1) hk h1 hg h2]
theorem DG.get {H : Hp} {d : Addr} {gs : List Grp} (dg : DG H d gs) {g : Grp} (hg : g ∈ gs) : DGet H d (.int g.1) (some (.ref g.2.1)) := by
  have h := DGet.k (k := (Sum.inl g.1 : Key)) dg.at_
  rw [valV_kvG, find_key dg.key hg] at h
  exact h
noncomputable def shr (k : Int) (gs : List Grp) : List Grp := if (pops k gs).any (fun g => decide (g.1 = k) && g.2.2.isEmpty) then outs k (pops k gs) else pops k gs
section
variable {P : Program} {w : World} {K : PySem.W.Frag} {mg : Str → Option Value} {base : Heap}
inductive spCrowdS (vs : List V) (H : Hp) (Q : VK) (E_ : XK) : Prop
  | mk (d : Addr) (gs : List Grp) (j : Int) (h0_ : vs = [.ref d, .int j]) (h1_ : DG H d gs) (h2_ : gs.length ≤ 60) (h3_ : (∀ g ∈ gs, g.2.2.length ≤ 60)) (h4_ : ∀ H', Same H H' → Q (.int (2 * wgt (lesJ j) gs)) H') : spCrowdS vs H Q E_
inductive spCrowds (vs : List V) (H : Hp) (Q : VK) (E_ : XK) : Prop
  | mk (d : Addr) (gs : List Grp) (h0_ : vs = [.ref d]) (h1_ : DG H d gs) (h2_ : gs.length ≤ 60) (h3_ : (∀ g ∈ gs, g.2.2.length ≤ 60)) (h4_ : ∀ (e : Addr) (kvs : List (Key × V)) (H' : Hp), H e = none → Same H H' → H' e = some (.dK kvs) → (∀ g ∈ gs, ∃ n : Int, valV kvs (Sum.inl g.1 : Key) = some (.int n)) → Q (.ref e) H') : spCrowds vs H Q E_
inductive spDropLast (vs : List V) (H : Hp) (Q : VK) (E_ : XK) : Prop
  | mk (d : Addr) (gs : List Grp) (g : Grp) (h0_ : vs = [.ref d, .int g.1]) (h1_ : DG H d gs) (h2_ : g ∈ gs) (h3_ : g.2.2 ≠ []) (h4_ : ∀ H', StayG d gs H H' → DG H' d (shr g.1 gs) → Q .non H') : spDropLast vs H Q E_
inductive spAddTrain (vs : List V) (H : Hp) (Q : VK) (E_ : XK) : Prop
  | mk (d : Addr) (gs : List Grp) (k p : Int) (h0_ : vs = [.ref d, .int k, .int p]) (h1_ : DG H d gs) (h2_ : gs.length ≤ 60) (h3_ : (∀ g ∈ gs, g.2.2.length ≤ 60)) (h4_ : ∀ (o : Int) (gs' : List Grp) (H' : Hp), StayG d gs H H' → DG H' d gs' → ((∃ g ∈ gs, g.1 = k) ∧ gs' = grow k o gs ∨ (∀ g ∈ gs, g.1 ≠ k) ∧ ∃ z, H z = none ∧ gs' = gs ++ [(k, z, [o])]) → Q .non H') : spAddTrain vs H Q E_
end
end CW

set_option Elab.async false
set_option linter.all false
set_option maxRecDepth 100000
set_option maxHeartbeats 4000000
namespace CW
open PySem L2
noncomputable def GoodG (gs : List Grp) : Prop := ∀ g ∈ gs, 1 ≤ g.1 ∧ g.2.2 ≠ []
noncomputable def sto (gs : List Grp) : Int := wgt (fun k => k) gs
theorem wgt_cons (f : Int → Int) (g : Grp) (r : List Grp) : wgt f (g :: r) = f g.1 * (g.2.2.length : Int) + wgt f r := by simp [wgt]
theorem GoodG.tail {g : Grp} {r : List Grp} (h : GoodG (g :: r)) : GoodG r := fun x hx => h x (List.mem_cons_of_mem _ hx)
theorem GoodG.one {g : Grp} {r : List Grp} (h : GoodG (g :: r)) : (g.2.2.length : Int) ≤ g.1 * (g.2.2.length : Int) ∧ 1 ≤ (g.2.2.length : Int) := by
  obtain ⟨h1, h2⟩ := h g List.mem_cons_self
  have h3 : 0 < g.2.2.length := List.length_pos_iff.mpr h2
  refine ⟨?_, by omega⟩
  have := Int.mul_le_mul_of_nonneg_right h1 (show (0 : Int) ≤ (g.2.2.length : Int) by omega)
  omega
theorem GoodG.bound : ∀ {gs : List Grp}, GoodG gs → (gs.length : Int) ≤ sto gs ∧ ∀ g ∈ gs, (g.2.2.length : Int) ≤ sto gs
  | [], _ => ⟨Int.le_refl _, fun g hg => (nomatch hg)⟩
  | g :: r, h => by
    obtain ⟨a, b⟩ := GoodG.bound h.tail
    obtain ⟨c, d⟩ := h.one
    unfold sto at a b ⊢
    rw [wgt_cons]
    refine ⟨by simp only [List.length_cons]; omega, fun x hx => ?_⟩
    rcases List.mem_cons.mp hx with e | hx
    · rw [e]; omega
    · have := b x hx; omega
theorem GoodG.shr {gs : List Grp} (h : GoodG gs) (k : Int) : GoodG (shr k gs) := by
  have hp : ∀ x ∈ pops k gs, 1 ≤ x.1 ∧ (x.1 ≠ k → x.2.2 ≠ []) := fun x hx => by
    obtain ⟨g, hg, e1, e2, e3⟩ := mem_pops hx
    obtain ⟨h1, h2⟩ := h g hg
    refine ⟨by rw [e2]; exact h1, fun n => ?_⟩
    rw [e3, if_neg (by rw [← e2]; exact n)]
    exact h2
  intro x hx
  unfold CW.shr at hx
  split at hx
  · obtain ⟨h1, h2⟩ := List.mem_filter.mp hx
    exact ⟨(hp x h1).1, (hp x h1).2 (by simpa using h2)⟩
  · next hn =>
    refine ⟨(hp x hx).1, fun e => ?_⟩
    by_cases hk : x.1 = k
    · exact hn (List.any_eq_true.mpr ⟨x, hx, by simp [hk, e]⟩)
    · exact (hp x hx).2 hk e
noncomputable def Puts (H : Hp) (k o : Int) (gs gs' : List Grp) : Prop := (∃ g ∈ gs, g.1 = k) ∧ gs' = grow k o gs ∨ (∀ g ∈ gs, g.1 ≠ k) ∧ ∃ z, H z = none ∧ gs' = gs ++ [(k, z, [o])]
theorem GoodG.puts {H : Hp} {k o : Int} {gs gs' : List Grp} (g : GoodG gs) (hk : 1 ≤ k) (h : Puts H k o gs gs') : GoodG gs' := by
  rcases h with ⟨hg, rfl⟩ | ⟨_, z, _, rfl⟩
  · intro x hx
    obtain ⟨g0, h0, rfl⟩ := List.mem_map.mp hx
    obtain ⟨h1, h2⟩ := g g0 h0
    by_cases e : g0.1 = k
    · rw [if_pos e]; exact ⟨h1, by simp⟩
    · rw [if_neg e]; exact ⟨h1, h2⟩
  · intro x hx
    rcases List.mem_append.mp hx with hx | hx
    · exact g x hx
    · rw [List.mem_singleton.mp hx]; exact ⟨hk, by simp⟩
end CW
namespace CW
open PySem L2
section
variable {P : Program} {w : World} {K : PySem.W.Frag} {mg : Str → Option Value} {base : Heap}
inductive spBySizeN (vs : List V) (H : Hp) (Q : VK) (E_ : XK) : Prop
  | mk (a : Addr) (ps : List (Int × Int)) (h0_ : vs = [.ref a]) (h1_ : LP H a ps) (h2_ : ps.length ≤ 60) (h3_ : ∀ (d : Addr) (gs : List Grp) (H' : Hp), H d = none → Same H H' → DG H' d gs → (∀ f, wgt f gs = tot f ps) → (∀ g ∈ gs, g.2.2 ≠ [] ∧ H g.2.1 = none) → Q (.ref d) H') : spBySizeN vs H Q E_
inductive rowW (H0 : Hp) (a d r : Addr) (m : Nat) (σ : St) (Hx : Hp) : Prop
  | mk (gs : List Grp) (row : List Int) (v3 v4 v5 v6 : Option V) (h0_ : σ = [some (.ref a), some (.ref d), some (.ref r), v3, v4, v5, v6]) (h1_ : Same H0 Hx) (h2_ : DG Hx d gs) (h3_ : GoodG gs) (h4_ : Hx r = some (.lst (row.map V.int))) (h5_ : (∀ g ∈ gs, H0 g.2.1 = none ∧ g.2.1 ≠ r)) (h6_ : sto gs = (m : Int)) (h7_ : m + row.length ≤ 60) : rowW H0 a d r m σ Hx
inductive spRowOf (vs : List V) (H : Hp) (Q : VK) (E_ : XK) : Prop
  | mk (a : Addr) (ps : List (Int × Int)) (h0_ : vs = [.ref a]) (h1_ : LP H a ps) (h2_ : Trn ps) (h3_ : ∀ (b : Addr) (H' : Hp), Same H H' → Q (.ref b) H') : spRowOf vs H Q E_
end
end CW
namespace CW
open PySem L2
theorem StayG.same {H H1 H2 : Hp} {d r : Addr} {gs : List Grp} (st : StayG d gs H1 H2) (sm : Same H H1) (hd : H d = none) (hfr : ∀ g ∈ gs, H g.2.1 = none ∧ g.2.1 ≠ r) : Same H H2 := fun b o e =>
  st b o (fun z => by rw [z, hd] at e; cases e) (fun g hg z => by rw [z, (hfr g hg).1] at e; cases e) (sm b o e)
end CW

set_option Elab.async false
set_option linter.all false
set_option maxHeartbeats 4000000
namespace CW
noncomputable abbrev Trs := List (Int × Int)
noncomputable def les (ps : Trs) (j : Int) : Int := (ps.map fun q => min j q.1).sum
theorem les_cons (q : Int × Int) (ps : Trs) (j : Int) : les (q :: ps) j = min j q.1 + les ps j := by simp [les]
theorem les_perm {ps qs : Trs} (h : ps.Perm qs) (j : Int) : les ps j = les qs j := by
  unfold les
  induction h with
  | nil => rfl
  | cons x _ ih => simp only [List.map_cons, List.sum_cons]; omega
  | swap x y l => simp only [List.map_cons, List.sum_cons]; omega
  | trans _ _ h1 h2 => exact h1.trans h2
noncomputable def Bd (ps : Trs) (n : Int) : Prop := ∀ q ∈ ps, 1 ≤ q.1 ∧ q.2 + 2 * les ps q.1 ≤ n
theorem Bd.perm {ps qs : Trs} {n : Int} (h : Bd ps n) (e : ps.Perm qs) : Bd qs n := fun q hq => by
  have := h q (e.mem_iff.mpr hq)
  rw [les_perm e] at this
  exact this
theorem Bd.mono {ps : Trs} {n m : Int} (h : Bd ps n) (e : n ≤ m) : Bd ps m := fun q hq => ⟨(h q hq).1, Int.le_trans (h q hq).2 e⟩
noncomputable def Add (ps : Trs) (p : Int) (qs : Trs) : Prop := ∃ (s : Int) (rest : Trs), 0 ≤ s ∧ (s = 0 ∧ ps.Perm rest ∨ 1 ≤ s ∧ ps.Perm ((s, p - 1 - 2 * les ps s) :: rest)) ∧ (∀ q ∈ ps, s < q.1 → q.2 + 2 * les ps q.1 ≠ p - 1) ∧ qs.Perm ((s + 1, p - 2 * les rest (s + 1) - 2 * (s + 1)) :: rest)
theorem Add.perm {ps ps' qs qs' : Trs} {p : Int} (h : Add ps p qs) (e : ps.Perm ps') (f : qs.Perm qs') : Add ps' p qs' := by
  obtain ⟨s, rest, h0, h1, h2, h3⟩ := h
  refine ⟨s, rest, h0, ?_, fun q hq hs => ?_, f.symm.trans h3⟩
  · rcases h1 with ⟨a, b⟩ | ⟨a, b⟩
    · exact .inl ⟨a, e.symm.trans b⟩
    · refine .inr ⟨a, ?_⟩
      rw [← les_perm e]
      exact e.symm.trans b
  · rw [← les_perm e]
    exact h2 q (e.mem_iff.mpr hq) hs
theorem Add.uniq {ps qs qs' : Trs} {p : Int} (h : Add ps p qs) (h' : Add ps p qs') : qs.Perm qs' := by
  obtain ⟨s, rest, h0, h1, h2, h3⟩ := h
  obtain ⟨s', rest', h0', h1', h2', h3'⟩ := h'
  have hs : s = s' := by
    rcases h1 with ⟨a, b⟩ | ⟨a, b⟩ <;> rcases h1' with ⟨a', b'⟩ | ⟨a', b'⟩
    · omega
    · exact absurd (show (p - 1 - 2 * les ps s') + 2 * les ps s' = p - 1 by omega) (h2 _ (b'.mem_iff.mpr List.mem_cons_self) (show s < s' by omega))
    · exact absurd (show (p - 1 - 2 * les ps s) + 2 * les ps s = p - 1 by omega) (h2' _ (b.mem_iff.mpr List.mem_cons_self) (show s' < s by omega))
    · rcases Int.lt_trichotomy s s' with l | l | l
      · exact absurd (show (p - 1 - 2 * les ps s') + 2 * les ps s' = p - 1 by omega) (h2 _ (b'.mem_iff.mpr List.mem_cons_self) l)
      · exact l
      · exact absurd (show (p - 1 - 2 * les ps s) + 2 * les ps s = p - 1 by omega) (h2' _ (b.mem_iff.mpr List.mem_cons_self) l)
  subst hs
  have hr : rest.Perm rest' := by
    rcases h1 with ⟨a, b⟩ | ⟨a, b⟩ <;> rcases h1' with ⟨a', b'⟩ | ⟨a', b'⟩
    · exact b.symm.trans b'
    · omega
    · omega
    · exact List.Perm.cons_inv (b.symm.trans b')
  refine h3.trans (List.Perm.trans ?_ h3'.symm)
  rw [les_perm hr]
  exact hr.cons _
theorem Add.bd {ps qs : Trs} {p : Int} (h : Add ps p qs) (b : Bd ps (p - 1)) : Bd qs p := by
  obtain ⟨s, rest, h0, h1, h2, h3⟩ := h
  have hl : ∀ j, 1 ≤ j → les qs j = les ps j + if s < j then 1 else 0 := fun j hj => by
    rw [les_perm h3, les_cons]
    rcases h1 with ⟨a, b⟩ | ⟨a, b⟩
    · rw [les_perm b]
      simp only
      split <;> omega
    · rw [les_perm b, les_cons]
      simp only
      split <;> omega
  intro q hq
  rcases List.mem_cons.mp (h3.mem_iff.mp hq) with rfl | hq
  · refine ⟨show 1 ≤ s + 1 by omega, ?_⟩
    have : les qs (s + 1) = s + 1 + les rest (s + 1) := by
      rw [les_perm h3, les_cons]
      simp only
      omega
    show (p - 2 * les rest (s + 1) - 2 * (s + 1)) + 2 * les qs (s + 1) ≤ p
    omega
  · have hm : q ∈ ps := by
      rcases h1 with ⟨_, e⟩ | ⟨_, e⟩
      · exact e.mem_iff.mpr hq
      · exact e.mem_iff.mpr (List.mem_cons_of_mem _ hq)
    obtain ⟨b1, b2⟩ := b q hm
    refine ⟨b1, ?_⟩
    have := h2 q hm
    rw [hl q.1 b1]
    split <;> omega
noncomputable def Tak (ps : Trs) (p : Int) (qs : Trs) : Prop := ∃ (s : Int) (rest : Trs), 1 ≤ s ∧ ps.Perm ((s, p - 2 * les ps s) :: rest) ∧ (∀ q ∈ ps, q.2 + 2 * les ps q.1 ≤ p) ∧ (∀ q ∈ ps, q.1 < s → q.2 + 2 * les ps q.1 < p) ∧
  (s = 1 ∧ qs.Perm rest ∨ 2 ≤ s ∧ qs.Perm ((s - 1, p - 1 - 2 * les rest (s - 1) - 2 * (s - 1)) :: rest))
theorem Tak.add {ps qs : Trs} {p : Int} (h : Tak ps p qs) (hp : ∀ q ∈ ps, 1 ≤ q.1) : Bd qs (p - 1) ∧ Add qs p ps := by
  obtain ⟨s, rest, h0, h1, h2, h3, h4⟩ := h
  have hl : ∀ j, 0 ≤ j → les ps j = les qs j + if s ≤ j then 1 else 0 := fun j hj => by
    rw [les_perm h1, les_cons]
    rcases h4 with ⟨a, b⟩ | ⟨a, b⟩
    · rw [les_perm b]; simp only; split <;> omega
    · rw [les_perm b, les_cons]; simp only; split <;> omega
  have hold : ∀ q ∈ rest, 1 ≤ q.1 ∧ q.2 + 2 * les qs q.1 ≤ p - 1 ∧ (s ≤ q.1 → q.2 + 2 * les qs q.1 ≤ p - 2) := fun q hq => by
    have hm : q ∈ ps := h1.mem_iff.mpr (List.mem_cons_of_mem _ hq)
    have a1 := hp q hm
    have a2 := h2 q hm
    have a3 := h3 q hm
    have a4 := hl q.1 (by omega)
    refine ⟨a1, ?_, fun hs => ?_⟩
    · by_cases hs : s ≤ q.1
      · rw [if_pos hs] at a4; omega
      · rw [if_neg hs] at a4; have := a3 (by omega); omega
    · rw [if_pos hs] at a4; omega
  have hnew : 2 ≤ s → les qs (s - 1) = (s - 1) + les rest (s - 1) := fun h => by
    rcases h4 with ⟨a, b⟩ | ⟨a, b⟩
    · omega
    · rw [les_perm b, les_cons]; simp only; omega
  refine ⟨fun q hq => ?_, s - 1, rest, by omega, ?_, fun q hq hs => ?_, ?_⟩
  · rcases h4 with ⟨a, b⟩ | ⟨a, b⟩
    · have := hold q (b.mem_iff.mp hq); exact ⟨this.1, this.2.1⟩
    · rcases List.mem_cons.mp (b.mem_iff.mp hq) with rfl | hq
      · refine ⟨show 1 ≤ s - 1 by omega, ?_⟩
        have := hnew a
        show (p - 1 - 2 * les rest (s - 1) - 2 * (s - 1)) + 2 * les qs (s - 1) ≤ p - 1
        omega
      · have := hold q hq; exact ⟨this.1, this.2.1⟩
  · rcases h4 with ⟨a, b⟩ | ⟨a, b⟩
    · exact .inl ⟨by omega, b⟩
    · refine .inr ⟨by omega, ?_⟩
      have e : p - 1 - 2 * les qs (s - 1) = p - 1 - 2 * les rest (s - 1) - 2 * (s - 1) := by have := hnew a; omega
      rw [e]
      exact b
  · have hq' : q ∈ rest := by
      rcases h4 with ⟨a, b⟩ | ⟨a, b⟩
      · exact b.mem_iff.mp hq
      · rcases List.mem_cons.mp (b.mem_iff.mp hq) with rfl | hq
        · exact absurd hs (by show ¬ (s - 1 < s - 1); omega)
        · exact hq
    have := (hold q hq').2.2 (by omega)
    omega
  · have e : s - 1 + 1 = s := by omega
    rw [e]
    have e2 : p - 2 * les rest s - 2 * s = p - 2 * les ps s := by rw [les_perm h1, les_cons]; simp only; omega
    rw [e2]
    exact h1
theorem Add.tak {ps qs : Trs} {p : Int} (h : Add ps p qs) (b : Bd ps (p - 1)) : Tak qs p ps := by
  have hb := h.bd b
  obtain ⟨s, rest, h0, h1, h2, h3⟩ := h
  have hl : ∀ j, 0 ≤ j → les qs j = les ps j + if s < j then 1 else 0 := fun j hj => by
    rw [les_perm h3, les_cons]
    rcases h1 with ⟨a, b⟩ | ⟨a, b⟩
    · rw [les_perm b]; simp only; split <;> omega
    · rw [les_perm b, les_cons]; simp only; split <;> omega
  have e2 : p - 2 * les qs (s + 1) = p - 2 * les rest (s + 1) - 2 * (s + 1) := by rw [les_perm h3, les_cons]; simp only; omega
  refine ⟨s + 1, rest, by omega, by rw [e2]; exact h3, fun q hq => (hb q hq).2, fun q hq hs => ?_, ?_⟩
  · rcases List.mem_cons.mp (h3.mem_iff.mp hq) with rfl | hq
    · exact absurd hs (by show ¬ (s + 1 < s + 1); omega)
    · have hm : q ∈ ps := by
        rcases h1 with ⟨_, e⟩ | ⟨_, e⟩
        · exact e.mem_iff.mpr hq
        · exact e.mem_iff.mpr (List.mem_cons_of_mem _ hq)
      obtain ⟨b1, b2⟩ := b q hm
      have := hl q.1 (by omega)
      rw [if_neg (by omega)] at this
      omega
  · rcases h1 with ⟨a, e⟩ | ⟨a, e⟩
    · exact .inl ⟨by omega, e⟩
    · refine .inr ⟨by omega, ?_⟩
      have e3 : s + 1 - 1 = s := by omega
      rw [e3]
      have e4 : p - 1 - 2 * les rest s - 2 * s = p - 1 - 2 * les ps s := by rw [les_perm e, les_cons]; simp only; omega
      rw [e4]
      exact e
theorem Tak.uniq {ps ps' qs qs' : Trs} {p p' : Int} (h : Tak ps p qs) (h' : Tak ps' p' qs') (e : ps.Perm ps') : p = p' ∧ qs.Perm qs' := by
  obtain ⟨s, rest, h0, h1, h2, h3, h4⟩ := h
  obtain ⟨s', rest', h0', h1', h2', h3', h4'⟩ := h'
  have m1 : (s, p - 2 * les ps s) ∈ ps := h1.mem_iff.mpr List.mem_cons_self
  have m2 : (s', p' - 2 * les ps' s') ∈ ps' := h1'.mem_iff.mpr List.mem_cons_self
  have a1 := h2' _ (e.mem_iff.mp m1)
  have a2 := h2 _ (e.mem_iff.mpr m2)
  have l1 := les_perm e s
  have l2 := les_perm e s'
  simp only at a1 a2
  have hp : p = p' := by omega
  subst hp
  have b1 := h3' _ (e.mem_iff.mp m1)
  have b2 := h3 _ (e.mem_iff.mpr m2)
  simp only at b1 b2
  have hs : s = s' := by
    rcases Int.lt_trichotomy s s' with l | l | l
    · have := b1 l; omega
    · exact l
    · have := b2 l; omega
  subst hs
  rw [← l1] at h1'
  have hr : rest.Perm rest' := List.Perm.cons_inv ((h1.symm.trans e).trans h1')
  refine ⟨rfl, ?_⟩
  rcases h4 with ⟨a, b⟩ | ⟨a, b⟩ <;> rcases h4' with ⟨a', b'⟩ | ⟨a', b'⟩
  · exact b.trans (hr.trans b'.symm)
  · omega
  · omega
  · refine b.trans (List.Perm.trans ?_ b'.symm)
    rw [les_perm hr]
    exact hr.cons _
inductive Lst : List Int → Trs → Prop
  | nil : Lst [] []
  | snoc {r : List Int} {ps : Trs} {p : Int} {qs : Trs} : Lst r ps → (∀ x ∈ r, x < p) → Add ps p qs → Lst (r ++ [p]) qs
theorem Add.ne {ps qs : Trs} {p : Int} (h : Add ps p qs) : qs ≠ [] := by
  obtain ⟨s, rest, _, _, _, h3⟩ := h
  intro e
  rw [e] at h3
  exact absurd h3.symm.eq_nil (by simp)
theorem Lst.perm {r : List Int} {ps qs : Trs} (h : Lst r ps) (e : ps.Perm qs) : Lst r qs := by
  cases h with
  | nil => rw [e.symm.eq_nil]; exact .nil
  | snoc a b c => exact .snoc a b (c.perm (.refl _) e)
theorem Lst.inv {r : List Int} {p : Int} {qs : Trs} (h : Lst (r ++ [p]) qs) : ∃ ps, Lst r ps ∧ (∀ x ∈ r, x < p) ∧ Add ps p qs := by
  generalize e : r ++ [p] = t at h
  cases h with
  | nil => simp at e
  | snoc a b c =>
    obtain ⟨rfl, e2⟩ := List.append_inj' e rfl
    obtain rfl : p = _ := by simpa using e2
    exact ⟨_, a, b, c⟩
theorem Lst.nilr {qs : Trs} (h : Lst [] qs) : qs = [] := by
  generalize e : ([] : List Int) = t at h
  cases h with
  | nil => rfl
  | snoc a b c => simp at e
theorem Lst.bd {r : List Int} {ps : Trs} (h : Lst r ps) {n : Int} : (∀ x ∈ r, x ≤ n) → Bd ps n := by
  induction h generalizing n with
  | nil => intro _ q hq; cases hq
  | snoc a b c ih =>
    intro hn
    rename_i r ps p qs
    have hp : p ≤ n := hn p (by simp)
    have := ih (n := p - 1) fun x hx => by have := b x hx; omega
    exact (c.bd this).mono hp
theorem Lst.uniq {r : List Int} {ps qs : Trs} (h : Lst r ps) (h' : Lst r qs) : ps.Perm qs := by
  induction h generalizing qs with
  | nil => rw [h'.nilr]
  | snoc a b c ih =>
    obtain ⟨ps', a', b', c'⟩ := h'.inv
    exact (c.perm (ih a') (.refl _)).uniq c'
theorem Lst.row {r : List Int} {ps : Trs} (h : Lst r ps) {r' : List Int} {qs : Trs} (h' : Lst r' qs) (e : ps.Perm qs) : r = r' := by
  induction h generalizing r' qs with
  | nil =>
    cases h' with
    | nil => rfl
    | snoc a b c => exact absurd e.symm.eq_nil c.ne
  | snoc a b c ih =>
    cases h' with
    | nil => exact absurd e.eq_nil c.ne
    | snoc a' b' c' =>
      rename_i r ps p qs r' ps' p'
      have bd := a.bd (n := p - 1) fun x hx => by have := b x hx; omega
      have bd' := a'.bd (n := p' - 1) fun x hx => by have := b' x hx; omega
      obtain ⟨rfl, e2⟩ := (c.tak bd).uniq (c'.tak bd') e
      rw [ih a' e2]
theorem Lst.tak {r : List Int} {ps qs : Trs} {p : Int} (h : Lst r qs) (t : Tak ps p qs) (hp : ∀ q ∈ ps, 1 ≤ q.1) (hr : ∀ x ∈ r, x < p) : Lst (r ++ [p]) ps := .snoc h hr (t.add hp).2
noncomputable def siz (ps : Trs) : Int := (ps.map (·.1)).sum
theorem siz_perm {ps qs : Trs} (h : ps.Perm qs) : siz ps = siz qs := by
  unfold siz
  induction h with
  | nil => rfl
  | cons x _ ih => simp only [List.map_cons, List.sum_cons]; omega
  | swap x y l => simp only [List.map_cons, List.sum_cons]; omega
  | trans _ _ h1 h2 => exact h1.trans h2
theorem siz_cons (q : Int × Int) (ps : Trs) : siz (q :: ps) = q.1 + siz ps := by simp [siz]
theorem Add.sizx {ps qs : Trs} {p : Int} (h : Add ps p qs) : siz qs = siz ps + 1 := by
  obtain ⟨s, rest, h0, h1, h2, h3⟩ := h
  rw [siz_perm h3, siz_cons]
  rcases h1 with ⟨a, b⟩ | ⟨a, b⟩
  · rw [siz_perm b]; simp only; omega
  · rw [siz_perm b, siz_cons]; simp only; omega
theorem Lst.sizx {r : List Int} {ps : Trs} (h : Lst r ps) : siz ps = (r.length : Int) := by
  induction h with
  | nil => rfl
  | snoc a b c ih => rw [c.sizx, ih]; simp
theorem Lst.pos {r : List Int} {ps : Trs} (h : Lst r ps) : ∀ q ∈ ps, 1 ≤ q.1 := by
  obtain ⟨n, hn⟩ : ∃ n : Int, ∀ x ∈ r, x ≤ n := by
    clear h
    induction r with
    | nil => exact ⟨0, fun x hx => (nomatch hx)⟩
    | cons a r ih =>
      obtain ⟨n, hn⟩ := ih
      refine ⟨max a n, fun x hx => ?_⟩
      rcases List.mem_cons.mp hx with rfl | hx
      · omega
      · have := hn x hx; omega
  exact fun q hq => (h.bd hn q hq).1
end CW

set_option Elab.async false
set_option linter.all false
set_option maxRecDepth 100000
set_option maxHeartbeats 4000000
namespace CW
open PySem L2
noncomputable def flat (gs : List Grp) : Trs := gs.flatMap fun g => g.2.2.map fun o => (g.1, o)
theorem mem_flat {gs : List Grp} {q : Int × Int} : q ∈ flat gs ↔ ∃ g ∈ gs, g.1 = q.1 ∧ q.2 ∈ g.2.2 := by
  unfold flat
  rw [List.mem_flatMap]
  constructor
  · rintro ⟨g, hg, h⟩
    obtain ⟨o, ho, rfl⟩ := List.mem_map.mp h
    exact ⟨g, hg, rfl, ho⟩
  · rintro ⟨g, hg, h1, h2⟩
    exact ⟨g, hg, List.mem_map.mpr ⟨q.2, h2, by rw [h1]⟩⟩
noncomputable def Asc (gs : List Grp) : Prop := ∀ g ∈ gs, g.2.2.Pairwise (· ≤ ·)
theorem Asc.last {gs : List Grp} (h : Asc gs) {g : Grp} (hg : g ∈ gs) (hne : g.2.2 ≠ []) {o : Int} (ho : o ∈ g.2.2) : o ≤ g.2.2.getLast hne := by
  have hp := h g hg
  rw [← List.dropLast_concat_getLast hne] at ho hp
  rcases List.mem_append.mp ho with h1 | h1
  · exact (List.pairwise_append.mp hp).2.2 o h1 _ (by simp)
  · rw [List.mem_singleton.mp h1]; exact Int.le_refl _
theorem Asc.shr {gs : List Grp} (h : Asc gs) (k : Int) : Asc (shr k gs) := by
  have hp : Asc (pops k gs) := fun x hx => by
    obtain ⟨g, hg, e1, e2, e3⟩ := mem_pops hx
    rw [e3]
    split
    · exact (h g hg).sublist (List.dropLast_sublist _)
    · exact h g hg
  intro x hx
  unfold CW.shr at hx
  split at hx
  · exact hp x (List.mem_filter.mp hx).1
  · exact hp x hx
theorem Asc.puts {H : Hp} {k o : Int} {gs gs' : List Grp} (h : Asc gs) (hp : Puts H k o gs gs') (hle : ∀ q ∈ flat gs, q.1 = k → q.2 ≤ o) : Asc gs' := by
  rcases hp with ⟨hg, rfl⟩ | ⟨_, z, _, rfl⟩
  · intro x hx
    obtain ⟨g0, h0, rfl⟩ := List.mem_map.mp hx
    by_cases e : g0.1 = k
    · rw [if_pos e]
      refine List.pairwise_append.mpr ⟨h g0 h0, by simp, fun a ha b hb => ?_⟩
      rw [List.mem_singleton.mp hb]
      exact hle (g0.1, a) (mem_flat.mpr ⟨g0, h0, rfl, ha⟩) e
    · rw [if_neg e]; exact h g0 h0
  · intro x hx
    rcases List.mem_append.mp hx with hx | hx
    · exact h x hx
    · rw [List.mem_singleton.mp hx]; simp
end CW

set_option Elab.async false
set_option linter.all false
set_option maxRecDepth 100000
set_option maxHeartbeats 4000000
namespace L2
open PySem PySem.Spec PyProof.Rows
end L2

namespace L2
open PySem PySem.Spec PyProof.Rows
section
variable {X : Cx} {pins : List (Addr × Obj)} {σ : St} {inn : Scope} {js : List Nat} {cs ts : List Str} {nt lo : Nat} {elt tg iter t2 i2 : Expr} {ifs f2 : List Expr} {pos : Pos} {g g2 : TG} {tt tt2 : TT} {te : TE} {wi wi2 : TI}
end
end L2

set_option Elab.async false
set_option linter.all false
set_option maxRecDepth 100000
set_option maxHeartbeats 4000000
namespace L2
open PySem PySem.Spec PyProof.Rows
theorem pi_listK {X : Cx} {tg : Expr} (K : PySem.W.Frag) (h : X.K = K) {l : Expr} {tl : TE} (hl : PE X l tl) : PI X tg l (iList K tl) := h ▸ pi_list hl
noncomputable def tSeqO (t u : TS) : TS := fun D σ H => ∀ M : St → Hp → Prop, (∀ σ' H', u D σ' H' → M σ' H') → t { D with nx := M } σ H
theorem pss_consO {X : Cx} {st : Stmt} {rest : List Stmt} {t u : TS} (h1 : PS X st t) (h2 : PSs X rest u) : PSs X (st :: rest) (tSeqO t u) := fun pins s σ H D I h => pss_cons h1 h2 pins s σ H D I (h (u D) fun _ _ z => z)
end L2
namespace L2
open PySem
end L2

set_option Elab.async false
set_option linter.all false
set_option maxRecDepth 100000
set_option maxHeartbeats 1000000
namespace L2
open PySem PySem.Spec PyProof.Rows PySem.SeqAt PySem.MeetsSeq
open PySem.AutoSeq1 (wpAny_loadPart')
theorem PairV.inj {h : Heap} {v : Value} {p q : Int × Int} (a : PairV h v p) (b : PairV h v q) : p = q := by
  obtain ⟨t, o, n, k1, k2, rfl, ho, _, hd⟩ := a
  obtain ⟨t', o', n', k1', k2', e, ho', _, hd'⟩ := b
  cases e
  rw [ho] at ho'
  cases ho'
  rw [hd] at hd'
  obtain ⟨p1, p2⟩ := p
  obtain ⟨q1, q2⟩ := q
  simp only [Data.seq.injEq, Array.mk.injEq, List.cons.injEq, Value.int.injEq, and_true] at hd'
  obtain ⟨⟨⟨rfl, _⟩, rfl, _⟩, _⟩ := hd'
  rfl
theorem EqAt.pairs {A : Around} {s : Shared} {x y : Value} {p q : Int × Int} (hx : PairV s.heap x p) (hy : PairV s.heap y q) (hu : A.units + 1 < cLine) : EqAt A s x y (decide (p = q)) := by
  obtain ⟨t, o, n, k1, k2, rfl, ho, hc, hd⟩ := id hx
  obtain ⟨t', o', n', k1', k2', rfl, ho', hc', hd'⟩ := id hy
  by_cases ht : t = t'
  · subst ht
    have : p = q := hx.inj hy
    rw [decide_eq_true this]
    exact EqAt.same _
  · refine EqAt.of_refs ht ?_
    have h := RcAt.tuples (A := A) (s := s) (l := t) (b := t') (e := fun j => if j = 0 then p.1 == q.1 else p.2 == q.2) ⟨o, ho, hc, n, hd⟩ ⟨o', ho', hc', n', hd'⟩ (by omega) fun j h1 h2 => ?_
    · have e : ((List.range (min (#[Value.int p.1 k1, Value.int p.2 k2] : Array Value).size (#[Value.int q.1 k1', Value.int q.2 k2'] : Array Value).size)).all (fun j => if j = 0 then p.1 == q.1 else p.2 == q.2) && (#[Value.int p.1 k1, Value.int p.2 k2] : Array Value).size == (#[Value.int q.1 k1', Value.int q.2 k2'] : Array Value).size) = decide (p = q) := by
        show ((p.1 == q.1) && ((p.2 == q.2) && true) && true) = decide (p = q)
        obtain ⟨p1, p2⟩ := p
        obtain ⟨q1, q2⟩ := q
        rw [Bool.eq_iff_iff]
        simp
      rw [e] at h
      exact h
    · match j, h1, h2 with
      | 0, _, _ => exact EqAt.int_int p.1 k1 q.1 k1'
      | 1, _, _ => exact EqAt.int_int p.2 k2 q.2 k2'
section
variable {X : Cx}
end
end L2

set_option Elab.async false
set_option linter.all false
set_option maxRecDepth 100000
set_option maxHeartbeats 4000000
namespace CW
open PySem L2
noncomputable def laid (ms : List Int) (gs : List Grp) : Trs := ms.flatMap fun m => match gs.find? (fun g => decide (g.1 = m)) with | some g => g.2.2.map fun o => (m, o) | none => []
section
variable {P : Program} {w : World} {K : PySem.W.Frag} {mg : Str → Option Value} {base : Heap}
inductive spCrowdsV (vs : List V) (H : Hp) (Q : VK) (E_ : XK) : Prop
  | mk (d : Addr) (gs : List Grp) (h0_ : vs = [.ref d]) (h1_ : DG H d gs) (h2_ : GoodG gs) (h3_ : gs.length ≤ 60) (h4_ : (∀ g ∈ gs, g.2.2.length ≤ 60)) (h5_ : ∀ (e : Addr) (kvs : List (Key × V)) (H' : Hp), H e = none → Same H H' → H' e = some (.dK kvs) → (∀ g ∈ gs, valV kvs (Sum.inl g.1 : Key) = some (.int (2 * les (flat gs) g.1))) → Q (.ref e) H') : spCrowdsV vs H Q E_
inductive spAddTrainV (vs : List V) (H : Hp) (Q : VK) (E_ : XK) : Prop
  | mk (d : Addr) (gs : List Grp) (k p : Int) (h0_ : vs = [.ref d, .int k, .int p]) (h1_ : DG H d gs) (h2_ : gs.length ≤ 60) (h3_ : (∀ g ∈ gs, g.2.2.length ≤ 60)) (h4_ : ∀ (gs' : List Grp) (H' : Hp), StayG d gs H H' → DG H' d gs' → Puts H k (p - 2 * wgt (lesJ k) gs - 2 * k) gs gs' → Q .non H') : spAddTrainV vs H Q E_
inductive spAddStone (vs : List V) (H : Hp) (Q : VK) (E_ : XK) : Prop
  | mk (d : Addr) (gs : List Grp) (p : Int) (H0 : Hp) (h0_ : vs = [.ref d, .int p]) (h1_ : DG H d gs) (h2_ : GoodG gs) (h3_ : Asc gs) (h4_ : sto gs ≤ 59) (h5_ : Bd (flat gs) (p - 1)) (h6_ : Same H0 H) (h7_ : H0 d = none) (h8_ : (∀ g ∈ gs, H0 g.2.1 = none)) (h9_ : ∀ (gs' : List Grp) (H' : Hp), Same H0 H' → DG H' d gs' → GoodG gs' → Asc gs' → Add (flat gs) p (flat gs') → (∀ g ∈ gs', H0 g.2.1 = none) → Q .non H') : spAddStone vs H Q E_
inductive spListOf (vs : List V) (H : Hp) (Q : VK) (E_ : XK) : Prop
  | mk (a : Addr) (row : List Int) (h0_ : vs = [.ref a]) (h1_ : H a = some (.lst (row.map V.int))) (h2_ : Row row) (h3_ : row.length ≤ 60) (h4_ : ∀ qs : Trs, Lst row qs → qs.Pairwise ple → RetP H Q qs) : spListOf vs H Q E_
inductive spLawList (vs : List V) (H : Hp) (Q : VK) (E_ : XK) : Prop
  | mk (a : Addr) (row : List Int) (h0_ : vs = [.ref a]) (h1_ : H a = some (.lst (row.map V.int))) (h2_ : Row row) (h3_ : row.length ≤ 60) (h4_ : ∀ qs : Trs, Lst row qs → qs.Pairwise ple → RetP H Q qs) : spLawList vs H Q E_
end
end CW
namespace CW
open PySem L2
theorem foldl_max_spec : ∀ (r : List Int) (n : Int), (r.foldl max n = n ∨ r.foldl max n ∈ r) ∧ n ≤ r.foldl max n ∧ ∀ x ∈ r, x ≤ r.foldl max n
  | [], n => ⟨.inl rfl, Int.le_refl _, fun x hx => (nomatch hx)⟩
  | a :: r, n => by
    obtain ⟨h1, h2, h3⟩ := foldl_max_spec r (max n a)
    rw [List.foldl_cons]
    refine ⟨?_, by omega, fun x hx => ?_⟩
    · rcases h1 with h1 | h1
      · rcases Int.le_total n a with c | c
        · right; rw [h1]; rw [show max n a = a by omega]; exact List.mem_cons_self
        · left; rw [h1]; omega
      · exact .inr (List.mem_cons_of_mem _ h1)
    · rcases List.mem_cons.mp hx with rfl | hx
      · omega
      · exact h3 x hx
end CW
namespace CW
open PySem L2
end CW
namespace CW
open PySem L2
theorem Lst.few {row : List Int} {qs : Trs} (h : Lst row qs) (hl : row.length ≤ 60) : qs.length ≤ 60 := by
  have h3 := len_le_sum h.pos
  have h4 : (szs qs).sum = siz qs := rfl
  have h5 := h.sizx
  omega
end CW

set_option Elab.async false
set_option linter.all false
set_option maxRecDepth 100000
set_option maxHeartbeats 1000000
namespace L2
open PySem PySem.Spec PyProof.Rows
section
variable {prog : Program} {w : World} {A : Around} {R : Result → Shared → Prop} {l it S : Addr} {its : List Value} {ns : List Int}
end
section
variable {X : Cx}
end
end L2

set_option Elab.async false
set_option linter.all false
set_option maxRecDepth 100000
set_option maxHeartbeats 4000000
namespace CW
open PySem L2
theorem Lst.le {r : List Int} {ps : Trs} (h : Lst r ps) {n : Int} (b : Bd ps n) : ∀ x ∈ r, x ≤ n := by
  cases h with
  | nil => intro x hx; cases hx
  | snoc a hlt c =>
    rename_i r ps0 p
    have bd := a.bd (n := p - 1) fun x hx => by have := hlt x hx; omega
    obtain ⟨s, rest, h0, h1, _⟩ := c.tak bd
    have := (b _ (h1.mem_iff.mpr List.mem_cons_self)).2
    simp only at this
    intro x hx
    rcases List.mem_append.mp hx with hx | hx
    · have := hlt x hx; omega
    · have : x = p := by simpa using hx
      omega
theorem Lst.rowp {r : List Int} {ps : Trs} (h : Lst r ps) : Row r := by
  induction h with
  | nil => exact List.Pairwise.nil
  | snoc a b c ih => exact row_snoc ih b
theorem Tak.pos {ps qs : Trs} {p : Int} (h : Tak ps p qs) (hp : ∀ q ∈ ps, 1 ≤ q.1) : ∀ q ∈ qs, 1 ≤ q.1 := fun q hq => ((h.add hp).1 q hq).1
theorem Tak.sizx {ps qs : Trs} {p : Int} (h : Tak ps p qs) (hp : ∀ q ∈ ps, 1 ≤ q.1) : siz ps = siz qs + 1 := (h.add hp).2.sizx
section
variable {P : Program} {w : World} {K : PySem.W.Frag} {mg : Str → Option Value} {base : Heap}
inductive spBySizeV (vs : List V) (H : Hp) (Q : VK) (E_ : XK) : Prop
  | mk (a : Addr) (ps : List (Int × Int)) (h0_ : vs = [.ref a]) (h1_ : LP H a ps) (h2_ : ps.length ≤ 60) (h3_ : ∀ (d : Addr) (gs : List Grp) (H' : Hp), H d = none → Same H H' → DG H' d gs → (flat gs).Perm ps → Asc gs → (∀ g ∈ gs, g.2.2 ≠ [] ∧ H g.2.1 = none) → Q (.ref d) H') : spBySizeV vs H Q E_
inductive rowV (H0 : Hp) (ps : Trs) (a d r : Addr) (m : Nat) (σ : St) (Hx : Hp) : Prop
  | mk (gs : List Grp) (row : List Int) (v3 v4 v5 v6 : Option V) (h0_ : σ = [some (.ref a), some (.ref d), some (.ref r), v3, v4, v5, v6]) (h1_ : Same H0 Hx) (h2_ : DG Hx d gs) (h3_ : GoodG gs) (h4_ : Asc gs) (h5_ : Hx r = some (.lst (row.map V.int))) (h6_ : (∀ g ∈ gs, H0 g.2.1 = none ∧ g.2.1 ≠ r)) (h7_ : sto gs = (m : Int)) (h8_ : m + row.length ≤ 60) (h9_ : ∀ r', Lst r' (flat gs) → Lst (r' ++ row.reverse) ps) : rowV H0 ps a d r m σ Hx
inductive spRowOfV (vs : List V) (H : Hp) (Q : VK) (E_ : XK) : Prop
  | mk (a : Addr) (ps : List (Int × Int)) (h0_ : vs = [.ref a]) (h1_ : LP H a ps) (h2_ : Trn ps) (h3_ : ∀ r : List Int, Lst r ps → RetL H Q r) : spRowOfV vs H Q E_
inductive spStones (vs : List V) (H : Hp) (Q : VK) (E_ : XK) : Prop
  | mk (a : Addr) (ps : List (Int × Int)) (h0_ : vs = [.ref a]) (h1_ : LP H a ps) (h2_ : Trn ps) (h3_ : ∀ r : List Int, Lst r ps → RetL H Q r) : spStones vs H Q E_
end
end CW
namespace CW
open PySem L2
end CW

set_option Elab.async false
set_option linter.all false
set_option maxRecDepth 100000
set_option maxHeartbeats 4000000
namespace CW
open PySem L2
noncomputable def gainI (s : Int) (q : Int × Int) : Int := q.2 * (if s < q.1 then s else q.1)
noncomputable def gainM (ws : List (Int × Int)) (s : Int) : Int := (ws.map (gainI s)).sum
noncomputable def addsM (ps ws : List (Int × Int)) : List (Int × Int) := ps.map fun p => (p.1, p.2 + gainM ws p.1)
noncomputable def Crl (ws : List (Int × Int)) : Prop := ∀ q ∈ ws, 1 ≤ q.1
inductive spLookW (vs : List V) (H : Hp) (Q : VK) (E_ : XK) : Prop
  | mk (a : Addr) (ws : List (Int × Int)) (h0_ : vs = [.ref a]) (h1_ : LP H a ws) (h2_ : Crl ws) (h3_ : Q .non H) : spLookW vs H Q E_
inductive spGain (vs : List V) (H : Hp) (Q : VK) (E_ : XK) : Prop
  | mk (a : Addr) (ws : List (Int × Int)) (s : Int) (h0_ : vs = [.ref a, .int s]) (h1_ : LP H a ws) (h2_ : ws.length ≤ 200) (h3_ : Crl ws) (h4_ : 0 ≤ s) (h5_ : s ≤ 1000) (h6_ : ∀ H', Same H H' → Q (.int (gainM ws s)) H') : spGain vs H Q E_
inductive spAdded (vs : List V) (H : Hp) (Q : VK) (E_ : XK) : Prop
  | mk (a b : Addr) (ps ws : List (Int × Int)) (h0_ : vs = [.ref a, .ref b]) (h1_ : LP H a ps) (h2_ : Trn ps) (h3_ : LP H b ws) (h4_ : ws.length ≤ 200) (h5_ : Crl ws) (h6_ : ∀ qs : List (Int × Int), qs.Perm (addsM ps ws) → qs.Pairwise ple → RetP H Q qs) : spAdded vs H Q E_
inductive spWalks (vs : List V) (H : Hp) (Q : VK) (E_ : XK) : Prop
  | mk (a : Addr) (ns : List Int) (m : Nat) (h0_ : vs = [.ref a, .int m]) (h1_ : H a = some (.lst (ns.map V.int))) (h2_ : 2 * m + 1 ≤ ns.length) (h3_ : m ≤ 60) (h4_ : ∀ ws : List (Int × Int), ws.length ≤ m → Crl ws → (∀ q ∈ ws, -4 ≤ q.2 ∧ q.2 ≤ 4) → RetP H Q ws) : spWalks vs H Q E_
inductive spAdds (vs : List V) (H : Hp) (Q : VK) (E_ : XK) : Prop
  | mk (a b : Addr) (ps ws : List (Int × Int)) (h0_ : vs = [.ref a, .ref b]) (h1_ : LP H a ps) (h2_ : Trn ps) (h3_ : LP H b ws) (h4_ : ws.length ≤ 200) (h5_ : Crl ws) (h6_ : ∀ qs : List (Int × Int), qs.Perm (addsM ps ws) → qs.Pairwise ple → RetP H Q qs) : spAdds vs H Q E_
end CW

set_option Elab.async false
set_option linter.all false
set_option maxHeartbeats 4000000
namespace CW
noncomputable def tr (s o : Int) (rest : Trs) : Trs := if s = 0 then rest else (s, o) :: rest
theorem les_tr {s o : Int} {rest : Trs} {j : Int} (hs : 0 ≤ s) (hj : 0 ≤ j) : les (tr s o rest) j = min j s + les rest j := by
  unfold tr
  split
  · omega
  · rw [les_cons]
theorem mem_tr {s o : Int} {rest : Trs} {q : Int × Int} (h : q ∈ tr s o rest) : q = (s, o) ∧ s ≠ 0 ∨ q ∈ rest := by
  unfold tr at h
  split at h
  · exact .inr h
  · rcases List.mem_cons.mp h with h | h
    · exact .inl ⟨h, by assumption⟩
    · exact .inr h
theorem tr_mem {s o : Int} {rest : Trs} {q : Int × Int} (h : q ∈ rest) : q ∈ tr s o rest := by
  unfold tr
  split
  · exact h
  · exact List.mem_cons_of_mem _ h
theorem tr_perm {s o : Int} {a b : Trs} (h : a.Perm b) : (tr s o a).Perm (tr s o b) := by
  unfold tr
  split
  · exact h
  · exact h.cons _
theorem add_tr {ps qs : Trs} {p s : Int} {rest : Trs} (h0 : 0 ≤ s) (h1 : ps.Perm (tr s (p - 1 - 2 * les ps s) rest)) (h2 : ∀ q ∈ ps, s < q.1 → q.2 + 2 * les ps q.1 ≠ p - 1) (h3 : qs.Perm ((s + 1, p - 2 * les rest (s + 1) - 2 * (s + 1)) :: rest)) : Add ps p qs := by
  refine ⟨s, rest, h0, ?_, h2, h3⟩
  unfold tr at h1
  split at h1
  · exact .inl ⟨by assumption, h1⟩
  · exact .inr ⟨by omega, h1⟩
theorem Add.tr' {ps qs : Trs} {p : Int} (h : Add ps p qs) : ∃ (s : Int) (rest : Trs), 0 ≤ s ∧ ps.Perm (tr s (p - 1 - 2 * les ps s) rest) ∧ (∀ q ∈ ps, s < q.1 → q.2 + 2 * les ps q.1 ≠ p - 1) ∧ qs.Perm ((s + 1, p - 2 * les rest (s + 1) - 2 * (s + 1)) :: rest) := by
  obtain ⟨s, rest, h0, h1, h2, h3⟩ := h
  refine ⟨s, rest, h0, ?_, h2, h3⟩
  unfold tr
  rcases h1 with ⟨a, b⟩ | ⟨a, b⟩
  · rw [if_pos a]; exact b
  · rw [if_neg (by omega)]; exact b
theorem Tak.tr' {ps qs : Trs} {p : Int} (h : Tak ps p qs) : ∃ (s : Int) (rest : Trs), 1 ≤ s ∧ ps.Perm ((s, p - 2 * les ps s) :: rest) ∧ (∀ q ∈ ps, q.2 + 2 * les ps q.1 ≤ p) ∧ (∀ q ∈ ps, q.1 < s → q.2 + 2 * les ps q.1 < p) ∧ qs.Perm (tr (s - 1) (p - 1 - 2 * les rest (s - 1) - 2 * (s - 1)) rest) := by
  obtain ⟨s, rest, h0, h1, h2, h3, h4⟩ := h
  refine ⟨s, rest, h0, h1, h2, h3, ?_⟩
  unfold tr
  rcases h4 with ⟨a, b⟩ | ⟨a, b⟩
  · rw [if_pos (by omega)]; exact b
  · rw [if_neg (by omega)]; exact b
noncomputable def rnn (p : Int) (k : Nat) : List Int := (List.range k).map fun (j : Nat) => p + (j : Int)
theorem rnn_succ (p : Int) (k : Nat) : rnn p (k + 1) = rnn p k ++ [p + (k : Int)] := by unfold rnn; rw [List.range_succ, List.map_append]; rfl
theorem rnn_zero (p : Int) : rnn p 0 = [] := rfl
theorem mem_rnn {p : Int} {k : Nat} {x : Int} (h : x ∈ rnn p k) : p ≤ x ∧ x ≤ p + (k : Int) - 1 := by
  unfold rnn at h
  obtain ⟨j, hj, rfl⟩ := List.mem_map.mp h
  have := List.mem_range.mp hj
  omega
theorem rnn_le {fs : List Int} {p : Int} {k : Nat} (hf : ∀ x ∈ fs, x < p) : ∀ x ∈ fs ++ rnn p k, x ≤ p + (k : Int) - 1 := fun x hx => by
  rcases List.mem_append.mp hx with h | h
  · have := hf x h; omega
  · have := mem_rnn h; omega
theorem rnn_out {fs : List Int} {p : Int} {k : Nat} {Y : Trs} (h : Lst (fs ++ rnn p (k + 1)) Y) : ∃ Y', Lst (fs ++ rnn p k) Y' ∧ Tak Y (p + (k : Int)) Y' := by
  rw [rnn_succ, ← List.append_assoc] at h
  obtain ⟨Y', h1, h2, h3⟩ := h.inv
  exact ⟨Y', h1, h3.tak (h1.bd fun x hx => by have := h2 x hx; omega)⟩
theorem rnn_in {fs : List Int} {p : Int} {k : Nat} {X X' : Trs} (hf : ∀ x ∈ fs, x < p) (h : Lst (fs ++ rnn p k) X') (a : Add X' (p + (k : Int)) X) : Lst (fs ++ rnn p (k + 1)) X := by
  rw [rnn_succ, ← List.append_assoc]
  exact .snoc h (fun x hx => by have := rnn_le hf x hx; omega) a
theorem phase2 {fs : List Int} {p : Int} (hf : ∀ x ∈ fs, x < p) : ∀ (k : Nat) (Y rest X : Trs), Lst (fs ++ rnn p k) Y → (∀ q ∈ Y, q.1 ≤ (k : Int) → q.2 + 2 * les Y q.1 ≤ p - 1 + q.1) →
    Y.Perm (tr (k : Int) (p - 1 + (k : Int) - 2 * les Y (k : Int)) rest) → X.Perm (tr (k : Int) (p + (k : Int) - 2 * les Y (k : Int)) rest) → Lst (fs ++ rnn (p + 1) k) X := by
  intro k
  induction k with
  | zero =>
    intro Y rest X hY hC hp hx
    have e : ∀ o, tr ((0 : Nat) : Int) o rest = rest := fun o => rfl
    rw [e] at hp hx
    exact hY.perm (hp.trans hx.symm)
  | succ k ih =>
    intro Y rest X hY hC hp hx
    obtain ⟨Y', hY', hT⟩ := rnn_out hY
    obtain ⟨t, rT, ht1, hTp, hTm, hTs, hT'⟩ := hT.tr'
    have hk0 : ((k + 1 : Nat) : Int) ≠ 0 := by omega
    have hmem : (((k + 1 : Nat) : Int), p - 1 + ((k + 1 : Nat) : Int) - 2 * les Y ((k + 1 : Nat) : Int)) ∈ Y := hp.mem_iff.mpr (by unfold tr; rw [if_neg hk0]; exact List.mem_cons_self)
    have htm : (t, p + (k : Int) - 2 * les Y t) ∈ Y := hTp.mem_iff.mpr List.mem_cons_self
    have a1 := hTs _ hmem
    have a2 := hC _ htm
    simp only at a1 a2
    have htk : t = ((k + 1 : Nat) : Int) := by
      rcases Int.lt_trichotomy t ((k + 1 : Nat) : Int) with c | c | c
      · have := a2 (by omega); omega
      · exact c
      · have := a1 c; omega
    subst htk
    have hrr : rT.Perm rest := by
      have h5 := hTp.symm.trans hp
      unfold tr at h5
      rw [if_neg hk0, show p - 1 + ((k + 1 : Nat) : Int) - 2 * les Y ((k + 1 : Nat) : Int) = p + (k : Int) - 2 * les Y ((k + 1 : Nat) : Int) by omega] at h5
      exact List.Perm.cons_inv h5
    have e1 : ((k + 1 : Nat) : Int) - 1 = (k : Int) := by omega
    rw [e1] at hT'
    have hlY : ∀ j, 0 ≤ j → les Y j = min j ((k + 1 : Nat) : Int) + les rest j := fun j hj => by
      rw [les_perm hTp, les_cons, les_perm hrr]
    have hlY' : ∀ j, 0 ≤ j → les Y' j = min j (k : Int) + les rest j := fun j hj => by
      rw [les_perm hT', les_tr (by omega) hj, les_perm hrr]
    have hbd := hY.bd (rnn_le hf)
    have hpos := hY.pos
    have hrY : ∀ q ∈ rest, q ∈ Y := fun q hq => hp.mem_iff.mpr (tr_mem hq)
    -- one less
    have hX' := ih Y' rest (tr (k : Int) (p + (k : Int) - 2 * les Y' (k : Int)) rest) hY' (fun q hq hle => by
      rcases mem_tr (hT'.mem_iff.mp hq) with ⟨e, hne⟩ | h
      · rw [e]
        simp only
        have h6 := hlY' (k : Int) (by omega)
        have h7 := les_perm hrr (k : Int)
        omega
      · have hq' := hrY q (hrr.mem_iff.mp h)
        have h5 := hC q hq' (by omega)
        have h6 := hpos q hq'
        have h7 := hlY q.1 (by omega)
        have h8 := hlY' q.1 (by omega)
        omega) (hT'.trans (by
          have h6 := hlY' (k : Int) (by omega)
          have h7 := les_perm hrr (k : Int)
          rw [show p + (k : Int) - 1 - 2 * les rT (k : Int) - 2 * (k : Int) = p - 1 + (k : Int) - 2 * les Y' (k : Int) by omega]
          exact tr_perm hrr)) (.refl _)
    refine rnn_in (fun x hx => by have := hf x hx; omega) hX' (add_tr (s := (k : Int)) (rest := rest) (by omega) ?_ ?_ ?_)
    · have hlX : les (tr (k : Int) (p + (k : Int) - 2 * les Y' (k : Int)) rest) (k : Int) = les Y' (k : Int) := by rw [les_tr (by omega) (by omega), hlY' _ (by omega)]
      rw [hlX, show p + 1 + (k : Int) - 1 - 2 * les Y' (k : Int) = p + (k : Int) - 2 * les Y' (k : Int) by omega]
    · intro q hq hgt
      rcases mem_tr hq with ⟨e, hne⟩ | h
      · rw [e] at hgt; exact absurd hgt (by simp)
      · have hq' := hrY q h
        have h5 := (hbd q hq').2
        have h6 := hpos q hq'
        have h7 := hlY q.1 (by omega)
        rw [les_tr (by omega) (by omega)]
        omega
    · have h8 := hlY ((k + 1 : Nat) : Int) (by omega)
      have e3 : (k : Int) + 1 = ((k + 1 : Nat) : Int) := by omega
      refine hx.trans ?_
      unfold tr
      rw [if_neg hk0, e3]
      rw [show p + ((k + 1 : Nat) : Int) - 2 * les Y ((k + 1 : Nat) : Int) = p + 1 + (k : Int) - 2 * les rest ((k + 1 : Nat) : Int) - 2 * ((k + 1 : Nat) : Int) by omega]
theorem phase1 {fs : List Int} {p : Int} (hf : ∀ x ∈ fs, x < p) (s : Nat) : ∀ (d : Nat) (Y rest X : Trs), Lst (fs ++ rnn p (s + d)) Y → (∀ q ∈ Y, (q.1 ≤ (s : Int) → q.2 + 2 * les Y q.1 ≤ p - 1 + q.1) ∧ ((s : Int) < q.1 → q.2 + 2 * les Y q.1 ≤ p - 1 + q.1 - 1)) →
    Y.Perm (tr (s : Int) (p - 1 + (s : Int) - 2 * les Y (s : Int)) rest) → X.Perm (((s : Int) + 1, p + 1 + (s : Int) - 2 * les rest ((s : Int) + 1) - 2 * ((s : Int) + 1)) :: rest) → Lst (fs ++ rnn (p + 1) (s + d + 1)) X := by
  intro d
  induction d with
  | zero =>
    intro Y rest X hY hC hp hx
    rw [Nat.add_zero] at hY ⊢
    have hlY : ∀ j, 0 ≤ j → les Y j = min j (s : Int) + les rest j := fun j hj => by rw [les_perm hp, les_tr (by omega) hj]
    have hX' := phase2 hf s Y rest (tr (s : Int) (p + (s : Int) - 2 * les Y (s : Int)) rest) hY (fun q hq hle => (hC q hq).1 hle) hp (.refl _)
    have hbd := hY.bd (rnn_le hf)
    refine rnn_in (fun x hx => by have := hf x hx; omega) hX' (add_tr (s := (s : Int)) (rest := rest) (by omega) ?_ ?_ ?_)
    · have hlX : les (tr (s : Int) (p + (s : Int) - 2 * les Y (s : Int)) rest) (s : Int) = les Y (s : Int) := by rw [les_tr (by omega) (by omega), hlY _ (by omega)]
      rw [hlX, show p + 1 + (s : Int) - 1 - 2 * les Y (s : Int) = p + (s : Int) - 2 * les Y (s : Int) by omega]
    · intro q hq hgt
      rcases mem_tr hq with ⟨e, hne⟩ | h
      · rw [e] at hgt; exact absurd hgt (by simp)
      · have hq' := hp.mem_iff.mpr (tr_mem h)
        have h5 := (hbd q hq').2
        have h7 := hlY q.1 (by omega)
        rw [les_tr (by omega) (by omega)]
        omega
    · exact hx
  | succ d ih =>
    intro Y rest X hY hC hp hx
    have e0 : s + (d + 1) = (s + d) + 1 := by omega
    rw [e0] at hY ⊢
    obtain ⟨Y', hY', hT⟩ := rnn_out hY
    obtain ⟨t, rT, ht1, hTp, hTm, hTs, hT'⟩ := hT.tr'
    have htm : (t, p + ((s + d : Nat) : Int) - 2 * les Y t) ∈ Y := hTp.mem_iff.mpr List.mem_cons_self
    have hc := hC _ htm
    simp only at hc
    have hts : (s : Int) + 2 ≤ t := by
      rcases Int.lt_or_le (s : Int) t with c | c
      · have := hc.2 c; omega
      · have := hc.1 c; omega
    have hpos := hY.pos
    -- the train t is within rest
    have htr : (t, p + ((s + d : Nat) : Int) - 2 * les Y t) ∈ rest := by
      rcases mem_tr (hp.mem_iff.mp htm) with ⟨e, _⟩ | h
      · have := congrArg Prod.fst e
        simp only at this
        omega
      · exact h
    obtain ⟨r2, hr2⟩ : ∃ r2 : Trs, rest.Perm ((t, p + ((s + d : Nat) : Int) - 2 * les Y t) :: r2) := ⟨rest.erase _, List.perm_cons_erase htr⟩
    have hlY : ∀ j, 0 ≤ j → les Y j = min j (s : Int) + (min j t + les r2 j) := fun j hj => by rw [les_perm hp, les_tr (by omega) hj, les_perm hr2, les_cons]
    have hrT : rT.Perm (tr (s : Int) (p - 1 + (s : Int) - 2 * les Y (s : Int)) r2) := by
      refine List.Perm.cons_inv (a := (t, p + ((s + d : Nat) : Int) - 2 * les Y t)) (hTp.symm.trans (hp.trans ?_))
      unfold tr
      split
      · exact hr2
      · exact (hr2.cons _).trans (List.Perm.swap _ _ _)
    have hlrT : ∀ j, 0 ≤ j → les rT j = min j (s : Int) + les r2 j := fun j hj => by rw [les_perm hrT, les_tr (by omega) hj]
    have ht0 : t - 1 ≠ 0 := by omega
    -- behind the taking
    obtain ⟨rest', hrest'⟩ : ∃ rest' : Trs, rest' = (t - 1, p + ((s + d : Nat) : Int) - 1 - 2 * les rT (t - 1) - 2 * (t - 1)) :: r2 := ⟨_, rfl⟩
    have hY'p : Y'.Perm (tr (s : Int) (p - 1 + (s : Int) - 2 * les Y (s : Int)) rest') := by
      refine hT'.trans ?_
      rw [hrest']
      unfold tr at hrT ⊢
      rw [if_neg ht0]
      split at hrT
      · rw [if_pos (by assumption)]; exact hrT.cons _
      · rw [if_neg (by assumption)]; exact (hrT.cons _).trans (List.Perm.swap _ _ _)
    have hlY' : ∀ j, 0 ≤ j → les Y' j = min j (s : Int) + (min j (t - 1) + les r2 j) := fun j hj => by rw [les_perm hY'p, les_tr (by omega) hj, hrest', les_cons]
    have hles : les Y' (s : Int) = les Y (s : Int) := by rw [hlY' _ (by omega), hlY _ (by omega)]; omega
    rw [← hles] at hY'p
    have hX' := ih Y' rest' (((s : Int) + 1, p + 1 + (s : Int) - 2 * les rest' ((s : Int) + 1) - 2 * ((s : Int) + 1)) :: rest') hY' (fun q hq => by
      have hq2 := hY'p.mem_iff.mp hq
      rw [hrest'] at hq2
      rcases mem_tr hq2 with ⟨e, hne⟩ | h
      · rw [e]; simp only; omega
      · rcases List.mem_cons.mp h with e | h
        · rw [e]
          simp only
          have h6 := hlY' (t - 1) (by omega)
          have h7 := hlrT (t - 1) (by omega)
          omega
        · have hq' : q ∈ Y := hp.mem_iff.mpr (tr_mem (hr2.mem_iff.mpr (List.mem_cons_of_mem _ h)))
          have h5 := hC q hq'
          have h6 := hpos q hq'
          have h7 := hlY q.1 (by omega)
          have h8 := hlY' q.1 (by omega)
          omega) hY'p (.refl _)
    have hlX' : ∀ j, 0 ≤ j → les (((s : Int) + 1, p + 1 + (s : Int) - 2 * les rest' ((s : Int) + 1) - 2 * ((s : Int) + 1)) :: rest') j = min j ((s : Int) + 1) + (min j (t - 1) + les r2 j) := fun j hj => by
      have h1 : les rest' j = min j (t - 1) + les r2 j := by rw [hrest', les_cons]
      rw [les_cons, h1]
    have hrl : les rest' ((s : Int) + 1) = ((s : Int) + 1) + les r2 ((s : Int) + 1) := by rw [hrest', les_cons]; simp only; omega
    have hrl2 : les rest ((s : Int) + 1) = ((s : Int) + 1) + les r2 ((s : Int) + 1) := by rw [les_perm hr2, les_cons]; simp only; omega
    refine rnn_in (fun x hx => by have := hf x hx; omega) hX' (add_tr (s := t - 1) (rest := ((s : Int) + 1, p + 1 + (s : Int) - 2 * les rest' ((s : Int) + 1) - 2 * ((s : Int) + 1)) :: r2) (by omega) ?_ ?_ ?_)
    · unfold tr
      rw [if_neg ht0]
      have h9 := hlX' (t - 1) (by omega)
      have h7 := hlrT (t - 1) (by omega)
      generalize les (((s : Int) + 1, p + 1 + (s : Int) - 2 * les rest' ((s : Int) + 1) - 2 * ((s : Int) + 1)) :: rest') (t - 1) = L at h9 ⊢
      refine (List.Perm.cons _ ?_).trans (List.Perm.swap _ _ _)
      rw [hrest', show p + ((s + d : Nat) : Int) - 1 - 2 * les rT (t - 1) - 2 * (t - 1) = p + 1 + ((s + d + 1 : Nat) : Int) - 1 - 2 * L by omega]
    · intro q hq hgt
      have hq2 : q ∈ r2 := by
        rcases List.mem_cons.mp hq with e | h
        · rw [e] at hgt; simp only at hgt; omega
        · rw [hrest'] at h
          rcases List.mem_cons.mp h with e | h
          · rw [e] at hgt; exact absurd hgt (by simp)
          · exact h
      have hq' : q ∈ Y := hp.mem_iff.mpr (tr_mem (hr2.mem_iff.mpr (List.mem_cons_of_mem _ hq2)))
      have h5 := hTm q hq'
      have h6 := hpos q hq'
      have h7 := hlY q.1 (by omega)
      rw [hlX' q.1 (by omega)]
      omega
    · have e4 : t - 1 + 1 = t := by omega
      rw [e4]
      have h9 : les (((s : Int) + 1, p + 1 + (s : Int) - 2 * les rest' ((s : Int) + 1) - 2 * ((s : Int) + 1)) :: r2) t = ((s : Int) + 1) + les r2 t := by rw [les_cons]; simp only; omega
      have h10 := hlY t (by omega)
      rw [h9, hrl]
      refine hx.trans ?_
      rw [hrl2]
      refine (hr2.cons _).trans ?_
      rw [show p + ((s + d : Nat) : Int) - 2 * les Y t = p + 1 + ((s + d + 1 : Nat) : Int) - 2 * ((s : Int) + 1 + les r2 t) - 2 * t by omega]
      exact List.Perm.swap _ _ _
end CW

set_option Elab.async false
set_option linter.all false
set_option maxHeartbeats 4000000
namespace CW
theorem rnn_cons (n : Int) (k : Nat) : rnn n (k + 1) = n :: rnn (n + 1) k := range_map_succ k n
theorem goM_gapn {c : Int} {r : List Int} : ∀ (k h : Nat) (m : Int), (∀ x ∈ r, m + (k : Int) ≤ x) → goM c r h m = rnn m (min h k) ++ goM c r (h - min h k) (m + (k : Int))
  | 0, h, m, _ => by simp [rnn]
  | k + 1, 0, m, hr => by
    simp only [Nat.zero_min, Nat.zero_sub, rnn_zero, List.nil_append]
    exact goM_zero
  | k + 1, h + 1, m, hr => by
    have e1 : min (h + 1) (k + 1) = min h k + 1 := by omega
    have e2 : h + 1 - (min h k + 1) = h - min h k := by omega
    have ih := goM_gapn (c := c) (r := r) k h (m + 1) fun x hx => by have := hr x hx; omega
    have e3 : goM c r (h + 1) m = m :: goM c r h (m + 1) := by
      cases r with
      | nil => exact goM_nil_succ c h m
      | cons p r' => exact goM_gap (by have := hr p List.mem_cons_self; omega)
    rw [e3, ih, e1, e2, rnn_cons, show m + ((k + 1 : Nat) : Int) = m + 1 + (k : Int) by omega]
    rfl
theorem carry {c : Int} (hc : 1 ≤ c) : ∀ (r0 : List Int) (h : Nat) (m n : Int), RowP r0 → (∀ x ∈ r0, x < n ∧ (m ≤ x ∨ h = 0)) → (m ≤ n ∨ h = 0) → (h : Int) ≤ c →
    ∃ (fs : List Int) (ld : Nat), (∀ x ∈ fs, x < n) ∧ (ld : Int) ≤ c ∧ ∀ r, (∀ x ∈ r, n ≤ x) → goM c (r0 ++ r) h m = fs ++ goM c r ld n
  | [], h, m, n, _, _, hmn, hh => by
    rcases Nat.eq_zero_or_pos h with e | e
    · subst e
      exact ⟨[], 0, fun x hx => (nomatch hx), by omega, fun r _ => by rw [List.nil_append, List.nil_append]; exact goM_zero⟩
    · have hmn' : m ≤ n := by omega
      refine ⟨rnn m (min h (n - m).toNat), h - min h (n - m).toNat, fun x hx => by have := mem_rnn hx; omega, by omega, fun r hr => ?_⟩
      have := goM_gapn (c := c) (r := r) (n - m).toNat h m fun x hx => by have := hr x hx; omega
      rw [List.nil_append, this, show m + ((n - m).toNat : Int) = n by omega]
  | p :: r0, h, m, n, hrow, hx, hmn, hh => by
    obtain ⟨h1, h2⟩ := List.pairwise_cons.mp hrow
    have hp := hx p List.mem_cons_self
    have hm : min h (p - m).toNat ≤ h := Nat.min_le_left _ _
    have key : ∀ r, goM c ((p :: r0) ++ r) h m = rnn m (min h (p - m).toNat) ++ (if ((h - min h (p - m).toNat : Nat) : Int) < c then goM c (r0 ++ r) (h - min h (p - m).toNat + 1) (p + 1) else p :: goM c (r0 ++ r) (h - min h (p - m).toNat) (p + 1)) := fun r => rfl
    have hrnn : ∀ x ∈ rnn m (min h (p - m).toNat), x < n := fun x hx => by
      have := mem_rnn hx
      rcases hp.2 with q | q
      · omega
      · rw [q] at hx; simp [rnn] at hx
    have hr0 : ∀ x ∈ r0, x < n ∧ p + 1 ≤ x := fun x hx' => ⟨(hx x (List.mem_cons_of_mem _ hx')).1, by have := h1 x hx'; omega⟩
    by_cases hlt : ((h - min h (p - m).toNat : Nat) : Int) < c
    · obtain ⟨fs, ld, a1, a2, a3⟩ := carry hc r0 (h - min h (p - m).toNat + 1) (p + 1) n h2 (fun x hx => ⟨(hr0 x hx).1, .inl (hr0 x hx).2⟩) (.inl (by omega)) (by omega)
      refine ⟨rnn m (min h (p - m).toNat) ++ fs, ld, fun x hx => ?_, a2, fun r hr => by rw [key, if_pos hlt, a3 r hr, List.append_assoc]⟩
      rcases List.mem_append.mp hx with q | q
      · exact hrnn x q
      · exact a1 x q
    · obtain ⟨fs, ld, a1, a2, a3⟩ := carry hc r0 (h - min h (p - m).toNat) (p + 1) n h2 (fun x hx => ⟨(hr0 x hx).1, .inl (hr0 x hx).2⟩) (.inl (by omega)) (by omega)
      refine ⟨rnn m (min h (p - m).toNat) ++ p :: fs, ld, fun x hx => ?_, a2, fun r hr => by rw [key, if_neg hlt, a3 r hr, List.append_assoc]; rfl⟩
      rcases List.mem_append.mp hx with q | q
      · exact hrnn x q
      · rcases List.mem_cons.mp q with e | q
        · rw [e]; exact hp.1
        · exact a1 x q
noncomputable def shf (l : Int) (ps : Trs) : Trs := ps.map fun q => (q.1, q.2 + min l q.1)
theorem les_shf (l : Int) (ps : Trs) (j : Int) : les (shf l ps) j = les ps j := by
  unfold les shf
  rw [List.map_map]
  rfl
theorem shf_perm {l : Int} {a b : Trs} (h : a.Perm b) : (shf l a).Perm (shf l b) := h.map _
theorem shf_tr {l s o : Int} {rest : Trs} : shf l (tr s o rest) = tr s (o + min l s) (shf l rest) := by
  unfold tr
  split <;> rfl
theorem mem_shf {l : Int} {ps : Trs} {q : Int × Int} (h : q ∈ shf l ps) : ∃ q' ∈ ps, q = (q'.1, q'.2 + min l q'.1) := by
  obtain ⟨q', h1, h2⟩ := List.mem_map.mp h
  exact ⟨q', h1, h2.symm⟩
theorem shift_step {l p : Int} (hl : 1 ≤ l) {ps0 ps : Trs} (hb : Bd ps0 (p - 1)) (ha : Add ps0 p ps) {fs : List Int} {ld : Nat} (hf : ∀ x ∈ fs, x < p) (hld : (ld : Int) ≤ l) (hY : Lst (fs ++ rnn p ld) (shf l ps0)) :
    Lst (if (ld : Int) < l then fs ++ rnn (p + 1) (ld + 1) else fs ++ rnn p (ld + 1)) (shf l ps) ∧ ∃ s rest, 0 ≤ s ∧ ps0.Perm (tr s (p - 1 - 2 * les ps0 s) rest) ∧ ps.Perm ((s + 1, p - 2 * les rest (s + 1) - 2 * (s + 1)) :: rest) ∧ ((ld : Int) < l ↔ s < l) := by
  obtain ⟨s, rest, h0, h1, h2, h3⟩ := ha.tr'
  have hsm : s ≠ 0 → (s, p - 1 - 2 * les ps0 s) ∈ ps0 := fun h => h1.mem_iff.mpr (by unfold tr; rw [if_neg h]; exact List.mem_cons_self)
  by_cases hc : (ld : Int) < l
  · rw [if_pos hc]
    have hbd := hY.bd (rnn_le hf)
    have hs : s ≤ (ld : Int) := by
      by_cases hs0 : s = 0
      · omega
      · have := (hbd (s, p - 1 - 2 * les ps0 s + min l s) (List.mem_map.mpr ⟨_, hsm hs0, rfl⟩)).2
        simp only [les_shf] at this
        omega
    obtain ⟨sn, rfl⟩ : ∃ sn : Nat, s = (sn : Int) := ⟨s.toNat, by omega⟩
    obtain ⟨d, hd⟩ : ∃ d : Nat, ld = sn + d := ⟨ld - sn, by omega⟩
    subst hd
    refine ⟨phase1 hf sn d (shf l ps0) (shf l rest) (shf l ps) hY (fun q hq => ?_) ?_ ?_, (sn : Int), rest, h0, h1, h3, by constructor <;> intro _ <;> omega⟩
    · obtain ⟨q', hq', rfl⟩ := mem_shf hq
      have h5 := hb q' hq'
      have h6 := h2 q' hq'
      simp only [les_shf]
      refine ⟨fun _ => by omega, fun h => ?_⟩
      have := h6 h
      omega
    · rw [les_shf]
      refine (shf_perm h1).trans ?_
      rw [shf_tr, show p - 1 - 2 * les ps0 (sn : Int) + min l (sn : Int) = p - 1 + (sn : Int) - 2 * les ps0 (sn : Int) by omega]
    · rw [les_shf]
      refine (shf_perm h3).trans ?_
      unfold shf
      rw [List.map_cons]
      simp only
      rw [show p - 2 * les rest ((sn : Int) + 1) - 2 * ((sn : Int) + 1) + min l ((sn : Int) + 1) = p + 1 + (sn : Int) - 2 * les rest ((sn : Int) + 1) - 2 * ((sn : Int) + 1) by omega]
  · rw [if_neg hc]
    have hll : (ld : Int) = l := by omega
    -- a train stands at the last place
    obtain ⟨k, hk⟩ : ∃ k, ld = k + 1 := ⟨ld - 1, by omega⟩
    have hY2 := hY
    rw [hk] at hY2
    obtain ⟨Y', _, hT⟩ := rnn_out hY2
    obtain ⟨t, rT, ht1, hTp, _⟩ := hT
    obtain ⟨q', hq', e⟩ := mem_shf (hTp.mem_iff.mpr List.mem_cons_self)
    have e1 := congrArg Prod.fst e
    have e2 := congrArg Prod.snd e
    simp only [les_shf] at e1 e2
    have h5 := (hb q' hq').2
    have h6 := h2 q' hq'
    rw [e1] at e2
    have hs : l ≤ s := by
      rcases Int.lt_or_le s q'.1 with c | c
      · have := h6 c; omega
      · omega
    refine ⟨rnn_in hf hY (add_tr (s := s) (rest := shf l rest) h0 ?_ ?_ ?_), s, rest, h0, h1, h3, by constructor <;> intro _ <;> omega⟩
    · rw [les_shf]
      refine (shf_perm h1).trans ?_
      rw [shf_tr, show p - 1 - 2 * les ps0 s + min l s = p + (ld : Int) - 1 - 2 * les ps0 s by omega]
    · intro q hq hgt
      obtain ⟨q2, hq2, rfl⟩ := mem_shf hq
      have := h2 q2 hq2
      simp only [les_shf] at hgt ⊢
      have := this hgt
      omega
    · rw [les_shf]
      refine (shf_perm h3).trans ?_
      unfold shf
      rw [List.map_cons]
      simp only
      rw [show p - 2 * les rest (s + 1) - 2 * (s + 1) + min l (s + 1) = p + (ld : Int) - 2 * les rest (s + 1) - 2 * (s + 1) by omega]
theorem Lst.rowP {r : List Int} {ps : Trs} (h : Lst r ps) : RowP r := by
  induction h with
  | nil => exact List.Pairwise.nil
  | snoc a b c ih => exact List.pairwise_append.mpr ⟨ih, by simp, fun x hx y hy => by rw [List.mem_singleton.mp hy]; exact b x hx⟩
theorem walk_snoc {l : Int} (hl : 1 ≤ l) {r : List Int} {p : Int} (hr : RowP r) (hp : ∀ x ∈ r, x < p) : ∃ (fs : List Int) (ld : Nat), (∀ x ∈ fs, x < p) ∧ (ld : Int) ≤ l ∧ walkM r l = fs ++ rnn p ld ∧ walkM (r ++ [p]) l = if (ld : Int) < l then fs ++ rnn (p + 1) (ld + 1) else fs ++ rnn p (ld + 1) := by
  obtain ⟨fs, ld, a1, a2, a3⟩ := carry hl r 0 0 p hr (fun x hx => ⟨hp x hx, .inr rfl⟩) (.inr rfl) (by omega)
  refine ⟨fs, ld, a1, a2, ?_, ?_⟩
  · have := a3 [] fun x hx => (nomatch hx)
    rw [List.append_nil] at this
    exact this
  · have := a3 [p] fun x hx => by rw [List.mem_singleton.mp hx]; exact Int.le_refl _
    unfold walkM
    rw [this, goM_hit (.inr (Int.le_refl _))]
    split
    · rfl
    · rw [rnn_cons]; rfl
theorem Lst.walk {l : Int} (hl : 1 ≤ l) {r : List Int} {ps : Trs} (h : Lst r ps) : Lst (walkM r l) (shf l ps) := by
  induction h with
  | nil => exact .nil
  | snoc a b c ih =>
    rename_i r ps0 p ps
    obtain ⟨fs, ld, a1, a2, a3, a4⟩ := walk_snoc hl a.rowP b
    rw [a3] at ih
    rw [a4]
    exact (shift_step hl (a.bd fun x hx => by have := b x hx; omega) c a1 a2 ih).1
end CW

set_option Elab.async false
set_option linter.all false
set_option maxRecDepth 100000
set_option maxHeartbeats 1000000
namespace L2
open PySem PySem.Spec PyProof.Rows
end L2

set_option Elab.async false
set_option linter.all false
set_option maxRecDepth 100000
set_option maxHeartbeats 4000000
namespace CW
open PySem L2
theorem max_ex : ∀ {l : List Int}, l ≠ [] → ∃ m ∈ l, ∀ x ∈ l, x ≤ m := fun {l} h => by
  cases l with
  | nil => exact absurd rfl h
  | cons n r =>
    obtain ⟨a1, a2, a3⟩ := foldl_max_spec r n
    refine ⟨r.foldl max n, ?_, fun x hx => ?_⟩
    · rcases a1 with h | h
      · rw [h]; exact List.mem_cons_self
      · exact List.mem_cons_of_mem _ h
    · rcases List.mem_cons.mp hx with rfl | hx
      · exact a2
      · exact a3 x hx
theorem Add.ex (ps : Trs) (hp : ∀ q ∈ ps, 1 ≤ q.1) (p : Int) : ∃ qs, Add ps p qs := by
  by_cases h : (ps.filter fun q => decide (q.2 + 2 * les ps q.1 = p - 1)) = []
  · refine ⟨_, 0, ps, Int.le_refl _, .inl ⟨rfl, .refl _⟩, fun q hq _ e => ?_, .refl _⟩
    have : q ∈ ps.filter fun q => decide (q.2 + 2 * les ps q.1 = p - 1) := List.mem_filter.mpr ⟨hq, by simpa using e⟩
    rw [h] at this
    cases this
  · obtain ⟨s, hs, hmax⟩ := max_ex (l := (ps.filter fun q => decide (q.2 + 2 * les ps q.1 = p - 1)).map (·.1)) (by simpa using h)
    obtain ⟨q, hq, e⟩ := List.mem_map.mp hs
    obtain ⟨h1, h2⟩ := List.mem_filter.mp hq
    have h3 : q.2 + 2 * les ps q.1 = p - 1 := by simpa using h2
    have e' : q.1 = s := e
    have hm : (s, p - 1 - 2 * les ps s) ∈ ps := by
      have : (s, p - 1 - 2 * les ps s) = q := by rw [← e', ← h3]; exact Prod.ext rfl (by show _ = q.2; omega)
      rw [this]; exact h1
    have hs1 := hp _ hm
    have hs1' : 1 ≤ s := hs1
    refine ⟨_, s, ps.erase (s, p - 1 - 2 * les ps s), by omega, .inr ⟨hs1', List.perm_cons_erase hm⟩, fun x hx hlt e2 => ?_, .refl _⟩
    have := hmax x.1 (List.mem_map.mpr ⟨x, List.mem_filter.mpr ⟨hx, by simpa using e2⟩, rfl⟩)
    omega
theorem Lst.ex : ∀ (r : List Int), Row r → ∃ ps, Lst r ps := by
  have go : ∀ (n : Nat) (r : List Int), r.length = n → Row r → ∃ ps, Lst r ps := by
    intro n
    induction n with
    | zero => intro r h _; exact ⟨[], by rw [List.length_eq_zero_iff.mp h]; exact .nil⟩
    | succ n ih =>
      intro r h hr
      have hne : r ≠ [] := fun e => by rw [e] at h; cases h
      have e := List.dropLast_concat_getLast hne
      rw [← e] at hr
      obtain ⟨h1, _, h2⟩ := List.pairwise_append.mp hr
      obtain ⟨ps, hps⟩ := ih r.dropLast (by rw [List.length_dropLast]; omega) h1
      obtain ⟨qs, hqs⟩ := Add.ex ps hps.pos (r.getLast hne)
      refine ⟨qs, ?_⟩
      rw [← e]
      exact .snoc hps (fun x hx => h2 x hx _ (by simp)) hqs
  exact fun r hr => go r.length r rfl hr
noncomputable def shn (f : Int → Int) (ps : Trs) : Trs := ps.map fun q => (q.1, q.2 + f q.1)
theorem shn_shn (f g : Int → Int) (ps : Trs) : shn f (shn g ps) = shn (fun s => g s + f s) ps := by
  unfold shn
  rw [List.map_map]
  refine List.map_congr_left fun q _ => ?_
  simp only [Function.comp]
  exact Prod.ext rfl (by simp only; omega)
theorem shn_congr {f g : Int → Int} {ps : Trs} (h : ∀ q ∈ ps, f q.1 = g q.1) : shn f ps = shn g ps := List.map_congr_left fun q hq => by rw [h q hq]
theorem shn_zero (ps : Trs) : shn (fun _ => 0) ps = ps := by
  unfold shn
  conv => rhs; rw [← List.map_id ps]
  exact List.map_congr_left fun q _ => Prod.ext rfl (by simp)
theorem shn_perm {f : Int → Int} {a b : Trs} (h : a.Perm b) : (shn f a).Perm (shn f b) := h.map _
theorem Lst.walks {l : Int} (hl : 1 ≤ l) {r : List Int} {ps : Trs} (h : Lst r ps) : Lst (walkM r l) (shn (fun s => min l s) ps) := h.walk hl
theorem Lst.back {l : Int} (hl : 1 ≤ l) {r : List Int} {ps : Trs} (h : Lst r ps) : Lst (backM r l) (shn (fun s => -min l s) ps) := by
  obtain ⟨ps', h'⟩ := Lst.ex (backM r l) (backM_row h.rowp hl)
  have h2 := h'.walks hl
  rw [there_back h.rowp hl] at h2
  have h3 := shn_perm (f := fun s => -min l s) (h2.uniq h)
  rw [shn_shn] at h3
  have e : shn (fun s => min l s + -min l s) ps' = ps' := by
    rw [shn_congr (g := fun _ => 0) fun q _ => by omega]
    exact shn_zero ps'
  rw [e] at h3
  exact h'.perm h3
noncomputable def wk1 (q : Int × Int) (r : List Int) : List Int := if 0 < q.2 then walkM r q.1 else backM r q.1
noncomputable def wkn (q : Int × Int) : Nat → List Int → List Int
  | 0, r => r
  | n + 1, r => wk1 q (wkn q n r)
noncomputable def wso (ws : Trs) (r : List Int) : List Int := ws.foldl (fun r q => wkn q q.2.natAbs r) r
theorem wk1_len (q : Int × Int) (r : List Int) : (wk1 q r).length = r.length := by
  unfold wk1; split
  · exact walkM_len _ _
  · exact backM_len _ _
theorem wkn_len (q : Int × Int) (r : List Int) : ∀ n, (wkn q n r).length = r.length
  | 0 => rfl
  | n + 1 => (wk1_len q _).trans (wkn_len q r n)
theorem Lst.wkn {q : Int × Int} (hq : 1 ≤ q.1) {r : List Int} {ps : Trs} (h : Lst r ps) : ∀ n : Nat, Lst (wkn q n r) (shn (fun s => (n : Int) * if 0 < q.2 then min q.1 s else -min q.1 s) ps)
  | 0 => by
    rw [shn_congr (g := fun _ => 0) fun q _ => by simp, shn_zero]
    exact h
  | n + 1 => by
    have ih := Lst.wkn hq h n
    have e : ∀ f : Int → Int, shn f (shn (fun s => (n : Int) * if 0 < q.2 then min q.1 s else -min q.1 s) ps) = shn (fun s => (n : Int) * (if 0 < q.2 then min q.1 s else -min q.1 s) + f s) ps := fun f => shn_shn f _ ps
    show Lst (wk1 q (CW.wkn q n r)) _
    have e2 : ∀ x : Int, ((n + 1 : Nat) : Int) * x = (n : Int) * x + x := fun x => by rw [show ((n + 1 : Nat) : Int) = (n : Int) + 1 by omega, Int.add_mul, Int.one_mul]
    unfold wk1
    by_cases hc : 0 < q.2
    · rw [if_pos hc]
      have := ih.walks hq
      rw [e] at this
      rw [shn_congr (g := fun s => (n : Int) * (if 0 < q.2 then min q.1 s else -min q.1 s) + min q.1 s) fun x _ => by rw [e2, if_pos hc]]
      exact this
    · rw [if_neg hc]
      have := ih.back hq
      rw [e] at this
      rw [shn_congr (g := fun s => (n : Int) * (if 0 < q.2 then min q.1 s else -min q.1 s) + -min q.1 s) fun x _ => by rw [e2, if_neg hc]]
      exact this
theorem Lst.wk {q : Int × Int} (hq : 1 ≤ q.1) {r : List Int} {ps : Trs} (h : Lst r ps) : Lst (CW.wkn q q.2.natAbs r) (shn (fun s => q.2 * min q.1 s) ps) := by
  have := h.wkn hq q.2.natAbs
  rw [shn_congr (g := fun s => q.2 * min q.1 s) fun x _ => ?_] at this
  · exact this
  · by_cases hc : 0 < q.2
    · rw [if_pos hc, show (q.2.natAbs : Int) = q.2 by omega]
    · rw [if_neg hc, show (q.2.natAbs : Int) = -q.2 by omega, Int.neg_mul_neg]
theorem gainI_min (s : Int) (q : Int × Int) : gainI s q = q.2 * min q.1 s := by
  unfold gainI
  congr 1
  split <;> omega
theorem Lst.wso : ∀ {ws : Trs}, Crl ws → ∀ {r : List Int} {ps : Trs}, Lst r ps → Lst (CW.wso ws r) (addsM ps ws)
  | [], _, r, ps, h => by
    have : addsM ps [] = ps := shn_zero ps
    rw [this]; exact h
  | q :: ws, hc, r, ps, h => by
    have h1 := h.wk (hc q List.mem_cons_self)
    have h2 := Lst.wso (ws := ws) (fun x hx => hc x (List.mem_cons_of_mem _ hx)) h1
    have e : addsM (shn (fun s => q.2 * min q.1 s) ps) ws = addsM ps (q :: ws) := by
      show shn (gainM ws) (shn _ ps) = shn (gainM (q :: ws)) ps
      rw [shn_shn]
      refine shn_congr fun x _ => ?_
      unfold gainM
      rw [List.map_cons, List.sum_cons, gainI_min]
    rw [← e]
    exact h2
section
variable {P : Program} {w : World} {K : PySem.W.Frag} {mg : Str → Option Value} {base : Heap}
inductive spFar (vs : List V) (H : Hp) (Q : VK) (E_ : XK) : Prop
  | mk (a b : Addr) (row : List Int) (ws : Trs) (h0_ : vs = [.ref a, .ref b]) (h1_ : H a = some (.lst (row.map V.int))) (h2_ : Row row) (h3_ : row.length ≤ 60) (h4_ : LP H b ws) (h5_ : ws.length ≤ 200) (h6_ : Crl ws) (h7_ : ∀ r ps : _, Lst row ps → Lst r (addsM ps ws) → RetL H Q r) : spFar vs H Q E_
end
end CW
namespace CW
open PySem L2
theorem goM_hi {c B : Int} : ∀ (r : List Int) (h : Nat) (n : Int), (∀ x ∈ r, x ≤ B) → n ≤ B + 1 → ∀ y ∈ goM c r h n, y ≤ B + (h : Int) + (r.length : Int)
  | [], h, n, _, hn, y, hy => by
    obtain ⟨k, hk, rfl⟩ := List.mem_map.mp hy
    have := List.mem_range.mp hk
    simp only [List.length_nil]
    omega
  | p :: r, h, n, hx, hn, y, hy => by
    have hp := hx p List.mem_cons_self
    have hr : ∀ x ∈ r, x ≤ B := fun x hx' => hx x (List.mem_cons_of_mem _ hx')
    rw [goM] at hy
    rw [List.length_cons]
    rcases List.mem_append.mp hy with hy | hy
    · obtain ⟨k, hk, rfl⟩ := List.mem_map.mp hy
      have := List.mem_range.mp hk
      omega
    · split at hy
      · have := goM_hi r _ (p + 1) hr (by omega) y hy; omega
      · rcases List.mem_cons.mp hy with rfl | hy
        · omega
        · have := goM_hi r _ (p + 1) hr (by omega) y hy; omega
theorem goM_lo {c L : Int} : ∀ (r : List Int) (h : Nat) (n : Int), (∀ x ∈ r, L ≤ x) → (L ≤ n ∨ h = 0) → ∀ y ∈ goM c r h n, L ≤ y
  | [], h, n, _, hn, y, hy => by
    obtain ⟨k, hk, rfl⟩ := List.mem_map.mp hy
    have := List.mem_range.mp hk
    omega
  | p :: r, h, n, hx, hn, y, hy => by
    have hp := hx p List.mem_cons_self
    have hr : ∀ x ∈ r, L ≤ x := fun x hx' => hx x (List.mem_cons_of_mem _ hx')
    rw [goM] at hy
    rcases List.mem_append.mp hy with hy | hy
    · obtain ⟨k, hk, rfl⟩ := List.mem_map.mp hy
      have := List.mem_range.mp hk
      omega
    · split at hy
      · exact goM_lo r _ (p + 1) hr (.inl (by omega)) y hy
      · rcases List.mem_cons.mp hy with rfl | hy
        · omega
        · exact goM_lo r _ (p + 1) hr (.inl (by omega)) y hy
noncomputable def Near (b : Int) (r : List Int) : Prop := ∀ x ∈ r, -b ≤ x ∧ x ≤ b
theorem Near.mono {b c : Int} {r : List Int} (h : Near b r) (e : b ≤ c) : Near c r := fun x hx => by have := h x hx; omega
theorem Near.walk {b c : Int} {r : List Int} (h : Near b r) (hb : 0 ≤ b) : Near (b + (r.length : Int)) (walkM r c) := fun y hy => by
  have h1 := goM_hi (c := c) (B := b) r 0 0 (fun x hx => (h x hx).2) (by omega) y hy
  have h2 := goM_lo (c := c) (L := -b) r 0 0 (fun x hx => (h x hx).1) (.inr rfl) y hy
  omega
theorem Near.mir {b : Int} {r : List Int} (h : Near b r) : Near b (mirM r) := fun x hx => by
  obtain ⟨z, hz, rfl⟩ := List.mem_map.mp hx
  have := h z (List.mem_reverse.mp hz)
  omega
theorem Near.wk1 {b : Int} {q : Int × Int} {r : List Int} (h : Near b r) (hb : 0 ≤ b) : Near (b + (r.length : Int)) (wk1 q r) := by
  unfold CW.wk1
  split
  · exact h.walk hb
  · have := (h.mir.walk (c := q.1) hb).mir
    rw [mirM_len] at this
    exact this
theorem Near.wkn {b : Int} {q : Int × Int} {r : List Int} (h : Near b r) (hb : 0 ≤ b) : ∀ n : Nat, Near (b + (n : Int) * (r.length : Int)) (wkn q n r)
  | 0 => h.mono (by simp)
  | n + 1 => by
    have ih := Near.wkn (q := q) h hb n
    have h0 : 0 ≤ (n : Int) * (r.length : Int) := Int.mul_nonneg (by omega) (by omega)
    have := ih.wk1 (q := q) (by omega)
    rw [wkn_len] at this
    refine this.mono ?_
    rw [show ((n + 1 : Nat) : Int) = (n : Int) + 1 by omega, Int.add_mul, Int.one_mul]
    omega
section
variable {P : Program} {w : World} {K : PySem.W.Frag} {mg : Str → Option Value} {base : Heap}
inductive spPlainW (vs : List V) (H : Hp) (Q : VK) (E_ : XK) : Prop
  | mk (a : Addr) (row : List Int) (c : Int) (h0_ : vs = [.ref a, .int c]) (h1_ : H a = some (.lst (row.map V.int))) (h2_ : Row row) (h3_ : row.length ≤ 60) (h4_ : Near 100000 row) (h5_ : RetL H Q (walkM row c)) : spPlainW vs H Q E_
inductive spPlainBackW (vs : List V) (H : Hp) (Q : VK) (E_ : XK) : Prop
  | mk (a : Addr) (row : List Int) (c : Int) (h0_ : vs = [.ref a, .int c]) (h1_ : H a = some (.lst (row.map V.int))) (h2_ : Row row) (h3_ : row.length ≤ 60) (h4_ : 1 ≤ c) (h5_ : Near 100000 row) (h6_ : RetL H Q (backM row c)) : spPlainBackW vs H Q E_
inductive spWalkedSo (vs : List V) (H : Hp) (Q : VK) (E_ : XK) : Prop
  | mk (a b : Addr) (row : List Int) (ws : Trs) (pl : Bool) (h0_ : vs = [.ref a, .ref b, .bl pl]) (h1_ : H a = some (.lst (row.map V.int))) (h2_ : Row row) (h3_ : row.length ≤ 60) (h4_ : LP H b ws) (h5_ : ws.length ≤ 60) (h6_ : Crl ws) (h7_ : (∀ q ∈ ws, -4 ≤ q.2 ∧ q.2 ≤ 4)) (h8_ : (pl = true → Near 1000 row)) (h9_ : ∀ (l : Addr) (H' : Hp), Same H H' → H' l = some (.lst ((wso ws row).map V.int)) → Q (.ref l) H') : spWalkedSo vs H Q E_
end
end CW
namespace CW
open PySem L2
inductive spLongL (vs : List V) (H : Hp) (Q : VK) (E_ : XK) : Prop
  | mk (a : Addr) (ns : List Int) (m : Nat) (h0_ : vs = [.ref a, .int m]) (h1_ : H a = some (.lst (ns.map V.int))) (h2_ : Nums ns) (h3_ : m + 3 ≤ ns.length) (h4_ : m ≤ 60) (h5_ : ∀ row, Row row → row.length ≤ m → (∀ x ∈ row, -15 ≤ x) → RetL H Q row) : spLongL vs H Q E_
end CW

set_option Elab.async false
set_option linter.all false
set_option maxRecDepth 100000
set_option maxHeartbeats 4000000
namespace CW
open PySem L2
theorem les_trI (s o l : Int) (rest : Trs) (h0 : 0 ≤ s) (hl : 1 ≤ l) : les (tr s o rest) l = min l s + les rest l := by
  unfold tr
  split
  · rename_i e
    rw [e]
    have : min l 0 = 0 := by omega
    omega
  · rw [les_cons]
noncomputable def ldG (c : Nat) : List Int → Nat → Int → Nat
  | [], _, _ => 0
  | p :: r, h, n => if h - min h (p - n).toNat < c then 1 + ldG c r (h - min h (p - n).toNat + 1) (p + 1) else ldG c r (h - min h (p - n).toNat) (p + 1)
noncomputable def peelG (a : Int) : List Int → List Int
  | [] => []
  | [_] => []
  | x :: y :: r => if y = x + 1 then (x - 2 * a) :: peelG a (y :: r) else peelG (a + 1) (y :: r)
noncomputable def stG : List Int → Nat
  | [] => 0
  | [_] => 1
  | x :: y :: r => if y = x + 1 then stG (y :: r) else stG (y :: r) + 1
theorem ldG_gap (c : Nat) {r : List Int} {h : Nat} {n : Int} (d : Nat) (hr : ∀ x ∈ r, n + (d : Int) ≤ x) : ldG c r h n = ldG c r (h - min h d) (n + (d : Int)) := by
  cases r with
  | nil => rfl
  | cons p r =>
    have hp := hr p List.mem_cons_self
    show (if h - min h (p - n).toNat < c then _ else _) = if h - min h d - min (h - min h d) (p - (n + (d : Int))).toNat < c then _ else _
    have e : h - min h d - min (h - min h d) (p - (n + (d : Int))).toNat = h - min h (p - n).toNat := by omega
    rw [e]
end CW

set_option Elab.async false
set_option linter.all false
set_option maxRecDepth 100000
set_option maxHeartbeats 4000000
namespace CW
open PySem L2
noncomputable def endsG : List Int → List Int
  | [] => []
  | [x] => [x]
  | x :: y :: r => if y = x + 1 then endsG (y :: r) else x :: endsG (y :: r)
theorem ends_ge : ∀ (r : List Int) (x : Int), Row (x :: r) → ∀ z ∈ endsG (x :: r), x ≤ z
  | [], x, _, z, hz => by rw [List.mem_singleton.mp hz]; exact Int.le_refl _
  | y :: r, x, h, z, hz => by
    have h' := List.pairwise_cons.mp h
    have hxy := h'.1 y List.mem_cons_self
    unfold endsG at hz
    split at hz
    · have := ends_ge r y h'.2 z hz
      omega
    · rcases List.mem_cons.mp hz with q | q
      · omega
      · have := ends_ge r y h'.2 z q
        omega
theorem ldG_zero (c : Nat) {r : List Int} {n m : Int} : ldG c r 0 n = ldG c r 0 m := by
  cases r with
  | nil => rfl
  | cons p r =>
    show (if 0 - min 0 (p - n).toNat < c then _ else _) = if 0 - min 0 (p - m).toNat < c then _ else _
    simp
theorem carry2 {c : Nat} (hc : 1 ≤ c) : ∀ (r0 : List Int) (h : Nat) (m n : Int), RowP r0 → (∀ x ∈ r0, x < n ∧ (m ≤ x ∨ h = 0)) → (m ≤ n ∨ h = 0) → h ≤ c →
    ∃ (fs : List Int) (ld k : Nat), (∀ x ∈ fs, x < n) ∧ ld ≤ c ∧ ∀ r, (∀ x ∈ r, n ≤ x) → goM c (r0 ++ r) h m = fs ++ goM c r ld n ∧ ldG c (r0 ++ r) h m = k + ldG c r ld n
  | [], h, m, n, _, _, hmn, hh => by
    rcases Nat.eq_zero_or_pos h with e | e
    · subst e
      exact ⟨[], 0, 0, fun x hx => (nomatch hx), by omega, fun r _ => ⟨by rw [List.nil_append, List.nil_append]; exact goM_zero, by rw [List.nil_append, Nat.zero_add]; exact ldG_zero c⟩⟩
    · have hmn' : m ≤ n := by omega
      refine ⟨rnn m (min h (n - m).toNat), h - min h (n - m).toNat, 0, fun x hx => by have := mem_rnn hx; omega, by omega, fun r hr => ⟨?_, ?_⟩⟩
      · have := goM_gapn (c := c) (r := r) (n - m).toNat h m fun x hx => by have := hr x hx; omega
        rw [List.nil_append, this, show m + ((n - m).toNat : Int) = n by omega]
      · have := ldG_gap c (r := r) (h := h) (n := m) (n - m).toNat fun x hx => by have := hr x hx; omega
        rw [List.nil_append, this, show m + ((n - m).toNat : Int) = n by omega]
        omega
  | p :: r0, h, m, n, hrow, hx, hmn, hh => by
    obtain ⟨h1, h2⟩ := List.pairwise_cons.mp hrow
    have hp := hx p List.mem_cons_self
    have hm : min h (p - m).toNat ≤ h := Nat.min_le_left _ _
    have key : ∀ r, goM c ((p :: r0) ++ r) h m = rnn m (min h (p - m).toNat) ++ (if ((h - min h (p - m).toNat : Nat) : Int) < (c : Int) then goM c (r0 ++ r) (h - min h (p - m).toNat + 1) (p + 1) else p :: goM c (r0 ++ r) (h - min h (p - m).toNat) (p + 1)) := fun r => rfl
    have key2 : ∀ r, ldG c ((p :: r0) ++ r) h m = if h - min h (p - m).toNat < c then 1 + ldG c (r0 ++ r) (h - min h (p - m).toNat + 1) (p + 1) else ldG c (r0 ++ r) (h - min h (p - m).toNat) (p + 1) := fun r => rfl
    have hrnn : ∀ x ∈ rnn m (min h (p - m).toNat), x < n := fun x hx => by
      have := mem_rnn hx
      rcases hp.2 with q | q
      · omega
      · rw [q] at hx; simp [rnn] at hx
    have hr0 : ∀ x ∈ r0, x < n ∧ p + 1 ≤ x := fun x hx' => ⟨(hx x (List.mem_cons_of_mem _ hx')).1, by have := h1 x hx'; omega⟩
    by_cases hlt : h - min h (p - m).toNat < c
    · obtain ⟨fs, ld, k, a1, a2, a3⟩ := carry2 hc r0 (h - min h (p - m).toNat + 1) (p + 1) n h2 (fun x hx => ⟨(hr0 x hx).1, .inl (hr0 x hx).2⟩) (.inl (by omega)) (by omega)
      refine ⟨rnn m (min h (p - m).toNat) ++ fs, ld, k + 1, fun x hx => ?_, a2, fun r hr => ⟨by rw [key, if_pos (by omega), (a3 r hr).1, List.append_assoc], by rw [key2, if_pos hlt, (a3 r hr).2]; omega⟩⟩
      rcases List.mem_append.mp hx with q | q
      · exact hrnn x q
      · exact a1 x q
    · obtain ⟨fs, ld, k, a1, a2, a3⟩ := carry2 hc r0 (h - min h (p - m).toNat) (p + 1) n h2 (fun x hx => ⟨(hr0 x hx).1, .inl (hr0 x hx).2⟩) (.inl (by omega)) (by omega)
      refine ⟨rnn m (min h (p - m).toNat) ++ p :: fs, ld, k, fun x hx => ?_, a2, fun r hr => ⟨by rw [key, if_neg (by omega), (a3 r hr).1, List.append_assoc]; rfl, by rw [key2, if_neg hlt, (a3 r hr).2]⟩⟩
      rcases List.mem_append.mp hx with q | q
      · exact hrnn x q
      · rcases List.mem_cons.mp q with e | q
        · rw [e]; exact hp.1
        · exact a1 x q
theorem Lst.load {c : Nat} (hc : 1 ≤ c) {r : List Int} {ps : Trs} (h : Lst r ps) : (ldG c r 0 0 : Int) = les ps c := by
  induction h with
  | nil => rfl
  | snoc a b d ih =>
    rename_i r ps0 p ps
    obtain ⟨fs, ld, k, a1, a2, a3⟩ := carry2 hc r 0 0 p a.rowP (fun x hx => ⟨b x hx, .inr rfl⟩) (.inr rfl) (by omega)
    have o := a3 [] fun x hx => (nomatch hx)
    have w := a3 [p] fun x hx => by rw [List.mem_singleton.mp hx]; exact Int.le_refl _
    rw [List.append_nil] at o
    have ow : walkM r c = fs ++ rnn p ld := o.1
    have ol : ldG c r 0 0 = k := o.2
    have nl : ldG c (r ++ [p]) 0 0 = k + (if ld < c then 1 else 0) := by
      rw [w.2]
      congr 1
      show (if ld - min ld (p - p).toNat < c then 1 + 0 else 0) = _
      rw [show ld - min ld (p - p).toNat = ld by omega]
    have hw := a.walk (l := c) (by omega)
    rw [ow] at hw
    obtain ⟨_, s, rest, s0, s1, s2, s3⟩ := shift_step (l := c) (by omega) (a.bd fun x hx => by have := b x hx; omega) d a1 (by omega) hw
    rw [les_perm s1, les_trI s _ c rest s0 (by omega), ol] at ih
    rw [les_perm s2, les_cons, nl]
    simp only
    by_cases hl : ld < c
    · have := s3.mp (by omega)
      rw [if_pos hl]
      omega
    · have := mt s3.mpr (by omega)
      rw [if_neg hl]
      omega
end CW

set_option Elab.async false
set_option linter.all false
set_option maxRecDepth 100000
set_option maxHeartbeats 4000000
namespace CW
open PySem L2
noncomputable def peelN : Nat → List Int → List Int
  | 0, r => r
  | k + 1, r => peelG 0 (peelN k r)
end CW

set_option Elab.async false
set_option linter.all false
set_option maxRecDepth 100000
set_option maxHeartbeats 4000000
namespace CW
open PySem L2
theorem ends_ne : ∀ (r : List Int) (x : Int), ∃ z t, endsG (x :: r) = z :: t
  | [], x => ⟨x, [], rfl⟩
  | y :: r, x => by
    by_cases hy : y = x + 1
    · rw [show endsG (x :: y :: r) = endsG (y :: r) from if_pos hy]
      exact ends_ne r y
    · exact ⟨x, endsG (y :: r), if_neg hy⟩
theorem drop_at {α : Type} {l t : List α} {i : Nat} {x : α} (h : l.drop i = x :: t) : l[i]? = some x ∧ l.drop (i + 1) = t := by
  refine ⟨?_, ?_⟩
  · have := congrArg (fun z : List α => z[0]?) h
    simpa [List.getElem?_drop] using this
  · rw [← List.drop_drop, h]
    rfl
theorem pl_step {E row stays P : List Int} {i a : Nat} {x : Int} (hr : Row row) (hx : row[i]? = some x) (hE : E.drop a = endsG (row.drop i)) (hs : stays ++ peelG a (row.drop i) = P) :
    ∃ z, E[a]? = some z ∧ ((x = z ∧ E.drop (a + 1) = endsG (row.drop (i + 1)) ∧ stays ++ peelG ((a + 1 : Nat) : Int) (row.drop (i + 1)) = P) ∨ (x ≠ z ∧ E.drop a = endsG (row.drop (i + 1)) ∧ (stays ++ [x - 2 * (a : Int)]) ++ peelG a (row.drop (i + 1)) = P)) := by
  obtain ⟨hi, ex⟩ := List.getElem?_eq_some_iff.mp hx
  have hd : row.drop i = x :: row.drop (i + 1) := by rw [List.drop_eq_getElem_cons hi, ex]
  have hrd : Row (row.drop i) := List.Pairwise.sublist (List.drop_sublist i row) hr
  rw [hd] at hE hs hrd
  generalize row.drop (i + 1) = t at hE hs hrd ⊢
  cases t with
  | nil =>
    obtain ⟨k1, k2⟩ := drop_at (t := []) (x := x) hE
    exact ⟨x, k1, .inl ⟨rfl, k2, hs⟩⟩
  | cons y r =>
    have h' := List.pairwise_cons.mp hrd
    have hxy := h'.1 y List.mem_cons_self
    by_cases hy : y = x + 1
    · rw [show endsG (x :: y :: r) = endsG (y :: r) from if_pos hy] at hE
      rw [show peelG (a : Int) (x :: y :: r) = (x - 2 * (a : Int)) :: peelG a (y :: r) from if_pos hy] at hs
      obtain ⟨z, t, ez⟩ := ends_ne r y
      have hz := ends_ge r y h'.2 z (by rw [ez]; exact List.mem_cons_self)
      obtain ⟨k1, k2⟩ := drop_at (hE.trans ez)
      exact ⟨z, k1, .inr ⟨by omega, hE, by rw [List.append_assoc]; exact hs⟩⟩
    · rw [show endsG (x :: y :: r) = x :: endsG (y :: r) from if_neg hy] at hE
      rw [show peelG (a : Int) (x :: y :: r) = peelG ((a : Int) + 1) (y :: r) from if_neg hy] at hs
      obtain ⟨k1, k2⟩ := drop_at hE
      exact ⟨x, k1, .inl ⟨rfl, k2, by rw [show ((a + 1 : Nat) : Int) = (a : Int) + 1 by omega]; exact hs⟩⟩
inductive spPeeled (vs : List V) (H : Hp) (Q : VK) (E_ : XK) : Prop
  | mk (a : Addr) (row : List Int) (h0_ : vs = [.ref a]) (h1_ : H a = some (.lst (row.map V.int))) (h2_ : Row row) (h3_ : row.length ≤ 60) (h4_ : RetL H Q (peelG 0 row)) : spPeeled vs H Q E_
inductive spRounds (vs : List V) (H : Hp) (Q : VK) (E_ : XK) : Prop
  | mk (a : Addr) (row : List Int) (h0_ : vs = [.ref a]) (h1_ : H a = some (.lst (row.map V.int))) (h2_ : Row row) (h3_ : row.length ≤ 60) (h4_ : ∀ n : Nat, peelN n row = [] → (∀ k, k < n → peelN k row ≠ []) → RetL H Q ((List.range n).map fun k => (stG (peelN k row) : Int))) : spRounds vs H Q E_
end CW

set_option Elab.async false
set_option linter.all false
set_option maxRecDepth 100000
namespace L2
open PySem PySem.Spec PyProof.Rows
section
variable {K : PySem.W.Frag} {x qual : Str} {st : Stmt} {f : Addr} {fd : FuncData} {p1 p2 p3 p4 : Str}
theorem Fun.binds1 (F : Fun K x qual st f fd) (h : ∀ (kV doc pm : Value) (an : Option Addr) (cdv ct u : Value), bindArgs (PySem.W.fnOf x qual (defArgs st) (defBody st) (defScope st) .none kV doc pm an cdv ct) ⟨[u], []⟩ = pure [(p1, u)]) : Binds K fd [p1] [] :=
  F.binds fun a b c d e g us hl => match us, hl with | [u], _ => h a b c d e g u
theorem Fun.binds2 (F : Fun K x qual st f fd) (h : ∀ (kV doc pm : Value) (an : Option Addr) (cdv ct u v : Value), bindArgs (PySem.W.fnOf x qual (defArgs st) (defBody st) (defScope st) .none kV doc pm an cdv ct) ⟨[u, v], []⟩ = pure [(p1, u), (p2, v)]) : Binds K fd [p1, p2] [] :=
  F.binds fun a b c d e g us hl => match us, hl with | [u, v], _ => h a b c d e g u v
theorem Fun.binds3 (F : Fun K x qual st f fd) (h : ∀ (kV doc pm : Value) (an : Option Addr) (cdv ct u v w : Value), bindArgs (PySem.W.fnOf x qual (defArgs st) (defBody st) (defScope st) .none kV doc pm an cdv ct) ⟨[u, v, w], []⟩ = pure [(p1, u), (p2, v), (p3, w)]) : Binds K fd [p1, p2, p3] [] :=
  F.binds fun a b c d e g us hl => match us, hl with | [u, v, w], _ => h a b c d e g u v w
end
end L2

set_option Elab.async false
set_option linter.all false
set_option maxRecDepth 100000
set_option maxHeartbeats 4000000
namespace L2
open PySem PySem.Spec PyProof.Rows
structure CompOkC (sc inn : Scope) (N : List Str) (js : List Nat) (cs : List Str) : Prop where
  kind : inn.kind = .function
  names : ∀ y ∈ inn.names, y.2 = .local → inn.names.lookup y.1 = some .local
  cells : ∀ y ∈ inn.names, y.2 = .cell → inn.names.lookup y.1 = some .cell
  frees : ∀ y ∈ inn.names, y.2 = .free → sc.names.lookup y.1 = some .cell ∨ sc.names.lookup y.1 = some .free
  slots : (js.map fun j => N[j]?) = cs.map some
  caps : ∀ x ∈ cs, inn.names.lookup x = some .free
noncomputable def compOkC (sc inn : Scope) (N : List Str) (js : List Nat) (cs : List Str) : Bool :=
  (inn.kind == .function) && inn.names.all (fun y => (y.2 != .cell || inn.names.lookup y.1 == some .cell) && (y.2 != .local || inn.names.lookup y.1 == some .local) && (y.2 != .free || (sc.names.lookup y.1 == some .cell || sc.names.lookup y.1 == some .free))) &&
  (js.map fun j => N[j]?) == cs.map some && cs.all (fun x => inn.names.lookup x == some .free)
theorem CompOkC.of {sc inn : Scope} {N : List Str} {js : List Nat} {cs : List Str} (h : compOkC sc inn N js cs = true) : CompOkC sc inn N js cs := by
  unfold compOkC at h
  simp only [Bool.and_eq_true] at h
  obtain ⟨⟨⟨h1, h2⟩, h3⟩, h4⟩ := h
  rw [List.all_eq_true] at h2 h4
  refine ⟨by simpa using h1, fun y hy e => ?_, fun y hy e => ?_, fun y hy e => ?_, by simpa using h3, fun x hx => by simpa using h4 x hx⟩
  · have := h2 y hy
    simp only [Bool.and_eq_true, e] at this
    simpa using this.1.2
  · have := h2 y hy
    simp only [Bool.and_eq_true, e] at this
    simpa using this.1.1
  · have := h2 y hy
    simp only [Bool.and_eq_true, e] at this
    simpa using this.2
noncomputable def isCel (inn : Scope) (x : Str) : Bool := match inn.names.lookup x with | some .cell => true | _ => false
theorem isCel_iff {inn : Scope} {x : Str} (h : isCel inn x = true) : inn.names.lookup x = some .cell := by
  unfold isCel at h
  split at h
  · assumption
  · cases h
noncomputable def cxInC (X : Cx) (inn : Scope) (N' : List Str) (s₀ : Shared) (H₀ : Hp) (ex : List Addr) : Cx :=
  { cxIn X inn N' s₀ H₀ ex with env := compEnvC inn (cellsFrom (s₀.heap.objs.size + 1) inn.names (closL inn X.env)) s₀.heap.objs.size X.env, fn := fun x => isCel inn x }
theorem cells_app : ∀ (names : List (Str × NameKind)) (n : Nat) (acc : List (Str × Addr)), cellsFrom n names acc = cellsFrom n names [] ++ acc
  | [], _, _ => rfl
  | (x, k) :: r, n, acc => by
    unfold cellsFrom
    split
    · rw [cells_app r (n + 1) ((x, n) :: acc), cells_app r (n + 1) [(x, n)], List.append_assoc]
      rfl
    · exact cells_app r n acc
theorem cells_mem {x : Str} {c : Addr} : ∀ (names : List (Str × NameKind)) (n : Nat) (acc : List (Str × Addr)), (x, c) ∈ cellsFrom n names acc → (x, NameKind.cell) ∈ names ∨ (x, c) ∈ acc
  | [], _, _, h => .inr h
  | (y, k) :: r, n, acc, h => by
    unfold cellsFrom at h
    split at h
    · rename_i hk
      rcases cells_mem r _ _ h with q | q
      · exact .inl (List.mem_cons_of_mem _ q)
      · rcases List.mem_cons.mp q with e | q
        · cases e
          have : k = .cell := by simpa using hk
          rw [this]
          exact .inl List.mem_cons_self
        · exact .inr q
    · rcases cells_mem r _ _ h with q | q
      · exact .inl (List.mem_cons_of_mem _ q)
      · exact .inr q
theorem own_ok {inn : Scope} (h : Heap) : (∀ x c, (x, c) ∈ cellsFrom (h.objs.size + 1) inn.names [] → (pushCells (h.push { cls := .type "dict", data := .dict #[] }) inn.names).IsCell c none) ∧ (∀ x c, (x, c) ∈ cellsFrom (h.objs.size + 1) inn.names [] → h.objs.size < c) ∧ (cellsFrom (h.objs.size + 1) inn.names []).Pairwise fun x y => x.2 ≠ y.2 := by
  have ok := cellsFrom_ok inn.names (h.push { cls := .type "dict", data := .dict #[] }) (h.objs.size + 1) [] ⟨fun _ _ hm => (nomatch hm), List.Pairwise.nil⟩ (by rw [Heap.size_push]; exact Nat.le_refl _)
  rw [Heap.size_push] at ok
  exact ⟨fun x c hm => (ok.empty x c hm).1, fun x c hm => (ok.empty x c hm).2, ok.apart⟩
theorem lookup_app {x : Str} : ∀ (a b : List (Str × Addr)), (a ++ b).lookup x = (a.lookup x).or (b.lookup x)
  | [], _ => rfl
  | (y, c) :: a, b => by
    rw [List.cons_append, List.lookup_cons, List.lookup_cons]
    cases x == y with
    | true => rfl
    | false => exact lookup_app a b
theorem cl_cases {inn : Scope} {n : Nat} {cl : List (Str × Addr)} {x : Str} {c : Addr} (h : (cellsFrom n inn.names cl).lookup x = some c) : (x, c) ∈ cellsFrom n inn.names [] ∨ cl.lookup x = some c := by
  rw [cells_app, lookup_app] at h
  cases e : (cellsFrom n inn.names []).lookup x with
  | none => rw [e] at h; exact .inr h
  | some d =>
    rw [e] at h
    cases h
    exact .inl (PySem.mem_of_lookup e)
theorem cl_free {inn : Scope} {n : Nat} {cl : List (Str × Addr)} {x : Str} {c : Addr} (hc : ∀ y ∈ inn.names, y.2 = .cell → inn.names.lookup y.1 = some .cell) (hx : inn.names.lookup x = some .free) (h : cl.lookup x = some c) : (cellsFrom n inn.names cl).lookup x = some c := by
  rw [cells_app, lookup_app]
  cases e : (cellsFrom n inn.names []).lookup x with
  | none => exact h
  | some d =>
    rcases cells_mem inn.names _ _ (PySem.mem_of_lookup e) with q | q
    · have := hc _ q rfl
      rw [hx] at this
      cases this
    · cases q
theorem relabel_mem {env : Env} : ∀ {names : List (Str × NameKind)} {x : Str}, ((names.map fun (n, k) => if (k == NameKind.free && env.scope.kind == .function && env.kindOf n == some .cell) then (n, NameKind.cell) else (n, k)).lookup x = some .cell ∨
    (names.map fun (n, k) => if (k == NameKind.free && env.scope.kind == .function && env.kindOf n == some .cell) then (n, NameKind.cell) else (n, k)).lookup x = some .free) → names.lookup x = some .cell ∨ names.lookup x = some .free
  | [], _, h => by simp at h
  | (n, k) :: r, x, h => by
    have ih := @relabel_mem env r x
    rw [List.map_cons] at h
    cases hx : x == n with
    | true =>
      simp only [List.lookup_cons, hx]
      by_cases hc : (k == NameKind.free && env.scope.kind == .function && env.kindOf n == some .cell) = true
      · have : k = .free := by simp only [Bool.and_eq_true] at hc; simpa using hc.1.1
        subst this
        exact .inr rfl
      · simp only [if_neg hc, List.lookup_cons, hx] at h
        exact h
    | false =>
      simp only [List.lookup_cons, hx]
      refine ih ?_
      by_cases hc : (k == NameKind.free && env.scope.kind == .function && env.kindOf n == some .cell) = true
      · simp only [if_pos hc, List.lookup_cons, hx] at h; exact h
      · simp only [if_neg hc, List.lookup_cons, hx] at h; exact h
section
variable {M : Model} {A : Around} {E : Value → Shared → Prop} {s : Shared}
theorem newEnvC {scope : Scope} {globals : Addr} {cl : List (Str × Addr)} {qual : Str} {func : Option Addr} {code : Value} {around : Env} {builtins : Addr} {Q : Env → Shared → Prop}
    (hQ : Q { scope := scope, locals := s.heap.objs.size, globals := globals, cells := cellsFrom (s.heap.objs.size + 1) scope.names cl, qual := qual, func := func, code := around.code, frame := around.frame, builtins := around.builtins } { s with heap := pushCells (s.heap.push { cls := .type "dict", data := .dict #[] }) scope.names }) :
    wpAny M A (newFunctionEnv scope globals cl [] qual func code (some around) builtins) Q E s := by
  simp only [newFunctionEnv, Option.isSome_some, if_true]
  refine wpAny_bind (wpAny_alloc ?_)
  refine wpAny_bind (wpAny_layCells _ (fun name kind cells => by cases hkc : kind == NameKind.cell <;> simp [hkc]) _ _ _ _ ?_)
  rw [show ({ s with heap := s.heap.push { cls := .type "dict", data := .dict #[] } } : Shared).heap.objs.size = s.heap.objs.size + 1 from Heap.size_push ..]
  refine wpAny_bind ?_
  rw [List.forIn_nil]
  exact wpAny_pure (wpAny_pure hQ)
end
section
variable {X : Cx} {pins : List (Addr × Obj)} {σ : St} {H H' : Hp} {s : Shared} {inn : Scope} {js : List Nat} {cs ts : List Str} {nt : Nat}
theorem cl_sub (I : Inv X pins σ H s) {x : Str} {c : Addr} (e : (cellsFrom (s.heap.objs.size + 1) inn.names (closL inn X.env)).lookup x = some c) : ((x, c) ∈ cellsFrom (s.heap.objs.size + 1) inn.names [] ∧ s.heap.objs.size < c) ∨ (X.env.cells.lookup x = some c ∧ c < s.heap.objs.size) := by
  rcases cl_cases e with q | q
  · exact .inl ⟨q, (own_ok s.heap).2.1 x c q⟩
  · obtain ⟨v, o, ho, _⟩ := I.cell x c (closL_sub q)
    exact .inr ⟨closL_sub q, Heap.lt_size ho⟩
theorem in_okC {ex : List Addr} (I : Inv X pins σ H s) (O : CompOkC X.env.scope inn X.N js cs) (hex : ∀ b ∈ ex, b < s.heap.objs.size ∧ b ≠ X.env.locals ∧ b ∉ X.fs ∧ (∀ x c, X.env.cells.lookup x = some c → c ≠ b) ∧ ∀ o, X.base.get? b ≠ some o) :
    (cxInC X inn (ts ++ cs) s H ex).Ok where
  mod := I.ok.mod
  kind := O.kind
  glob := I.ok.glob
  blt := I.ok.blt
  above := Nat.le_refl _
  inj := fun x y c h1 h2 => by
    rcases cl_sub I h1 with ⟨a, la⟩ | ⟨a, la⟩ <;> rcases cl_sub I h2 with ⟨b, lb⟩ | ⟨b, lb⟩
    · exact name_of_addr (own_ok s.heap).2.2 a b
    · exact absurd (Nat.lt_trans la lb) (Nat.lt_irrefl _)
    · exact absurd (Nat.lt_trans la lb) (Nat.lt_irrefl _)
    · exact I.ok.inj x y c a b
  has := fun x hx => by
    show ∃ c, (cellsFrom (s.heap.objs.size + 1) inn.names (closL inn X.env)).lookup x = some c
    rcases relabel_mem (env := X.env) hx with q | q
    · obtain ⟨c, ec⟩ := cell_has (n := s.heap.objs.size + 1) q
      exact ⟨c, by rw [cells_app, lookup_app, ec]; rfl⟩
    · obtain ⟨c, ec⟩ := closL_has (env := X.env) (fun y hy e => I.ok.has y.1 (O.frees y hy e)) (PySem.mem_of_lookup q)
      exact ⟨c, cl_free O.cells q ec⟩
  cab := fun x c h e => by
    have e' : (cellsFrom (s.heap.objs.size + 1) inn.names (closL inn X.env)).lookup x = some c := e
    obtain ⟨d, ed⟩ := cell_has (n := s.heap.objs.size + 1) (isCel_iff h)
    rw [cells_app, lookup_app, ed] at e'
    cases e'
    exact Nat.le_of_lt ((own_ok s.heap).2.1 x _ (PySem.mem_of_lookup ed))
  hd := I.ok.hd
  frames := I.ok.frames
  stk := .inl rfl
  exf := fun b hb => ⟨Nat.ne_of_lt (hex b hb).1, fun x c e => by
    rcases cl_sub I e with ⟨_, l⟩ | ⟨q, _⟩
    · exact Nat.ne_of_gt (Nat.lt_trans (hex b hb).1 l)
    · exact (hex b hb).2.2.2.1 x c q⟩
  bs := I.bs
  bsz := Nat.le_trans I.ok.bsz I.sz
  noex := fun b o e hb => (hex b hb).2.2.2.2 o e
  exfs := fun b hb hs => by
    rcases List.mem_cons.mp (I.stkSub b hs) with e | e
    · exact (hex b hb).2.1 e
    · exact (hex b hb).2.2.1 e
  funs := I.stack
  frf := I.stkFree
theorem in_invC {ex : List Addr} {h' : Heap} {tk : Nat} (hts : ts.length = nt) (I : Inv X pins σ H s) (O : CompOkC X.env.scope inn X.N js cs) (hex : ∀ b ∈ ex, b < s.heap.objs.size ∧ b ≠ X.env.locals ∧ b ∉ X.fs ∧ (∀ x c, X.env.cells.lookup x = some c → c ≠ b) ∧ ∀ o, X.base.get? b ≠ some o)
    (hn : ∃ m, h'.Ns s.heap.objs.size m) (hk : ∀ b o, s.heap.get? b = some o → h'.get? b = some o) (hcel : ∀ x c, (x, c) ∈ cellsFrom (s.heap.objs.size + 1) inn.names [] → h'.IsCell c none) :
    Inv (cxInC X inn (ts ++ cs) s H ex) [] (sIn nt js σ) H { s with heap := h', toks := tk } := by
  have ok : (cxInC X inn (ts ++ cs) s H ex).Ok := in_okC I O hex
  obtain ⟨m, hn⟩ := hn
  have cellK : ∀ c v, s.heap.IsCell c v → h'.IsCell c v := fun c v ⟨o, ho, hd⟩ => ⟨o, hk c o ho, hd⟩
  have hlen : js.length = cs.length := by have := congrArg List.length O.slots; simpa using this
  refine ⟨ok, rfl, I.bare, Un.kept hk, ⟨m, hn, fun i x v e1 e2 e3 => ?_⟩, fun x c e => ?_, I.hok.fresh (Nat.le_refl _), fun x c e => ?_, fun p hp => ?_, I.hok.kept hk, ?_⟩
  · obtain ⟨hi, j, hj, hv⟩ := sIn_get e2
    have e1' : (ts ++ cs)[i]? = some x := e1
    rw [List.getElem?_append_right (by omega), hts] at e1'
    have hN : X.N[j]? = some x := by
      have q : (js.map fun j => X.N[j]?)[i - nt]? = (cs.map some)[i - nt]? := by rw [O.slots]
      rw [List.getElem?_map, List.getElem?_map, hj, e1'] at q
      exact Option.some.inj q
    have hcap := O.caps x (List.mem_of_getElem? e1')
    have hmem : (x, NameKind.free) ∈ inn.names := PySem.mem_of_lookup hcap
    have hout := O.frees _ hmem rfl
    obtain ⟨mo, hno, hl⟩ := I.loc
    obtain ⟨u, r, l⟩ := hl j x v hN hv (.inr hout)
    refine ⟨u, r, .inr ?_⟩
    rcases l with ⟨l1, _⟩ | ⟨k, c, ec, z⟩
    · have l1' : X.env.scope.names.lookup x = some .local := l1
      rcases hout with q | q <;> (rw [q] at l1'; cases l1')
    · refine ⟨?_, ?_⟩
      · exact lookup_relabel_free (env := X.env) hcap
      · obtain ⟨c', ec'⟩ := closL_has (env := X.env) (fun y hy e => I.ok.has y.1 (O.frees y hy e)) hmem
        have := closL_sub ec'
        rw [ec] at this; cases this
        exact ⟨c, cl_free O.cells hcap ec', cellK _ _ z⟩
  · rcases cl_sub I e with ⟨q, _⟩ | ⟨q, _⟩
    · exact ⟨none, hcel x c q⟩
    · obtain ⟨v, z⟩ := I.cell x c q
      exact ⟨v, cellK _ _ z⟩
  · rcases cl_sub I e with ⟨_, l⟩ | ⟨q, _⟩
    · exact I.hok.fresh (Nat.le_of_lt l)
    · exact I.freeC x c q
  · exact absurd (show p ∈ ([] : List (Addr × Obj)) from hp) (by simp)
  · show (sIn nt js σ).length = (ts ++ cs).length
    unfold sIn
    simp [hts, hlen]
end
section
variable {X : Cx} {pins : List (Addr × Obj)} {σ : St} {inn : Scope} {js : List Nat} {cs ts : List Str} {nt : Nat} {elt tg iter : Expr} {ifs : List Expr} {pos : Pos} {g : TG} {tt : TT} {te : TE}
theorem comp_coreC {J : It} {fp : List Addr} {it : Addr} {tn : Nat → Heap → Prop} {H2 : Hp} {s2 : Shared} {E : Value → Shared → Prop} {Q : VK} {RR : Value → Addr → Result → Shared → Prop}
    (hcalm : X.calm = true) (O : CompOkC X.env.scope inn X.N js cs) (hts : ts.length = nt)
    (hg : ∀ s₀ H₀ ex, PG (cxInC X inn (ts ++ cs) s₀ H₀ ex) tg g) (hk : GK nt g) (ht : ∀ s₀ H₀ ex, PIf (cxInC X inn (ts ++ cs) s₀ H₀ ex) ifs tt) (he : ∀ s₀ H₀ ex, PE (cxInC X inn (ts ++ cs) s₀ H₀ ex) elt te)
    (I2 : Inv X pins σ H2 s2) (T : Turn X.prog X.w X.K tg J fp it tn) (st2 : tn 0 s2.heap) (f2 : ∀ b ∈ fp, FpOk X pins H2 b)
    (R : CompR J (sIn nt js σ) g tt te Q H2)
    (hRR : ∀ D C s' H', Inv X pins σ H' s' → (∃ m, s'.heap.Ns C m) → H' C = none → C ≠ X.env.locals → X.s₀.heap.objs.size ≤ C → (∀ x c, X.env.cells.lookup x = some c → c ≠ C) → (∀ p ∈ X.pn ++ pins, p.1 ≠ C) → Q (.ref D) H' → RR (.ref D) C (.ok .next) s') :
    wpAny (model X.prog X.w) X.A (newList []) (fun acc s₃ => wpAny (model X.prog X.w) X.A (newFunctionEnv inn X.env.globals (closL inn X.env) [] X.env.qual none .none (some X.env)) (fun cenv s₄ =>
      codeAny (model X.prog X.w) X.A (.compStart (.ListComp elt [⟨tg, iter, ifs, 0⟩] inn pos) 0 (.ref it) acc { cenv with scope := relabel inn X.env }) (RR acc cenv.locals) s₄) E s₃) E s2 := by
  refine wpAny_newObj_type (newEnvC ?_)
  dsimp only
  have hns₁ : (pushCells ((s2.heap.push { cls := .type "list", dict := none, data := .seq ([] : List Value).toArray }).push { cls := .type "dict", data := .dict #[] }) inn.names).Ns (s2.heap.push { cls := .type "list", dict := none, data := .seq ([] : List Value).toArray }).objs.size (fun _ => none) := (Heap.Ns.new _ (.type "dict")).keeps (pushCells_keeps _ _)
  have up₁ : ∀ b o, (s2.heap.push { cls := .type "list", dict := none, data := .seq ([] : List Value).toArray }).get? b = some o → (pushCells ((s2.heap.push { cls := .type "list", dict := none, data := .seq ([] : List Value).toArray }).push { cls := .type "dict", data := .dict #[] }) inn.names).get? b = some o := fun b o e => pushCells_keeps _ _ b o (Heap.get?_push_of_some _ e)
  have cel₁ : ∀ x c, (x, c) ∈ cellsFrom ((s2.heap.push { cls := .type "list", dict := none, data := .seq ([] : List Value).toArray }).objs.size + 1) inn.names [] → (pushCells ((s2.heap.push { cls := .type "list", dict := none, data := .seq ([] : List Value).toArray }).push { cls := .type "dict", data := .dict #[] }) inn.names).IsCell c none := fun x c hm => (own_ok (inn := inn) (s2.heap.push { cls := .type "list", dict := none, data := .seq ([] : List Value).toArray })).1 x c hm
  generalize pushCells ((s2.heap.push { cls := .type "list", dict := none, data := .seq ([] : List Value).toArray }).push { cls := .type "dict", data := .dict #[] }) inn.names = h₁ at hns₁ up₁ cel₁ ⊢
  generalize hD : s2.heap.objs.size = D
  have I3 : Inv X pins σ H2 { s2 with heap := s2.heap.push { cls := .type "list", dict := none, data := .seq ([] : List Value).toArray } } := I2.kept (t' := s2.toks) fun b o e => Heap.get?_push_of_some _ e
  generalize hs3 : ({ s2 with heap := s2.heap.push { cls := .type "list", dict := none, data := .seq ([] : List Value).toArray } } : Shared) = s3 at I3
  have e3 : s3.heap = s2.heap.push { cls := .type "list", dict := none, data := .seq ([] : List Value).toArray } := by rw [← hs3]
  have hD3 : s3.heap.get? D = some { cls := .type "list", dict := none, data := .seq ([] : List Value).toArray } := by rw [e3, ← hD]; exact Heap.get?_push_size _ rfl
  have hsz3 : s3.heap.objs.size = D + 1 := by rw [e3, Heap.size_push, hD]
  have e3' : (s2.heap.push { cls := .type "list", dict := none, data := .seq ([] : List Value).toArray }) = s3.heap := e3.symm
  rw [e3'] at hns₁ up₁ cel₁ ⊢
  have fH2D : H2 D = none := I2.hok.fresh (by rw [hD]; exact Nat.le_refl _)
  have up := up₁
  -- what lies in ex
  have fpo : ∀ b ∈ fp, b < s3.heap.objs.size ∧ b ≠ D := fun b hb => by
    obtain ⟨o, eo, _⟩ := T.obj 0 _ st2 b hb
    have h1 := Heap.lt_size eo
    rw [hD] at h1
    exact ⟨by rw [hsz3]; exact Nat.lt_succ_of_lt h1, Nat.ne_of_lt h1⟩
  have nb : ∀ b, X.s₀.heap.objs.size ≤ b → ∀ o, X.base.get? b ≠ some o := fun b hb o e => absurd (Nat.lt_of_lt_of_le (Heap.lt_size e) (Nat.le_trans I2.ok.bsz hb)) (Nat.lt_irrefl _)
  have dge : s2.heap.objs.size ≤ D := by rw [hD]; exact Nat.le_refl _
  have fD : FpOk X pins H2 D := I2.fpOk dge fH2D
  have hex : ∀ b ∈ D :: fp, b < s3.heap.objs.size ∧ b ≠ X.env.locals ∧ b ∉ X.fs ∧ (∀ x c, X.env.cells.lookup x = some c → c ≠ b) ∧ ∀ o, X.base.get? b ≠ some o := fun b hb => by
    rcases List.mem_cons.mp hb with rfl | hb
    · exact ⟨by rw [hsz3]; exact Nat.lt_succ_self _, fD.2.1, fD.2.2.1, fD.2.2.2.2.1, nb _ (Nat.le_trans I2.sz dge)⟩
    · obtain ⟨f0, f1, f2', f3, f4, f5⟩ := f2 b hb
      refine ⟨(fpo b hb).1, f1, f2', f4, fun o e => ?_⟩
      rcases f3 with z | z
      · exact I2.ok.noex b o e z
      · exact nb b z o e
  have hC : s3.heap.objs.size = s3.heap.objs.size := rfl
  generalize hXi : cxInC X inn (ts ++ cs) s3 H2 (D :: fp) = Xi
  have I4 : Inv Xi [] (sIn nt js σ) H2 { s3 with heap := h₁, toks := s3.toks } := by
    rw [← hXi]; exact in_invC hts I3 O hex ⟨_, hns₁⟩ up cel₁
  have xp : Xi.prog = X.prog := by rw [← hXi]; rfl
  have xw : Xi.w = X.w := by rw [← hXi]; rfl
  have xK : Xi.K = X.K := by rw [← hXi]; rfl
  have xA : Xi.A = X.A := by rw [← hXi]; rfl
  have xc : Xi.calm = true := by rw [← hXi]; exact hcalm
  have xe : Xi.env = compEnvC inn (cellsFrom (s3.heap.objs.size + 1) inn.names (closL inn X.env)) s3.heap.objs.size X.env := by rw [← hXi]; rfl
  have xx : Xi.xe = fun _ _ => False := by rw [← hXi]; rfl
  have xex : Xi.ex = D :: fp := by rw [← hXi]; rfl
  have xpn : Xi.pn = [] := by rw [← hXi]; rfl
  have xs0 : Xi.s₀ = s3 := by rw [← hXi]; rfl
  have xH0 : Xi.H₀ = H2 := by rw [← hXi]; rfl
  have xfs : Xi.fs = frs X.stack := by rw [← hXi]; rfl
  have hgX : PG Xi tg g := by rw [← hXi]; exact hg _ _ _
  have htX : PIf Xi ifs tt := by rw [← hXi]; exact ht _ _ _
  have heX : PE Xi elt te := by rw [← hXi]; exact he _ _ _
  have okX := I4.ok
  have xl : Xi.env.locals = s3.heap.objs.size := by rw [xe]; rfl
  have Dl : D ≠ Xi.env.locals := by rw [xl, hsz3]; exact Nat.ne_of_lt (Nat.lt_succ_self _)
  have stat : ∀ {H' : Hp} {pl : List (Addr × Obj)}, (∀ b ∈ fp, H' b = none) → (∀ p ∈ pl, p.1 = D) → ∀ b ∈ fp, FpOk Xi pl H' b := fun {H' pl} hn hpl b hb => by
    have hbx : b ∈ Xi.ex := by rw [xex]; exact List.mem_cons_of_mem _ hb
    refine ⟨hn b hb, (okX.exf b hbx).1, fun z => okX.exfs b hbx z, .inl hbx, (okX.exf b hbx).2, fun p hp => ?_⟩
    rw [xpn, List.nil_append] at hp
    rw [hpl p hp]
    exact Ne.symm (fpo b hb).2
  have DX : D ∈ Xi.ex := by rw [xex]; exact List.mem_cons_self
  obtain ⟨W, ⟨m0, w0⟩, turn⟩ := R
  have loop : codeAny (model X.prog X.w) X.A (.compLoop (.ListComp elt [⟨tg, iter, ifs, 0⟩] inn pos) 0 (.ref it) (.ref D) Xi.env) (RR (.ref D) s3.heap.objs.size) { s3 with heap := h₁, toks := s3.toks } := by
    refine codeAny_loop rfl (fun n s' => ∃ i ys H', Inv Xi [] (sIn nt js σ) H' s' ∧ tn i s'.heap ∧ (∀ b ∈ fp, H' b = none) ∧ H' D = none ∧ (∃ (its : List Value) (c : Nat), Vals ys its ∧ s'.heap.get? D = some { cls := .type "list", data := .seq its.toArray c }) ∧ W i n ys H') ?_ m0
      ⟨0, [], H2, I4, ?_, fun b hb => (f2 b hb).1, fH2D, ⟨[], 0, .nil, up D _ hD3⟩, w0⟩
    · rintro n s5 ⟨i, ys, H5, I5, st5, fr5, fD5, ⟨its, c, rv, eD⟩, w5⟩
      show wpAny _ X.A ((compTurn (.ListComp elt [⟨tg, iter, ifs, 0⟩] inn pos) 0 (.ref it) (.ref D) Xi.env).onRaise (fun x => do noteFrame x Xi.env; theTreesLotGoes x)) _ _ s5
      refine wpAny_noted ?_
      rw [compTurn_list]
      refine wpAny_bind (wpAny_standAt (wpAny_bind ?_))
      -- D is pinned
      have pinD : Inv Xi (pinsAt [D] s5.heap) (sIn nt js σ) H5 s5 := by
        have q := I5.pinned (fp := [D]) (fun b hb => ?_) (fun b hb => ?_)
        · simpa using q
        · have e : b = D := by simpa using hb
          subst e
          refine ⟨fD5, Dl, fun z => okX.exfs b DX z, .inl DX, (okX.exf b DX).2, fun p hp => ?_⟩
          rw [xpn, List.nil_append] at hp; cases hp
        · have e : b = D := by simpa using hb
          subst e
          exact ⟨_, eD, fun v z => by cases z⟩
      have plD : ∀ p ∈ pinsAt [D] s5.heap, p.1 = D := fun p hp => by simpa using (of_pinsAt hp).1
      have memD : (D, ({ cls := .type "list", data := .seq its.toArray c } : Obj)) ∈ pinsAt [D] s5.heap := mem_pinsAt (by simp) eD
      obtain ⟨hz, tn5⟩ := turn i n ys H5 w5
      rcases tn5 with ⟨stop, fin⟩ | ⟨go, N, hN, step⟩
      · have q := T.done Xi xp xw xK xc i _ s5 _ H5 (notedBy (model X.prog X.w) X.A Xi.env fun e s' => RR (.ref D) s3.heap.objs.size (.error e) s') pinD (stat fr5 plD) st5 stop
        rw [xA] at q
        refine wpAny_mono q (fun r s6 ⟨hr, I6⟩ => ?_) fun _ _ z => z
        subst hr
        refine wpAny_pure ?_
        have eD6 := (I6.pin (D, _) (List.mem_append_right _ memD)).1
        -- back to the def
        have un : Un (frs X.stack) (D :: fp) H2 H5 s3.heap s6.heap := by
          have z := I6.base
          rw [xfs, xex, xH0, xs0] at z
          exact z
        have os6 : s6.os = s3.os := by have z := I6.os; rw [xs0] at z; exact z
        have hok6 : HOk X.prog X.w H5 s6.heap := by have z := I6.hok; rw [xp, xw] at z; exact z
        have I7 : Inv X pins σ H5 s6 := I3.call' os6 un hok6 I6.bare fun b hb => by
          rcases List.mem_cons.mp hb with e | hb
          · rw [e]; exact ⟨.inr (Nat.le_trans I2.sz dge), fD.2.1, fD.2.2.2.2.1, fD.2.2.2.2.2⟩
          · obtain ⟨f0, f1, f2', f3, f4, f5⟩ := f2 b hb
            exact ⟨f3, f1, f4, f5⟩
        have I8 : Inv X pins σ (upd H5 D (.lst ys)) s6 := I7.track fD5 (Nat.le_trans I2.sz dge) fD.2.1 fD.2.2.2.2.1 fD.2.2.2.2.2 ⟨Nat.le_of_lt hz, its, c, rv, eD6⟩
        have Cge : s3.heap.objs.size ≤ s3.heap.objs.size := Nat.le_refl _
        have fC : FpOk X pins (upd H5 D (.lst ys)) s3.heap.objs.size := I3.fpOk Cge (by
          rw [upd_ne (by rw [← xl]; exact Ne.symm Dl)]
          have z := I6.free
          rw [xl] at z; exact z)
        obtain ⟨mm, hmm, _⟩ := I6.loc
        rw [xl] at hmm
        exact hRR D _ s6 _ I8 ⟨mm, hmm⟩ fC.1 fC.2.1 (Nat.le_trans I3.sz Cge) fC.2.2.2.2.1 fC.2.2.2.2.2 (fin D fD5)
      · have q := T.item Xi xp xw xK xc i _ s5 _ H5 (notedBy (model X.prog X.w) X.A Xi.env fun e s' => RR (.ref D) s3.heap.objs.size (.error e) s') pinD (stat fr5 plD) st5 go
        rw [xA] at q
        refine wpAny_mono q (fun r s6 ⟨u, hr, h6⟩ => ?_) fun _ _ z => z
        subst hr
        refine wpAny_bind (wpAny_mono h6 (fun _ s7 ⟨x, H7, I7, r7, y7, st7, fr7⟩ => ?_) fun _ _ z => z)
        have I7' := I7.pinned (fp := fp) (fun b hb => stat fr7 plD b hb) (T.obj _ _ st7)
        have q8 := hgX _ s7 _ H7 x u _ I7' r7 (hk x _ H7 _ (step x H7 y7))
        rw [xp, xw, xA, xx] at q8
        refine wpAny_bind (wpAny_mono q8 (fun _ s8 ⟨σ8, H8, I8, ⟨k8, l8⟩, q8⟩ => ?_) fun _ _ z => z.elim)
        have q9 := htX _ s8 σ8 H8 _ I8 q8
        rw [xp, xw, xA, xx] at q9
        refine wpAny_bind (wpAny_mono q9 (fun ok s9 ⟨H9, I9, q9⟩ => ?_) fun _ _ z => z.elim)
        have keepσ : ∀ (j : Nat) v, (sIn nt js σ)[j]? = some (some v) → σ8[j]? = some (some v) := fun j v e => by
          have hj := (sIn_get e).1
          rw [k8 j hj]; exact e
        -- what stays of the iterator behind the turn
        have ends : ∀ {H9 : Hp} {s9 : Shared} {ys' : List V}, Inv Xi (pinsAt [D] s5.heap ++ pinsAt fp s7.heap) σ8 H9 s9 → ∀ {h' : Heap} {its' : List Value} {c' : Nat}, (∀ b o, b ≠ D → s9.heap.get? b = some o → h'.get? b = some o) → Vals ys' its' → h'.get? D = some { cls := .type "list", data := .seq its'.toArray c' } → N ys' H9 →
            ∀ tk, ∃ m, m < n ∧ ∃ i ys H', Inv Xi [] (sIn nt js σ) H' { s9 with heap := h', toks := tk } ∧ tn i h' ∧ (∀ b ∈ fp, H' b = none) ∧ H' D = none ∧ (∃ (its : List Value) (c : Nat), Vals ys its ∧ h'.get? D = some { cls := .type "list", data := .seq its.toArray c }) ∧ W i m ys H' := fun {H9 s9 ys'} I9 {h' its' c'} kp rv' eD' n9 tk => by
          obtain ⟨m', hm, w9⟩ := hN ys' H9 n9
          have fD9 : H9 D = none := (I9.pin (D, _) (List.mem_append_right _ (List.mem_append_left _ memD))).2.1
          have fr9 : ∀ b ∈ fp, H9 b = none := fun b hb => by
            obtain ⟨o, e, d⟩ := T.obj _ _ st7 b hb
            exact (I9.pin (b, o) (List.mem_append_right _ (List.mem_append_right _ (mem_pinsAt hb e)))).2.1
          have I10 : Inv Xi [] σ8 H9 s9 := I9.pins_of fun p hp => by cases hp
          have I11 : Inv Xi [] σ8 H9 { s9 with heap := h', toks := tk } := I10.turned (it := D) kp fD9 Dl (.inl DX) (okX.exf D DX).2 (fun p hp => by rw [xpn] at hp; cases hp)
          refine ⟨m', hm, i + 1, ys', H9, I11.weak l8.symm keepσ, T.keep _ _ _ st7 fun b hb o e => kp b o (fpo b hb).2 (I9.pin (b, o) (List.mem_append_right _ (List.mem_append_right _ (mem_pinsAt hb e)))).1, fr9, fD9, ⟨its', c', rv', eD'⟩, w9⟩
        cases ok with
        | false =>
          rw [if_neg Bool.false_ne_true] at q9
          have eD9 := (I9.pin (D, _) (List.mem_append_right _ (List.mem_append_left _ memD))).1
          exact wpAny_pure ⟨rfl, ends I9 (h' := s9.heap) (fun _ _ _ e => e) rv eD9 q9 s9.toks⟩
        | true =>
          rw [if_pos rfl] at q9
          have q10 := heX _ s9 σ8 H9 _ I9 q9
          rw [xp, xw, xA, xx] at q10
          refine wpAny_bind (wpAny_bind (wpAny_mono q10 (fun v s10 ⟨y, H10, I10, r10, q10⟩ => ?_) fun _ _ z => z.elim))
          have eD10 := (I10.pin (D, _) (List.mem_append_right _ (List.mem_append_left _ memD))).1
          have hlen := rv.length
          refine wpAny_bind (wpAny_list_append_plain (items := its.toArray) ⟨c, eD10⟩ (fun h' hl hs => wpAny_pure (wpAny_pure ⟨rfl, ?_⟩)) (by rw [List.size_toArray]; omega))
          obtain ⟨c', e'⟩ := hl
          have e'' : h'.get? D = some { cls := .type "list", data := .seq (its ++ [v]).toArray c' } := by rw [e']; simp
          exact ends I10 (h' := h') (fun b o hb e => hs.extBut b o hb e) (rv.append (.cons r10 .nil)) e'' q10 s10.toks
    · exact T.keep 0 _ _ st2 fun b hb o e => up b o (by rw [e3]; exact Heap.get?_push_of_some _ e)
  have e4 : ({ s2 with heap := h₁ } : Shared) = { s3 with heap := h₁, toks := s3.toks } := by rw [← hs3]
  rw [e4]
  show codeAny _ _ (.compStart (.ListComp elt [⟨tg, iter, ifs, 0⟩] inn pos) 0 (.ref it) (.ref D) (compEnvC inn (cellsFrom (s3.heap.objs.size + 1) inn.names (closL inn X.env)) s3.heap.objs.size X.env)) (RR (.ref D) s3.heap.objs.size) _
  rw [← xe]
  refine codeAny_compStart_list loop ?_
  refine T.self X.A 0 _ _ _ ?_ loop
  exact T.keep 0 _ _ st2 fun b hb o e => up b o (by rw [e3]; exact Heap.get?_push_of_some _ e)
end
section
variable {X : Cx} {inn : Scope} {js : List Nat} {cs ts : List Str} {nt : Nat} {elt tg iter : Expr} {ifs : List Expr} {pos : Pos} {g : TG} {tt : TT} {te : TE} {wi : TI}
theorem pe_compC (ts cs : List Str) (js : List Nat) (hcalm : X.calm = true) (O : CompOkC X.env.scope inn X.N js cs) (hi : PI X tg iter wi)
    (hg : ∀ s₀ H₀ ex, PG (cxInC X inn (ts ++ cs) s₀ H₀ ex) tg g) (hk : GK ts.length g) (ht : ∀ s₀ H₀ ex, PIf (cxInC X inn (ts ++ cs) s₀ H₀ ex) ifs tt) (he : ∀ s₀ H₀ ex, PE (cxInC X inn (ts ++ cs) s₀ H₀ ex) elt te)
    (hs : ∀ x, foldedSetIterable iter X.env x = pure x := by intro _; rfl) : PE X (.ListComp elt [⟨tg, iter, ifs, 0⟩] inn pos) (tComp wi ts.length js g tt te) := by
  intro pins s σ H Q I h
  rw [eval_ListComp]
  refine wpAny_comprehension_free (use := none) rfl hs (closFor fun y hy e => I.ok.has y.1 (O.frees y hy e)) O.kind O.names (thn (hi pins s σ H _ I h) fun xv s1 h1 => thn h1 fun itv s2 h2 => ?_)
  obtain ⟨it, fp, tn, J, H2, e, I2, T, st2, f2, R⟩ := h2
  subst e
  refine comp_coreC (Q := Q) (RR := fun acc C => compPost (model X.prog X.w) X.A X.xe none (EP X pins σ Q) acc C) hcalm O rfl hg hk ht he I2 T st2 f2 R ?_
  intro D C s' H' I' ⟨m, hm⟩ c1 c2 c3 c4 c5 q
  refine ⟨m, hm, fun h' hsb => ?_⟩
  exact ⟨.ref D, H', I'.turned (it := C) (t' := s'.toks) (fun b o hb e => hsb.extBut b o hb e) c1 c2 (.inr c3) c4 c5, rfl, q⟩
end
end L2

set_option Elab.async false
set_option linter.all false
set_option maxRecDepth 100000
set_option maxHeartbeats 4000000
namespace CW
open PySem L2
inductive PlI (row : List Int) (i : Nat) (stays : List Int) : Prop
  | mk (ah : Nat) (h1_ : (endsG row).drop ah = endsG (row.drop i)) (h2_ : stays ++ peelG ah (row.drop i) = peelG 0 row) (h3_ : ∀ z ∈ (endsG row).take ah, ∀ y ∈ row.drop i, z < y) : PlI row i stays
theorem PlI.init (row : List Int) : PlI row 0 [] := ⟨0, rfl, rfl, fun z hz => by simp at hz⟩
theorem drop_cons_at {α : Type} {l : List α} {i : Nat} {x : α} (h : l[i]? = some x) : l.drop i = x :: l.drop (i + 1) := by
  obtain ⟨hi, ex⟩ := List.getElem?_eq_some_iff.mp h
  rw [List.drop_eq_getElem_cons hi, ex]
theorem PlI.step {row stays : List Int} {i : Nat} {x : Int} (hr : Row row) (hx : row[i]? = some x) (h : PlI row i stays) :
    (x ∈ endsG row ∧ PlI row (i + 1) stays) ∨ (x ∉ endsG row ∧ PlI row (i + 1) (stays ++ [x - 2 * (((endsG row).filter fun z => decide (z < x)).length : Int)])) := by
  obtain ⟨ah, h1, h2, h3⟩ := h
  have hd := drop_cons_at hx
  have hrd : Row (row.drop i) := List.Pairwise.sublist (List.drop_sublist i row) hr
  have hlt : ∀ y ∈ row.drop (i + 1), x < y := by
    rw [hd] at hrd
    exact (List.pairwise_cons.mp hrd).1
  have hxm : x ∈ row.drop i := by rw [hd]; exact List.mem_cons_self
  obtain ⟨q, hq, hs⟩ := pl_step hr hx h1 h2
  rcases hs with ⟨e, k1, k2⟩ | ⟨ne, k1, k2⟩
  · left
    refine ⟨by rw [e]; exact List.mem_of_getElem? hq, ah + 1, k1, k2, fun z hz y hy => ?_⟩
    rw [List.take_add_one, hq] at hz
    rcases List.mem_append.mp hz with h | h
    · exact h3 z h y (by rw [hd]; exact List.mem_cons_of_mem _ hy)
    · have : z = q := by simpa using h
      rw [this, ← e]
      exact hlt y hy
  · right
    have hge : ∀ z ∈ (endsG row).drop ah, x < z := by
      rw [k1]
      intro z hz
      cases ht : row.drop (i + 1) with
      | nil => rw [ht] at hz; cases hz
      | cons y r =>
        rw [ht] at hz hlt
        have hry : Row (y :: r) := by rw [← ht]; exact List.Pairwise.sublist (List.drop_sublist _ row) hr
        have := ends_ge r y hry z hz
        have := hlt y List.mem_cons_self
        omega
    have hsplit := List.take_append_drop ah (endsG row)
    have hal : ah ≤ (endsG row).length := Nat.le_of_lt (List.getElem?_eq_some_iff.mp hq).1
    have hcount : ((endsG row).filter fun z => decide (z < x)).length = ah := by
      rw [← hsplit, List.filter_append, List.length_append]
      have e1 : ((endsG row).take ah).filter (fun z => decide (z < x)) = (endsG row).take ah := List.filter_eq_self.mpr fun z hz => decide_eq_true (h3 z hz x hxm)
      have e2 : ((endsG row).drop ah).filter (fun z => decide (z < x)) = [] := List.filter_eq_nil_iff.mpr fun z hz => by
        have := hge z hz
        simp
        omega
      rw [e1, e2, List.length_take]
      simp
      omega
    rw [hcount]
    refine ⟨fun hm => ?_, ah, k1, k2, fun z hz y hy => h3 z hz y (by rw [hd]; exact List.mem_cons_of_mem _ hy)⟩
    rw [← hsplit] at hm
    rcases List.mem_append.mp hm with h | h
    · exact absurd (h3 x h x hxm) (Int.lt_irrefl _)
    · exact absurd (hge x h) (Int.lt_irrefl _)
theorem PlI.done {row stays : List Int} {i : Nat} (hi : row.length ≤ i) (h : PlI row i stays) : stays = peelG 0 row := by
  obtain ⟨ah, h1, h2, _⟩ := h
  rw [List.drop_eq_nil_of_le hi] at h2
  rw [← h2]
  exact (List.append_nil _).symm
theorem Den.lists {H : Hp} {p x y : Addr} {a b : List Int} (h : H p = some (.lst [.ref x, .ref y])) (hx : H x = some (.lst (a.map V.int))) (hy : H y = some (.lst (b.map V.int))) : Den H (.ref p) (.list [.list (a.map PyData.int), .list (b.map PyData.int)]) :=
  .lst h (.cons (Den.ints hx) (.cons (Den.ints hy) .nil))
end CW

set_option Elab.async false
set_option linter.all false
set_option maxRecDepth 100000
set_option maxHeartbeats 4000000
namespace CW
open PySem L2
noncomputable def emitG : Nat → List Int → Int → List (Int × Int)
  | 0, _, _ => []
  | _ + 1, [], _ => []
  | k + 1, x :: st, n => (x, n) :: emitG k st (n + 1)
noncomputable def closG : List Int → List Int → Int → List (Int × Int)
  | [], st, n => emitG st.length st n
  | p :: r, st, n => emitG (min st.length (p - n).toNat) st n ++ closG r (p :: st.drop (min st.length (p - n).toNat)) (p + 1)
noncomputable def closM (row : List Int) : List (Int × Int) := closG row [] 0
inductive spClosings (vs : List V) (H : Hp) (Q : VK) (E_ : XK) : Prop
  | mk (a : Addr) (row : List Int) (h0_ : vs = [.ref a]) (h1_ : H a = some (.lst (row.map V.int))) (h2_ : Row row) (h3_ : row.length ≤ 60) (h4_ : ∀ qs : List (Int × Int), qs.Perm (closM row) → qs.Pairwise ple → RetP H Q qs) : spClosings vs H Q E_
theorem sorted_unique : ∀ {a b : List Int}, a.Perm b → a.Pairwise (· ≤ ·) → b.Pairwise (· ≤ ·) → a = b
  | [], b, h, _, _ => by rw [h.symm.eq_nil]
  | x :: a, [], h, _, _ => by have := h.eq_nil; cases this
  | x :: a, y :: b, h, ha, hb => by
    have ha' := List.pairwise_cons.mp ha
    have hb' := List.pairwise_cons.mp hb
    have hx : x ∈ y :: b := h.mem_iff.mp List.mem_cons_self
    have hy : y ∈ x :: a := h.mem_iff.mpr List.mem_cons_self
    have e : x = y := by
      rcases List.mem_cons.mp hx with q | q
      · exact q
      · rcases List.mem_cons.mp hy with r | r
        · exact r.symm
        · have h1 := ha'.1 y r
          have h2 := hb'.1 x q
          omega
    subst e
    rw [sorted_unique (List.perm_cons x |>.mp h) ha'.2 hb'.2]
end CW

set_option Elab.async false
set_option linter.all false
set_option maxRecDepth 100000
set_option maxHeartbeats 4000000
namespace L2
open PySem PySem.Spec PyProof.Rows
noncomputable def UpA (xs : Array Nat) : Prop := xs.toList.Pairwise (· < ·)
theorem UpA.lt {xs : Array Nat} (h : UpA xs) {i j a b : Nat} (hij : i < j) (hi : xs[i]? = some a) (hj : xs[j]? = some b) : a < b := by
  rw [← Array.getElem?_toList] at hi hj
  obtain ⟨h1, e1⟩ := List.getElem?_eq_some_iff.mp hi
  obtain ⟨h2, e2⟩ := List.getElem?_eq_some_iff.mp hj
  have := (List.pairwise_iff_getElem.mp h) i j h1 h2 hij
  rw [e1, e2] at this; exact this
theorem below_go {xs : Array Nat} (j : Nat) (U : UpA xs) : ∀ (fuel lo hi : Nat), hi ≤ xs.size → lo ≤ hi → hi - lo ≤ fuel → (∀ k a, k < lo → xs[k]? = some a → a < j) → (∀ k a, hi ≤ k → xs[k]? = some a → j ≤ a) →
    SetTable.below.go xs j fuel lo hi ≤ xs.size ∧ (∀ k a, k < SetTable.below.go xs j fuel lo hi → xs[k]? = some a → a < j) ∧ (∀ k a, SetTable.below.go xs j fuel lo hi ≤ k → xs[k]? = some a → j ≤ a)
  | 0, lo, hi, h1, h2, h3, h4, h5 => by
    have e : hi = lo := by omega
    subst e
    exact ⟨h1, h4, h5⟩
  | fuel + 1, lo, hi, h1, h2, h3, h4, h5 => by
    unfold SetTable.below.go
    by_cases q : lo < hi
    · rw [if_pos q]
      have hm : (lo + hi) / 2 < xs.size := by omega
      have hg : xs.getD ((lo + hi) / 2) j = xs[(lo + hi) / 2] := by rw [Array.getD, dif_pos hm]; rfl
      have hs : xs[(lo + hi) / 2]? = some xs[(lo + hi) / 2] := Array.getElem?_eq_getElem hm
      dsimp only
      rw [hg]
      by_cases z : xs[(lo + hi) / 2] < j
      · rw [if_pos z]
        refine below_go j U fuel _ _ h1 (by omega) (by omega) (fun k a hk ha => ?_) h5
        rcases Nat.lt_or_ge k ((lo + hi) / 2) with y | y
        · exact Nat.lt_trans (U.lt y ha hs) z
        · have : k = (lo + hi) / 2 := by omega
          subst this
          rw [hs] at ha; cases ha; exact z
      · rw [if_neg z]
        refine below_go j U fuel _ _ (by omega) (by omega) (by omega) h4 (fun k a hk ha => ?_)
        rcases Nat.lt_or_ge ((lo + hi) / 2) k with y | y
        · have := U.lt y hs ha; omega
        · have : k = (lo + hi) / 2 := by omega
          subst this
          rw [hs] at ha; cases ha; omega
    · rw [if_neg q]
      have e : hi = lo := by omega
      subst e
      exact ⟨h1, h4, h5⟩
theorem below_at {xs : Array Nat} (j : Nat) (U : UpA xs) : SetTable.below xs j ≤ xs.size ∧ (∀ k a, k < SetTable.below xs j → xs[k]? = some a → a < j) ∧ (∀ k a, SetTable.below xs j ≤ k → xs[k]? = some a → j ≤ a) :=
  below_go j U xs.size 0 xs.size (Nat.le_refl _) (Nat.zero_le _) (by omega) (fun k a hk => absurd hk (by omega)) (fun k a hk ha => by
    have := (Array.getElem?_eq_some_iff.mp ha).1; omega)
theorem below_eq {xs : Array Nat} {j p : Nat} (U : UpA xs) (hp : p ≤ xs.size) (h1 : ∀ k a, k < p → xs[k]? = some a → a < j) (h2 : ∀ k a, p ≤ k → xs[k]? = some a → j ≤ a) : SetTable.below xs j = p := by
  obtain ⟨b0, b1, b2⟩ := below_at j U
  rcases Nat.lt_trichotomy (SetTable.below xs j) p with q | q | q
  · have hs : xs[SetTable.below xs j]? = some xs[SetTable.below xs j] := Array.getElem?_eq_getElem (by omega)
    have := b2 _ _ (Nat.le_refl _) hs; have := h1 _ _ q hs; omega
  · exact q
  · have hs : xs[p]? = some xs[p] := Array.getElem?_eq_getElem (by omega)
    have := h2 _ _ (Nat.le_refl _) hs; have := b1 _ _ q hs; omega
theorem slot_or {t : SetTable} (hd : t.dummies = #[]) (j : Nat) : t.slot j = .empty ∨ ∃ i, t.slot j = .live i := by
  unfold SetTable.slot
  rw [hd]
  dsimp only
  split
  · exact .inr ⟨_, rfl⟩
  · left
    rw [if_neg (by unfold SetTable.has; simp)]
theorem slot_free {t : SetTable} (hd : t.dummies = #[]) {j : Nat} (h : j ∉ t.place.toList) : t.slot j = .empty := by
  unfold SetTable.slot
  rw [hd]
  dsimp only
  rw [if_neg, if_neg (by unfold SetTable.has; simp)]
  intro e
  rw [beq_iff_eq] at e
  rw [← Array.getElem?_toList] at e
  exact h (List.mem_of_getElem? e)
theorem slot_not {t : SetTable} {j : Nat} (e : t.slot j = .empty) : t.place[SetTable.below t.place j]? ≠ some j := by
  intro h
  unfold SetTable.slot at e
  dsimp only at e
  rw [if_pos (by rw [h]; simp)] at e
  cases e
theorem put_up {t : SetTable} (U : UpA t.place) {j : Nat} (e : t.slot j = .empty) : UpA (t.put j).1.place := by
  obtain ⟨b0, b1, b2⟩ := below_at j U
  have hn := slot_not e
  show (SetTable.insertAt t.place (SetTable.below t.place j) j).toList.Pairwise (· < ·)
  rw [SetTable.toList_insertAt]
  have U' : t.place.toList.Pairwise (· < ·) := U
  rw [List.pairwise_append]
  refine ⟨U'.sublist (List.take_sublist ..), ?_, ?_⟩
  · rw [List.pairwise_cons]
    refine ⟨fun a ha => ?_, U'.sublist (List.drop_sublist ..)⟩
    obtain ⟨k, hk⟩ := List.mem_iff_getElem?.mp ha
    rw [List.getElem?_drop, Array.getElem?_toList] at hk
    have h1 := b2 _ _ (Nat.le_add_right _ k) hk
    rcases Nat.eq_zero_or_pos k with z | z
    · subst z
      have : j ≠ a := fun q => hn (by rw [q] at hk ⊢; simpa using hk)
      omega
    · have hb : SetTable.below t.place j < t.place.size := by
        have := (Array.getElem?_eq_some_iff.mp hk).1; omega
      have hs : t.place[SetTable.below t.place j]? = some t.place[SetTable.below t.place j] := Array.getElem?_eq_getElem hb
      have h2 := b2 _ _ (Nat.le_refl _) hs
      have h3 := U.lt (by omega) hs hk
      omega
  · intro a ha b hb
    obtain ⟨k, hk⟩ := List.mem_iff_getElem?.mp ha
    have hlt : a < j := by
      rw [List.getElem?_take] at hk
      split at hk
      · rename_i q
        rw [Array.getElem?_toList] at hk
        exact b1 _ _ q hk
      · cases hk
    rcases List.mem_cons.mp hb with q | q
    · rw [q]; exact hlt
    · obtain ⟨k2, hk2⟩ := List.mem_iff_getElem?.mp q
      rw [List.getElem?_drop, Array.getElem?_toList] at hk2
      have := b2 _ _ (Nat.le_add_right _ k2) hk2
      omega
noncomputable def stepL (m i : Nat) : Nat := (i * 5 + 1) % (m + 1)
noncomputable def distL (m : Nat) : Nat → Nat → Nat → Nat
  | 0, _, _ => 0
  | f + 1, i, j => if i = j then 0 else distL m f (stepL m i) j + 1
noncomputable def FullL (m : Nat) : Prop := ∀ i j : Fin (m + 1), i.val ≠ j.val → distL m (m + 1) i j = distL m (m + 1) (stepL m i) j + 1
noncomputable instance (m : Nat) : Decidable (FullL m) := by unfold FullL; infer_instance
theorem full7 : FullL 7 := by decide +kernel
theorem full31 : FullL 31 := by decide +kernel
theorem dist_le (m : Nat) : ∀ f i j, distL m f i j ≤ f
  | 0, _, _ => Nat.le_refl _
  | f + 1, i, j => by unfold distL; split; omega; have := dist_le m f (stepL m i) j; omega
theorem dist_zero {m i j : Nat} (h : distL m (m + 1) i j = 0) : i = j := by
  unfold distL at h; split at h; assumption; omega
section
variable {t : SetTable} {h : Int}
noncomputable def baseP (m i perturb : Nat) : SetTable.Probe := { j := i, more := SetTable.runEnd m i - i, i := i, perturb := perturb, dummy := none }
noncomputable def FoundE (t : SetTable) (r : Option SetTable.Met) : Prop := ∃ j, r = some (.empty j none) ∧ t.slot j = .empty
theorem run_or (hd : t.dummies = #[]) : ∀ (more fuel j i perturb : Nat), more < fuel →
    FoundE t ((SetTable.probe.go t (fun _ => h + 1) h) fuel { j := j, more := more, i := i, perturb := perturb, dummy := none }) ∨
    (SetTable.probe.go t (fun _ => h + 1) h) fuel { j := j, more := more, i := i, perturb := perturb, dummy := none } = (SetTable.probe.go t (fun _ => h + 1) h) (fuel - (more + 1)) (baseP t.mask (SetTable.leap t.mask i perturb).1 (SetTable.leap t.mask i perturb).2)
  | more, 0, j, i, perturb, hf => absurd hf (by omega)
  | 0, fuel + 1, j, i, perturb, hf => by
    rw [SetTable.probe.go]
    rcases slot_or hd j with e | ⟨x, e⟩
    · left; dsimp only; rw [e]; exact ⟨j, rfl, e⟩
    · right
      dsimp only; rw [e]
      dsimp only
      rw [if_neg (by simp; omega)]
      rfl
  | more + 1, fuel + 1, j, i, perturb, hf => by
    rw [SetTable.probe.go]
    rcases slot_or hd j with e | ⟨x, e⟩
    · left; dsimp only; rw [e]; exact ⟨j, rfl, e⟩
    · dsimp only; rw [e]
      dsimp only
      rw [if_neg (by simp; omega)]
      have ea : t.advance { j := j, more := more + 1, i := i, perturb := perturb, dummy := none } = { j := j + 1, more := more, i := i, perturb := perturb, dummy := none } := by
        unfold SetTable.advance
        rw [if_pos (by simp)]
        simp
      rw [ea]
      have := run_or hd more fuel (j + 1) i perturb (by omega)
      rw [show fuel + 1 - (more + 1 + 1) = fuel - (more + 1) by omega]
      exact this
theorem runEnd_le (m i : Nat) : SetTable.runEnd m i - i ≤ 9 := by unfold SetTable.runEnd; split <;> omega
theorem cyc (hd : t.dummies = #[]) (F : FullL t.mask) {j0 : Nat} (hj : j0 ≤ t.mask) (hs : t.slot j0 = .empty) : ∀ (d fuel i : Nat), i ≤ t.mask → distL t.mask (t.mask + 1) i j0 = d → 10 * d < fuel → FoundE t ((SetTable.probe.go t (fun _ => h + 1) h) fuel (baseP t.mask i 0))
  | 0, 0, i, hi, e, hf => absurd hf (by omega)
  | 0, fuel + 1, i, hi, e, hf => by
    have q := dist_zero e
    subst q
    rw [SetTable.probe.go, show t.slot (baseP t.mask i 0).j = .empty from hs]
    exact ⟨i, rfl, hs⟩
  | d + 1, fuel, i, hi, e, hf => by
    have hr := runEnd_le t.mask i
    rcases run_or (t := t) (h := h) hd (SetTable.runEnd t.mask i - i) fuel i i 0 (by omega) with q | q
    · exact q
    · show FoundE t ((SetTable.probe.go t (fun _ => h + 1) h) fuel { j := i, more := SetTable.runEnd t.mask i - i, i := i, perturb := 0, dummy := none })
      rw [q]
      have el : SetTable.leap t.mask i 0 = (stepL t.mask i, 0) := rfl
      rw [el]
      have ne : i ≠ j0 := fun z => by subst z; unfold distL at e; rw [if_pos rfl] at e; cases e
      have := F ⟨i, by omega⟩ ⟨j0, by omega⟩ ne
      dsimp only at this
      have hl : stepL t.mask i ≤ t.mask := by have := Nat.mod_lt (i * 5 + 1) (show 0 < t.mask + 1 by omega); unfold stepL; omega
      exact cyc hd F hj hs d _ (stepL t.mask i) hl (by omega) (by omega)
theorem probe_lev (hd : t.dummies = #[]) (F : FullL t.mask) {j0 : Nat} (hj : j0 ≤ t.mask) (hs : t.slot j0 = .empty) : ∀ (k fuel i perturb : Nat), i ≤ t.mask → perturb < 32 ^ k → 10 * (k + t.mask + 1) < fuel → FoundE t ((SetTable.probe.go t (fun _ => h + 1) h) fuel (baseP t.mask i perturb))
  | 0, fuel, i, perturb, hi, hp, hf => by
    have : perturb = 0 := by simp at hp; exact hp
    subst this
    exact cyc hd F hj hs _ fuel i hi rfl (by have := dist_le t.mask (t.mask + 1) i j0; omega)
  | k + 1, fuel, i, perturb, hi, hp, hf => by
    have hr := runEnd_le t.mask i
    rcases run_or (t := t) (h := h) hd (SetTable.runEnd t.mask i - i) fuel i i perturb (by omega) with q | q
    · exact q
    · show FoundE t ((SetTable.probe.go t (fun _ => h + 1) h) fuel { j := i, more := SetTable.runEnd t.mask i - i, i := i, perturb := perturb, dummy := none })
      rw [q]
      have hpp : perturb / 32 < 32 ^ k := by rw [Nat.div_lt_iff_lt_mul (by decide)]; rw [Nat.pow_succ] at hp; exact hp
      exact probe_lev hd F hj hs k _ _ _ (by have := Nat.mod_lt (i * 5 + 1 + perturb / 32) (show 0 < t.mask + 1 by omega); show (i * 5 + 1 + perturb / 32) % (t.mask + 1) ≤ t.mask; omega) hpp (by omega)
theorem bits_lt (h : Int) : SetTable.bits h < 32 ^ 13 := by
  unfold SetTable.bits
  have h1 := Int.emod_lt_of_pos h (show (0 : Int) < 2 ^ 64 by decide)
  have h2 := Int.emod_nonneg h (show (2 ^ 64 : Int) ≠ 0 by decide)
  have : (32 : Nat) ^ 13 = 36893488147419103232 := by decide
  rw [this]
  have e : (2 : Int) ^ 64 = 18446744073709551616 := by decide
  rw [e] at h1 h2 ⊢
  omega
theorem spare {t : SetTable} (hn : t.place.size ≤ t.mask) : ∃ j, j ≤ t.mask ∧ j ∉ t.place.toList := by
  apply Classical.byContradiction
  intro hc
  have hsub : List.range (t.mask + 1) ⊆ t.place.toList := fun j hj => Classical.byContradiction fun q => hc ⟨j, by have := List.mem_range.mp hj; omega, q⟩
  have := List.nodup_range.length_le_of_subset hsub
  rw [List.length_range, Array.length_toList] at this
  omega
theorem freeSlot_some (hd : t.dummies = #[]) (F : FullL t.mask) (hn : t.place.size ≤ t.mask) : ∃ j, t.freeSlot h = some (j, false) ∧ t.slot j = .empty := by
  obtain ⟨j0, hj, hm⟩ := spare hn
  have := probe_lev (h := h) hd F hj (slot_free hd hm) 13 (10 * SetTable.turns t.mask) (SetTable.bits h % (t.mask + 1)) (SetTable.bits h) (by have := Nat.mod_lt (SetTable.bits h) (show 0 < t.mask + 1 by omega); omega) (bits_lt h) (by unfold SetTable.turns; omega)
  obtain ⟨j, e, hs⟩ := this
  refine ⟨j, ?_, hs⟩
  unfold SetTable.freeSlot
  have e2 : t.probe (fun _ => h + 1) h (t.probeStart h) = some (.empty j none) := e
  rw [e2]
  rfl
end
end L2

set_option Elab.async false
set_option linter.all false
set_option maxRecDepth 100000
set_option maxHeartbeats 4000000
namespace L2
open PySem PySem.Spec PyProof.Rows
noncomputable def rkL (i : Nat) : Nat := if i = 24 then 4 else if i = 25 then 3 else if i = 30 ∨ i = 31 then 2 else if 23 ≤ i then 1 else 0
theorem rk_step : ∀ i : Fin 32, 22 < i.val → rkL (stepL 31 i.val) < rkL i.val := by decide +kernel
theorem rk_le (i : Nat) : rkL i ≤ 4 := by unfold rkL; (repeat' split) <;> omega
theorem drop_all {α : Type} : ∀ (l : List (Option α)), (∀ x ∈ l, x.isSome = true) → (l.filterMap id).length = l.length
  | [], _ => rfl
  | none :: l, h => by have := h none List.mem_cons_self; cases this
  | some a :: l, h => by
    rw [List.filterMap_cons_some (f := id) (a := some a) (b := a) rfl, List.length_cons, List.length_cons, drop_all l fun x hx => h x (List.mem_cons_of_mem _ hx)]
theorem run_free {owner : Array (Option Nat)} (hz : owner.size = 32) (hc : (owner.toList.filterMap id).length < 10) {i : Nat} (hi : i ≤ 22) :
    ∃ k, (List.range 10).find? (fun k => (owner.getD (i + k) (some 0)).isNone) = some k ∧ k < 10 ∧ owner[i + k]? = some none := by
  cases hf : (List.range 10).find? (fun k => (owner.getD (i + k) (some 0)).isNone) with
  | some k =>
    have h1 := List.find?_some hf
    have h2 := List.mem_of_find?_eq_some hf
    have hk := List.mem_range.mp h2
    refine ⟨k, rfl, hk, ?_⟩
    have hb : i + k < owner.size := by omega
    rw [Array.getElem?_eq_getElem hb]
    rw [Array.getD, dif_pos hb] at h1
    have h3 : owner[i + k].isNone = true := h1
    rw [Option.isNone_iff_eq_none.mp h3]
  | none =>
    exfalso
    have h1 := List.find?_eq_none.mp hf
    have hsub : ((owner.toList.drop i).take 10).Sublist owner.toList := (List.take_sublist ..).trans (List.drop_sublist ..)
    have hle := (hsub.filterMap id).length_le
    have hlen : ((owner.toList.drop i).take 10).length = 10 := by
      rw [List.length_take, List.length_drop, Array.length_toList, hz]; omega
    have := drop_all ((owner.toList.drop i).take 10) fun x hx => by
      obtain ⟨k, hk⟩ := List.mem_iff_getElem?.mp hx
      have hk10 : k < 10 := by rw [← hlen]; exact (List.getElem?_eq_some_iff.mp hk).1
      rw [List.getElem?_take, if_pos hk10, List.getElem?_drop, Array.getElem?_toList] at hk
      have hb : i + k < owner.size := (Array.getElem?_eq_some_iff.mp hk).1
      have h2 := h1 k (List.mem_range.mpr hk10)
      rw [Array.getD, dif_pos hb] at h2
      have h3 : ¬ owner[i + k].isNone = true := h2
      have h4 : owner[i + k] = x := (Array.getElem?_eq_some_iff.mp hk).2
      rw [h4] at h3
      cases x with
      | none => exact absurd rfl h3
      | some _ => rfl
    omega
noncomputable def GotF (owner : Array (Option Nat)) (r : Option Nat) : Prop := ∃ j, r = some j ∧ owner[j]? = some none
theorem free_hit {owner : Array (Option Nat)} (hz : owner.size = 32) (hc : (owner.toList.filterMap id).length < 10) {i : Nat} (hi : i ≤ 22) (fuel perturb : Nat) :
    GotF owner (SetTable.layClean.free 31 owner (fuel + 1) i perturb) := by
  obtain ⟨k, e, _, h⟩ := run_free hz hc hi
  rw [SetTable.layClean.free]
  have er : SetTable.runEnd 31 i + 1 - i = 10 := by unfold SetTable.runEnd; rw [if_pos (by omega)]; omega
  rw [er, e]
  exact ⟨i + k, rfl, h⟩
theorem free_or {owner : Array (Option Nat)} (hz : owner.size = 32) {i : Nat} (hi : 22 < i) (hi2 : i < 32) (fuel perturb : Nat) :
    GotF owner (SetTable.layClean.free 31 owner (fuel + 1) i perturb) ∨
    SetTable.layClean.free 31 owner (fuel + 1) i perturb = SetTable.layClean.free 31 owner fuel ((i * 5 + 1 + perturb / 32) % 32) (perturb / 32) := by
  rw [SetTable.layClean.free]
  have er : SetTable.runEnd 31 i + 1 - i = 1 := by unfold SetTable.runEnd; rw [if_neg (by omega)]; omega
  rw [er]
  cases hf : (List.range 1).find? (fun k => (owner.getD (i + k) (some 0)).isNone) with
  | none => right; rfl
  | some k =>
    left
    have h1 := List.find?_some hf
    have h2 := List.mem_of_find?_eq_some hf
    have hk := List.mem_range.mp h2
    have hb : i + k < owner.size := by omega
    refine ⟨i + k, rfl, ?_⟩
    rw [Array.getElem?_eq_getElem hb]
    rw [Array.getD, dif_pos hb] at h1
    have h3 : owner[i + k].isNone = true := h1
    rw [Option.isNone_iff_eq_none.mp h3]
theorem free_0 {owner : Array (Option Nat)} (hz : owner.size = 32) (hc : (owner.toList.filterMap id).length < 10) : ∀ (fuel i : Nat), i < 32 → rkL i < fuel → GotF owner (SetTable.layClean.free 31 owner fuel i 0)
  | 0, i, hi, h => absurd h (by omega)
  | fuel + 1, i, hi, h => by
    rcases Nat.lt_or_ge 22 i with q | q
    · rcases free_or hz q hi fuel 0 with z | z
      · exact z
      · rw [z]
        have := rk_step ⟨i, hi⟩ q
        have e : (i * 5 + 1 + 0 / 32) % 32 = stepL 31 i := rfl
        rw [e]
        exact free_0 hz hc fuel _ (Nat.mod_lt _ (by decide)) (by dsimp only at this; omega)
    · exact free_hit hz hc q fuel 0
theorem free_lev {owner : Array (Option Nat)} (hz : owner.size = 32) (hc : (owner.toList.filterMap id).length < 10) : ∀ (k fuel i perturb : Nat), i < 32 → perturb < 32 ^ k → k + 5 ≤ fuel → GotF owner (SetTable.layClean.free 31 owner fuel i perturb)
  | 0, fuel, i, perturb, hi, hp, hf => by
    have : perturb = 0 := by simp at hp; exact hp
    subst this
    exact free_0 hz hc fuel i hi (by have := rk_le i; omega)
  | k + 1, 0, i, perturb, hi, hp, hf => absurd hf (by omega)
  | k + 1, fuel + 1, i, perturb, hi, hp, hf => by
    rcases Nat.lt_or_ge 22 i with q | q
    · rcases free_or hz q hi fuel perturb with z | z
      · exact z
      · rw [z]
        have hpp : perturb / 32 < 32 ^ k := by rw [Nat.div_lt_iff_lt_mul (by decide)]; rw [Nat.pow_succ] at hp; exact hp
        exact free_lev hz hc k fuel _ _ (Nat.mod_lt _ (by decide)) hpp (by omega)
    · exact free_hit hz hc q fuel perturb
theorem set_perm {l : List (Option Nat)} {j k : Nat} (h : l[j]? = some none) : ((l.set j (some k)).filterMap id).Perm (l.filterMap id ++ [k]) := by
  obtain ⟨hb, e⟩ := List.getElem?_eq_some_iff.mp h
  have e1 : l = l.take j ++ none :: l.drop (j + 1) := by
    rw [← e, List.getElem_cons_drop, List.take_append_drop]
  rw [List.set_eq_take_append_cons_drop, if_pos hb]
  conv => rhs; rw [e1]
  rw [List.filterMap_append, List.filterMap_append, List.filterMap_cons_some (f := id) (a := some k) (b := k) rfl, List.filterMap_cons_none (f := id) (a := (none : Option Nat)) rfl, List.append_assoc]
  exact List.Perm.append_left _ (List.perm_append_singleton k _).symm
noncomputable def layF (mask : Nat) : Option (Array (Option Nat) × Nat) → Int → Option (Array (Option Nat) × Nat) := fun acc h => do
    let (owner, k) ← acc
    let j ← SetTable.layClean.free mask owner (SetTable.turns mask) (SetTable.bits h % (mask + 1)) (SetTable.bits h)
    pure (owner.setIfInBounds j (some k), k + 1)
theorem lay_go : ∀ (l : List Int) (owner : Array (Option Nat)) (k : Nat), owner.size = 32 → (owner.toList.filterMap id).Perm (List.range k) → k + l.length ≤ 5 →
    ∃ owner', l.foldl (layF 31) (some (owner, k)) = some (owner', k + l.length) ∧ owner'.size = 32 ∧ (owner'.toList.filterMap id).Perm (List.range (k + l.length))
  | [], owner, k, hz, hp, hk => ⟨owner, rfl, hz, hp⟩
  | h :: l, owner, k, hz, hp, hk => by
    rw [List.length_cons] at hk
    obtain ⟨j, e, hj⟩ := free_lev (owner := owner) hz (by rw [hp.length_eq, List.length_range]; omega) 13 (SetTable.turns 31) (SetTable.bits h % 32) (SetTable.bits h) (Nat.mod_lt _ (by decide)) (bits_lt h) (by decide)
    have e2 : layF 31 (some (owner, k)) h = some (owner.setIfInBounds j (some k), k + 1) := by
      unfold layF
      show (SetTable.layClean.free 31 owner (SetTable.turns 31) (SetTable.bits h % 32) (SetTable.bits h)).bind _ = _
      rw [e]; rfl
    rw [List.foldl_cons, e2]
    have := lay_go l (owner.setIfInBounds j (some k)) (k + 1) (by rw [Array.size_setIfInBounds]; exact hz) (by
      rw [Array.toList_setIfInBounds]
      refine (set_perm (by rw [Array.getElem?_toList]; exact hj)).trans ?_
      rw [List.range_succ]
      exact hp.append_right _) (by omega)
    rw [List.length_cons, show k + (l.length + 1) = k + 1 + l.length by omega]
    exact this
theorem layClean_five {hs : Array Int} (hn : hs.size ≤ 5) : ∃ owner, SetTable.layClean 31 hs = some owner ∧ owner.size = 32 ∧ (owner.toList.filterMap id).Perm (List.range hs.size) := by
  obtain ⟨owner, e, hz, hp⟩ := lay_go hs.toList (Array.replicate 32 none) 0 (by simp) (by simp) (by simpa using hn)
  refine ⟨owner, ?_, hz, by simpa using hp⟩
  unfold SetTable.layClean
  have e2 : hs.foldl (layF 31) (some (Array.replicate (31 + 1) none, 0)) = some (owner, 0 + hs.toList.length) := by rw [← Array.foldl_toList]; exact e
  show Option.map (·.1) (hs.foldl (layF 31) (some (Array.replicate (31 + 1) none, 0))) = some owner
  rw [e2]; rfl
theorem getD_all {owner : Array (Option Nat)} {n : Nat} (hz : owner.size = n) : (List.range n).filterMap (fun j => owner.getD j none) = owner.toList.filterMap id := by
  subst hz
  have e : owner.toList = (List.range owner.size).map fun j => owner.getD j none := by
    apply List.ext_getElem
    · simp
    · intro i h1 h2
      have hb : i < owner.size := by simpa using h1
      rw [List.getElem_map, List.getElem_range, Array.getElem_toList, Array.getD, dif_pos hb]
      rfl
  conv => rhs; rw [e]
  rw [List.filterMap_map]
  rfl
theorem laid_five {hs : Array Int} {f m : Nat} {led : Bool} (hn : hs.size ≤ 5) : ∃ t' order, SetTable.laid 31 f m led true hs = some (t', order) ∧ t'.mask = 31 ∧ UpA t'.place ∧ t'.place.size = hs.size ∧ t'.dummies = #[] ∧ t'.led = led ∧ t'.plain = true ∧
    order.toList.Perm (List.range hs.size) := by
  obtain ⟨owner, e, hz, hp⟩ := layClean_five hn
  refine ⟨_, _, by unfold SetTable.laid; rw [e]; rfl, rfl, ?_, ?_, rfl, rfl, rfl, ?_⟩
  · show ((List.range 32).filterMap fun j => (owner.getD j none).map (j, ·)).map (·.1) |>.toArray.toList.Pairwise (· < ·)
    rw [List.map_filterMap]
    refine List.Pairwise.filterMap _ (R := (· < ·)) (fun a a' haa b hb b' hb' => ?_) List.pairwise_lt_range
    have g : ∀ (x y : Nat), (Option.map (·.1) ((owner.getD x none).map fun k => (x, k))) = some y → y = x := fun x y q => by
      cases ho : owner.getD x none with
      | none => rw [ho] at q; cases q
      | some z => rw [ho] at q; cases q; rfl
    rw [g _ _ hb, g _ _ hb']; exact haa
  · show (((List.range 32).filterMap fun j => (owner.getD j none).map (j, ·)).map (·.1)).toArray.size = _
    have := hp.length_eq
    rw [← getD_all hz, List.length_range] at this
    rw [List.size_toArray, List.length_map, ← this]
    have g : ∀ l : List Nat, (l.filterMap fun j => (owner.getD j none).map fun k => (j, k)).length = (l.filterMap fun j => owner.getD j none).length := by
      intro l
      induction l with
      | nil => rfl
      | cons x l ih =>
        cases ho : owner.getD x none with
        | none => rw [List.filterMap_cons_none (by rw [ho]; rfl), List.filterMap_cons_none (f := fun j => owner.getD j none) (a := x) ho, ih]
        | some z => rw [List.filterMap_cons_some (b := (x, z)) (by rw [ho]; rfl), List.filterMap_cons_some (f := fun j => owner.getD j none) (a := x) (b := z) ho, List.length_cons, List.length_cons, ih]
    exact g _
  · show (((List.range 32).filterMap fun j => (owner.getD j none).map (j, ·)).map (·.2)).toArray.toList.Perm _
    rw [List.map_filterMap]
    have g : (fun j => Option.map (·.2) ((owner.getD j none).map fun k => (j, k))) = fun j => owner.getD j none := by
      funext j
      cases owner.getD j none <;> rfl
    show (List.filterMap (fun j => Option.map (·.2) ((owner.getD j none).map fun k => (j, k))) (List.range 32)).Perm _
    rw [g, getD_all hz]
    exact hp
structure TabG (w : World) (t : SetTable) (n : Nat) : Prop where
  plain : t.plain = true
  led : t.led = true ∨ w.params.followText "set-order" = true
  dum : t.dummies = #[]
  up : UpA t.place
  sz : t.place.size = n
  msk : (t.mask = 7 ∧ n ≤ 4) ∨ (t.mask = 31 ∧ n ≤ 18)
theorem TabG.fresh {w : World} {led : Bool} (h : led = true ∨ w.params.followText "set-order" = true) : TabG w (.fresh 0 0 led) 0 :=
  ⟨rfl, h, rfl, .nil, rfl, .inl ⟨rfl, by decide⟩⟩
theorem TabG.full {w : World} {t : SetTable} {n : Nat} (T : TabG w t n) : FullL t.mask := by
  rcases T.msk with ⟨e, _⟩ | ⟨e, _⟩
  · rw [e]; exact full7
  · rw [e]; exact full31
theorem TabG.lay {w : World} {t : SetTable} {n : Nat} (T : TabG w t n) (es : Array (Int × Value)) (hn : es.size = n) (h : Int) (x : Value) :
    ∃ es' t', layNew t es h x = (es', t', false, false) ∧ t'.plain = true ∧ t'.led = t.led ∧ t'.dummies = #[] ∧ UpA t'.place ∧ t'.place.size = n + 1 ∧ t'.mask = t.mask := by
  have hm : t.place.size ≤ t.mask := by rw [T.sz]; rcases T.msk with ⟨e, q⟩ | ⟨e, q⟩ <;> omega
  obtain ⟨j, e, hs⟩ := freeSlot_some (h := h) T.dum T.full hm
  have hz : (t.put j).1.place.size = n + 1 := by
    show (SetTable.insertAt t.place (SetTable.below t.place j) j).size = n + 1
    rw [← Array.length_toList, (SetTable.insertAt_perm ..).length_eq, Array.length_toList, Array.size_push, T.sz]
  have hd : (t.put j).1.dummies = #[] := by
    show (if SetTable.has t.dummies j then _ else t.dummies) = #[]
    rw [T.dum, if_neg (by unfold SetTable.has; simp)]
  have hez : (SetTable.insertAt es (t.put j).2 (h, x)).size = n + 1 := by
    rw [← Array.length_toList, (SetTable.insertAt_perm ..).length_eq, Array.length_toList, Array.size_push, hn]
  have hmk : (t.put j).1.mask = t.mask := rfl
  have hf : (t.put j).1.fits (SetTable.insertAt es (t.put j).2 (h, x)).size = true := by
    unfold SetTable.fits SetTable.fill
    rw [hez, hz, hd, hmk]
    rcases T.msk with ⟨e, q⟩ | ⟨e, q⟩
    · rw [e]; simp; omega
    · rw [e]; simp; omega
  refine ⟨SetTable.insertAt es (t.put j).2 (h, x), (t.put j).1, ?_, T.plain, rfl, hd, put_up T.up hs, hz, rfl⟩
  unfold layNew
  rw [e]
  dsimp only
  unfold SetTable.orStandIn
  rw [if_pos hf, hf]
  rfl
theorem relay_five {w : World} {t : SetTable} {es : Array (Int × Value)} (hz : es.size = 5) (hp : t.plain = true) (hl : t.led = true ∨ w.params.followText "set-order" = true) :
    ∃ es' t', relayAll t es (SetTable.grown es.size) = (es', t', false) ∧ TabG w t' 5 ∧ es'.size = 5 := by
  have hh : (es.map (·.1)).size ≤ 5 := by rw [Array.size_map, hz]; decide
  obtain ⟨t', order, e, a1, a2, a3, a4, a5, a6, a7⟩ := laid_five (f := t.finger) (m := t.movedTo 31) (led := t.led) hh
  rw [Array.size_map, hz] at a3 a7
  have e2 : t.relaid (es.map (·.1)) (SetTable.grown es.size) = some (t', order) := by
    unfold SetTable.relaid
    rw [hz, hp]
    exact e
  have hpm := relayAll_perm t es (SetTable.grown es.size)
  have hcov : coversAll order es.size = true := by unfold coversAll; rw [hz]; exact List.isPerm_iff.mpr a7
  have hsz : (order.filterMap (es[·]?)).size = 5 := by
    rw [← Array.length_toList, Array.toList_filterMap, (a7.filterMap _).length_eq, ← hz, filterMap_getElem?_range, Array.length_toList]
  have hf : t'.fits (order.filterMap (es[·]?)).size = true := by
    unfold SetTable.fits SetTable.fill
    rw [hsz, a3, a4, a1]; rfl
  refine ⟨order.filterMap (es[·]?), t', ?_, ⟨a6, by rw [a5]; exact hl, a4, a2, a3, .inr ⟨a1, by decide⟩⟩, hsz⟩
  unfold relayAll
  rw [e2]
  dsimp only
  rw [hcov, hf]
  rfl
end L2

set_option Elab.async false
set_option linter.all false
set_option maxRecDepth 100000
set_option maxHeartbeats 4000000
namespace L2
open PySem PySem.Spec PyProof.Rows
section
variable {prog : Program} {w : World} {A : Around} {E : Value → Shared → Prop} {s : Shared}
noncomputable def SetG (prog : Program) (w : World) (h : Heap) (a : Addr) (S : Int → Bool) (n : Nat) : Prop :=
  ∃ o es ep t, h.get? a = some o ∧ o.ExactSet ∧ o.data = .set es ep t ∧ ElemsOf (intKind prog w) es.toList ∧ (∀ k, S k = true ↔ ∃ e ∈ es.toList, (intKind prog w).is k e.2 = true) ∧ es.size = n ∧ TabG w t n
theorem TabG.le {t : SetTable} {n : Nat} (T : TabG w t n) : n ≤ 18 := by rcases T.msk with ⟨_, q⟩ | ⟨_, q⟩ <;> omega
theorem TabG.fits {t : SetTable} {n : Nat} (T : TabG w t n) : t.fits n = true := by
  unfold SetTable.fits SetTable.fill
  rw [T.sz, T.dum]
  rcases T.msk with ⟨e, q⟩ | ⟨e, q⟩ <;> (rw [e]; simp; omega)
theorem SetG.congr {h : Heap} {a : Addr} {S S' : Int → Bool} {n n' : Nat} (hS : SetG prog w h a S n) (e : ∀ k, S k = S' k) (en : n = n') : SetG prog w h a S' n' := by
  have : S = S' := funext e
  subst this; subst en; exact hS
theorem SetG.at' {h h' : Heap} {a : Addr} {S : Int → Bool} {n : Nat} (hS : SetG prog w h a S n) (k : ∀ o, h.get? a = some o → h'.get? a = some o) : SetG prog w h' a S n := by
  obtain ⟨o, es, ep, t, h1, r⟩ := hS
  exact ⟨o, es, ep, t, k _ h1, r⟩
theorem storeG {h : Heap} {a : Addr} {o : Obj} {es : Array (Int × Value)} {ep : Nat} {t : SetTable} (ho : h.get? a = some o) (hd : o.data = .set es ep t) (es' : Array (Int × Value)) (t' : SetTable) :
    (h.update a (Obj.putSet es' t')).get? a = some { o with data := .set es' (ep + 1) t' } := by
  have := Heap.get?_update_self (Obj.putSet es' t') ho (by rw [putSet_of es' t' hd]; rfl)
  rw [putSet_of es' t' hd] at this; exact this
theorem addG {a : Addr} {S : Int → Bool} {n : Nat} {k : Int} {tk : Tok} {Q : Bool → Shared → Prop} (hS : SetG prog w s.heap a S n) (hroom : S k = true ∨ n + 1 ≤ 18)
    (h : ∀ h', Heap.SameBut a s.heap h' → SetG prog w h' a (fun k' => S k' || decide (k' = k)) (if S k then n else n + 1) → Q (!S k) { s with heap := h' }) :
    wpAny (model prog w) A (setAddHashed a (.int k tk) (hashInt k)) Q E s := by
  obtain ⟨o, es, ep, t, ho, hex, hd, hel, hmem, hn, T⟩ := hS
  have hkey : (intKind prog w).is k (.int k tk) = true := intKind_is _ _ _ _
  have hf : t.fits es.size = true := by rw [hn]; exact T.fits
  have hsb : scanBound = 4096 := rfl
  have h18 := T.le
  have hb : es.size < scanBound := by omega
  show wpAny (model prog w) A (setAddHashed a (.int k tk) ((intKind prog w).hash k)) Q E s
  unfold setAddHashed setAddHashedIn
  refine wpAny_holding (wpAny_bind (wpAny_setState_of ho hd hf ?_))
  dsimp only
  rw [byScan_of (knd := intKind prog w) rfl hb hel]
  simp only [↓reduceIte]
  unfold setAddByScan
  refine wpAny_bind ?_
  refine wpAny_bind (wpAny_rule ?_)
  refine wpAny_bind (wpAny_setScan_of hkey ho hd hf hel ?_)
  cases hr : List.findIdx? (fun e => (intKind prog w).is k e.2) es.toList with
  | some j =>
    dsimp only
    obtain ⟨hj, hpj, _⟩ := List.findIdx?_eq_some_iff_getElem.mp hr
    have hSk : S k = true := (hmem k).mpr ⟨es.toList[j], List.getElem_mem hj, hpj⟩
    refine wpAny_pure (wpAny_pure ?_)
    have e : s = { s with heap := s.heap } := by cases s; rfl
    have := h s.heap (Heap.SameBut.refl a s.heap) ⟨o, es, ep, t, ho, hex, hd, hel, fun k' => by
      rw [Bool.or_eq_true, decide_eq_true_eq, ← hmem k']
      exact ⟨fun hk => hk.elim id (fun e => e ▸ hSk), .inl⟩, by rw [hSk]; exact hn, by rw [hSk]; exact T⟩
    rw [hSk] at this; rw [e]; exact this
  | none =>
    dsimp only
    have hSk : S k = false := by
      cases hk : S k with
      | false => rfl
      | true => obtain ⟨e, he, hp⟩ := (hmem k).mp hk; have := List.findIdx?_eq_none_iff.mp hr e he; rw [hp] at this; exact Bool.noConfusion this
    have hroom : n + 1 ≤ 18 := hroom.resolve_left (by rw [hSk]; exact Bool.false_ne_true)
    have hperm := layNew_perm t es ((intKind prog w).hash k) (.int k tk)
    obtain ⟨es1, t1, eL, p1, p2, p3, p4, p5, p6⟩ := T.lay es hn ((intKind prog w).hash k) (.int k tk)
    rw [eL] at hperm ⊢
    dsimp only at hperm ⊢
    rw [Array.toList_push] at hperm
    have hel1 : ElemsOf (intKind prog w) es1.toList := (hel.push hkey rfl).perm hperm
    have hmem1 : ∀ k', (S k' || decide (k' = k)) = true ↔ ∃ e ∈ es1.toList, (intKind prog w).is k' e.2 = true := mem_push_iff hkey hmem hperm
    have hsz1 : es1.size = n + 1 := by rw [← Array.length_toList, hperm.length_eq, List.length_append, Array.length_toList, hn]; rfl
    have hl : t1.led = true ∨ w.params.followText "set-order" = true := by rw [p2]; exact T.led
    have hend : ∀ h', Heap.SameBut a s.heap h' → SetG prog w h' a (fun k' => S k' || decide (k' = k)) (n + 1) → Q true { s with heap := h' } := by
      intro h' hsb hS'; have := h h' hsb; rw [hSk] at this; exact this hS'
    refine wpAny_bind (wpAny_pure ?_)
    rw [p1]
    simp only [↓reduceIte]
    rw [hashByValue_scannable 8 (x := .int k tk) rfl]
    refine wpAny_bind (wpAny_pure ?_)
    have hpk : plainKind (.int k tk) = true := rfl
    rw [hpk]
    simp only [↓reduceIte]
    refine wpAny_bind (wpAny_storeSet_of ho hd ?_ (fits_of_scanBound (by omega)))
    have ho1 := storeG ho hd es1 t1
    have hsb1 := Heap.SameBut.update s.heap a (Obj.putSet es1 t1)
    have hfill : t1.fill = n + 1 := by unfold SetTable.fill; rw [p5, p3]; rfl
    rcases Nat.lt_or_ge t1.mask 8 with q | q
    · have hm7 : t.mask = 7 := by rcases T.msk with ⟨e, _⟩ | ⟨e, _⟩; exact e; omega
      have hn4 : n ≤ 4 := by rcases T.msk with ⟨e, q4⟩ | ⟨e, _⟩; exact q4; omega
      rcases Nat.lt_or_ge n 4 with z | z
      · have htf : (!false && t1.tooFull) = false := by
          unfold SetTable.tooFull; rw [hfill, p6, hm7]; simp; omega
        rw [htf]
        simp only [Bool.false_eq_true, ↓reduceIte]
        refine wpAny_pure (wpAny_pure ?_)
        exact hend _ hsb1 ⟨_, es1, ep + 1, t1, ho1, hex, rfl, hel1, hmem1, hsz1, ⟨p1, hl, p3, p4, p5, .inl ⟨by rw [p6, hm7], by omega⟩⟩⟩
      · have hn4' : n = 4 := by omega
        subst hn4'
        have htf : (!false && t1.tooFull) = true := by
          unfold SetTable.tooFull; rw [hfill, p6, hm7]; rfl
        rw [htf]
        simp only [↓reduceIte]
        have hp := relayAll_perm t1 es1 (SetTable.grown es1.size)
        obtain ⟨es2, t2, eR, T2, hz2⟩ := relay_five (w := w) hsz1 p1 hl
        rw [eR] at hp ⊢
        dsimp only at hp ⊢
        refine wpAny_bind (wpAny_pure ?_)
        refine wpAny_bind (wpAny_storeSet_of ho1 rfl ?_ (fits_of_scanBound (by omega)))
        have ho2 := storeG ho1 rfl es2 t2
        refine wpAny_pure (wpAny_pure ?_)
        exact hend _ (hsb1.trans (Heap.SameBut.update _ a _)) ⟨_, es2, ep + 1 + 1, t2, ho2, hex, rfl, hel1.perm hp,
          fun k' => (hmem1 k').trans ⟨fun ⟨e, he, q⟩ => ⟨e, hp.mem_iff.mpr he, q⟩, fun ⟨e, he, q⟩ => ⟨e, hp.mem_iff.mp he, q⟩⟩, hz2, T2⟩
    · have hm31 : t.mask = 31 := by rcases T.msk with ⟨e, _⟩ | ⟨e, _⟩; omega; exact e
      have htf : (!false && t1.tooFull) = false := by
        unfold SetTable.tooFull; rw [hfill, p6, hm31]; simp; omega
      rw [htf]
      simp only [Bool.false_eq_true, ↓reduceIte]
      refine wpAny_pure (wpAny_pure ?_)
      exact hend _ hsb1 ⟨_, es1, ep + 1, t1, ho1, hex, rfl, hel1, hmem1, hsz1, ⟨p1, hl, p3, p4, p5, .inr ⟨by rw [p6, hm31], hroom⟩⟩⟩
end
end L2

set_option Elab.async false
set_option linter.all false
set_option maxRecDepth 100000
set_option maxHeartbeats 4000000
namespace L2
open PySem PySem.Spec PyProof.Rows
theorem firstMet_mono (val : Nat → Int) {i : Nat} : ∀ {n : Nat}, i ≤ n → (firstMet val i).length ≤ (firstMet val n).length
  | 0, h => by have : i = 0 := by omega
               rw [this]; exact Nat.le_refl _
  | n + 1, h => by
    rcases Nat.lt_or_ge n i with q | q
    · have : i = n + 1 := by omega
      rw [this]; exact Nat.le_refl _
    · have := firstMet_mono val q
      rw [firstMet_succ, step_length]
      split <;> omega
section
variable {prog : Program} {w : World} {A : Around} {R : Result → Shared → Prop} {I : Addr} {fp wr : List Addr} {G : Array GenState → Array GenState → Prop} {n : Nat} {P : Nat → Value → Prop} {St : Nat → Shared → Prop}
theorem set_loopG (W : WalksS prog w A.in1 I fp wr G n P St) (S : Addr) (hSf : S ∉ fp)
    (val : Nat → Int) (hval : ∀ i v, P i v → ∃ t, v = .int (val i) t) (hb : (firstMet val n).length ≤ 18) :
    ∀ (k i : Nat) (s : Shared), n - i = k → i ≤ n → St i s →
      SetG prog w s.heap S (fun k' => (firstMet val i).any (· == k')) (firstMet val i).length →
      (∀ s', Moved (S :: wr) G s s' → SetG prog w s'.heap S (fun k' => (firstMet val n).any (· == k')) (firstMet val n).length → R (.ok (.ret .none)) s') →
      codeAny (model prog w) A (.builtin "set.update.loop" ⟨[.ref S, .ref I], []⟩) R s := by
  have hSw : S ∉ wr := fun h => hSf (W.sub _ h)
  have hsub : ∀ b ∈ wr, b ∈ S :: wr := fun b hb => List.mem_cons_of_mem _ hb
  intro k
  induction k with
  | zero =>
    intro i s hk hi hst hS hR
    have hin : i = n := by omega
    subst hin
    refine codeAny_builtin PyProof.Rows.F.entry_set_update_loop ?_
    rw [Around.under_plainId PyProof.Rows.F.plain_set_update_loop _]
    show wpAny _ A.in1 (pyNext (.ref I) >>= _) _ _ s
    refine wpAny_bind (W.done s _ _ hst fun s' hm => ?_)
    show wpAny _ A.in1 (ret Value.none) _ _ s'
    exact wpAny_pure (hR s' (hm.mono hsub) (hS.at' fun o e => hm.heap S _ hSw e))
  | succ k ih =>
    intro i s hk hi hst hS hR
    have hlt : i < n := by omega
    refine codeAny_builtin PyProof.Rows.F.entry_set_update_loop ?_
    rw [Around.under_plainId PyProof.Rows.F.plain_set_update_loop _]
    show wpAny _ A.in1 (pyNext (.ref I) >>= _) _ _ s
    refine wpAny_bind (W.item i s _ _ hlt hst fun v s' hP hst' hm => ?_)
    obtain ⟨t, rfl⟩ := hval i v hP
    have hS' := hS.at' (h' := s'.heap) fun o e => hm.heap S _ hSw e
    show wpAny _ A.in1 (holding [Value.int (val i) t] (setAdd S (.int (val i) t)) >>= _) _ _ s'
    refine wpAny_bind (wpAny_holding ?_)
    unfold setAdd
    refine wpAny_holding ?_
    refine wpAny_bind ((intKind prog w).pyHash (k := val i) (intKind_is _ _ _ _) ?_)
    have hm1 := firstMet_mono val (show i + 1 ≤ n from hlt)
    have hroom : (firstMet val i).any (· == val i) = true ∨ (firstMet val i).length + 1 ≤ 18 := by
      by_cases q : (firstMet val i).any (· == val i) = true
      · exact .inl q
      · right
        rw [firstMet_succ, step_length, if_neg q] at hm1
        omega
    refine addG (s := { s' with toks := s'.toks + 1 }) hS' hroom fun h' hsb hS2 => ?_
    have hSi : SetG prog w h' S (fun k' => (firstMet val (i + 1)).any (· == k')) (firstMet val (i + 1)).length :=
      hS2.congr (fun k' => by rw [firstMet_succ, step_any]) (by rw [firstMet_succ, step_length])
    refine wpAny_pure ⟨plainId_quiet PyProof.Rows.F.plain_set_update_loop _, ih (i + 1) _ (by omega) hlt (W.frame _ s' _ _ hst' (Nat.le_succ _) fun b hb o e => ?_) hSi fun s'' hm'' hS'' => ?_⟩
    · rw [hsb.2 b (fun h : b = S => hSf (by rw [← h]; exact hb))]; exact e
    · refine hR s'' (Moved.trans W.gtrans ((hm.mono hsub).then_heap (Nat.le_succ _) fun b o hb e => ?_) hm'') hS''
      rw [hsb.2 b (fun h : b = S => hb (by rw [h]; exact List.mem_cons_self))]; exact e
end
section
variable {prog : Program} {w : World} {A : Around} {E : Value → Shared → Prop} {s : Shared}
noncomputable def freshG (w : World) : Obj := { cls := .type "set", dict := none, data := .set #[] 0 (.fresh 0 0 (!w.params.followText "set-order")) }
theorem set_newG (a : Value) {Q₁ : Value → Shared → Prop}
    (h : Q₁ (.ref s.heap.objs.size) { s with heap := s.heap.push (freshG w) }) :
    codeAny (model prog w) A (.call (.builtin "set.__new__") ⟨[.type "set", a], []⟩) (wants Q₁ E) s := by
  refine codeAny_of_tree ?_
  show wpAny _ A.in1 (do checkBuiltinCall "set.__new__" ⟨[.type "set", a], []⟩; again (.builtin "set.__new__" ⟨[.type "set", a], []⟩)) _ _ s
  refine wpAny_bind (wpAny_of_eq (PySem.F.newCall_set_1 a) (wpAny_pure ⟨plainId_quiet PySem.F.plain_set_new _, codeAny_builtin PySem.F.entry_set_new ?_⟩))
  rw [Around.under_plainId PySem.F.plain_set_new _]
  unfold Builtin.«set.__new__» Builtin.Frozenset.newClass
  have hsub := sub_set_self
  obtain ⟨hp, g, d, tk, os⟩ := s
  dsimp only
  wp_walk
  refine wpAny_askSetting (wpAny_pure ?_)
  dsimp only
  simp only [newObj]
  refine wpAny_bind (wpAny_alloc (wpAny_pure ?_))
  exact wpAny_pure h
theorem fresh_setG {h : Heap} {a : Addr} (e : h.get? a = some (freshG w)) : SetG prog w h a (fun _ => false) 0 :=
  ⟨_, #[], 0, _, e, ⟨rfl, rfl, rfl⟩, rfl, fun e he => by simp at he, fun k => by simp, rfl, .fresh (by cases w.params.followText "set-order"; exact .inl rfl; exact .inr rfl)⟩
theorem call_setG {l : Addr} {items : Array Value} {ns : List Int} {Q : Value → Shared → Prop}
    (hh : A.handled = none) (hl : s.heap.IsList l items) (hi : IntsAre items.toList ns) (hb : (firstMet (fun i => ns.getD i 0) items.size).length ≤ 18)
    (h : ∀ (h' : Heap) (tk : Nat), SetG prog w h' s.heap.objs.size (fun k' => (firstMet (fun i => ns.getD i 0) items.size).any (· == k')) (firstMet (fun i => ns.getD i 0) items.size).length →
      (∀ b o, b < s.heap.objs.size → s.heap.get? b = some o → h'.get? b = some o) → Q (.ref s.heap.objs.size) { s with heap := h', toks := tk }) :
    wpAny (model prog w) A (call (.type "set") [.ref l]) Q E s := by
  obtain ⟨c, tl, hmro⟩ := PySem.F.called_set.mro
  have hmade := PySem.F.called_set.made
  have hsub := PySem.F.called_set.sub
  refine wpAny_call (codeAny_of_tree ?_)
  show wpAny _ _ (callAny (.type "set") _) _ _ _
  refine wpAny_pure ⟨Code.quiet_builtin _ (by decide +kernel), codeAny_builtin PySem.F.entry_type_call ?_⟩
  rw [Around.under_plain (weight_type_call_type "set" [.ref l] []) rfl]
  have h1 := PySem.F.called_set.notType
  have h2 := PySem.F.called_set.canCreate
  have hct := PySem.F.typeCall_set_1 (.ref l)
  repeat (any_goals (first | assumption | wp_step))
  refine codeAny_mono (set_newG (.ref l) (E := E) (Q₁ := fun obj s₁ => obj = .ref s.heap.objs.size ∧ s₁ = { s with heap := s.heap.push (freshG w) }) ⟨rfl, rfl⟩) fun r s₁ hr => ?_
  cases r with
  | error e => exact hr
  | ok fl =>
    cases fl with
    | ret obj =>
      obtain ⟨rfl, rfl⟩ := hr
      have hS : (s.heap.push (freshG w)).get? s.heap.objs.size = some (freshG w) := Heap.get?_push_size _ rfl
      have hT : Shared.TypeIs { s with heap := s.heap.push (freshG w) } (.ref s.heap.objs.size) "set" := ⟨_, hS, rfl⟩
      have hli := PySem.F.called_set.init.lookup
      have hbi := PySem.F.called_set.init.bind (.ref s.heap.objs.size)
      repeat (any_goals (first | assumption | wp_step))
      refine codeAny_mono (codeAny_call_builtin (R := wants (fun r s₂ => r = .none ∧ ∃ h' tk, s₂ = { s with heap := h', toks := tk } ∧
          SetG prog w h' s.heap.objs.size (fun k' => (firstMet (fun i => ns.getD i 0) items.size).any (· == k')) (firstMet (fun i => ns.getD i 0) items.size).length ∧
          (∀ b o, b < s.heap.objs.size → s.heap.get? b = some o → h'.get? b = some o)) E) PySem.F.called_set.init.plain PySem.F.entry_set_init (check_set_init_1 hT ?_)) fun r₂ s₂ hr₂ => ?_
      · obtain ⟨ol, hol, hcl, nl, hdl⟩ := hl
        obtain ⟨ocls, odict, odata, oslots⟩ := ol
        simp only at hcl hdl
        subst hcl; subst hdl
        have hol' : (s.heap.push (freshG w)).get? l = some { cls := .type "list", dict := odict, data := .seq items nl, slots := oslots } := Heap.get?_push_of_some _ hol
        have hsls := PySem.F.sub_list_set
        have hslf := PySem.F.sub_list_frozenset
        have hne : (Value.type "list" == Value.type "dict") = false := by decide
        have hl1 : (s.heap.push (freshG w)).IsList l items := ⟨_, hol', rfl, nl, rfl⟩
        unfold Builtin.«set.__init__» noKeywords Builtin.Frozenset.updateFrom
        generalize hPI : pyIter = PI
        wp_walk
        subst hPI
        refine wpAny_pyIter_list hl1 ?_
        refine wpAny_bind (wpAny_runValue ?_)
        have hlS : l < s.heap.objs.size := Heap.lt_size hol
        have hh3 : A.in1.in1.in1.handled = none := by simp [hh]
        have hneI : l ≠ (s.heap.push (freshG w)).objs.size := by
          rw [Heap.size_push]; exact Nat.ne_of_lt (Nat.lt_succ_of_lt hlS)
        have hSf : s.heap.objs.size ∉ [(s.heap.push (freshG w)).objs.size, l] := by
          rw [Heap.size_push]; simp only [List.mem_cons, List.mem_singleton, List.not_mem_nil, or_false, not_or]
          exact ⟨Nat.ne_of_lt (Nat.lt_succ_self _), Nat.ne_of_gt hlS⟩
        have hval : ∀ (i : Nat) (v : Value), items[i]? = some v → ∃ t, v = .int ((fun i => ns.getD i 0) i) t := fun i v hv =>
          PyProof.Rows.IntsAre.int_at hi i v (by rw [Array.getElem?_toList]; exact hv)
        refine set_loopG ((Walks.list hh3 _ l hneI items).toS) s.heap.objs.size
          hSf (fun i => ns.getD i 0) hval hb (items.size - 0) 0 _ (by omega) (Nat.zero_le _)
          ⟨⟨_, Heap.get?_push_size _ rfl, rfl, rfl⟩, (hl1.push _)⟩ ?hS0 ?hR
        case hS0 =>
          exact (fresh_setG (prog := prog) (Heap.get?_push_of_some _ hS)).congr (fun _ => rfl) rfl
        case hR =>
          intro s' hm hS'
          obtain ⟨h', g', d', tk', os'⟩ := s'
          have eg : g' = s.gens := hm.gens
          have ed : d' = s.drawn := hm.drawn
          have eo : os' = s.os := hm.os
          subst eg; subst ed; subst eo
          show wpAny _ _ _ _ _ _
          refine wpAny_pure ?_
          show wpAny _ _ (ret Value.none) _ _ _
          refine wpAny_pure ⟨rfl, h', tk', rfl, hS', fun b o hb e => ?_⟩
          have hb1 : b ≠ s.heap.objs.size := Nat.ne_of_lt hb
          have hb2 : b ≠ (s.heap.push (freshG w)).objs.size := by
            rw [Heap.size_push]; exact Nat.ne_of_lt (Nat.lt_succ_of_lt hb)
          exact hm.heap b o (by simp only [List.mem_cons, List.mem_singleton, List.not_mem_nil, or_false, not_or]; exact ⟨hb1, hb2⟩) (Heap.get?_push_of_some _ (Heap.get?_push_of_some _ e))
      · cases r₂ with
        | error e => exact hr₂
        | ok fl₂ =>
          cases fl₂ with
          | ret r =>
            obtain ⟨rfl, h', tk, rfl, hS', hk'⟩ := hr₂
            repeat (any_goals (first | assumption | wp_step))
            exact h _ _ hS' hk'
          | _ => exact hr₂.elim
    | _ => exact hr.elim
end
end L2

set_option Elab.async false
set_option linter.all false
set_option maxRecDepth 100000
set_option maxHeartbeats 4000000
namespace L2
open PySem PySem.Spec PyProof.Rows
theorem pick_go {α : Type} (next : Nat → Nat) : ∀ (fuel k : Nat) (left : List α) (out : Array α), left.length = fuel → (pickOrder.go next fuel k left out).toList.Perm (out.toList ++ left)
  | 0, k, left, out, h => by
    have : left = [] := List.eq_nil_of_length_eq_zero h
    subst this
    rw [pickOrder.go, List.append_nil]
  | fuel + 1, k, left, out, h => by
    rw [pickOrder.go]
    have hl : next k % left.length < left.length := Nat.mod_lt _ (by omega)
    rw [List.getElem?_eq_getElem hl]
    dsimp only
    refine (pick_go next fuel (k + 1) _ _ (by rw [List.length_eraseIdx, if_pos hl]; omega)).trans ?_
    rw [Array.toList_push, List.append_assoc]
    refine List.Perm.append_left _ ?_
    rw [List.singleton_append]
    rw [List.eraseIdx_eq_take_drop_succ]
    refine List.perm_middle.symm.trans ?_
    rw [List.getElem_cons_drop, List.take_append_drop]
theorem pick_perm {α : Type} (next : Nat → Nat) (xs : Array α) : (pickOrder next xs).toList.Perm xs.toList := by
  unfold pickOrder
  have := pick_go next xs.size 0 xs.toList #[] (by simp)
  simpa using this
theorem slot_seti_next : Slot "set_iterator" "__next__" "set_iterator.__next__" :=
  .of (owner := "set_iterator") (n := "__next__") (by rw [typeLookup_type, builtinLookup_eq_fast]; kernel_rfl) (by decide +kernel) (by decide +kernel) (by decide +kernel)
    (by first | exact .inl (by decide +kernel) | exact .inr (by decide +kernel)) (by rw [isSubtype_type]; kernel_rfl)
theorem slot_seti_iter : Slot "set_iterator" "__iter__" "set_iterator.__iter__" :=
  .of (owner := "set_iterator") (n := "__iter__") (by rw [typeLookup_type, builtinLookup_eq_fast]; kernel_rfl) (by decide +kernel) (by decide +kernel) (by decide +kernel)
    (by first | exact .inl (by decide +kernel) | exact .inr (by decide +kernel)) (by rw [isSubtype_type]; kernel_rfl)
theorem entry_seti_next : entryFor table "set_iterator.__next__" = some Builtin.«set_iterator.__next__» := entryFor_of_tree (by kernel_rfl)
theorem entry_seti_iter : entryFor table "set_iterator.__iter__" = some Builtin.«dict_keyiterator.__iter__» :=
  entryFor_alias (id' := "dict_keyiterator.__iter__") (by kernel_rfl) rfl (by decide +kernel) (by kernel_rfl)
theorem entry_set_iterG : entryFor table "set.__iter__" = some Builtin.«frozenset.__iter__» :=
  entryFor_alias (id' := "frozenset.__iter__") (by kernel_rfl) rfl (by decide +kernel) (by kernel_rfl)
theorem owner_seti : Manifest.owners.lookup (String.ofList ['r', 'o', 't', 'a', 'r', 'e', 't', 'i', '_', 't', 'e', 's'].reverse) = some Manifest.sig_set_iterator := by kernel_rfl
theorem args_seti_next (a : Value) : argsOk "set_iterator.__next__" ⟨[a], []⟩ := by
  unfold argsOk; rw [signature?_of (id := "set_iterator.__next__") (n := ['_', '_', 't', 'x', 'e', 'n', '_', '_']) (o := ['r', 'o', 't', 'a', 'r', 'e', 't', 'i', '_', 't', 'e', 's']) (by kernel_rfl) owner_seti]; kernel_rfl
theorem args_seti_iter (a : Value) : argsOk "set_iterator.__iter__" ⟨[a], []⟩ := by
  unfold argsOk; rw [signature?_of (id := "set_iterator.__iter__") (n := ['_', '_', 'r', 'e', 't', 'i', '_', '_']) (o := ['r', 'o', 't', 'a', 'r', 'e', 't', 'i', '_', 't', 'e', 's']) (by kernel_rfl) owner_seti]; kernel_rfl
section
variable {prog : Program} {w : World} {A : Around} {E : Value → Shared → Prop} {s : Shared}
noncomputable def SetAt (w : World) (h : Heap) (d : Addr) (es : Array (Int × Value)) (ep : Nat) (t : SetTable) : Prop :=
  ∃ o, h.get? d = some o ∧ o.ExactSet ∧ o.data = .set es ep t ∧ TabG w t es.size
noncomputable def IsSetIter (h : Heap) (it d : Addr) (slot i n ep : Nat) : Prop :=
  ∃ o, h.get? it = some o ∧ o.cls = .type "set_iterator" ∧ o.data = .fields #[.int slot 0, .int i 0, .ref d, .int n 0, .int ep 0]
noncomputable def ordS (w : World) (d : Addr) (es : Array (Int × Value)) (ep : Nat) : Array (Int × Value) := if w.params.followText "set-order" = true then pickOrder (w.params.setOrder d ep) es else es
theorem ordS_perm (w : World) (d : Addr) (es : Array (Int × Value)) (ep : Nat) : (ordS w d es ep).toList.Perm es.toList := by
  unfold ordS; split; exact pick_perm _ _; exact .rfl
noncomputable def SlotAt (w : World) (t : SetTable) (slot i : Nat) : Prop := w.params.followText "set-order" = true ∨ ((∀ k a, k < i → t.place[k]? = some a → a < slot) ∧ (∀ k a, i ≤ k → t.place[k]? = some a → slot ≤ a))
theorem SetAt.typeIs {d : Addr} {es : Array (Int × Value)} {ep : Nat} {t : SetTable} (x : SetAt w s.heap d es ep t) : s.TypeIs (.ref d) "set" := let ⟨o, ho, hx, _⟩ := x; ⟨o, ho, hx.1⟩
theorem SetAt.at' {h h' : Heap} {d : Addr} {es : Array (Int × Value)} {ep : Nat} {t : SetTable} (x : SetAt w h d es ep t) (k : ∀ o, h.get? d = some o → h'.get? d = some o) : SetAt w h' d es ep t := let ⟨o, ho, r⟩ := x; ⟨o, k _ ho, r⟩
theorem IsSetIter.typeIs {it d : Addr} {slot i n ep : Nat} (x : IsSetIter s.heap it d slot i n ep) : s.TypeIs (.ref it) "set_iterator" := let ⟨o, ho, hc, _⟩ := x; ⟨o, ho, hc⟩
theorem wpAny_byText {Q : Bool → Shared → Prop} (h : Q (w.params.followText "set-order") s) : wpAny (model prog w) A setsByText Q E s := by
  unfold setsByText
  exact wpAny_bind (wpAny_askSetting (wpAny_pure h))
theorem iter_set {d : Addr} {es : Array (Int × Value)} {ep : Nat} {t : SetTable} {Q : Value → Shared → Prop} (hs : SetAt w s.heap d es ep t)
    (hQ : Q (.ref s.heap.objs.size) { s with heap := s.heap.push { cls := .type "set_iterator", data := .fields #[.int 0 0, .int 0 0, .ref d, .int es.size 0, .int ep 0] } }) :
    wpAny (model prog w) A (pyIter (.ref d)) Q E s := by
  obtain ⟨o, ho, hx, hd, T⟩ := id hs
  refine wpAny_pyIter_slot hs.typeIs PySem.F.slot_set_iter (wpAny_call_entry PySem.F.slot_set_iter hs.typeIs entry_set_iterG ?_ (PySem.F.args_set_iter_1 _))
  unfold Builtin.«frozenset.__iter__»
  refine wpAny_bind (wpAny_pure ?_)
  refine wpAny_bind ?_
  unfold Builtin.Frozenset.sizeOf
  refine wpAny_bind (wpAny_setEntries_of ho hd T.fits (wpAny_pure ?_))
  refine wpAny_bind ?_
  unfold setDrawn
  refine wpAny_bind (wpAny_setState_of ho hd T.fits ?_)
  refine wpAny_bind (wpAny_byText (wpAny_pure ?_))
  have e : (!w.params.followText "set-order" && (!t.plain && decide (es.size > 1))) = false := by rw [T.plain]; simp
  show wpAny _ _ (if (!w.params.followText "set-order" && (!t.plain && decide (es.size > 1))) = true then _ else _) _ _ s
  rw [e]
  simp only [Bool.false_eq_true, ↓reduceIte]
  refine wpAny_bind (wpAny_pure ?_)
  refine wpAny_bind (wpAny_setEpoch_of ho hd T.fits ?_)
  refine wpAny_bind ?_
  refine wpAny_newObj_type (wpAny_pure ⟨_, rfl, "set_iterator", _, ⟨_, Heap.get?_push_size _ rfl, rfl⟩, slot_seti_next.lookup, ?_⟩)
  exact hQ
theorem iter_self {it d : Addr} {slot i n ep : Nat} {Q : Value → Shared → Prop} (hit : IsSetIter s.heap it d slot i n ep) (h : Q (.ref it) s) : wpAny (model prog w) A (pyIter (.ref it)) Q E s := by
  refine wpAny_pyIter_slot hit.typeIs slot_seti_iter (wpAny_call_entry slot_seti_iter hit.typeIs entry_seti_iter ?_ (args_seti_iter _))
  show wpAny _ _ (ret (.ref it)) _ _ s
  exact wpAny_pure ⟨_, rfl, "set_iterator", _, hit.typeIs, slot_seti_next.lookup, h⟩
theorem setNext_at {d : Addr} {es : Array (Int × Value)} {ep slot i : Nat} {t : SetTable} {Q : Option (Value × Nat) → Shared → Prop} (hs : SetAt w s.heap d es ep t) (hS : SlotAt w t slot i)
    (h : ∀ slot', SlotAt w t slot' (i + 1) → Q (((ordS w d es ep)[i]?).map fun e => (e.2, slot')) s) : wpAny (model prog w) A (setNext d slot i ep) Q E s := by
  obtain ⟨o, ho, hx, hd, T⟩ := id hs
  unfold setNext
  refine wpAny_bind (wpAny_setState_of ho hd T.fits ?_)
  refine wpAny_bind (wpAny_byText ?_)
  dsimp only
  by_cases q : w.params.followText "set-order" = true
  · rw [if_pos q]
    rw [if_neg (by simp)]
    refine wpAny_bind ?_
    unfold setWalk
    refine wpAny_bind (wpAny_setState_of ho hd T.fits ?_)
    refine wpAny_bind (wpAny_byText ?_)
    rw [if_pos q]
    refine wpAny_bind (wpAny_askSetting (wpAny_pure (wpAny_pure ?_)))
    have := h slot (.inl q)
    unfold ordS at this
    rw [if_pos q] at this
    exact this
  · rw [if_neg q]
    have e : (!t.plain && decide (es.size > 1)) = false := by rw [T.plain]; rfl
    show wpAny _ _ (if (!t.plain && decide (es.size > 1)) = true then _ else _) _ _ s
    rw [e]
    simp only [Bool.false_eq_true, ↓reduceIte]
    have hl : t.led = true := T.led.resolve_right q
    refine wpAny_bind ?_
    show wpAny _ _ (if (!t.led && !es.isEmpty) = true then _ else _) _ _ s
    rw [hl]
    simp only [Bool.not_true, Bool.false_and, Bool.false_eq_true, ↓reduceIte]
    refine wpAny_pure ?_
    obtain ⟨hS1, hS2⟩ := hS.resolve_left q
    have hz := T.sz
    have hord : ordS w d es ep = es := by unfold ordS; rw [if_neg q]
    rcases Nat.lt_or_ge i es.size with z | z
    · have eb : SetTable.below t.place slot = i := below_eq T.up (by omega) hS1 hS2
      rw [eb]
      have hp : t.place[i]? = some t.place[i] := Array.getElem?_eq_getElem (by omega)
      have he : es[i]? = some es[i] := Array.getElem?_eq_getElem z
      rw [hp, he]
      have := h (t.place[i] + 1) (.inr ⟨fun k a hk ha => ?_, fun k a hk ha => ?_⟩)
      · rw [hord, he] at this
        exact wpAny_pure this
      · rcases Nat.lt_or_ge k i with y | y
        · have := T.up.lt y ha hp; omega
        · have : k = i := by omega
          subst this
          rw [hp] at ha; cases ha; omega
      · have := T.up.lt (show i < k by omega) hp ha; omega
    · have eb : SetTable.below t.place slot = es.size := below_eq T.up (by omega) (fun k a hk ha => hS1 k a (by omega) ha) (fun k a hk ha => by
        have := (Array.getElem?_eq_some_iff.mp ha).1; omega)
      rw [eb]
      have he : es[es.size]? = none := Array.getElem?_eq_none (Nat.le_refl _)
      rw [he]
      have := h 0
      have hno : (ordS w d es ep)[i]? = none := by rw [hord]; exact Array.getElem?_eq_none z
      have := h (if _h : es.size = 0 then slot else t.place[es.size - 1]! + 1 + slot) (.inr ⟨fun k a hk ha => ?_, fun k a hk ha => ?_⟩)
      · rw [hno] at this
        exact wpAny_pure this
      · have hk2 := (Array.getElem?_eq_some_iff.mp ha).1
        have := hS1 k a (by omega) ha
        split <;> omega
      · have := (Array.getElem?_eq_some_iff.mp ha).1; omega
end
end L2

set_option Elab.async false
set_option linter.all false
set_option maxRecDepth 100000
set_option maxHeartbeats 4000000
namespace L2
open PySem PySem.Spec PyProof.Rows
section
variable {prog : Program} {w : World} {A : Around} {E : Value → Shared → Prop} {s : Shared}
theorem next_set {it d : Addr} {slot i ep : Nat} {es : Array (Int × Value)} {t : SetTable} {x : Value} {hx : Int} {Q : Option Value → Shared → Prop} (hne : d ≠ it) (hit : IsSetIter s.heap it d slot i es.size ep)
    (hs : SetAt w s.heap d es ep t) (hS : SlotAt w t slot i) (he : (ordS w d es ep)[i]? = some (hx, x))
    (hQ : ∀ slot' h', IsSetIter h' it d slot' (i + 1) es.size ep → SlotAt w t slot' (i + 1) → Heap.SameBut it s.heap h' → Q (some x) { s with heap := h' }) :
    wpAny (model prog w) A (pyNext (.ref it)) Q E s := by
  obtain ⟨o, ho, hc, hd⟩ := id hit
  obtain ⟨od, hod, hxd, hdd, T⟩ := id hs
  unfold pyNext
  refine wpAny_bind (wpAny_attempt (wpAny_callSpecial?_slot (name := Str.ofString "__next__") hit.typeIs slot_seti_next
    (wpAny_call_entry slot_seti_next hit.typeIs entry_seti_next ?_ (args_seti_next _))))
  unfold Builtin.«set_iterator.__next__»
  refine wpAny_bind (wpAny_pure ?_)
  refine wpAny_bind (wpAny_fieldsOf ho hd ?_)
  show wpAny _ _ (setEntries d >>= _) _ _ s
  refine wpAny_bind (wpAny_setEntries_of hod hdd T.fits ?_)
  rw [if_neg (by simp)]
  show wpAny _ _ (setNext d (slot : Int).toNat (i : Int).toNat (ep : Int).toNat >>= _) _ _ s
  rw [Int.toNat_natCast, Int.toNat_natCast, Int.toNat_natCast]
  refine wpAny_bind (setNext_at hs hS fun slot' hS' => ?_)
  rw [he]
  dsimp only [Option.map]
  refine wpAny_bind (wpAny_setField ho hd (by simp) ?_)
  have ho2 := Heap.get?_update_self (Obj.mapFields (·.setIfInBounds 0 (rawInt slot'))) ho (Obj.isFreed_of_fields (Obj.data_mapFields hd _))
  have hd2 : (Obj.mapFields (·.setIfInBounds 0 (rawInt slot')) o).data = .fields #[.int slot' 0, .int i 0, .ref d, .int es.size 0, .int ep 0] := by rw [Obj.data_mapFields hd]; simp [rawInt]
  refine wpAny_bind (wpAny_setField ho2 hd2 (by simp) ?_)
  have ho3 := Heap.get?_update_self (Obj.mapFields (·.setIfInBounds 1 (rawInt ((i : Int) + 1)))) ho2 (Obj.isFreed_of_fields (Obj.data_mapFields hd2 _))
  exact wpAny_pure ⟨_, rfl, wpAny_pure (hQ slot' _ ⟨_, ho3, (Obj.cls_mapFields ..).trans ((Obj.cls_mapFields ..).trans hc), by rw [Obj.data_mapFields hd2]; simp [rawInt]⟩ hS' ((Heap.SameBut.update ..).trans (Heap.SameBut.update ..)))⟩
theorem next_end {it d : Addr} {slot i ep : Nat} {es : Array (Int × Value)} {t : SetTable} {Q : Option Value → Shared → Prop} (hh : A.handled = none) (hne : d ≠ it) (hit : IsSetIter s.heap it d slot i es.size ep)
    (hs : SetAt w s.heap d es ep t) (hS : SlotAt w t slot i) (he : (ordS w d es ep)[i]? = none)
    (hQ : ∀ h', Heap.ExtBut it s.heap h' → Q none { s with heap := h' }) :
    wpAny (model prog w) A (pyNext (.ref it)) Q E s := by
  obtain ⟨o, ho, hc, hd⟩ := id hit
  obtain ⟨od, hod, hxd, hdd, T⟩ := id hs
  unfold pyNext
  refine wpAny_bind (wpAny_attempt (wpAny_callSpecial?_slot (name := Str.ofString "__next__") hit.typeIs slot_seti_next
    (wpAny_call_entry slot_seti_next hit.typeIs entry_seti_next ?_ (args_seti_next _))))
  unfold Builtin.«set_iterator.__next__»
  refine wpAny_bind (wpAny_pure ?_)
  refine wpAny_bind (wpAny_fieldsOf ho hd ?_)
  show wpAny _ _ (setEntries d >>= _) _ _ s
  refine wpAny_bind (wpAny_setEntries_of hod hdd T.fits ?_)
  rw [if_neg (by simp)]
  show wpAny _ _ (setNext d (slot : Int).toNat (i : Int).toNat (ep : Int).toNat >>= _) _ _ s
  rw [Int.toNat_natCast, Int.toNat_natCast, Int.toNat_natCast]
  refine wpAny_bind (setNext_at hs hS fun slot' hS' => ?_)
  rw [he]
  dsimp only [Option.map]
  refine wpAny_bind (wpAny_setField ho hd (by simp) ?_)
  refine wpAny_bind ?_
  simp only [newExc, newTuple]
  refine wpAny_bind (wpAny_newObj_type ?_ (by size_fits))
  refine wpAny_bind (m := firstArgMember _ _) (wpAny_of_eq (a := Value.none) (by first | rfl | (simp only [firstArgMember]; rfl)) ?_)
  refine wpAny_newObj_type ?_ (by size_fits)
  simp only [raiseNew]
  refine wpAny_bind (wpAny_handled ?_)
  rw [show A.in1.handled = none from hh]
  refine wpAny_bind (wpAny_pure (wpAny_throw ?_))
  refine wpAny_bind (wpAny_isInstance (T := "StopIteration") (b := true) ⟨_, Heap.get?_push_size _ rfl, rfl⟩ isSubtype_stop ?_)
  exact wpAny_pure (hQ _ (((Heap.SameBut.update ..).extBut.push _).push _))
theorem walks_set (hh : A.handled = none) (I d : Addr) (hne : d ≠ I) (es : Array (Int × Value)) (ep : Nat) (t : SetTable) :
    Walks prog w A I [I, d] [I] es.size (fun i v => ∃ hx, (ordS w d es ep)[i]? = some (hx, v)) (fun i h => ∃ slot, IsSetIter h I d slot i es.size ep ∧ SetAt w h d es ep t ∧ SlotAt w t slot i) where
  sub := fun b hb => by simp at hb; simp [hb]
  frame := fun _ _ _ ⟨slot, ⟨o, ho, r⟩, st, hS⟩ hk => ⟨slot, ⟨o, hk I (by simp) o ho, r⟩, st.at' fun o e => hk d (by simp) o e, hS⟩
  item := fun i s Q E hi ⟨slot, hit, st, hS⟩ hQ => by
    have hz : (ordS w d es ep).size = es.size := by rw [← Array.length_toList, (ordS_perm w d es ep).length_eq, Array.length_toList]
    obtain ⟨⟨hx, x⟩, he⟩ : ∃ p, (ordS w d es ep)[i]? = some p := ⟨_, Array.getElem?_eq_getElem (by omega)⟩
    refine next_set hne hit st hS he fun slot' h' hit' hS' hs' => ?_
    exact hQ x h' s.toks ⟨hx, he⟩ ⟨slot', hit', st.at' fun o e => hs'.extBut d o hne e, hS'⟩ fun b o hb e => hs'.extBut b o (fun h => hb (by simp [h])) e
  done := fun s Q E ⟨slot, hit, st, hS⟩ hQ => by
    have hz : (ordS w d es ep).size = es.size := by rw [← Array.length_toList, (ordS_perm w d es ep).length_eq, Array.length_toList]
    exact next_end hh hne hit st hS (Array.getElem?_eq_none (by omega)) fun h' he' => hQ h' s.toks fun b o hb e => he' b o (fun h => hb (by simp [h])) e
  self := fun _ _ _ _ ⟨slot, hit, st, hS⟩ hQ => iter_self hit hQ
theorem hint_set {r : Addr} {Q : Bool → Shared → Prop} (hT : s.TypeIs (.ref r) "set") (h : Q false s) : wpAny (model prog w) A (Builtin.List.listLengthHint (.ref r)) Q E s := by
  unfold Builtin.List.listLengthHint
  refine wpAny_bind (wpAny_specialOf hT PySem.F.slot_set_len.lookup ?_)
  generalize hid : ("set.__len__" : String) = id0
  wp_delta
  rw [show splitId id0 = some ("set", "__len__") from by subst hid; decide +kernel]
  subst hid
  refine wpAny_bind (wpAny_isInstance (T := "set") (b := true) hT (by rw [isSubtype_type]; kernel_rfl) ?_)
  refine wpAny_ite_split (fun hab => absurd hab (by decide)) (fun _ => ?_)
  refine wpAny_ite_split (fun _ => ?_) (fun hab => absurd (by decide +kernel) hab)
  refine wpAny_bind (wpAny_typeOf hT ?_)
  exact wpAny_pure h
theorem src_set {d : Addr} {es : Array (Int × Value)} {ep : Nat} {t : SetTable} : PySem.W.KdlSrc prog w "set" d d es.size (fun i v => ∃ hx, (ordS w d es ep)[i]? = some (hx, v)) (fun h => SetAt w h d es ep t) where
  type := fun _ hm => hm.typeIs
  there := fun _ hm => let ⟨_, ho, _⟩ := hm; ⟨Heap.lt_size ho, Heap.lt_size ho⟩
  keep := fun _ _ hm hk => hm.at' fun o e => hk d (.inl rfl) o e
  notList := by decide
  notTuple := by decide
  hint := fun _ _ _ _ hm hq => hint_set hm.typeIs hq
  iter := fun _ s hh hm => ⟨_, _, (fun _ _ hq => iter_set hm hq), walks_set hh _ d (let ⟨_, ho, _⟩ := hm; Nat.ne_of_lt (Heap.lt_size ho)) es ep t,
    ⟨0, ⟨_, Heap.get?_push_size _ rfl, rfl, rfl⟩, hm.at' fun o e => Heap.get?_push_of_some _ e, .inr ⟨fun k a hk => absurd hk (by omega), fun k a _ _ => Nat.zero_le _⟩⟩⟩
end
end L2

set_option Elab.async false
set_option linter.all false
set_option maxRecDepth 100000
set_option maxHeartbeats 1000000
namespace L2
open PySem PySem.Spec PyProof.Rows
noncomputable def dedupI (ns : List Int) : List Int := firstMet (fun i => ns.getD i 0) ns.length
section
variable {X : Cx}
end
end L2

set_option Elab.async false
set_option linter.all false
set_option maxRecDepth 100000
set_option maxHeartbeats 4000000
namespace L2
open PySem PySem.Spec PyProof.Rows
theorem perm_of_sub {α : Type} [DecidableEq α] : ∀ {l1 l2 : List α}, l1.Nodup → l1 ⊆ l2 → l2.length ≤ l1.length → l1.Perm l2
  | [], l2, _, _, h => by
    have : l2 = [] := List.eq_nil_of_length_eq_zero (by simpa using h)
    rw [this]
  | x :: l1, l2, hn, hs, h => by
    rw [List.nodup_cons] at hn
    have hx : x ∈ l2 := hs List.mem_cons_self
    refine (List.Perm.cons x (perm_of_sub hn.2 (fun y hy => ?_) ?_)).trans (List.perm_cons_erase hx).symm
    · have hne : y ≠ x := fun e => hn.1 (e ▸ hy)
      exact (List.mem_erase_of_ne hne).mpr (hs (List.mem_cons_of_mem _ hy))
    · rw [List.length_erase_of_mem hx]
      simp only [List.length_cons] at h
      omega
theorem firstMet_nodup (val : Nat → Int) : ∀ i, (firstMet val i).Nodup
  | 0 => by rw [firstMet_zero]; exact .nil
  | i + 1 => by
    rw [firstMet_succ]; unfold step_dedup
    split
    · exact firstMet_nodup val i
    · rename_i h
      rw [List.nodup_append]
      refine ⟨firstMet_nodup val i, by simp, fun a ha b hb e => h ?_⟩
      rw [List.mem_singleton] at hb
      rw [List.any_eq_true]
      exact ⟨a, ha, by rw [e, hb]; simp⟩
theorem dedup_nodup (ns : List Int) : (dedupI ns).Nodup := firstMet_nodup _ _
theorem dedup_mem (ns : List Int) (k : Int) : k ∈ dedupI ns ↔ k ∈ ns := by
  have e := firstMet_any (fun i => ns.getD i 0) ns.length k
  have h1 : k ∈ dedupI ns ↔ (dedupI ns).any (· == k) = true := by
    rw [List.any_eq_true]
    exact ⟨fun h => ⟨k, h, by simp⟩, fun ⟨x, h, q⟩ => by rw [beq_iff_eq] at q; exact q ▸ h⟩
  rw [h1]
  show (firstMet (fun i => ns.getD i 0) ns.length).any (· == k) = true ↔ _
  rw [e, List.any_eq_true]
  constructor
  · rintro ⟨x, hx, q⟩
    rw [beq_iff_eq] at q
    obtain ⟨i, hi, rfl⟩ := List.mem_map.mp hx
    have hi2 := List.mem_range.mp hi
    rw [← q]
    show ns.getD i 0 ∈ ns
    rw [List.getD_eq_getElem?_getD, List.getElem?_eq_getElem hi2]
    exact List.getElem_mem hi2
  · intro h
    obtain ⟨i, hi, e⟩ := List.getElem_of_mem h
    exact ⟨k, List.mem_map.mpr ⟨i, List.mem_range.mpr hi, by show ns.getD i 0 = k; rw [List.getD_eq_getElem?_getD, List.getElem?_eq_getElem hi]; exact e⟩, by simp⟩
noncomputable def intV : Value → Int
  | .int k _ => k
  | _ => 0
theorem intsAre_all : ∀ {vs : List Value}, (∀ v ∈ vs, ∃ k t, v = .int k t) → IntsAre vs (vs.map intV)
  | [], _ => .nil
  | v :: vs, h => by
    obtain ⟨k, t, rfl⟩ := h v List.mem_cons_self
    exact .cons k t (intsAre_all fun x hx => h x (List.mem_cons_of_mem _ hx))
section
variable {prog : Program} {w : World} {A : Around} {E : Value → Shared → Prop} {s : Shared}
theorem collect_src {T : String} {r d : Addr} {n : Nat} {P : Nat → Value → Prop} {OK : Heap → Prop} {R : List Value → Shared → Prop} (K : PySem.W.KdlSrc prog w T r d n P OK) (hh : A.handled = none) (hok : OK s.heap) (hn : n ≤ sizeLine)
    (h : ∀ (h' : Heap) (tk : Nat) (acc : Array Value), (∀ b o, s.heap.get? b = some o → h'.get? b = some o) → s.heap.objs.size < h'.objs.size → ItemsOf P acc n → R acc.toList { s with heap := h', toks := tk }) :
    wpAny (model prog w) A (collect (.ref r)) R E s := by
  have hlt := K.there _ hok
  unfold collect
  refine wpAny_bind (wpAny_runValue (codeAny_builtin entry_proto_collect' ?_))
  rw [Around.under_plainId PySem.F.plain_proto_collect _]
  show wpAny _ A.in1 (newList [] >>= fun l => again (.builtin "list.__iadd__" ⟨[l, .ref r], []⟩)) _ _ s
  refine wpAny_bind (wpAny_newObj_type (wpAny_pure ⟨plainId_quiet PySem.F.plain_list_iadd _, codeAny_builtin entry_list_iadd' ?_⟩))
  rw [Around.under_plainId PySem.F.plain_list_iadd _]
  have hS : (s.heap.push { cls := .type "list", data := .seq ([] : List Value).toArray }).get? s.heap.objs.size = some { cls := .type "list", data := .seq #[] } := Heap.get?_push_size _ rfl
  show wpAny _ A.in1 (Builtin.List.listExtendWith (.ref s.heap.objs.size) (.ref r) (.ref s.heap.objs.size)) _ _ _
  have key := PySem.W.kdl_extend (A := A) (s := { s with heap := s.heap.push { cls := .type "list", data := .seq ([] : List Value).toArray } })
    (R := fun (q : Result) (s' : Shared) => ∃ (h' : Heap) (tk : Nat) (acc' : Array Value) (c' : Nat), q = .ok (.ret (.ref s.heap.objs.size)) ∧ s' = { s with heap := h', toks := tk } ∧
      (∀ b o, s.heap.get? b = some o → h'.get? b = some o) ∧ h'.get? s.heap.objs.size = some { cls := .type "list", dict := none, data := .seq acc' c', slots := #[] } ∧ ItemsOf P acc' n)
    K hh (K.keep _ _ hok fun b _ o e => Heap.get?_push_of_some _ e) s.heap.objs.size (Nat.ne_of_gt hlt.1) (Nat.ne_of_gt hlt.2) (.ref s.heap.objs.size) 0 hS
    (fun h' tk acc' c' hk hS' hacc => ⟨h', tk, acc', c', rfl, rfl, fun b o e => hk b o (Nat.ne_of_lt (Heap.lt_size e)) (Heap.get?_push_of_some _ e), hS', hacc⟩) hn
  refine wpAny_mono key (fun fin s' x => ?_) fun e s' x => ?_
  · cases fin with
    | done f =>
      obtain ⟨h', tk, acc', c', e, rfl, hk, hS', hacc⟩ := x
      cases e
      show wpAny _ A (load s.heap.objs.size >>= _) _ _ _
      exact wpAny_bind (wpAny_load hS' (wpAny_pure (h h' tk acc' hk (Heap.lt_size hS') hacc)))
    | again c₁ =>
      refine ⟨x.1, codeAny_mono x.2 fun q s₂ y => ?_⟩
      obtain ⟨h', tk, acc', c', rfl, rfl, hk, hS', hacc⟩ := y
      show wpAny _ A (load s.heap.objs.size >>= _) _ _ _
      exact wpAny_bind (wpAny_load hS' (wpAny_pure (h h' tk acc' hk (Heap.lt_size hS') hacc)))
  · obtain ⟨_, _, _, _, e', _⟩ := x
    cases e'
theorem sorted_src {T : String} {r d : Addr} {n : Nat} {P : Nat → Value → Prop} {OK : Heap → Prop} {Q : Value → Shared → Prop} (K : PySem.W.KdlSrc prog w T r d n P OK) (hh : A.handled = none) (hok : OK s.heap) (h64 : n < 64)
    (hP : ∀ i v, P i v → ∃ k t, v = .int k t)
    (h : ∀ (h' : Heap) (tk : Nat) (a : Addr) (vs : List Value) (out : Array Value) (ms : List Int) (e : Nat), vs.length = n → (∀ i v, vs[i]? = some v → P i v) → (∀ b o, s.heap.get? b = some o → h'.get? b = some o) → s.heap.objs.size ≤ a →
      h'.get? a = some (seqObj "list" out e) → IntsAre out.toList ms → ms.Perm (vs.map intV) → ms.Pairwise (· ≤ ·) → Q (.ref a) { s with heap := h', toks := tk }) :
    wpAny (model prog w) A (call (.builtin "sorted") [.ref r]) Q E s := by
  have hsl : n ≤ sizeLine := by rw [sizeLine_eq]; omega
  refine Calls.call_function_entry kind_sorted plain_sorted entry_sorted (args_sorted1 _) ?_
  unfold Builtin.«sorted»
  refine wpAny_bind (m := checkCount "sorted" 1 1 _) (wpAny_pure ?_)
  refine wpAny_bind (collect_src (A := A.in1) K hh hok hsl fun h' tk acc hk hgr hacc => ?_)
  have hl : acc.toList.length = n := by rw [Array.length_toList]; exact hacc.1
  have hv : ∀ i v, acc.toList[i]? = some v → P i v := fun j v e => hacc.2 j v (by rw [← Array.getElem?_toList]; exact e)
  refine wpAny_bind (wpAny_newList ?_ (by rw [hl]; exact hsl))
  have hI : IntsAre acc.toList (acc.toList.map intV) := intsAre_all fun v hv' => by
    obtain ⟨i, hi⟩ := List.mem_iff_getElem?.mp hv'
    exact hP i v (hv i v hi)
  have hoL : (h'.push (seqObj "list" acc.toList.toArray 0)).get? h'.objs.size = some (seqObj "list" acc.toList.toArray 0) := Heap.get?_push_size _ rfl
  refine wpAny_bind (wpAny_holding (wpAny_call_entry slot_list_sort ⟨_, hoL, rfl⟩ entry_list_sort (list_sort_tree (s := { s with heap := h'.push (seqObj "list" acc.toList.toArray 0), toks := tk }) hoL hI (by omega) fun out ns' a1 a2 a3 => ⟨_, rfl, ?_⟩) (args_list_sort _)))
  obtain ⟨e, he⟩ := sortedHeap_at (out := out) hoL
  refine wpAny_pure ⟨_, rfl, h _ tk _ acc.toList out ns' e hl hv (fun b o q => ?_) (Nat.le_of_lt hgr) he a1 a2 a3⟩
  have hb := Heap.lt_size (hk b o q)
  rw [sortedHeap_old (Nat.ne_of_lt hb) (by rw [size_push']; exact Nat.lt_succ_of_lt hb)]
  exact Heap.get?_push_of_some _ (hk b o q)
variable {X : Cx} {e : Expr} {es : List Expr} {t : TA} {x y : Str} {p p2 pos pos2 : Pos}
noncomputable def tSS (t : TA) : TE := fun σ H Q => t σ H fun xs H1 => ∃ (a : Addr) (ns : List Int), xs = [.ref a] ∧ H1 a = some (.lst (ns.map V.int)) ∧ (dedupI ns).length ≤ 18 ∧
  ∀ (l : Addr) (ms : List Int), H1 l = none → ms.Perm (dedupI ns) → ms.Pairwise (· < ·) → Q (.ref l) (upd H1 l (.lst (ms.map V.int)))
theorem pe_sortedSet (hc : X.calm = true) (hg : Gl X x) (hm : X.mg x = none) (hv : bootBuiltins x = some (.builtin "sorted")) (hg2 : Gl X y) (hm2 : X.mg y = none) (hv2 : bootBuiltins y = some (.type "set")) (ha : PA X [e] t)
    (hn : x ≠ "__name__" := by decide) (hdb : (x == ("__debug__" : Str)) = false := by decide) (hn2 : y ≠ "__name__" := by decide) (hdb2 : (y == ("__debug__" : Str)) = false := by decide)
    (he : starEach [e] X.env = (false, eval e X.env) :: starEach [] X.env := by rfl) : PE X (.Call (.Name x p) [.Call (.Name y p2) [e] [] pos2] [] pos) (tSS t) := by
  intro pins s σ H Q I h
  refine wpAny_Call_Name_kw (ld_blt I hg hm hv ?_ hn hdb)
  refine PyProof.Rows.callWith_builtin1 ?_ rfl rfl
  show wpAny _ _ (spliced ((false, eval (.Call (.Name y p2) [e] [] pos2) X.env) :: backTo pos (starEach [] X.env))) _ _ s
  refine Calls.spliced_cons ?_
  refine wpAny_Call_Name_kw (ld_blt I hg2 hm2 hv2 ?_ hn2 hdb2)
  refine PyProof.Rows.callWith_type1 (thn (ha pos2 pins s σ H _ I h) fun us s1 ⟨vs, H1, I1, r1, q1⟩ => ?_) he rfl
  obtain ⟨a, ns, rfl, hl, h18, q⟩ := q1
  obtain ⟨u, rfl, rx⟩ := vals1 r1
  cases rx
  obtain ⟨its, rv, pl, hz⟩ := I1.list (SqL.of hl)
  have hlen := rv.length
  rw [List.length_map] at hlen
  have es1 : its.toArray.size = ns.length := by rw [List.size_toArray, hlen]
  refine call_setG (I1.ok.hd hc) pl.isList (ints_are rv) (by rw [es1]; exact h18) fun h' tk hS kp => ?_
  rw [es1] at hS
  refine Calls.spliced_nil ?_
  obtain ⟨o, es, ep, tt, ho, hex, hd, hel, hmem, hn', T⟩ := hS
  have hAt : SetAt X.w h' s1.heap.objs.size es ep tt := ⟨o, ho, hex, hd, by rw [hn']; exact T⟩
  have h18' := T.le
  have hint : ∀ q ∈ es.toList, ∃ k t, q.2 = .int k t := fun q hq => by
    obtain ⟨⟨k, hk, _⟩, _⟩ := hel q hq
    obtain ⟨t, e⟩ := Value.isInt_shape hk
    exact ⟨k, t, e⟩
  have hpo := ordS_perm X.w s1.heap.objs.size es ep
  refine sorted_src (s := { s1 with heap := h', toks := tk }) (src_set (t := tt)) (I1.ok.hd hc) hAt (by omega) (fun i v ⟨hx, e⟩ => ?_) fun h2 tk2 a2 vs out ms e2 hvl hvv hk2 hsz2 ho2 hI2 hp2 hs2 => ?_
  · rw [← Array.getElem?_toList] at e
    have := hint _ (hpo.mem_iff.mp (List.mem_of_getElem? e))
    exact this
  · have hvs : vs = (ordS X.w s1.heap.objs.size es ep).toList.map (·.2) := by
      have hz2 : (ordS X.w s1.heap.objs.size es ep).toList.length = es.size := by rw [hpo.length_eq, Array.length_toList]
      apply List.ext_getElem
      · rw [List.length_map, hz2, hvl]
      · intro i h1 h2'
        obtain ⟨hx, e⟩ := hvv i vs[i] (List.getElem?_eq_getElem h1)
        rw [← Array.getElem?_toList] at e
        obtain ⟨hb, e⟩ := List.getElem?_eq_some_iff.mp e
        rw [List.getElem_map, e]
    have hperm : ms.Perm (dedupI ns) := by
      refine hp2.trans ?_
      rw [hvs, List.map_map]
      refine (hpo.map _).trans ?_
      refine (perm_of_sub (dedup_nodup ns) (fun k hk => ?_) ?_).symm
      · have : (firstMet (fun i => ns.getD i 0) ns.length).any (· == k) = true := by
          rw [List.any_eq_true]; exact ⟨k, hk, by simp⟩
        obtain ⟨q, hq, hq2⟩ := (hmem k).mp this
        obtain ⟨t, e⟩ := Value.isInt_shape hq2
        refine List.mem_map.mpr ⟨q, hq, ?_⟩
        show intV q.2 = k
        rw [e]; rfl
      · rw [List.length_map, Array.length_toList, hn']
        exact Nat.le_refl _
    have hstr : ms.Pairwise (· < ·) := by
      have hnd : ms.Nodup := hperm.nodup_iff.mpr (dedup_nodup ns)
      exact (hs2.and hnd).imp fun ⟨h1, h2⟩ => by omega
    have hfr : s1.heap.objs.size ≤ a2 := by
      have h3 : s1.heap.objs.size < h'.objs.size := Heap.lt_size ho
      have h4 : h'.objs.size ≤ a2 := hsz2
      omega
    have hnone : H1 a2 = none := I1.hok.fresh hfr
    refine ⟨.ref a2, _, I1.laid (t' := tk2) (o := .lst (ms.map V.int)) (fun b o e => hk2 b o (kp b o (Heap.lt_size e) e)) hfr ⟨?_, out.toList, e2, vals_ints hI2, ho2⟩, rfl, q a2 ms hnone hperm hstr⟩
    rw [List.length_map, hperm.length_eq]
    exact Nat.le_trans h18 (by decide)
end
end L2

set_option Elab.async false
set_option linter.all false
set_option maxRecDepth 100000
set_option maxHeartbeats 1000000
namespace L2
open PySem PySem.Spec PyProof.Rows
noncomputable def DK {α : Type} : Sem α → Prop
  | .pure _ => True
  | .raise _ => True
  | .unsupported _ => True
  | .finish _ => True
  | .rule _ k => ∀ u, DK (k u)
  | .at _ k => ∀ u, DK (k u)
  | .load _ _ k => ∀ o, DK (k o)
  | .update _ _ f k => (∀ o, (f o).dict = o.dict ∧ (f o).cls = o.cls ∧ (o.isFreed = false → (f o).isFreed = false)) ∧ ∀ u, DK (k u)
  | .alloc _ k => ∀ a, DK (k a)
  | .loadIfAlive _ k => ∀ o, DK (k o)
  | .point _ k => ∀ u, DK (k u)
  | .register _ _ => True
  | .fresh k => ∀ t, DK (k t)
  | .ask k => ∀ x, DK (k x)
  | .choose _ _ k => ∀ n, DK (k n)
  | .os _ _ _ => False
  | .call _ _ _ _ _ => False
  | .handled _ k => ∀ h, DK (k h)
  | .newGen _ _ => False
  | .genState _ k => ∀ g, DK (k g)
  | .resume _ _ _ _ => False
  | .yield _ _ _ _ => False
  | .stack k => ∀ l, DK (k l)
  | .fork _ _ => False
  | .thread k => ∀ n, DK (k n)
  | .await _ _ _ _ _ => False
theorem DK.bind {α β : Type} {f : α → Sem β} : ∀ {t : Sem α}, DK t → (∀ a, DK (f a)) → DK (t.bind f) := by
  intro t
  induction t with
  | pure a => intro _ hf; exact hf a
  | raise e => intro _ _; trivial
  | unsupported w => intro _ _; trivial
  | finish e => intro _ _; trivial
  | rule tag k ih => intro h hf u; exact ih u (h u) hf
  | «at» pos k ih => intro h hf u; exact ih u (h u) hf
  | load a part k ih => intro h hf o; exact ih o (h o) hf
  | update a part g k ih => intro h hf; exact ⟨h.1, fun u => ih u (h.2 u) hf⟩
  | alloc o k ih => intro h hf a; exact ih a (h a) hf
  | loadIfAlive a k ih => intro h hf o; exact ih o (h o) hf
  | point live k ih => intro h hf u; exact ih u (h u) hf
  | register a k ih => intro _ _; trivial
  | fresh k ih => intro h hf t; exact ih t (h t) hf
  | ask k ih => intro h hf x; exact ih x (h x) hf
  | choose src n k ih => intro h hf x; exact ih x (h x) hf
  | os req live k ih => intro h _; exact h.elim
  | call c hd gd live k ih => intro h _; exact h.elim
  | handled own k ih => intro h hf x; exact ih x (h x) hf
  | newGen c k ih => intro h _; exact h.elim
  | genState g k ih => intro h hf x; exact ih x (h x) hf
  | resume g r live k ih => intro h _; exact h.elim
  | yield v gd live k ih => intro h _; exact h.elim
  | stack k ih => intro h hf x; exact ih x (h x) hf
  | fork c k ih => intro h _; exact h.elim
  | thread k ih => intro h hf x; exact ih x (h x) hf
  | await a take timed live k ih => intro h _; exact h.elim
noncomputable def HD (h0 h : Heap) : Prop := ∀ b o, h0.get? b = some o → ∃ o', h.get? b = some o' ∧ o'.dict = o.dict ∧ o'.cls = o.cls
theorem HD.refl (h : Heap) : HD h h := fun b o e => ⟨o, e, rfl, rfl⟩
theorem HD.trans {a b c : Heap} (x : HD a b) (y : HD b c) : HD a c := fun d o e => by
  obtain ⟨o1, e1, d1, c1⟩ := x d o e
  obtain ⟨o2, e2, d2, c2⟩ := y d o1 e1
  exact ⟨o2, e2, d2.trans d1, c2.trans c1⟩
theorem HD.kept {h h' : Heap} (k : ∀ b o, h.get? b = some o → h'.get? b = some o) : HD h h' := fun b o e => ⟨o, k b o e, rfl, rfl⟩
theorem freed_none {h : Heap} {a : Addr} {o : Obj} (e : h.get? a = some o) : o.isFreed = false := (Heap.get?_some_iff.mp e).2
theorem HD.update {h : Heap} {a : Addr} {f : Obj → Obj} (hf : ∀ o, (f o).dict = o.dict ∧ (f o).cls = o.cls ∧ (o.isFreed = false → (f o).isFreed = false)) : HD h (h.update a f) := fun b o e => by
  by_cases q : b = a
  · subst q
    exact ⟨f o, Heap.get?_update_self f e ((hf o).2.2 (freed_none e)), (hf o).1, (hf o).2.1⟩
  · exact ⟨o, (Heap.get?_update_ne _ _ _ _ q).trans e, rfl, rfl⟩
end L2

set_option Elab.async false
set_option linter.all false
set_option maxRecDepth 100000
set_option maxHeartbeats 1000000
namespace L2
open PySem PySem.Spec PyProof.Rows
theorem ObjOk.there {P : Program} {w : World} {H : Hp} {h : Heap} {a : Addr} {u : HO} (x : ObjOk P w H h a u) : ∃ o, h.get? a = some o := by
  cases u with
  | lst xs => obtain ⟨_, _, _, _, e⟩ := x; exact ⟨_, e⟩
  | tup xs => obtain ⟨_, _, _, o, e, _⟩ := x; exact ⟨_, e⟩
  | dK kvs => obtain ⟨_, _, _, _, o, _, _, e, _⟩ := x; exact ⟨_, e⟩
  | dT kvs => obtain ⟨_, _, _, _, o, _, _, e, _⟩ := x; exact ⟨_, e⟩
  | set S n => obtain ⟨o, _, _, _, e, _⟩ := x; exact ⟨_, e⟩
  | ins C dx fs => obtain ⟨_, _, _, e, _⟩ := x; exact ⟨_, e⟩
  | own y => exact x
  | xd fs => obtain ⟨_, ⟨_, _, _, e, _⟩, _⟩ := x; exact ⟨_, e⟩
  | rng lo hi => obtain ⟨_, _, _, e⟩ := x; exact ⟨_, e⟩
  | frz ob u => obtain ⟨e, _⟩ := x; exact ⟨_, e⟩
  | tbl ps => exact ⟨_, show h.get? a = some _ from x⟩
  | met f y => exact ⟨_, show h.get? a = some _ from x⟩
  | ext φ => obtain ⟨_, e, _⟩ := x; exact e
section
variable {X : Cx} {pins : List (Addr × Obj)} {σ : St} {H : Hp} {s : Shared} {E : XK}
structure Body (X : Cx) : Prop where
  ex : X.ex = []
  stk : X.stack = X.env :: X.outer
  fr : X.env.frame = some X.env.locals
theorem Body.mem (b : Body X) {c : Addr} : c ∈ frs X.stack ↔ c = X.env.locals ∨ c ∈ X.fs := by
  rw [b.stk]
  unfold frs
  rw [List.filterMap_cons, b.fr, List.mem_cons]
  rfl
end
end L2

set_option Elab.async false
set_option linter.all false
set_option maxRecDepth 100000
set_option maxHeartbeats 1000000
namespace L2
open PySem PySem.Spec PyProof.Rows
section
variable {X : Cx}
end
section
variable {X : Cx}
end
end L2

set_option Elab.async false
set_option linter.all false
set_option maxRecDepth 100000
set_option maxHeartbeats 4000000
namespace L2
open PySem PySem.Spec PyProof.Rows
section
variable {X : Cx}
end
end L2

set_option Elab.async false
set_option linter.all false
set_option maxRecDepth 100000
set_option maxHeartbeats 4000000
namespace L2
open PySem PySem.Spec PyProof.Rows PySem.MeetsSeq
section
variable {X : Cx}
noncomputable def rCountI : V → List V → Hp → VK → Prop := fun x vs H Q => ∃ (l : Addr) (ns : List Int) (k : Int), x = .ref l ∧ vs = [.int k] ∧ H l = some (.lst (ns.map V.int)) ∧ Q (.int (ns.count k : Nat)) H
theorem countP_ints (k : Int) : ∀ {vs : List Value} {ns : List Int}, IntsAre vs ns → vs.countP (fun v => intV v == k) = ns.count k
  | _, _, .nil => rfl
  | _, _, .cons n t r => by
    rw [List.countP_cons, List.count_cons, countP_ints k r]
    rfl
theorem mt_countI : MtM X "list.count" rCountI := by
  intro pins s σ H x vs v us Q I rx rv h
  obtain ⟨l, ns, k, rfl, rfl, hH, q⟩ := h
  cases rx
  obtain ⟨u, rfl, ru⟩ := rv.one
  obtain ⟨t, rfl⟩ := ru
  obtain ⟨z, its, n, r, hl, e⟩ := I.lstM hH
  have hI := ints_are r
  refine call_meets PySem.F.slot_list_count ⟨_, e, rfl⟩ PySem.F.entry_list_count (PySem.F.args_list_count_2 _ _) (list_count l its.toArray n (.int k t) (fun v => intV v == k) fun y hy => ?_) ⟨e, ?_⟩
  · obtain ⟨i, hi⟩ := List.mem_iff_getElem?.mp (show y ∈ its by simpa using hy)
    obtain ⟨t', rfl⟩ := hI.int_at i y hi
    exact EqGives.int _ _ _ _
  · rw [show its.toArray.toList = its from rfl, countP_ints k hI]
    exact ⟨.int _, H, I.tok _, ⟨_, rfl⟩, q⟩
end
end L2

set_option Elab.async false
set_option linter.all false
set_option maxRecDepth 100000
set_option maxHeartbeats 4000000
namespace L2
open PySem PySem.Spec PyProof.Rows
section
variable {X : Cx}
noncomputable def CMulB (i j : Int) : Prop := (0 ≤ i ∧ i < 2 ^ 20000) ∧ (0 ≤ j ∧ j < 2 ^ 20000)
theorem bits_b {i : Int} (h0 : 0 ≤ i) (h1 : i < 2 ^ 20000) : Builtin.Int.intBits i ≤ 2 ^ 20 := by
  unfold Builtin.Int.intBits
  split
  · omega
  · have h2 : i.natAbs < 2 ^ 20000 := by
      have e : ((i.natAbs : Nat) : Int) < ((2 ^ 20000 : Nat) : Int) := by
        rw [Int.natAbs_of_nonneg h0, Int.natCast_pow]
        exact h1
      exact Int.ofNat_lt.mp e
    have hne : i.natAbs ≠ 0 := fun e => by
      have : i = 0 := Int.natAbs_eq_zero.mp e
      subst this
      rename_i q
      exact q rfl
    have := (Nat.log2_lt hne).mpr h2
    have e : (2 : Nat) ^ 20 = 1048576 := by decide
    omega
theorem CMulB.ok {i j : Int} (h : CMulB i j) : IntMulOk i j := .of_bits (bits_b h.1.1 h.1.2) (bits_b h.2.1 h.2.2)
theorem op_mulB : OpR X (binaryOp .Mult) (rI CMulB fun i j => .int (i * j)) := opI fun _ _ _ _ _ _ _ hc q => mul_int q hc.ok
noncomputable def ipB : TIp := fun x y H Q => ∃ i j, x = .int i ∧ y = .int j ∧ CMulB i j ∧ Q (.int (i * j)) H
theorem ip_mulB : PIp X .Mult ipB := by
  intro pins s σ H x y v u Q I r1 r2 h
  obtain ⟨i, j, e1, e2, hc, q⟩ := h
  subst e1; subst e2
  obtain ⟨t, rfl⟩ := r1
  obtain ⟨t', rfl⟩ := r2
  exact imul_int ⟨.int _, H, I.tok _, ⟨_, rfl⟩, q⟩ hc.ok
end
end L2
namespace CW
open PySem L2
structure Cn2 (mg : Str → Option Value) (tC : Tok) : Prop where
  MOST_NICHES : mg "MOST_NICHES" = some (.int 200 tC)
theorem ipow_le {m n : Nat} (h : m ≤ n) : (2 : Int) ^ m ≤ 2 ^ n := by
  rw [show (2 : Int) = ((2 : Nat) : Int) from rfl, ← Int.natCast_pow, ← Int.natCast_pow]
  exact Int.ofNat_le.mpr (Nat.pow_le_pow_right (by decide) h)
theorem ipow_lt {m n : Nat} (h : m < n) : (2 : Int) ^ m < 2 ^ n := by
  rw [show (2 : Int) = ((2 : Nat) : Int) from rfl, ← Int.natCast_pow, ← Int.natCast_pow]
  exact Int.ofNat_lt.mpr (Nat.pow_lt_pow_right (by decide) h)
noncomputable def chW (room : Int) : Nat → Int
  | 0 => 1
  | n + 1 => chW room n * (room + ((n : Int) + 1)) / ((n : Int) + 1)
noncomputable def chO (n : Nat) (room : Int) : Int := if room < 0 then 0 else chW room n
theorem chW_in {room : Int} (h0 : 0 ≤ room) (h1 : room ≤ 200) : ∀ n : Nat, n ≤ 60 → 0 ≤ chW room n ∧ chW room n ≤ 512 ^ n
  | 0, _ => ⟨by unfold chW; decide, by unfold chW; decide⟩
  | n + 1, hn => by
    obtain ⟨a, b⟩ := chW_in h0 h1 n (by omega)
    have p : 0 ≤ chW room n * (room + ((n : Int) + 1)) := Int.mul_nonneg a (by omega)
    refine ⟨Int.ediv_nonneg p (by omega), ?_⟩
    have q : chW room n * (room + ((n : Int) + 1)) ≤ 512 ^ n * 512 := Int.mul_le_mul b (by omega) (by omega) (Int.le_of_lt (Int.pow_pos (by decide)))
    have r : chW room n * (room + ((n : Int) + 1)) / ((n : Int) + 1) ≤ chW room n * (room + ((n : Int) + 1)) := Int.ediv_le_self _ p
    have e : (512 : Int) ^ (n + 1) = 512 ^ n * 512 := Int.pow_succ ..
    show chW room n * (room + ((n : Int) + 1)) / ((n : Int) + 1) ≤ 512 ^ (n + 1)
    rw [e]
    exact Int.le_trans r q
theorem chO_in {room : Int} (h1 : room ≤ 200) {n : Nat} (hn : n ≤ 60) : 0 ≤ chO n room ∧ chO n room ≤ 2 ^ 540 := by
  unfold chO
  split
  · exact ⟨Int.le_refl _, Int.le_of_lt (Int.pow_pos (by decide))⟩
  · obtain ⟨a, b⟩ := chW_in (by omega) h1 n hn
    refine ⟨a, Int.le_trans b ?_⟩
    have e : (512 : Int) ^ n = 2 ^ (9 * n) := by rw [Int.pow_mul]; rfl
    rw [e]
    exact ipow_le (by omega)
noncomputable def lesN (ns : List Int) (m : Int) : Int := (ns.map fun o => if o < m then o else m).sum
noncomputable def roomM (niches : Int) (ns : List Int) (m : Int) : Int := niches - 2 * lesN ns m
noncomputable def howM (niches : Int) (ns ms : List Int) : Int := ms.foldl (fun a m => a * chO (ns.count m) (roomM niches ns m)) 1
noncomputable def rmM (niches : Int) (ns : List Int) (m : Int) : Int × Int := (m, roomM niches ns m)
theorem howM_snoc (niches : Int) (ns ms : List Int) (m : Int) : howM niches ns (ms ++ [m]) = howM niches ns ms * chO (ns.count m) (roomM niches ns m) := by
  unfold howM; rw [List.foldl_append]; rfl
theorem howM_take {niches : Int} {ns ms : List Int} {i : Nat} {m : Int} (h : ms[i]? = some m) : howM niches ns (ms.take (i + 1)) = howM niches ns (ms.take i) * chO (ns.count m) (roomM niches ns m) := by
  rw [List.take_succ, h]; exact howM_snoc ..
theorem lesN_nn {ns : List Int} {m : Int} (h : ∀ n ∈ ns, 1 ≤ n) (hm : 1 ≤ m) : 0 ≤ lesN ns m := by
  unfold lesN
  induction ns with
  | nil => exact Int.le_refl 0
  | cons a l ih =>
    have h1 := ih fun n hn => h n (List.mem_cons_of_mem _ hn)
    have h2 := h a List.mem_cons_self
    rw [List.map_cons, List.sum_cons]
    split <;> omega
theorem roomM_le {niches : Int} {ns : List Int} {m : Int} (hN : niches ≤ 200) (h : ∀ n ∈ ns, 1 ≤ n) (hm : 1 ≤ m) : roomM niches ns m ≤ 200 := by
  have := lesN_nn h hm; unfold roomM; omega
theorem howM_in {niches : Int} {ns : List Int} (hN : niches ≤ 200) (h : ∀ n ∈ ns, 1 ≤ n) (hl : ns.length ≤ 60) : ∀ (ms : List Int), (∀ m ∈ ms, 1 ≤ m) → ∀ (i : Nat), i ≤ ms.length → 0 ≤ howM niches ns (ms.take i) ∧ howM niches ns (ms.take i) ≤ (2 ^ 540) ^ i := by
  intro ms hms i
  induction i with
  | zero => intro _; exact ⟨show (0 : Int) ≤ 1 by decide, by rw [Int.pow_zero]; exact Int.le_refl 1⟩
  | succ i ih =>
    intro hi
    obtain ⟨a, b⟩ := ih (by omega)
    have hm : ms[i]? = some ms[i] := List.getElem?_eq_getElem (by omega)
    obtain ⟨c, d⟩ := chO_in (roomM_le hN h (hms ms[i] (List.getElem_mem _))) (n := ns.count ms[i]) (Nat.le_trans List.count_le_length hl)
    rw [howM_take hm]
    refine ⟨Int.mul_nonneg a c, ?_⟩
    rw [Int.pow_succ]
    exact Int.mul_le_mul b d c (Int.le_of_lt (Int.pow_pos (Int.pow_pos (by decide))))
theorem howM_b {niches : Int} {ns ms : List Int} (hN : niches ≤ 200) (h : ∀ n ∈ ns, 1 ≤ n) (hl : ns.length ≤ 60) (hms : ∀ m ∈ ms, 1 ≤ m) (h18 : ms.length ≤ 18) {i : Nat} (hi : i ≤ ms.length) {m : Int} (hm : 1 ≤ m) :
    CMulB (howM niches ns (ms.take i)) (chO (ns.count m) (roomM niches ns m)) := by
  obtain ⟨a, b⟩ := howM_in hN h hl ms hms i hi
  obtain ⟨c, d⟩ := chO_in (roomM_le hN h hm) (n := ns.count m) (Nat.le_trans List.count_le_length hl)
  have e : ((2 : Int) ^ 540) ^ i = 2 ^ (540 * i) := by rw [Int.pow_mul]
  rw [e] at b
  exact ⟨⟨a, Int.lt_of_le_of_lt b (ipow_lt (by omega))⟩, ⟨c, Int.lt_of_le_of_lt d (ipow_lt (by omega))⟩⟩
structure SzOk (ns : List Int) : Prop where
  pos : ∀ n ∈ ns, 1 ≤ n
  sum : ns.sum ≤ 60
  len : ns.length ≤ 60
  few : (dedupI ns).length ≤ 18
structure Dst (ns ms : List Int) : Prop where
  perm : ms.Perm (dedupI ns)
  up : ms.Pairwise (· < ·)
theorem Dst.mem {ns ms : List Int} (d : Dst ns ms) {m : Int} : m ∈ ms ↔ m ∈ ns := d.perm.mem_iff.trans (dedup_mem ns m)
theorem Dst.eq {ns ns' ms ms' : List Int} (d : Dst ns ms) (d' : Dst ns' ms') (h : ∀ m, m ∈ ns ↔ m ∈ ns') : ms = ms' := by
  have p : ms.Perm ms' := perm_of_sub (d.up.imp fun h => Int.ne_of_lt h) (fun m hm => d'.mem.mpr ((h m).mp (d.mem.mp hm))) (by
    rw [d'.perm.length_eq, d.perm.length_eq]
    exact (dedup_nodup ns').length_le_of_subset fun m hm => (dedup_mem ns m).mpr ((h m).mpr ((dedup_mem ns' m).mp hm)))
  exact sorted_unique p (d.up.imp Int.le_of_lt) (d'.up.imp Int.le_of_lt)
theorem Dst.pos {ns ms : List Int} (d : Dst ns ms) (h : SzOk ns) : ∀ m ∈ ms, 1 ≤ m := fun m hm => h.pos m (d.mem.mp hm)
theorem Dst.len {ns ms : List Int} (d : Dst ns ms) (h : SzOk ns) : ms.length ≤ 18 := by rw [d.perm.length_eq]; exact h.few
theorem howM_rev (niches : Int) (ns ms : List Int) : howM niches ns.reverse ms = howM niches ns ms := by
  unfold howM
  congr 1
  funext a m
  have e : lesN ns.reverse m = lesN ns m := by
    unfold lesN; rw [List.map_reverse]
    induction (ns.map fun o => if o < m then o else m) with
    | nil => rfl
    | cons x l ih => rw [List.reverse_cons, List.sum_append, ih, List.sum_cons, List.sum_cons]; simp; omega
  unfold roomM
  rw [e, List.count_reverse]
inductive spLookN (vs : List V) (H : Hp) (Q : VK) (E_ : XK) : Prop
  | mk (n : Int) (h0_ : vs = [.int n]) (h1_ : 0 ≤ n) (h2_ : n ≤ 200) (h3_ : Q .non H) : spLookN vs H Q E_
inductive spLookS (vs : List V) (H : Hp) (Q : VK) (E_ : XK) : Prop
  | mk (a : Addr) (ns : List Int) (h0_ : vs = [.ref a]) (h1_ : H a = some (.lst (ns.map V.int))) (h2_ : SzOk ns) (h3_ : ∀ H', Same H H' → Q .non H') : spLookS vs H Q E_
inductive spRooms (vs : List V) (H : Hp) (Q : VK) (E_ : XK) : Prop
  | mk (a : Addr) (niches : Int) (ns : List Int) (h0_ : vs = [.int niches, .ref a]) (h1_ : H a = some (.lst (ns.map V.int))) (h2_ : SzOk ns)
    (h3_ : ∀ ms (l : Addr) us H', Dst ns ms → Same H H' → H' l = some (.lst us) → Prs H' us (ms.map (rmM niches ns)) → Q (.ref l) H') : spRooms vs H Q E_
inductive spChoices (vs : List V) (H : Hp) (Q : VK) (E_ : XK) : Prop
  | mk (n : Nat) (room : Int) (h0_ : vs = [.int n, .int room]) (h1_ : n ≤ 60) (h2_ : room ≤ 200) (h3_ : Q (.int (chO n room)) H) : spChoices vs H Q E_
inductive spHow (vs : List V) (H : Hp) (Q : VK) (E_ : XK) : Prop
  | mk (a : Addr) (niches : Int) (ns : List Int) (h0_ : vs = [.int niches, .ref a]) (h1_ : H a = some (.lst (ns.map V.int))) (h2_ : SzOk ns) (h3_ : 0 ≤ niches) (h4_ : niches ≤ 200)
    (h5_ : ∀ ms H', Dst ns ms → Same H H' → Q (.int (howM niches ns ms)) H') : spHow vs H Q E_
inductive spSpace (vs : List V) (H : Hp) (Q : VK) (E_ : XK) : Prop
  | mk (a : Addr) (niches m : Int) (ns : List Int) (h0_ : vs = [.int niches, .ref a, .int m]) (h1_ : H a = some (.lst (ns.map V.int))) (h2_ : ns.length ≤ 60)
    (h3_ : ∀ H', Same H H' → Q (.int (roomM niches ns m)) H') : spSpace vs H Q E_
inductive spChoose (vs : List V) (H : Hp) (Q : VK) (E_ : XK) : Prop
  | mk (n : Nat) (room : Int) (h0_ : vs = [.int n, .int (room + 1)]) (h1_ : n ≤ 60) (h2_ : 0 ≤ room) (h3_ : room ≤ 200) (h4_ : Q (.int (chW room n)) H) : spChoose vs H Q E_
end CW
namespace CW
open PySem L2
theorem few12 {ns : List Int} (h : ∀ n ∈ ns, 1 ≤ n ∧ n ≤ 12) : (dedupI ns).length ≤ 18 := by
  have hs : dedupI ns ⊆ (List.range 13).map (fun i : Nat => (i : Int)) := fun k hk => by
    obtain ⟨a, b⟩ := h k ((dedup_mem ns k).mp hk)
    exact List.mem_map.mpr ⟨k.toNat, List.mem_range.mpr (by omega), by omega⟩
  have := (dedup_nodup ns).length_le_of_subset hs
  rw [List.length_map, List.length_range] at this
  omega
theorem sum_rep (k : Nat) (z : Int) : (List.replicate k z).sum = (k : Int) * z := by
  induction k with
  | zero => simp
  | succ k ih => rw [List.replicate_succ, List.sum_cons, ih, Int.natCast_succ, Int.add_mul]; omega
theorem SzOk.rep {k : Nat} {z : Int} (h1 : 1 ≤ z) (h4 : z ≤ 4) (hk : (k : Int) ≤ 60 / z) : SzOk (List.replicate k z) := by
  have hb : (k : Int) * z ≤ 60 := Int.le_trans (Int.mul_le_mul_of_nonneg_right hk (by omega)) (Int.ediv_mul_le 60 (by omega))
  have hk60 : (k : Int) ≤ 60 := by
    have : (k : Int) * 1 ≤ (k : Int) * z := Int.mul_le_mul_of_nonneg_left h1 (by omega)
    omega
  refine ⟨fun n hn => ?_, by rw [sum_rep]; exact hb, by rw [List.length_replicate]; omega, few12 fun n hn => ?_⟩
  · rw [List.eq_of_mem_replicate hn]; exact h1
  · rw [List.eq_of_mem_replicate hn]; exact ⟨h1, by omega⟩
theorem SzOk.nil : SzOk [] := ⟨fun n hn => absurd hn List.not_mem_nil, by decide, by decide, by decide⟩
theorem Dst.nil {ms : List Int} (d : Dst [] ms) : ms = [] := by
  apply List.eq_nil_iff_forall_not_mem.mpr
  intro m hm
  have := d.mem.mp hm
  cases this
theorem SzOk.rev {ns : List Int} (h : SzOk ns) : SzOk ns.reverse := by
  refine ⟨fun n hn => h.pos n (List.mem_reverse.mp hn), ?_, by rw [List.length_reverse]; exact h.len, ?_⟩
  · have e : ns.reverse.sum = ns.sum := by
      have : ∀ l : List Int, l.reverse.sum = l.sum := fun l => by
        induction l with
        | nil => rfl
        | cons x l ih => rw [List.reverse_cons, List.sum_append, ih, List.sum_cons, List.sum_cons]; simp; omega
      exact this ns
    rw [e]; exact h.sum
  · refine Nat.le_trans ((dedup_nodup ns.reverse).length_le_of_subset (l₂ := dedupI ns) fun k hk => ?_) h.few
    exact (dedup_mem ns k).mpr (List.mem_reverse.mp ((dedup_mem _ k).mp hk))
theorem szOk_of {ns : List Int} (h : ∀ n ∈ ns, 1 ≤ n ∧ n ≤ 12) (hs : ns.sum ≤ 60) (hl : ns.length ≤ 60) : SzOk ns := ⟨fun n hn => (h n hn).1, hs, hl, few12 h⟩
theorem sum_nil_le {ns : List Int} (h : ns.length = 0) : ns.sum = 0 := by rw [List.eq_nil_of_length_eq_zero h]; rfl
end CW

set_option Elab.async false
set_option linter.all false
set_option maxRecDepth 100000
set_option maxHeartbeats 4000000
namespace CW
open PySem L2
noncomputable def top (i : Nat) : Stmt := PySem.Challenge.pw_creelway_k34_sober_rows_counted.main.body.getD i (.Pass ⟨0, 0, 0, 0⟩)
section
variable {P : Program} {w : World} {K : PySem.W.Frag} {mg : Str → Option Value} {base : Heap}
noncomputable abbrev s_look_niches : Stmt := top 8
theorem sc_look_niches : FnScope ["niches"] ["niches"] (defScope s_look_niches) := ⟨rfl, rfl, rfl, by decide +kernel, rfl, by decide +kernel, by decide +kernel⟩
theorem ok_look_niches {f : Addr} {fd : FuncData} {tC : Tok} (F : Fun K "look_niches" "look_niches" s_look_niches f fd) (B : Bt mg) (C2 : Cn2 mg tC) : FnOk P w K mg base CX0 1 f fd ["niches"] spLookN := by
  refine F.ok sc_look_niches (fun vs H Q E h => ?_) (fun cdv A outer s H vs Q E hr h => ?_)
  · obtain ⟨n, rfl, _⟩ := h
    rfl
  · obtain ⟨n, rfl, h0, h1, k⟩ := h
    refine ⟨_, (pss_one (ps_if (PW.pt (pw_or (pt_cmpR op_lt (pv 0) pe_int (nomark _)) (pw_or1 (pt_cmpR op_gt (pv 0) (pe_glob (v := .int 200) rfl C2.MOST_NICHES ⟨_, rfl⟩) (nomark _)))))
 (pss_one ps_never)
 pss_nil)), ?_⟩
    exact ⟨_, rfl, _, _, rfl, rfl, _, rfl, iteDF (by omega) ⟨_, rfl, _, _, rfl, rfl, _, rfl, iteDF (by omega) k⟩⟩
noncomputable abbrev s_look_sizes : Stmt := top 9
theorem sc_look_sizes : FnScope ["sizes", "at", "size"] ["sizes"] (defScope s_look_sizes) := ⟨rfl, rfl, rfl, by decide +kernel, rfl, by decide +kernel, by decide +kernel⟩
theorem ok_look_sizes {f : Addr} {fd : FuncData} {tC : Tok} (F : Fun K "look_sizes" "look_sizes" s_look_sizes f fd) (B : Bt mg) (C : Cn mg tC) : FnOk P w K mg base CX0 1 f fd ["sizes"] spLookS := by
  refine F.ok sc_look_sizes (fun vs H Q E h => ?_) (fun cdv A outer s H vs Q E hr h => ?_)
  · obtain ⟨a, ns, rfl, _⟩ := h
    rfl
  · obtain ⟨a, ns, rfl, ha, hz, k⟩ := h
    refine ⟨_, (pss_cons (ps_for PassesOwn.never rfl (pi_enum rfl B.enumerate (pa_cons (pv 0) pa_nil)) (pg_tup rfl (pgs_cons (pg_name (i := 1) sc_look_sizes.nd rfl (Or.inl rfl)) (pgs_cons (pg_name (i := 2) sc_look_sizes.nd rfl (Or.inl rfl)) pgs_nil)))
 (pss_one (ps_if (pt_cmpR op_lt (pv 2) pe_int (nomark _))
 (pss_one ps_never)
 pss_nil)))
 (pss_one (ps_if (pt_cmpR op_gt (pe_callB (call_sum rfl) (by rfl) B.sum boot_sum (pa_cons (pv 0) pa_nil)) (pe_glob (v := .int 60) rfl C.MOST_STONES ⟨_, rfl⟩) (nomark _))
 (pss_one ps_never)
 pss_nil))), ?_⟩
    refine ⟨_, rfl, a, _, rfl, SqL.of ha, for_enum (K := K) (a := a) (xs := ns.map V.int) (fun i σ H2 => ∃ v1 v2, σ = [some (.ref a), v1, v2] ∧ Same H H2) ⟨none, none, rfl, Same.refl _⟩ (fun i σ H2 _ ⟨_, _, _, sm⟩ => SqL.of (sm _ _ ha)) ?_ ?_⟩
    · rintro i x σ H2 t hi ⟨v1, v2, rfl, sm⟩ hn
      obtain ⟨z, rfl, hzz⟩ := int_at hi
      have sm2 : Same H (upd H2 t (.tup [.int i, .int z])) := sm.trans (Same.upd hn)
      have := hz.pos z (List.mem_of_getElem? hzz)
      exact ⟨t, _, rfl, SqT.of upd_same, rfl, _, _, rfl, _, _, rfl, rfl, _, rfl, _, _, rfl, rfl, _, rfl, iteDF (by omega) ⟨_, _, rfl, sm2⟩⟩
    · rintro σ H2 ⟨v1, v2, rfl, sm⟩
      have := hz.sum
      exact ⟨_, rfl, a, ns, rfl, sm _ _ ha, _, _, rfl, rfl, _, rfl, iteDF (by omega) (k _ sm)⟩
noncomputable abbrev s_rooms : Stmt := top 11
theorem sc_rooms : FnScope ["niches", "sizes"] ["niches", "sizes"] (defScope s_rooms) := ⟨rfl, rfl, rfl, by decide +kernel, rfl, by decide +kernel, by decide +kernel⟩
theorem ok_rooms {f : Addr} {fd : FuncData} (F : Fun K "rooms" "rooms" s_rooms f fd) (B : Bt mg) : FnOk P w K mg base CX0 1 f fd ["niches", "sizes"] spRooms := by
  refine F.ok sc_rooms (fun vs H Q E h => ?_) (fun cdv A outer s H vs Q E hr h => ?_)
  · obtain ⟨a, niches, ns, rfl, _⟩ := h
    rfl
  · obtain ⟨a, niches, ns, rfl, ha, hz, k⟩ := h
    refine ⟨_, (pss_one (ps_ret (pe_compC ["size"] ["niches", "sizes"] [0, 1] rfl (.of (show compOkC (defScope s_rooms) _ ["niches", "sizes"] [0, 1] ["niches", "sizes"] = true by decide +kernel)) (pi_list (pe_sortedSet rfl (by rfl) B.sorted boot_sorted (by rfl) B.set boot_set (pa_cons (pv 1) pa_nil))) (fun _ _ _ => (pg_name (i := 0) (show (["size", "niches", "sizes"] : List Str).Nodup by decide +kernel) rfl (Or.inr rfl))) (kg_name (by decide)) (fun _ _ _ => pif_nil) (fun _ _ _ => (pe_tup (pa_cons (pv 0) (pa_cons (pe_op op_sub (pv 1) (pe_op op_mul pe_int (pe_callB (call_sum rfl) (by rfl) B.sum boot_sum (pa_cons (pe_comp ["other"] ["size"] [0] rfl (.of (by rfl)) (pi_listK K rfl (pv 2)) (fun _ _ _ => (pg_name (i := 0) (show (["other", "size"] : List Str).Nodup by decide +kernel) rfl (Or.inl rfl))) (kg_name (by decide)) (fun _ _ _ => pif_nil) (fun _ _ _ => (pe_callB (call_min2 rfl) (by rfl) B.min boot_min (pa_cons (pv 1) (pa_cons (pv 0) pa_nil))))) pa_nil)))) pa_nil))))))), ?_⟩
    refine ⟨_, rfl, a, ns, rfl, ha, hz.few, fun l ms hl hp hup => ?_⟩
    have d : Dst ns ms := ⟨hp, hup⟩
    have h18 := d.len hz
    have hlen := hz.len
    have g1 := Same.upd (o := .lst (ms.map V.int)) hl
    have el : (upd H l (.lst (ms.map V.int))) l = some (.lst (ms.map V.int)) := upd_same
    generalize upd H l (.lst (ms.map V.int)) = H1 at g1 el ⊢
    refine ⟨l, rfl, ⟨_, SqL.of el⟩, comp_list (K := K) (a := l) (xs := ms.map V.int) (fun i ys H2 => Same H1 H2 ∧ Prs H2 ys ((ms.take i).map (rmM niches ns)) ∧ ys.length = i) ⟨Same.refl _, .nil, rfl⟩ ?_ ?_ ?_⟩
    · rintro i ys H2 hi ⟨sm, pr, hyl⟩
      rw [List.length_map] at hi
      exact ⟨SqL.of (sm _ _ el), by rw [hyl]; exact line_of (by omega)⟩
    · rintro i x ys H2 hi ⟨sm, pr, hyl⟩
      obtain ⟨m, rfl, hm⟩ := int_at hi
      have ha2 := sm _ _ (g1 _ _ ha)
      refine ⟨_, rfl, _, rfl, _, rfl, a, rfl, ⟨_, SqL.of ha2⟩, comp_list (K := K) (a := a) (xs := ns.map V.int) (fun j zs H3 => H3 = H2 ∧ zs = ((ns.take j).map fun o => if o < m then o else m).map V.int) ⟨rfl, rfl⟩ ?_ ?_ ?_⟩
      · rintro j zs H3 hj ⟨rfl, rfl⟩
        exact ⟨SqL.of ha2, by rw [List.length_map, List.length_map, List.length_take]; exact line_of (by omega)⟩
      · rintro j y zs H3 hj ⟨rfl, rfl⟩
        obtain ⟨o, rfl, ho⟩ := int_at hj
        exact ⟨_, rfl, _, rfl, _, _, rfl, rfl, snoc_map (fun o => if o < m then o else m) ho⟩
      rintro zs H3 ⟨rfl, rfl⟩ D hD
      rw [List.length_map, List.take_length]
      refine ⟨D, ns.map fun o => if o < m then o else m, rfl, upd_same, _, _, rfl, rfl, .inl ⟨by decide, by decide⟩, _, _, rfl, rfl, (show 2 ≤ sizeLine by decide), fun p hp2 => ?_⟩
      have g2 := Same.upd (o := .lst ((ns.map fun o => if o < m then o else m).map V.int)) hD
      have g3 := Same.upd (o := .tup [V.int m, V.int (roomM niches ns m)]) hp2
      have ep : (upd (upd H3 D (.lst ((ns.map fun o => if o < m then o else m).map V.int))) p (.tup [V.int m, V.int (roomM niches ns m)])) p = some (.tup [V.int m, V.int (roomM niches ns m)]) := upd_same
      have g4 := g2.trans g3
      refine ⟨sm.trans g4, ?_, by rw [List.length_append, hyl]; rfl⟩
      rw [List.take_succ, hm, List.map_append]
      exact Paired.snoc (Prs.mono (TupS.same g4) pr) ⟨p, rfl, ep⟩
    rintro ys H2 ⟨sm, pr, hyl⟩ D hD
    rw [List.length_map, List.take_length] at pr
    have g5 := Same.upd (o := .lst ys) hD
    exact k ms D ys _ d ((g1.trans sm).trans g5) upd_same (Prs.mono (TupS.same g5) pr)
noncomputable abbrev s_choices : Stmt := top 12
theorem sc_choices : FnScope ["many", "room", "ways", "taken"] ["many", "room"] (defScope s_choices) := ⟨rfl, rfl, rfl, by decide +kernel, rfl, by decide +kernel, by decide +kernel⟩
theorem ok_choices {f : Addr} {fd : FuncData} (F : Fun K "choices" "choices" s_choices f fd) (B : Bt mg) : FnOk P w K mg base CX0 1 f fd ["many", "room"] spChoices := by
  refine F.ok sc_choices (fun vs H Q E h => ?_) (fun cdv A outer s H vs Q E hr h => ?_)
  · obtain ⟨n, room, rfl, _⟩ := h
    rfl
  · obtain ⟨n, room, rfl, hn, hr2, k⟩ := h
    refine ⟨_, (pss_cons (ps_if (pt_cmpR op_lt (pv 1) pe_int (nomark _))
 (pss_one (ps_ret pe_int))
 pss_nil)
 (pss_cons (ps_set (i := 2) sc_choices.nd rfl (Or.inl rfl) pe_int)
 (pss_cons (ps_for PassesOwn.never rfl (pi_range2 rfl B.range (pa_cons pe_int (pa_cons (pe_op op_add (pv 0) pe_int) pa_nil))) (pg_name (i := 3) sc_choices.nd rfl (Or.inl rfl))
 (pss_one (ps_set (i := 2) sc_choices.nd rfl (Or.inl rfl) (pe_op op_fdiv (pe_op op_mul (pv 2) (pe_op op_add (pv 1) (pv 3))) (pv 3)))))
 (pss_one (ps_ret (pv 2)))))), ?_⟩
    refine ⟨_, rfl, _, _, rfl, rfl, _, rfl, iteD (fun c => ?_) (fun c => ?_)⟩
    · unfold chO at k
      rw [if_pos c] at k
      exact k
    · unfold chO at k
      rw [if_neg c] at k
      refine ⟨_, rfl, _, _, rfl, rfl, _, _, rfl, ⟨by decide, by decide, by omega, by omega⟩, for_range (lo := 1) (fun i σ H2 => ∃ v, σ = [some (.int n), some (.int room), some (.int (chW room i)), v] ∧ H2 = H) ⟨none, rfl, rfl⟩ ?_ ?_⟩
      · rintro i σ H2 hi ⟨v, rfl, rfl⟩
        refine ⟨_, rfl, _, rfl, _, rfl, _, _, rfl, rfl, _, _, rfl, rfl, .inr ⟨by omega, by omega⟩, _, rfl, _, _, rfl, rfl, ⟨by omega, by omega⟩, some (V.int (1 + (i : Int))), ?_, rfl⟩
        show _ = [some (V.int n), some (V.int room), some (V.int (chW room i * (room + ((i : Int) + 1)) / ((i : Int) + 1))), _]
        rw [show (1 : Int) + i = (i : Int) + 1 by omega]
        rfl
      · rintro σ H2 ⟨v, rfl, rfl⟩
        have e : ((n : Int) + 1 - 1).toNat = n := by omega
        rw [e]
        exact ⟨_, rfl, k⟩
noncomputable abbrev s_how_many : Stmt := top 10
theorem sc_how_many : FnScope ["niches", "sizes", "many", "size", "room"] ["niches", "sizes"] (defScope s_how_many) := ⟨rfl, rfl, rfl, by decide +kernel, rfl, by decide +kernel, by decide +kernel⟩
theorem ok_how_many {f : Addr} {fd : FuncData} (F : Fun K "how_many" "how_many" s_how_many f fd) (B : Bt mg) (F_look_niches : FnAt P w K mg base "look_niches" 1 ["niches"] spLookN) (F_look_sizes : FnAt P w K mg base "look_sizes" 1 ["sizes"] spLookS)
    (F_rooms : FnAt P w K mg base "rooms" 1 ["niches", "sizes"] spRooms) (F_choices : FnAt P w K mg base "choices" 1 ["many", "room"] spChoices) : FnOk P w K mg base CX0 2 f fd ["niches", "sizes"] spHow := by
  refine F.ok sc_how_many (fun vs H Q E h => ?_) (fun cdv A outer s H vs Q E hr h => ?_)
  · obtain ⟨a, niches, ns, rfl, _⟩ := h
    rfl
  · obtain ⟨a, niches, ns, rfl, ha, hz, hn0, hn1, k⟩ := h
    refine ⟨_, (pss_cons (ps_expr (pe_fn F_look_niches hr rfl (pa_cons (pv 0) pa_nil)))
 (pss_cons (ps_expr (pe_fn F_look_sizes hr rfl (pa_cons (pv 1) pa_nil)))
 (pss_cons (ps_set (i := 2) sc_how_many.nd rfl (Or.inl rfl) pe_int)
 (pss_cons (ps_for PassesOwn.never rfl (pi_list (pe_fn F_rooms hr rfl (pa_cons (pv 0) (pa_cons (pv 1) pa_nil)))) (pg_tup rfl (pgs_cons (pg_name (i := 3) sc_how_many.nd rfl (Or.inl rfl)) (pgs_cons (pg_name (i := 4) sc_how_many.nd rfl (Or.inl rfl)) pgs_nil)))
 (pss_one (ps_aug (i := 2) sc_how_many.nd rfl (Or.inl rfl) (pe_fn F_choices hr rfl (pa_cons (pe_bm PySem.F.plainAttrs_list PySem.F.slot_list_count PySem.F.type_list_count mt_countI (pv 1) (pa_cons (pv 3) pa_nil)) (pa_cons (pv 4) pa_nil))) ip_mulB)))
 (pss_one (ps_ret (pv 2))))))), ?_⟩
    refine ⟨_, rfl, niches, rfl, hn0, hn1, ?_⟩
    refine ⟨_, rfl, a, ns, rfl, ha, hz, fun H1 g1 => ?_⟩
    have ha1 := g1 _ _ ha
    refine ⟨_, rfl, _, rfl, a, niches, ns, rfl, ha1, hz, fun ms l us H2 d g2 el pr => ?_⟩
    have ha2 := g2 _ _ ha1
    have hul : us.length = ms.length := by rw [pr.len, List.length_map]
    refine ⟨l, rfl, ⟨_, SqL.of el⟩, for_list (K := K) (a := l) (xs := us) (fun i σ Hx => ∃ v1 v2, σ = [some (.int niches), some (.ref a), some (.int (howM niches ns (ms.take i))), v1, v2] ∧ Hx = H2) ⟨none, none, rfl, rfl⟩ (fun i σ Hx _ ⟨_, _, _, e⟩ => by rw [e]; exact SqL.of el) ?_ ?_⟩
    · rintro i x σ Hx hi ⟨v1, v2, rfl, rfl⟩
      obtain ⟨p, t', hp, rfl, et⟩ := paired_at pr hi
      rw [List.getElem?_map] at hp
      obtain ⟨m, hm, rfl⟩ : ∃ m, ms[i]? = some m ∧ rmM niches ns m = p := by
        cases hq : ms[i]? with
        | none => rw [hq] at hp; cases hp
        | some m => rw [hq] at hp; exact ⟨m, rfl, Option.some.inj hp⟩
      have hi' : i < ms.length := (List.getElem?_eq_some_iff.mp hm).1
      have h1 := d.pos hz m (List.mem_of_getElem? hm)
      have hc : ns.count m ≤ 60 := Nat.le_trans List.count_le_length hz.len
      have hb := howM_b (i := i) hn1 hz.pos hz.len (d.pos hz) (d.len hz) (by omega) h1
      refine ⟨t', _, rfl, SqT.of et, rfl, _, _, rfl, _, _, rfl, rfl, ?_⟩
      refine ⟨_, rfl, _, rfl, .inl ⟨rfl, _, SqL.of ha2⟩, _, rfl, a, ns, m, rfl, rfl, ha2, _, rfl, ns.count m, roomM niches ns m, rfl, hc, roomM_le hn1 hz.pos h1, _, _, rfl, rfl, hb, some (V.int m), some (V.int (roomM niches ns m)), ?_, rfl⟩
      rw [howM_take hm]
      rfl
    · rintro σ Hx ⟨v1, v2, rfl, rfl⟩
      rw [hul, List.take_length]
      exact ⟨_, rfl, k ms _ d (g1.trans g2)⟩
noncomputable abbrev s_law_numbers : Stmt := top 14
theorem sc_law_numbers : FnScope ["_law_script", "_law_many", "_law_row", "_law_seed", "_law_cell", "_law_rest", "_law_k"] ["_law_script", "_law_many"] (defScope s_law_numbers) := ⟨rfl, rfl, rfl, by decide +kernel, rfl, by decide +kernel, by decide +kernel⟩
inductive I1_law_numbers (H : Hp) (a : Addr) (l : Addr) (p : Addr) (m : Nat) (ms : List Int) (i : Nat) (σ : St) (H2 : Hp) : Prop
  | mk (seed : Int) (xs : List Int) (v1 v2 v3 : Option V) (k0_ : σ = [some (.ref a), some (.int m), some (.ref l), some (.int seed), v1, v2, v3]) (k1_ : Same H H2) (k2_ : H2 p = some (.lst (ms.map V.int))) (k3_ : H2 l = some (.lst (xs.map V.int))) (k4_ : Nums xs) (k5_ : xs.length ≤ 61 * i) (k6_ : 0 ≤ seed) (k7_ : seed < 2147483629) : I1_law_numbers H a l p m ms i σ H2
inductive I2_law_numbers (H : Hp) (a : Addr) (l : Addr) (p : Addr) (m : Nat) (ms : List Int) (i : Nat) (seed : Int) (z : Int) (v3 : Option V) (σ : St) (H3 : Hp) : Prop
  | mk (ys : List Int) (k0_ : σ = [some (.ref a), some (.int m), some (.ref l), some (.int (sd1 seed z)), some (.int z), some (.int (rs1 z)), v3]) (k1_ : Same H H3) (k2_ : H3 p = some (.lst (ms.map V.int))) (k3_ : H3 l = some (.lst (ys.map V.int))) (k4_ : Nums ys) (k5_ : ys.length ≤ 61 * i + 1) : I2_law_numbers H a l p m ms i seed z v3 σ H3
inductive I3_law_numbers (H : Hp) (a : Addr) (l : Addr) (p : Addr) (m : Nat) (ms : List Int) (i : Nat) (seed : Int) (z : Int) (j : Nat) (σ : St) (H4 : Hp) : Prop
  | mk (r : Int) (ys : List Int) (v : Option V) (k0_ : σ = [some (.ref a), some (.int m), some (.ref l), some (.int (sd1 seed z)), some (.int z), some (.int r), v]) (k1_ : Same H H4) (k2_ : H4 p = some (.lst (ms.map V.int))) (k3_ : H4 l = some (.lst (ys.map V.int))) (k4_ : Nums ys) (k5_ : ys.length ≤ 61 * i + 1 + j) : I3_law_numbers H a l p m ms i seed z j σ H4
inductive I4_law_numbers (H : Hp) (a : Addr) (l : Addr) (m : Nat) (v1 : Option V) (v2 : Option V) (v3 : Option V) (σ : St) (H3 : Hp) : Prop
  | mk (seed : Int) (ys : List Int) (k0_ : σ = [some (.ref a), some (.int m), some (.ref l), some (.int seed), v1, v2, v3]) (k1_ : Same H H3) (k2_ : H3 l = some (.lst (ys.map V.int))) (k3_ : Nums ys) (k4_ : ys.length ≤ 5000) (k5_ : 0 ≤ seed) (k6_ : seed < 2147483629) : I4_law_numbers H a l m v1 v2 v3 σ H3
theorem ok_numbers {f : Addr} {fd : FuncData} (F : Fun K "_law_numbers" "_law_numbers" s_law_numbers f fd) (B : Bt mg) : FnOk P w K mg base CX0 1 f fd ["_law_script", "_law_many"] (spNumbers K) := by
  refine F.ok sc_law_numbers (fun vs H Q E h => ?_) (fun cdv A outer s H vs Q E hr h => ?_)
  · obtain ⟨a, sc, m, rfl, _⟩ := h
    rfl
  · obtain ⟨a, sc, m, rfl, hS, hlen, hm, k⟩ := h
    refine ⟨_, (pss_consO (ps_set (i := 2) sc_law_numbers.nd rfl (Or.inl rfl) (pe_lst pa_nil))
 (pss_consO (ps_set (i := 3) sc_law_numbers.nd rfl (Or.inl rfl) pe_int)
 (pss_consO (ps_for PassesOwn.never rfl (pi_list (pe_slice sl_list (pv 0) po_none (po_some pe_int))) (pg_name (i := 4) sc_law_numbers.nd rfl (Or.inl rfl))
 (pss_consO (ps_set (i := 3) sc_law_numbers.nd rfl (Or.inl rfl) (pe_op op_mod (pe_op op_add (pe_op op_add (pe_op op_mul (pv 3) pe_int) (pe_op op_mod (pv 4) pe_int)) pe_int) pe_int))
 (pss_consO (ps_set (i := 5) sc_law_numbers.nd rfl (Or.inl rfl) (pe_op op_sub (pv 4) (pe_op op_pow pe_int pe_int)))
 (pss_cut (ps_if (pt_cmpR op_lt (pv 5) pe_int (nomark _))
 (pss_one (ps_expr (pe_bm PySem.F.plainAttrs_list PySem.F.slot_list_append PySem.F.type_list_append mt_append (pv 2) (pa_cons (pe_op op_mod (pv 4) pe_int) pa_nil))))
 pss_nil)
 (pss_one (ps_for PassesOwn.never rfl (pi_range1 rfl B.range (pa_cons pe_int pa_nil)) (pg_name (i := 6) sc_law_numbers.nd rfl (Or.inl rfl))
 (pss_one (ps_if (pt_cmpR op_gt (pv 5) pe_int (nomark _))
 (pss_consO (ps_expr (pe_bm PySem.F.plainAttrs_list PySem.F.slot_list_append PySem.F.type_list_append mt_append (pv 2) (pa_cons (pe_op op_mod (pv 5) pe_int) pa_nil)))
 (pss_one (ps_set (i := 5) sc_law_numbers.nd rfl (Or.inl rfl) (pe_op op_fdiv (pv 5) pe_int))))
 pss_nil))))))))
 (pss_cons (ps_while PassesOwn.never (pt_cmpR op_lt (pe_callB call_len_seq (by rfl) B.len PySem.boot_len (pa_cons (pv 2) pa_nil)) (pv 1) (nomark _))
 (pss_consO (ps_set (i := 3) sc_law_numbers.nd rfl (Or.inl rfl) (pe_op op_mod (pe_op op_add (pe_op op_add (pe_op op_add (pe_op op_mul (pv 3) (pv 3)) (pe_op op_mul pe_int (pv 3))) (pe_op op_mul pe_int (pe_callB call_len_seq (by rfl) B.len PySem.boot_len (pa_cons (pv 2) pa_nil)))) pe_int) pe_int))
 (pss_one (ps_expr (pe_bm PySem.F.plainAttrs_list PySem.F.slot_list_append PySem.F.type_list_append mt_append (pv 2) (pa_cons (pe_op op_mod (pe_op op_fdiv (pv 3) pe_int) pe_int) pa_nil))))))
 (pss_one (ps_ret (pe_slice sl_list (pv 2) po_none (po_some (pv 1))))))))), ?_⟩
    refine fun M1 hM1 => ?_
    refine ⟨by decide, fun l hl => ?_⟩
    refine hM1 [some (.ref a), some (.int m), some (.ref l), none, none, none, none] _ ?_
    clear hM1 M1
    refine fun M1 hM1 => ?_
    refine hM1 [some (.ref a), some (.int m), some (.ref l), some (.int 59), none, none, none] _ ?_
    clear hM1 M1
    refine fun M1 hM1 => ?_
    refine ⟨_, rfl, _, rfl, a, sc.map V.int, rfl, (Same.upd hl).seq hS, fun p hp => ?_⟩
    obtain ⟨ms, ec, hml, hmm⟩ := cutV_ints sc none (some 63)
    rw [ec]
    have hpl : p ≠ l := fun e => by subst e; rw [upd_same] at hp; cases hp
    have hHp : H p = none := by rw [← hp, upd_ne hpl]
    refine ⟨p, rfl, ⟨_, SqL.of upd_same⟩, for_list (K := K) (a := p) (xs := ms.map V.int) (I1_law_numbers H a l p m ms) ?_ ?_ ?_ ?_⟩
    · exact ⟨59, [], none, none, none, rfl, Same.upd' hHp (Same.upd hl), upd_same, by rw [upd_ne (Ne.symm hpl), upd_same]; rfl, fun _ h => (by cases h), Nat.le_refl _, by decide, by decide⟩
    · rintro i σ H2 _ ⟨seed, xs, v1, v2, v3, _, _, e, _⟩
      exact SqL.of e
    · rintro i x σ H2 hi ⟨seed, xs, v1, v2, v3, rfl, sm, ep, el, nx, lx, s0, s1⟩
      have hil : i < ms.length := by
        have := (List.getElem?_eq_some_iff.mp hi).1
        simpa using this
      obtain ⟨z, rfl⟩ : ∃ z, x = V.int z := by
        rw [List.getElem?_map] at hi
        cases e : ms[i]? with
        | none => rw [e] at hi; cases hi
        | some z => rw [e] at hi; exact ⟨z, (Option.some.inj hi).symm⟩
      -- the seed
      clear hM1
      refine fun M2 hM2 => ?_
      refine ⟨_, rfl, _, _, rfl, rfl, .inr ⟨by decide, by decide⟩, _, rfl, _, _, rfl, rfl, (by show (0 : Int) < 999983; decide), _, _, rfl, rfl, _, _, rfl, rfl, _, _, rfl, rfl, (by show (0 : Int) < 2147483563; decide), ?_⟩
      have t0 : 0 ≤ sd1 seed z := Int.emod_nonneg _ (by decide)
      have t1 : sd1 seed z < 2147483563 := Int.emod_lt_of_pos _ (by decide)
      refine hM2 [some (.ref a), some (.int m), some (.ref l), some (.int (sd1 seed z)), some (.int z), v2, v3] _ ?_
      clear hM2 M2
      -- the rest
      refine fun M2 hM2 => ?_
      refine ⟨_, rfl, _, _, rfl, rfl, ⟨by decide, by decide, by decide⟩, _, _, rfl, rfl, ?_⟩
      refine hM2 [some (.ref a), some (.int m), some (.ref l), some (.int (sd1 seed z)), some (.int z), some (.int (rs1 z)), v3] _ ?_
      clear hM2 M2
      refine ⟨I2_law_numbers H a l p m ms i seed z v3, ?_, ?_⟩
      · refine ⟨_, rfl, _, _, rfl, rfl, _, rfl, iteD (fun _ => ?_) (fun _ => ⟨xs, rfl, sm, ep, el, nx, by omega⟩)⟩
        refine ⟨_, rfl, .inl ⟨rfl, _, SqL.of el⟩, _, rfl, _, _, rfl, rfl, (by show (0 : Int) < 9967; decide), l, _, _, rfl, rfl, el, (by rw [List.length_map]; exact line_of (by omega)), ?_⟩
        refine ⟨xs ++ [z % 9967], rfl, Same.upd' hl sm, by rw [upd_ne hpl]; exact ep, by rw [upd_same]; simp, ?_, by simp; omega⟩
        intro n hn
        rcases List.mem_append.mp hn with h | h
        · exact nx n h
        · rw [List.mem_singleton.mp h]
          exact ⟨Int.emod_nonneg _ (by decide), Int.emod_lt_of_pos _ (by decide)⟩
      · rintro σ H3 ⟨ys, rfl, sm3, ep3, el3, nx3, lx3⟩
        refine ⟨60, rfl, by decide, by decide, for_range (lo := 0) (n := 60) (I3_law_numbers H a l p m ms i seed z)
          ⟨rs1 z, ys, v3, rfl, sm3, ep3, el3, nx3, by omega⟩ ?_ ?_⟩
        · rintro j σ H4 hj ⟨r, ys, v, rfl, sm4, ep4, el4, nx4, lx4⟩
          refine ⟨_, rfl, _, _, rfl, rfl, _, rfl, iteD (fun hr0 => ?_) (fun _ => ⟨r, ys, _, rfl, sm4, ep4, el4, nx4, by omega⟩)⟩
          refine fun M2 hM2 => ?_
          refine ⟨_, rfl, .inl ⟨rfl, _, SqL.of el4⟩, _, rfl, _, _, rfl, rfl, (by show (0 : Int) < 1013; decide), l, _, _, rfl, rfl, el4, (by rw [List.length_map]; exact line_of (by omega)), ?_⟩
          refine hM2 [some (.ref a), some (.int m), some (.ref l), some (.int (sd1 seed z)), some (.int z), some (.int r), some (.int (0 + (j : Int)))] _ ?_
          clear hM2 M2
          refine ⟨_, rfl, _, _, rfl, rfl, ⟨by decide, by decide⟩, ?_⟩
          refine ⟨r / 1013, ys ++ [r % 1013], _, rfl, Same.upd' hl sm4, by rw [upd_ne hpl]; exact ep4, by rw [upd_same]; simp, ?_, by simp; omega⟩
          intro n hn
          rcases List.mem_append.mp hn with h | h
          · exact nx4 n h
          · rw [List.mem_singleton.mp h]
            have a1 := Int.emod_nonneg r (show (1013 : Int) ≠ 0 by decide)
            have a2 := Int.emod_lt_of_pos r (show (0 : Int) < 1013 by decide)
            exact ⟨a1, by omega⟩
        · rintro σ H4 ⟨r, ys, v, rfl, sm4, ep4, el4, nx4, lx4⟩
          exact ⟨sd1 seed z, ys, _, _, _, rfl, sm4, ep4, el4, nx4, by omega, t0, by omega⟩
    · rintro σ H2 ⟨seed, xs, v1, v2, v3, rfl, sm, ep, el, nx, lx, s0, s1⟩
      have lx' : xs.length ≤ 61 * 63 := by
        have : (ms.map V.int).length ≤ 63 := by rw [List.length_map]; omega
        omega
      refine hM1 [some (.ref a), some (.int m), some (.ref l), some (.int seed), v1, v2, v3] _ ?_
      clear hM1 M1
      -- while
      refine while_by (I4_law_numbers H a l m v1 v2 v3)
        (fun _ H3 => match H3 l with | some (.lst ys) => m - ys.length | _ => 0) ⟨seed, xs, rfl, sm, el, nx, by omega, s0, s1⟩ ?_ ?_
      · rintro σ H3 ⟨seed, ys, rfl, sm3, el3, nx3, lx3, q0, q1⟩
        refine ⟨_, rfl, l, _, rfl, .inl (SqL.of el3), _, rfl, _, _, rfl, rfl, _, rfl, iteD (fun hc => ?_) (fun hc => ?_)⟩
        · rw [List.length_map] at hc
          refine fun M1 hM1 => ?_
          refine ⟨_, rfl, _, rfl, _, _, rfl, rfl, .inl ⟨by omega, by omega⟩, _, rfl, _, _, rfl, rfl, .inl ⟨by decide, by decide⟩, _, _, rfl, rfl, _, rfl, l, _, rfl, .inl (SqL.of el3), _, _, rfl, rfl, .inl ⟨by decide, by decide⟩, _, _, rfl, rfl, _, _, rfl, rfl, _, _, rfl, rfl, (by show (0 : Int) < 2147483629; decide), ?_⟩
          refine hM1 [some (.ref a), some (.int m), some (.ref l), some (.int (sd2 seed ys)), v1, v2, v3] _ ?_
          clear hM1 M1
          have t0 : 0 ≤ sd2 seed ys := Int.emod_nonneg _ (by decide)
          have t1 : sd2 seed ys < 2147483629 := Int.emod_lt_of_pos _ (by decide)
          refine ⟨_, rfl, .inl ⟨rfl, _, SqL.of el3⟩, _, rfl, _, _, rfl, rfl, ⟨by decide, by decide⟩, _, _, rfl, rfl, (by show (0 : Int) < 9967; decide), l, _, _, rfl, rfl, el3, (by rw [List.length_map]; exact line_of (by omega)), ?_⟩
          refine ⟨⟨sd2 seed ys, ys ++ [sd2 seed ys / 1019 % 9967], rfl, Same.upd' hl sm3, by rw [upd_same, List.map_append]; rfl, ?_, by simp; omega, t0, t1⟩, ?_⟩
          · intro n hn
            rcases List.mem_append.mp hn with h | h
            · exact nx3 n h
            · rw [List.mem_singleton.mp h]
              exact ⟨Int.emod_nonneg _ (by decide), Int.emod_lt_of_pos _ (by decide)⟩
          · simp only [upd_same, el3, List.length_append, List.length_map, List.length_singleton]
            omega
        · rw [List.length_map] at hc
          refine ⟨_, rfl, _, rfl, _, rfl, l, _, rfl, SqL.of el3, fun p2 hp2 => ?_⟩
          rw [cut_to ys m (by omega)]
          exact k p2 (ys.take m) _ (by simp; omega) (fun n hn => nx3 n (List.mem_of_mem_take hn)) (sm3.free hp2) (Same.upd' (sm3.free hp2) sm3) upd_same
      · intro σ H3 Q1 Q2 hq h
        obtain ⟨x, e, p2, ys, e2, hq2, z, e3, i, j, e4, e5, b, e6, q⟩ := h
        exact ⟨x, e, p2, ys, e2, hq2, z, e3, i, j, e4, e5, b, e6, hq _ _ q⟩
noncomputable abbrev s_law_same : Stmt := top 15
theorem sc_law_same : FnScope ["_law_found", "_law_due"] ["_law_found", "_law_due"] (defScope s_law_same) := ⟨rfl, rfl, rfl, by decide +kernel, rfl, by decide +kernel, by decide +kernel⟩
theorem same_step {f : Addr} {fd : FuncData} {n k : Nat} {spR : Sp} (F : Fun K "_law_same" "_law_same" s_law_same f fd) (B : Bt mg) (F_law_same : FnAt P w K mg base "_law_same" k ["_law_found", "_law_due"] spR)
    (hsp : ∀ m, m + 1 = n → ∀ vs H Q E, spSame m vs H Q E → spR vs H Q E) : FnOk P w K mg base CX0 (k + 1) f fd ["_law_found", "_law_due"] (spSame n) := by
  refine F.ok sc_law_same (fun vs H Q E h => ?_) (fun cdv A outer s H vs Q E hr h => ?_)
  · obtain ⟨x, y, d, rfl, _⟩ := h
    rfl
  · obtain ⟨x, y, d, rfl, h1, h2, hdep, hsh, hsm, kk⟩ := h
    have hu := hr.units
    refine ⟨_, (pss_cons (ps_if (pt_cmpR op_isN (pv 1) pe_non (nomark _))
 (pss_one (ps_ret (pe_cmpR op_isN (pv 0) pe_non (nomark _))))
 pss_nil)
 (pss_cons (ps_if (pt_truth (pe_callB call_isiT (by rfl) B.isinstance boot_isinstance (pa_cons (pv 1) (pa_cons (pe_tup (pa_cons (pe_bltn (v := .ty "list") rfl B.list boot_list rfl) (pa_cons (pe_bltn (v := .ty "tuple") rfl B.tuple boot_tuple rfl) pa_nil))) pa_nil))) (fun _ => rfl))
 (pss_cons (ps_if (PW.pt (pw_or (pt_cmpR op_ne (pe_callB call_isi (by rfl) B.isinstance boot_isinstance (pa_cons (pv 0) (pa_cons (pe_bltn (v := .ty "list") rfl B.list boot_list rfl) pa_nil))) (pe_callB call_isi (by rfl) B.isinstance boot_isinstance (pa_cons (pv 1) (pa_cons (pe_bltn (v := .ty "list") rfl B.list boot_list rfl) pa_nil))) (nomark _)) (pw_or1 (pt_cmpR op_ne (pe_callB call_isi (by rfl) B.isinstance boot_isinstance (pa_cons (pv 0) (pa_cons (pe_bltn (v := .ty "tuple") rfl B.tuple boot_tuple rfl) pa_nil))) (pe_callB call_isi (by rfl) B.isinstance boot_isinstance (pa_cons (pv 1) (pa_cons (pe_bltn (v := .ty "tuple") rfl B.tuple boot_tuple rfl) pa_nil))) (nomark _)))))
 (pss_one (ps_ret pe_bl))
 pss_nil)
 (pss_one (ps_ret (pe_and (pe_cmpR op_eqI (pe_callB call_len_seq (by rfl) B.len PySem.boot_len (pa_cons (pv 0) pa_nil)) (pe_callB call_len_seq (by rfl) B.len PySem.boot_len (pa_cons (pv 1) pa_nil)) (nomark _)) (pe_one (pe_callB (call_all rfl) (by rfl) B.all boot_all (pa_cons (pe_comp ["_law_k"] ["_law_found", "_law_due"] [0, 1] rfl (.of (show compOk (defScope s_law_same) _ ["_law_found", "_law_due"] [0, 1] ["_law_found", "_law_due"] = true by decide +kernel)) (pi_range1 rfl B.range (pa_cons (pe_callB call_len_seq (by rfl) B.len PySem.boot_len (pa_cons (pv 1) pa_nil)) pa_nil)) (fun _ _ _ => (pg_name (i := 0) (show (["_law_k", "_law_found", "_law_due"] : List Str).Nodup by decide +kernel) rfl (Or.inl rfl))) (kg_name (by decide)) (fun _ _ _ => pif_nil) (fun _ _ _ => (pe_fn F_law_same hr rfl (pa_cons (pe_ix (ix_seqK K rfl) (pv 1) (pv 0) (fun _ _ => rfl)) (pa_cons (pe_ix (ix_seqK K rfl) (pv 2) (pv 0) (fun _ _ => rfl)) pa_nil)) (hj := Nat.le_refl _)))) pa_nil)))))))
 pss_nil)
 (pss_cons (ps_if (PW.pt (pw_or (pt_cmpR op_ne (pe_callB call_isi (by rfl) B.isinstance boot_isinstance (pa_cons (pv 0) (pa_cons (pe_bltn (v := .ty "bool") rfl B.bool boot_bool rfl) pa_nil))) (pe_callB call_isi (by rfl) B.isinstance boot_isinstance (pa_cons (pv 1) (pa_cons (pe_bltn (v := .ty "bool") rfl B.bool boot_bool rfl) pa_nil))) (nomark _)) (pw_or1 (pt_cmpR op_ne (pe_callB call_isi (by rfl) B.isinstance boot_isinstance (pa_cons (pv 0) (pa_cons (pe_bltn (v := .ty "str") rfl B.str boot_str rfl) pa_nil))) (pe_callB call_isi (by rfl) B.isinstance boot_isinstance (pa_cons (pv 1) (pa_cons (pe_bltn (v := .ty "str") rfl B.str boot_str rfl) pa_nil))) (nomark _)))))
 (pss_one (ps_ret pe_bl))
 pss_nil)
 (pss_one (ps_ret (pe_and (pe_cmpR op_eq (pe_callB call_isi (by rfl) B.isinstance boot_isinstance (pa_cons (pv 0) (pa_cons (pe_bltn (v := .ty "int") rfl B.int boot_int rfl) pa_nil))) (pe_callB call_isi (by rfl) B.isinstance boot_isinstance (pa_cons (pv 1) (pa_cons (pe_bltn (v := .ty "int") rfl B.int boot_int rfl) pa_nil))) (nomark _)) (pe_one (pe_cmpR (op_eqD hu) (pv 0) (pv 1) (nomark _))))))))), ?_⟩
    cases h1 with
    | non =>
      cases h2
      exact ⟨_, rfl, rfl, _, rfl, iteDT rfl ⟨_, rfl, rfl, kk H (Same.refl H)⟩⟩
    | bl b =>
      cases h2
      refine ⟨_, rfl, rfl, _, rfl, iteDF (by intro h; cases h) ?_⟩
      refine ⟨_, rfl, (show 2 ≤ sizeLine by decide), fun tp htp => ⟨_, tp, ["list", "tuple"], .bool b, false, rfl, upd_same, .bl b, rfl, false, rfl, ?_⟩⟩
      refine ⟨_, rfl, _, "bool", .bool b, true, rfl, .bl b, rfl, _, rfl, _, "bool", .bool b, true, rfl, .bl b, rfl, rfl, _, rfl, ?_⟩
      refine ⟨_, rfl, _, "str", .bool b, false, rfl, .bl b, rfl, _, rfl, _, "str", .bool b, false, rfl, .bl b, rfl, rfl, _, rfl, ?_⟩
      refine ⟨_, rfl, _, "int", .bool b, true, rfl, .bl b, rfl, _, rfl, _, "int", .bool b, true, rfl, .bl b, rfl, rfl, _, rfl, ?_⟩
      refine ⟨_, rfl, _, rfl, _, _, .bl b, .bl b, hsh, hsh, ?_⟩
      rw [eqv_self hsh]
      exact kk _ (Same.upd htp)
    | int b =>
      cases h2
      refine ⟨_, rfl, rfl, _, rfl, iteDF (by intro h; cases h) ?_⟩
      refine ⟨_, rfl, (show 2 ≤ sizeLine by decide), fun tp htp => ⟨_, tp, ["list", "tuple"], .int b, false, rfl, upd_same, .int b, rfl, false, rfl, ?_⟩⟩
      refine ⟨_, rfl, _, "bool", .int b, false, rfl, .int b, rfl, _, rfl, _, "bool", .int b, false, rfl, .int b, rfl, rfl, _, rfl, ?_⟩
      refine ⟨_, rfl, _, "str", .int b, false, rfl, .int b, rfl, _, rfl, _, "str", .int b, false, rfl, .int b, rfl, rfl, _, rfl, ?_⟩
      refine ⟨_, rfl, _, "int", .int b, true, rfl, .int b, rfl, _, rfl, _, "int", .int b, true, rfl, .int b, rfl, rfl, _, rfl, ?_⟩
      refine ⟨_, rfl, _, rfl, _, _, .int b, .int b, hsh, hsh, ?_⟩
      rw [eqv_self hsh]
      exact kk _ (Same.upd htp)
    | str b =>
      cases h2
      refine ⟨_, rfl, rfl, _, rfl, iteDF (by intro h; cases h) ?_⟩
      refine ⟨_, rfl, (show 2 ≤ sizeLine by decide), fun tp htp => ⟨_, tp, ["list", "tuple"], .str b, false, rfl, upd_same, .str b, rfl, false, rfl, ?_⟩⟩
      refine ⟨_, rfl, _, "bool", .str b, false, rfl, .str b, rfl, _, rfl, _, "bool", .str b, false, rfl, .str b, rfl, rfl, _, rfl, ?_⟩
      refine ⟨_, rfl, _, "str", .str b, true, rfl, .str b, rfl, _, rfl, _, "str", .str b, true, rfl, .str b, rfl, rfl, _, rfl, ?_⟩
      refine ⟨_, rfl, _, "int", .str b, false, rfl, .str b, rfl, _, rfl, _, "int", .str b, false, rfl, .str b, rfl, rfl, _, rfl, ?_⟩
      refine ⟨_, rfl, _, rfl, _, _, .str b, .str b, hsh, hsh, ?_⟩
      rw [eqv_self hsh]
      exact kk _ (Same.upd htp)
    | @lst a1 us ds ea ta =>
      cases h2 with
      | @lst a2 ws _ eb tb =>
        have hlu := ta.length
        have hlw := tb.length
        have hsm' := hsm
        simp only [sml, Bool.and_eq_true, decide_eq_true_eq] at hsm'
        have hlen2 : ws.length ≤ 5000 := by omega
        have hln : (5000 : Nat) < sizeLine := by decide
        refine ⟨_, rfl, rfl, _, rfl, iteDF (by intro h; cases h) ?_⟩
        refine ⟨_, rfl, (show 2 ≤ sizeLine by decide), fun tp htp => ?_⟩
        have sm0 := Same.upd (o := .tup [V.ty "list", V.ty "tuple"]) htp
        refine ⟨_, tp, ["list", "tuple"], .list ds, true, rfl, upd_same, (Den.lst eb tb).mono sm0, rfl, true, rfl, ?_⟩
        generalize upd H tp (.tup [V.ty "list", V.ty "tuple"]) = H0 at sm0 ⊢
        have d1 := (Den.lst ea ta).mono sm0
        have d2 := (Den.lst eb tb).mono sm0
        refine ⟨_, rfl, _, "list", .list ds, true, rfl, d1, rfl, _, rfl, _, "list", .list ds, true, rfl, d2, rfl, rfl, _, rfl, ?_⟩
        refine ⟨_, rfl, _, "tuple", .list ds, false, rfl, d1, rfl, _, rfl, _, "tuple", .list ds, false, rfl, d2, rfl, rfl, _, rfl, ?_⟩
        refine ⟨_, rfl, a1, _, rfl, .inl (SqL.of (sm0 _ _ ea)), _, rfl, a2, _, rfl, .inl (SqL.of (sm0 _ _ eb)), _, _, rfl, rfl, _, rfl, iteDT (by omega) ?_⟩
        refine ⟨_, rfl, a2, _, rfl, .inl (SqL.of (sm0 _ _ eb)), _, rfl, by omega, by omega, comp_range (lo := 0) (fun i ys H2 => Same H0 H2 ∧ ys = List.replicate i (V.bl true)) ⟨Same.refl _, rfl⟩ ?_ ?_ ?_⟩
        · rintro i ys H2 hi ⟨sm, rfl⟩
          rw [List.length_replicate]
          omega
        · rintro i ys H2 hi ⟨sm, rfl⟩
          have hi' : i < ds.length := by omega
          obtain ⟨v1, e1, q1⟩ := ta.get (i := i) (d := ds[i]) (by simp [hi'])
          obtain ⟨v2, e2, q2⟩ := tb.get (i := i) (d := ds[i]) (by simp [hi'])
          have em : ds[i] ∈ ds := List.getElem_mem hi'
          have sm1 : Same H H2 := sm0.trans sm
          have ez : (0 : Int) + (i : Int) = (i : Int) := by omega
          refine ⟨_, rfl, _, rfl, .inl ⟨a1, _, _, _, rfl, rfl, SqL.of (sm1 _ _ ea), (by rw [ez]; exact atI_nat e1), _, rfl, _, rfl, .inl ⟨a2, _, _, _, rfl, rfl, SqL.of (sm1 _ _ eb), (by rw [ez]; exact atI_nat e2), ?_⟩⟩⟩
          have hd1 := depth_mem em
          have hdd : PyData.depthAll ds + 1 ≤ n := hdep
          refine hsp (n - 1) (by omega) _ _ _ _ ⟨v1, v2, ds[i], rfl, q1.mono sm1, q2.mono sm1, by omega, ?_, sml_mem em hsm'.2, fun H3 sm3 => ⟨sm.trans sm3, by rw [List.replicate_succ']⟩⟩
          have c1 : PyData.canLayAll0 ds = true := SeqAt.canLay_of_shaped hsh
          have c2 := SeqAt.depth_of_shaped hsh
          have c3 : PyData.depthAll ds + 1 ≤ 64 := c2
          simp only [SeqAt.shaped, canLay_mem em c1, Bool.true_and]
          exact decide_eq_true (by omega)
        · rintro ys H2 ⟨sm, rfl⟩ D hD
          refine ⟨D, List.replicate _ true, rfl, by rw [upd_same, List.map_replicate], ?_⟩
          have : ∀ k : Nat, (List.replicate k true).all id = true := fun k => by simp
          rw [this]
          exact kk _ ((sm0.trans sm).trans (Same.upd hD))
    | @tup a1 us ds ea ta =>
      cases h2 with
      | @tup a2 ws _ eb tb =>
        have hlu := ta.length
        have hlw := tb.length
        have hsm' := hsm
        simp only [sml, Bool.and_eq_true, decide_eq_true_eq] at hsm'
        have hlen2 : ws.length ≤ 5000 := by omega
        have hln : (5000 : Nat) < sizeLine := by decide
        refine ⟨_, rfl, rfl, _, rfl, iteDF (by intro h; cases h) ?_⟩
        refine ⟨_, rfl, (show 2 ≤ sizeLine by decide), fun tp htp => ?_⟩
        have sm0 := Same.upd (o := .tup [V.ty "list", V.ty "tuple"]) htp
        refine ⟨_, tp, ["list", "tuple"], .tuple ds, true, rfl, upd_same, (Den.tup eb tb).mono sm0, rfl, true, rfl, ?_⟩
        generalize upd H tp (.tup [V.ty "list", V.ty "tuple"]) = H0 at sm0 ⊢
        have d1 := (Den.tup ea ta).mono sm0
        have d2 := (Den.tup eb tb).mono sm0
        refine ⟨_, rfl, _, "list", .tuple ds, false, rfl, d1, rfl, _, rfl, _, "list", .tuple ds, false, rfl, d2, rfl, rfl, _, rfl, ?_⟩
        refine ⟨_, rfl, _, "tuple", .tuple ds, true, rfl, d1, rfl, _, rfl, _, "tuple", .tuple ds, true, rfl, d2, rfl, rfl, _, rfl, ?_⟩
        refine ⟨_, rfl, a1, _, rfl, .inr (SqT.of (sm0 _ _ ea)), _, rfl, a2, _, rfl, .inr (SqT.of (sm0 _ _ eb)), _, _, rfl, rfl, _, rfl, iteDT (by omega) ?_⟩
        refine ⟨_, rfl, a2, _, rfl, .inr (SqT.of (sm0 _ _ eb)), _, rfl, by omega, by omega, comp_range (lo := 0) (fun i ys H2 => Same H0 H2 ∧ ys = List.replicate i (V.bl true)) ⟨Same.refl _, rfl⟩ ?_ ?_ ?_⟩
        · rintro i ys H2 hi ⟨sm, rfl⟩
          rw [List.length_replicate]
          omega
        · rintro i ys H2 hi ⟨sm, rfl⟩
          have hi' : i < ds.length := by omega
          obtain ⟨v1, e1, q1⟩ := ta.get (i := i) (d := ds[i]) (by simp [hi'])
          obtain ⟨v2, e2, q2⟩ := tb.get (i := i) (d := ds[i]) (by simp [hi'])
          have em : ds[i] ∈ ds := List.getElem_mem hi'
          have sm1 : Same H H2 := sm0.trans sm
          have ez : (0 : Int) + (i : Int) = (i : Int) := by omega
          refine ⟨_, rfl, _, rfl, .inr (.inl ⟨a1, _, _, _, rfl, rfl, SqT.of (sm1 _ _ ea), (by rw [ez]; exact atI_nat e1), _, rfl, _, rfl, .inr (.inl ⟨a2, _, _, _, rfl, rfl, SqT.of (sm1 _ _ eb), (by rw [ez]; exact atI_nat e2), ?_⟩)⟩)⟩
          have hd1 := depth_mem em
          have hdd : PyData.depthAll ds + 1 ≤ n := hdep
          refine hsp (n - 1) (by omega) _ _ _ _ ⟨v1, v2, ds[i], rfl, q1.mono sm1, q2.mono sm1, by omega, ?_, sml_mem em hsm'.2, fun H3 sm3 => ⟨sm.trans sm3, by rw [List.replicate_succ']⟩⟩
          have c1 : PyData.canLayAll0 ds = true := SeqAt.canLay_of_shaped hsh
          have c2 := SeqAt.depth_of_shaped hsh
          have c3 : PyData.depthAll ds + 1 ≤ 64 := c2
          simp only [SeqAt.shaped, canLay_mem em c1, Bool.true_and]
          exact decide_eq_true (by omega)
        · rintro ys H2 ⟨sm, rfl⟩ D hD
          refine ⟨D, List.replicate _ true, rfl, by rw [upd_same, List.map_replicate], ?_⟩
          have : ∀ k : Nat, (List.replicate k true).all id = true := fun k => by simp
          rw [this]
          exact kk _ ((sm0.trans sm).trans (Same.upd hD))
theorem ok_same {f : Addr} {fd : FuncData} (F : Fun K "_law_same" "_law_same" s_law_same f fd) (B : Bt mg) (hmg : mg "_law_same" = some (.ref f)) (hb : Binds K fd ["_law_found", "_law_due"] []) :
    ∀ n, FnOk P w K mg base CX0 (n + 1) f fd ["_law_found", "_law_due"] (spSame n) := by
  intro n
  induction n with
  | zero =>
    refine same_step (k := 0) (spR := fun _ _ _ _ => False) F B ⟨f, fd, ⟨fun _ _ _ _ h => h.elim, fun _ _ _ _ _ _ _ _ _ _ _ _ _ h => h.elim⟩, hmg, F.kp, hb⟩ fun m hm => ?_
    omega
  | succ n ih =>
    refine same_step F B ⟨f, fd, ih, hmg, F.kp, hb⟩ fun m hm vs H Q E h => ?_
    obtain rfl : m = n := by omega
    exact h
noncomputable abbrev s_law_space : Stmt := top 16
theorem sc_law_space : FnScope ["_law_niches", "_law_sizes", "_law_size"] ["_law_niches", "_law_sizes", "_law_size"] (defScope s_law_space) := ⟨rfl, rfl, rfl, by decide +kernel, rfl, by decide +kernel, by decide +kernel⟩
theorem ok_law_space {f : Addr} {fd : FuncData} (F : Fun K "_law_space" "_law_space" s_law_space f fd) (B : Bt mg) : FnOk P w K mg base CX0 1 f fd ["_law_niches", "_law_sizes", "_law_size"] spSpace := by
  refine F.ok sc_law_space (fun vs H Q E h => ?_) (fun cdv A outer s H vs Q E hr h => ?_)
  · obtain ⟨a, niches, m, ns, rfl, _⟩ := h
    rfl
  · obtain ⟨a, niches, m, ns, rfl, ha, hlen, k⟩ := h
    refine ⟨_, (pss_one (ps_ret (pe_op op_sub (pv 0) (pe_op op_mul pe_int (pe_callB (call_sum rfl) (by rfl) B.sum boot_sum (pa_cons (pe_comp ["_law_own"] ["_law_size"] [2] rfl (.of (show compOk (defScope s_law_space) _ ["_law_niches", "_law_sizes", "_law_size"] [2] ["_law_size"] = true by decide +kernel)) (pi_list (pv 1)) (fun _ _ _ => (pg_name (i := 0) (show (["_law_own", "_law_size"] : List Str).Nodup by decide +kernel) rfl (Or.inl rfl))) (kg_name (by decide)) (fun _ _ _ => pif_nil) (fun _ _ _ => (pe_callB (call_min2 rfl) (by rfl) B.min boot_min (pa_cons (pv 1) (pa_cons (pv 0) pa_nil))))) pa_nil)))))), ?_⟩
    refine ⟨_, rfl, _, rfl, a, rfl, ⟨_, SqL.of ha⟩, comp_list (K := K) (a := a) (xs := ns.map V.int) (fun j zs H3 => H3 = H ∧ zs = ((ns.take j).map fun o => if o < m then o else m).map V.int) ⟨rfl, rfl⟩ ?_ ?_ ?_⟩
    · rintro j zs H3 hj ⟨rfl, rfl⟩
      exact ⟨SqL.of ha, by rw [List.length_map, List.length_map, List.length_take]; exact line_of (by omega)⟩
    · rintro j y zs H3 hj ⟨rfl, rfl⟩
      obtain ⟨o, rfl, ho⟩ := int_at hj
      exact ⟨_, rfl, _, rfl, _, _, rfl, rfl, snoc_map (fun o => if o < m then o else m) ho⟩
    rintro zs H3 ⟨rfl, rfl⟩ D hD
    rw [List.length_map, List.take_length]
    exact ⟨D, ns.map fun o => if o < m then o else m, rfl, upd_same, _, _, rfl, rfl, .inl ⟨by decide, by decide⟩, _, _, rfl, rfl, k _ (Same.upd hD)⟩
noncomputable abbrev s_law_choose : Stmt := top 17
theorem sc_law_choose : FnScope ["_law_many", "_law_things", "_law_found", "_law_step"] ["_law_many", "_law_things"] (defScope s_law_choose) := ⟨rfl, rfl, rfl, by decide +kernel, rfl, by decide +kernel, by decide +kernel⟩
theorem ok_law_choose {f : Addr} {fd : FuncData} (F : Fun K "_law_choose" "_law_choose" s_law_choose f fd) (B : Bt mg) : FnOk P w K mg base CX0 1 f fd ["_law_many", "_law_things"] spChoose := by
  refine F.ok sc_law_choose (fun vs H Q E h => ?_) (fun cdv A outer s H vs Q E hr h => ?_)
  · obtain ⟨n, room, rfl, _⟩ := h
    rfl
  · obtain ⟨n, room, rfl, hn, hr0, hr2, k⟩ := h
    refine ⟨_, (pss_cons (ps_set (i := 2) sc_law_choose.nd rfl (Or.inl rfl) pe_int)
 (pss_cons (ps_for PassesOwn.never rfl (pi_range1 rfl B.range (pa_cons (pv 0) pa_nil)) (pg_name (i := 3) sc_law_choose.nd rfl (Or.inl rfl))
 (pss_one (ps_set (i := 2) sc_law_choose.nd rfl (Or.inl rfl) (pe_op op_fdiv (pe_op op_mul (pv 2) (pe_op op_add (pv 1) (pv 3))) (pe_op op_add (pv 3) pe_int)))))
 (pss_one (ps_ret (pv 2))))), ?_⟩
    refine ⟨_, rfl, _, rfl, by omega, by omega, for_range (n := n) (fun i σ H2 => ∃ v, σ = [some (.int n), some (.int (room + 1)), some (.int (chW room i)), v] ∧ H2 = H) ⟨none, rfl, rfl⟩ ?_ ?_⟩
    · rintro i σ H2 hi ⟨v, rfl, rfl⟩
      refine ⟨_, rfl, _, rfl, _, rfl, _, _, rfl, rfl, _, _, rfl, rfl, .inr ⟨by omega, by omega⟩, _, rfl, _, _, rfl, rfl, _, _, rfl, rfl, ⟨by omega, by omega⟩, some (V.int (0 + (i : Int))), ?_, rfl⟩
      show _ = [some (V.int n), some (V.int (room + 1)), some (V.int (chW room i * (room + ((i : Int) + 1)) / ((i : Int) + 1))), _]
      rw [show room + 1 + (0 + (i : Int)) = room + ((i : Int) + 1) by omega, show (0 : Int) + (i : Int) = i by omega]
      rfl
    · rintro σ H2 ⟨v, rfl, rfl⟩
      exact ⟨_, rfl, k⟩
noncomputable abbrev s_law_count : Stmt := top 18
theorem sc_law_count : FnScope ["_law_niches", "_law_sizes", "_law_found", "_law_size", "_law_most"] ["_law_niches", "_law_sizes"] (defScope s_law_count) := ⟨rfl, rfl, rfl, by decide +kernel, rfl, by decide +kernel, by decide +kernel⟩
theorem ok_law_count {f : Addr} {fd : FuncData} (F : Fun K "_law_count" "_law_count" s_law_count f fd) (B : Bt mg) (F_law_space : FnAt P w K mg base "_law_space" 1 ["_law_niches", "_law_sizes", "_law_size"] spSpace) (F_law_choose : FnAt P w K mg base "_law_choose" 1 ["_law_many", "_law_things"] spChoose) :
    FnOk P w K mg base CX0 2 f fd ["_law_niches", "_law_sizes"] spHow := by
  refine F.ok sc_law_count (fun vs H Q E h => ?_) (fun cdv A outer s H vs Q E hr h => ?_)
  · obtain ⟨a, niches, ns, rfl, _⟩ := h
    rfl
  · obtain ⟨a, niches, ns, rfl, ha, hz, hn0, hn1, k⟩ := h
    refine ⟨_, (pss_cons (ps_set (i := 2) sc_law_count.nd rfl (Or.inl rfl) pe_int)
 (pss_cons (ps_for PassesOwn.never rfl (pi_list (pe_sortedSet rfl (by rfl) B.sorted boot_sorted (by rfl) B.set boot_set (pa_cons (pv 1) pa_nil))) (pg_name (i := 3) sc_law_count.nd rfl (Or.inl rfl))
 (pss_cons (ps_set (i := 4) sc_law_count.nd rfl (Or.inl rfl) (pe_fn F_law_space hr rfl (pa_cons (pv 0) (pa_cons (pv 1) (pa_cons (pv 3) pa_nil)))))
 (pss_one (ps_set (i := 2) sc_law_count.nd rfl (Or.inl rfl) (pe_op op_mulB (pv 2) (pe_cut (pe_ifExp (pt_cmpR op_lt (pv 4) pe_int (nomark _)) pe_int (pe_fn F_law_choose hr rfl (pa_cons (pe_bm PySem.F.plainAttrs_list PySem.F.slot_list_count PySem.F.type_list_count mt_countI (pv 1) (pa_cons (pv 3) pa_nil)) (pa_cons (pe_op op_add (pv 4) pe_int) pa_nil))))))))))
 (pss_one (ps_ret (pv 2))))), ?_⟩
    refine ⟨_, rfl, a, ns, rfl, ha, hz.few, fun l ms hl hp hup => ?_⟩
    have d : Dst ns ms := ⟨hp, hup⟩
    have g1 := Same.upd (o := .lst (ms.map V.int)) hl
    have el : (upd H l (.lst (ms.map V.int))) l = some (.lst (ms.map V.int)) := upd_same
    generalize upd H l (.lst (ms.map V.int)) = H1 at g1 el ⊢
    have ha1 := g1 _ _ ha
    refine ⟨l, rfl, ⟨_, SqL.of el⟩, for_list (K := K) (a := l) (xs := ms.map V.int) (fun i σ Hx => ∃ v1 v2, σ = [some (.int niches), some (.ref a), some (.int (howM niches ns (ms.take i))), v1, v2] ∧ Same H1 Hx) ⟨none, none, rfl, Same.refl _⟩ (fun i σ Hx _ ⟨_, _, _, e⟩ => SqL.of (e _ _ el)) ?_ ?_⟩
    · rintro i x σ Hx hi ⟨v1, v2, rfl, sm⟩
      obtain ⟨m, rfl, hm⟩ := int_at hi
      have hi' : i < ms.length := (List.getElem?_eq_some_iff.mp hm).1
      have h1 := d.pos hz m (List.mem_of_getElem? hm)
      have hc : ns.count m ≤ 60 := Nat.le_trans List.count_le_length hz.len
      have hb := howM_b (i := i) hn1 hz.pos hz.len (d.pos hz) (d.len hz) (by omega) h1
      have hrl := roomM_le (niches := niches) hn1 hz.pos h1
      have fin : ∀ Hy, Same Hx Hy → ∃ v1 v2 : Option V, [some (V.int niches), some (V.ref a), some (V.int (howM niches ns (ms.take i) * chO (ns.count m) (roomM niches ns m))), some (V.int m), some (V.int (roomM niches ns m))] = [some (V.int niches), some (V.ref a), some (V.int (howM niches ns (ms.take (i + 1)))), v1, v2] ∧ Same H1 Hy := fun Hy sy =>
        ⟨_, _, by rw [howM_take hm], sm.trans sy⟩
      refine ⟨_, rfl, _, rfl, _, rfl, a, niches, m, ns, rfl, sm _ _ ha1, hz.len, fun H2 g2 => ?_⟩
      have ha2 := g2 _ _ (sm _ _ ha1)
      refine ⟨_, rfl, fun v Hy => v = V.int (chO (ns.count m) (roomM niches ns m)) ∧ Hy = H2, ⟨_, rfl, _, _, rfl, rfl, _, rfl, iteD (fun c => ?_) (fun c => ?_)⟩, ?_⟩
      · unfold chO
        rw [if_pos c]
        exact ⟨rfl, rfl⟩
      · refine ⟨_, rfl, .inl ⟨rfl, _, SqL.of ha2⟩, _, rfl, a, ns, m, rfl, rfl, ha2, _, rfl, _, _, rfl, rfl, ns.count m, roomM niches ns m, rfl, hc, by omega, hrl, ?_⟩
        unfold chO
        rw [if_neg c]
        exact ⟨rfl, rfl⟩
      · rintro v Hy ⟨rfl, rfl⟩
        exact ⟨_, _, rfl, rfl, hb, fin _ g2⟩
    · rintro σ Hx ⟨v1, v2, rfl, sm⟩
      rw [List.length_map, List.take_length]
      exact ⟨_, rfl, k ms _ d (g1.trans sm)⟩
end
end CW

set_option Elab.async false
set_option linter.all false
set_option maxRecDepth 100000
set_option maxHeartbeats 4000000
namespace CW
open PySem L2
section
variable {P : Program} {w : World} {K : PySem.W.Frag} {mg : Str → Option Value} {base : Heap}
noncomputable abbrev s_law : Stmt := top 19
theorem sc_law : FnScope ["_law_script", "_law_numbers_here", "_law_niches", "_law_sizes", "_law_size", "_law_handed", "_law_due"] ["_law_script"] (defScope s_law) := ⟨rfl, rfl, rfl, by decide +kernel, rfl, by decide +kernel, by decide +kernel⟩
inductive szW (H0 : Hp) (a l1 : Addr) (nn : Int) (m : Nat) (σ : St) (Hx : Hp) : Prop
  | mk (lz : Addr) (ss : List Int) (h0_ : σ = [some (.ref a), some (.ref l1), some (.int nn), some (.ref lz), none, none, none]) (h1_ : Same H0 Hx) (h2_ : Hx lz = some (.lst (ss.map V.int))) (h3_ : ∀ s ∈ ss, 1 ≤ s ∧ s ≤ 12) (h4_ : ss.length = m) (h5_ : m ≤ 10) : szW H0 a l1 nn m σ Hx
inductive szM (H0 : Hp) (a l1 : Addr) (nn : Int) (σ : St) (Hx : Hp) : Prop
  | mk (lz : Addr) (ss : List Int) (v4 : Option V) (h0_ : σ = [some (.ref a), some (.ref l1), some (.int nn), some (.ref lz), v4, none, none]) (h1_ : Same H0 Hx) (h2_ : Hx lz = some (.lst (ss.map V.int))) (h3_ : SzOk ss) : szM H0 a l1 nn σ Hx
theorem ok_law {f : Addr} {fd : FuncData} (F : Fun K "law" "law" s_law f fd) (B : Bt mg) (F_law_numbers : FnAt P w K mg base "_law_numbers" 1 ["_law_script", "_law_many"] (spNumbers K)) (F_law_count : FnAt P w K mg base "_law_count" 2 ["_law_niches", "_law_sizes"] spHow)
    (F_how_many : FnAt P w K mg base "how_many" 2 ["niches", "sizes"] spHow) (F_law_same : FnAt P w K mg base "_law_same" 4 ["_law_found", "_law_due"] (spSame 3)) :
    FnOk P w K mg base CX0 5 f fd ["_law_script"] (spLaw K) := by
  refine F.ok sc_law (fun vs H Q E h => ?_) (fun cdv A outer s H vs Q E hr h => ?_)
  · obtain ⟨a, ns, rfl, _⟩ := h
    rfl
  · obtain ⟨a, sc, rfl, hS, hlen, kk⟩ := h
    have hu := hr.units
    refine ⟨_, (pss_cons (ps_set (i := 1) sc_law.nd rfl (Or.inr rfl) (pe_fn F_law_numbers hr rfl (pa_cons (pv 0) (pa_cons pe_int pa_nil))))
 (pss_cons (ps_set (i := 2) sc_law.nd rfl (Or.inl rfl) (pe_ix ix_list (pe_lst (pa_cons (pe_op op_mod (pe_ix ix_list (pv 1) pe_int (fun _ _ => rfl)) pe_int) (pa_cons (pe_op op_mod (pe_ix ix_list (pv 1) pe_int (fun _ _ => rfl)) pe_int) (pa_cons pe_int (pa_cons (pe_op op_mod (pe_op op_mul pe_int (pe_ix ix_list (pv 1) pe_int (fun _ _ => rfl))) pe_int) pa_nil))))) (pe_op op_mod (pe_ix ix_list (pv 1) pe_int (fun _ _ => rfl)) pe_int) (fun _ _ => rfl)))
 (pss_cons (ps_setc (i := 3) ["_law_k"] ["_law_numbers_here"] [1] rfl sc_law.nd rfl rfl (.of (show compOk (defScope s_law) _ ["_law_script", "_law_numbers_here", "_law_niches", "_law_sizes", "_law_size", "_law_handed", "_law_due"] [1] ["_law_numbers_here"] = true by decide +kernel)) (pi_range1 rfl B.range (pa_cons (pe_op op_mod (pe_ix ix_list (pv 1) pe_int (fun _ _ => rfl)) pe_int) pa_nil)) (fun _ _ _ => (pg_name (i := 0) (show (["_law_k", "_law_numbers_here"] : List Str).Nodup by decide +kernel) rfl (Or.inl rfl))) (kg_name (by decide)) (fun _ _ _ => pif_nil) (fun _ _ _ => (pe_op op_add pe_int (pe_op op_mod (pe_ix (ix_listK K rfl) (pv 1) (pe_op op_add pe_int (pv 0)) (fun _ _ => rfl)) (pe_ix (ix_listK K rfl) (pe_lst (pa_cons pe_int (pa_cons pe_int (pa_cons pe_int pa_nil)))) (pe_op op_mod (pe_op op_fdiv (pe_ix (ix_listK K rfl) (pv 1) pe_int (fun _ _ => rfl)) pe_int) pe_int) (fun _ _ => rfl))))) (by first | rfl | decide +kernel))
 (pss_cons (ps_while PassesOwn.never (pt_cmpR op_gt (pe_callB (call_sum rfl) (by rfl) B.sum boot_sum (pa_cons (pv 3) pa_nil)) pe_int (nomark _))
 (pss_one (ps_set (i := 3) sc_law.nd rfl (Or.inl rfl) (pe_slice sl_list (pv 3) (po_some pe_int) po_none))))
 (pss_cut (ps_if (pt_cmpR op_eqI (pe_op op_mod (pe_op op_fdiv (pe_ix ix_list (pv 1) pe_int (fun _ _ => rfl)) pe_int) pe_int) pe_int (nomark _))
 (pss_cons (ps_set (i := 4) sc_law.nd rfl (Or.inl rfl) (pe_op op_add pe_int (pe_op op_mod (pe_ix ix_list (pv 1) pe_int (fun _ _ => rfl)) pe_int)))
 (pss_one (ps_set (i := 3) sc_law.nd rfl (Or.inl rfl) (pe_op op_rep (pe_lst (pa_cons (pv 4) pa_nil)) (pe_op op_mod (pe_ix ix_list (pv 1) pe_int (fun _ _ => rfl)) (pe_op op_add (pe_op op_fdiv pe_int (pv 4)) pe_int))))))
 pss_nil)
 (pss_cons (ps_set (i := 5) sc_law.nd rfl (Or.inl rfl) (pe_callTy call_list_of (by rfl) B.list boot_list (pa_cons (pv 3) pa_nil)))
 (pss_cons (ps_set (i := 6) sc_law.nd rfl (Or.inl rfl) (pe_fn F_law_count hr rfl (pa_cons (pv 2) (pa_cons (pv 3) pa_nil))))
 (pss_cons (ps_if (PW.pt (pw_or (pt_not (pt_truth (pe_fn F_law_same hr rfl (pa_cons (pe_fn F_how_many hr rfl (pa_cons (pv 2) (pa_cons (pv 5) pa_nil))) (pa_cons (pv 6) pa_nil))) (fun _ => rfl))) (pw_or1 (pt_cmpR (op_neD hu) (pv 5) (pv 3) (nomark _)))))
 (pss_one (ps_ret pe_bl))
 pss_nil)
 (pss_one (ps_ret (pe_and (pe_cmpR op_eqI (pe_fn F_how_many hr rfl (pa_cons (pv 2) (pa_cons (pe_rev (pv 5)) pa_nil))) (pv 6) (nomark _)) (pe_one (pe_cmpR op_eqI (pe_fn F_how_many hr rfl (pa_cons (pv 2) (pa_cons (pe_lst pa_nil) pa_nil))) pe_int (nomark _)))))))))))))), ?_⟩
    refine ⟨_, rfl, a, sc, 20, rfl, hS, hlen, by decide, fun l1 nums H1 hnl hnums hl1 sm1 el1 => ?_⟩
    obtain ⟨n0, m0, _, e0⟩ := at_mem (ns := nums) (i := 0) (by omega) (by omega)
    obtain ⟨n1, m1, _, e1⟩ := at_mem (ns := nums) (i := 1) (by omega) (by omega)
    obtain ⟨n2, m2, _, e2⟩ := at_mem (ns := nums) (i := 2) (by omega) (by omega)
    obtain ⟨n3, m3, _, e3⟩ := at_mem (ns := nums) (i := 3) (by omega) (by omega)
    refine ⟨_, rfl, l1, _, _, _, rfl, rfl, SqL.of el1, e0, _, _, rfl, rfl, (by show (0 : Int) < 201; decide), _, rfl, l1, _, _, _, rfl, rfl, SqL.of el1, e0, _, _, rfl, rfl, (by show (0 : Int) < 30; decide), _, rfl, l1, _, _, _, rfl, rfl, SqL.of el1, e0, _, _, rfl, rfl, .inl ⟨by decide, by decide⟩, _, _, rfl, rfl, (by show (0 : Int) < 61; decide), (show 4 ≤ sizeLine by decide), fun p1 hp1 => ?_⟩
    have sp1 := Same.upd (o := .lst [V.int (n0 % 201), V.int (n0 % 30), V.int 200, V.int (2 * n0 % 61)]) hp1
    have ep1 : (upd H1 p1 (.lst [V.int (n0 % 201), V.int (n0 % 30), V.int 200, V.int (2 * n0 % 61)])) p1 = some (.lst ([n0 % 201, n0 % 30, 200, 2 * n0 % 61].map V.int)) := upd_same
    generalize upd H1 p1 (.lst [V.int (n0 % 201), V.int (n0 % 30), V.int 200, V.int (2 * n0 % 61)]) = H2 at sp1 ep1 ⊢
    obtain ⟨nn, hnn, _, en⟩ := at_mem (ns := [n0 % 201, n0 % 30, 200, 2 * n0 % 61]) (i := n1 % 4) (Int.emod_nonneg _ (by decide)) (Int.emod_lt_of_pos _ (by decide))
    have hb : 0 ≤ nn ∧ nn ≤ 200 := by simp at hnn; omega
    have el2 := sp1 _ _ el1
    refine ⟨_, rfl, l1, _, _, _, rfl, rfl, SqL.of el2, e1, _, _, rfl, rfl, (by show (0 : Int) < 4; decide), p1, _, _, _, rfl, rfl, SqL.of ep1, en, ?_⟩
    obtain ⟨k11, hk11, hk10⟩ : ∃ k : Nat, n2 % 11 = (k : Int) ∧ k ≤ 10 := ⟨(n2 % 11).toNat, by omega, by omega⟩
    refine ⟨_, rfl, l1, _, _, _, rfl, rfl, SqL.of el2, e2, _, _, rfl, rfl, (by show (0 : Int) < 11; decide), n2 % 11, rfl, by omega, by omega, ?_⟩
    rw [hk11]
    refine comp_range (lo := 0) (n := k11) (fun i ys Hx => ∃ ss : List Int, Same H2 Hx ∧ ys = ss.map V.int ∧ ss.length = i ∧ ∀ s ∈ ss, 1 ≤ s ∧ s ≤ 12) ⟨[], Same.refl _, rfl, rfl, fun s hs => by cases hs⟩ ?_ ?_ ?_
    · rintro i ys Hx hi ⟨ss, _, rfl, hl, _⟩
      rw [List.length_map, hl]
      exact line_of (by omega)
    · rintro i ys Hx hi ⟨ss, sx, rfl, hl, hs⟩
      obtain ⟨x1, _, _, ex1⟩ := at_mem (ns := nums) (i := 3 + (0 + (i : Int))) (by omega) (by omega)
      refine ⟨_, rfl, _, rfl, _, _, rfl, rfl, l1, _, _, _, rfl, rfl, SqL.of (sx _ _ el2), ex1, (show 3 ≤ sizeLine by decide), fun p3 hp3 => ?_⟩
      have g3 := Same.upd (o := .lst [V.int 2, V.int 6, V.int 12]) hp3
      have f3 : (upd Hx p3 (.lst [V.int 2, V.int 6, V.int 12])) p3 = some (.lst ([2, 6, 12].map V.int)) := upd_same
      generalize upd Hx p3 (.lst [V.int 2, V.int 6, V.int 12]) = H6 at g3 f3 ⊢
      obtain ⟨y, hy, _, ey⟩ := at_mem (ns := [2, 6, 12]) (i := n1 / 4 % 3) (Int.emod_nonneg _ (by decide)) (Int.emod_lt_of_pos _ (by decide))
      have hy0 : 0 < y ∧ y ≤ 12 := by simp at hy; omega
      refine ⟨_, rfl, l1, _, _, _, rfl, rfl, SqL.of ((sx.trans g3) _ _ el2), e1, _, _, rfl, rfl, ⟨by decide, by decide⟩, _, _, rfl, rfl, (by show (0 : Int) < 3; decide), p3, _, _, _, rfl, rfl, SqL.of f3, ey, _, _, rfl, rfl, hy0.1, _, _, rfl, rfl, ss ++ [1 + x1 % y], sx.trans g3, by rw [List.map_append]; rfl, by rw [List.length_append, hl]; rfl, fun s hs' => ?_⟩
      rcases List.mem_append.mp hs' with q | q
      · exact hs s q
      · rw [List.mem_singleton.mp q]
        have h1 := Int.emod_nonneg x1 (show y ≠ 0 by omega)
        have h2 := Int.emod_lt_of_pos x1 hy0.1
        omega
    rintro ys Hx ⟨ss, sx, rfl, hl, hs⟩ lz hlz
    have gz := Same.upd (o := .lst (ss.map V.int)) hlz
    have elz : (upd Hx lz (.lst (ss.map V.int))) lz = some (.lst (ss.map V.int)) := upd_same
    generalize upd Hx lz (.lst (ss.map V.int)) = H3 at gz elz ⊢
    refine ⟨szW H2 a l1 nn, ⟨ss.length, lz, ss, rfl, sx.trans gz, elz, hs, rfl, by omega⟩, ?_⟩
    clear gz elz hs sx hlz
    rintro m σ H4 ⟨lz, ss, rfl, s4, elz, hs, rfl, hm⟩
    refine ⟨_, rfl, lz, ss, rfl, elz, _, _, rfl, rfl, _, rfl, iteD (fun c => ?_) (fun c => ?_)⟩
    · refine ⟨fun σ' H' => ∃ m', m' < ss.length ∧ szW H2 a l1 nn m' σ' H', fun σ' H' h => h, ?_⟩
      have hne : 1 ≤ ss.length := by
        rcases Nat.eq_zero_or_pos ss.length with z | z
        · have := sum_nil_le z; omega
        · exact z
      refine ⟨_, rfl, _, rfl, lz, _, rfl, SqL.of elz, fun p hp => ?_⟩
      have ec : cutV (ss.map V.int) (some 1) none = (ss.drop 1).map V.int := cut_from ss 1 hne
      rw [ec]
      exact ⟨(ss.drop 1).length, by rw [List.length_drop]; omega, p, ss.drop 1, rfl, s4.trans (Same.upd hp), upd_same, fun s h => hs s (List.mem_of_mem_drop h), rfl, by rw [List.length_drop]; omega⟩
    have hz : SzOk ss := szOk_of hs (by omega) (by omega)
    have el4 := s4 _ _ el2
    refine ⟨szM H2 a l1 nn, ?_, ?_⟩
    · refine ⟨_, rfl, l1, _, _, _, rfl, rfl, SqL.of el4, e1, _, _, rfl, rfl, ⟨by decide, by decide⟩, _, _, rfl, rfl, (by show (0 : Int) < 4; decide), _, _, rfl, rfl, _, rfl, iteD (fun c => ?_) (fun c => ?_)⟩
      · refine ⟨_, rfl, l1, _, _, _, rfl, rfl, SqL.of el4, e2, _, _, rfl, rfl, (by show (0 : Int) < 4; decide), _, _, rfl, rfl, ?_⟩
        have hq : 1 ≤ 1 + n2 % 4 ∧ 1 + n2 % 4 ≤ 4 := by omega
        refine ⟨_, rfl, (show 1 ≤ sizeLine by decide), fun p hp => ?_⟩
        have g5 := Same.upd (o := .lst [V.int (1 + n2 % 4)]) hp
        have ep : (upd H4 p (.lst [V.int (1 + n2 % 4)])) p = some (.lst [V.int (1 + n2 % 4)]) := upd_same
        generalize upd H4 p (.lst [V.int (1 + n2 % 4)]) = H5 at g5 ep ⊢
        have hd0 : 0 ≤ 60 / (1 + n2 % 4) := Int.ediv_nonneg (by decide) (by omega)
        have hd1 : 60 / (1 + n2 % 4) ≤ 60 := Int.ediv_le_self _ (by decide)
        have hr0 := Int.emod_nonneg n3 (show 60 / (1 + n2 % 4) + 1 ≠ 0 by omega)
        have hr1 := Int.emod_lt_of_pos n3 (show 0 < 60 / (1 + n2 % 4) + 1 by omega)
        refine ⟨_, rfl, l1, _, _, _, rfl, rfl, SqL.of (g5 _ _ el4), e3, _, rfl, _, _, rfl, rfl, ⟨by omega, by omega⟩, _, _, rfl, rfl, _, _, rfl, rfl, (by show 0 < 60 / (1 + n2 % 4) + 1; omega), p, n3 % (60 / (1 + n2 % 4) + 1), [V.int (1 + n2 % 4)], rfl, rfl, ep, by omega, by omega, ?_, fun q hq2 => ?_⟩
        · exact line_le (by simp; omega)
        have er : (List.replicate (n3 % (60 / (1 + n2 % 4) + 1)).toNat [V.int (1 + n2 % 4)]).flatten = (List.replicate (n3 % (60 / (1 + n2 % 4) + 1)).toNat (1 + n2 % 4)).map V.int := by
          rw [List.map_replicate, List.flatten_replicate_singleton]
        rw [er]
        exact ⟨q, _, _, rfl, (s4.trans g5).trans (Same.upd hq2), upd_same, SzOk.rep hq.1 hq.2 (by omega)⟩
      · exact ⟨lz, ss, none, rfl, s4, elz, hz⟩
    clear elz hz hs hm c el4 s4
    rintro σ H5 ⟨lz, ss, v4, rfl, s5, elz, hz⟩
    refine ⟨_, rfl, lz, _, rfl, .inl (SqL.of elz), fun lh hlh => ?_⟩
    have g6 := Same.upd (o := .lst (ss.map V.int)) hlh
    have elh : (upd H5 lh (.lst (ss.map V.int))) lh = some (.lst (ss.map V.int)) := upd_same
    generalize upd H5 lh (.lst (ss.map V.int)) = H6 at g6 elh ⊢
    refine ⟨_, rfl, _, rfl, lz, nn, ss, rfl, g6 _ _ elz, hz, hb.1, hb.2, fun ms H7 d g7 => ?_⟩
    have elh7 := g7 _ _ elh
    have elz7 := (g6.trans g7) _ _ elz
    have hsh := shaped_ints ss
    refine ⟨_, rfl, _, rfl, lh, nn, ss, rfl, elh7, hz, hb.1, hb.2, fun ms2 H8 d2 g8 => ?_⟩
    rw [d2.eq d fun _ => Iff.rfl]
    refine ⟨_, rfl, _, _, _, rfl, Den.int _, Den.int _, (show PyData.depth (.int 0) ≤ 3 by decide), rfl, rfl, fun H9 g9 => ⟨true, rfl, ?_⟩⟩
    have g79 := g8.trans g9
    have elh9 := g79 _ _ elh7
    have elz9 := g79 _ _ elz7
    refine ⟨_, rfl, _, rfl, _, _, Den.ints elh9, Den.ints elz9, hsh, hsh, _, rfl, ?_⟩
    rw [eqv_self hsh]
    refine ⟨_, rfl, _, rfl, lh, _, rfl, SqL.of elh9, fun p hp => ?_⟩
    rw [← List.map_reverse]
    refine ⟨p, nn, ss.reverse, rfl, upd_same, hz.rev, hb.1, hb.2, fun ms3 H10 d3 g10 => ?_⟩
    rw [d3.eq d fun _ => List.mem_reverse, howM_rev]
    refine ⟨_, rfl, _, _, rfl, rfl, true, ?_, ?_⟩
    · show V.bl (decide _) = V.bl true
      rw [decide_eq_true rfl]
    refine ⟨_, rfl, by decide, fun p2 hp2 => ⟨p2, nn, [], rfl, upd_same, .nil, hb.1, hb.2, fun ms4 H11 d4 g11 => ?_⟩⟩
    rw [d4.nil]
    exact ⟨_, _, rfl, rfl, kk _⟩
end
end CW

set_option Elab.async false
set_option linter.all false
set_option maxRecDepth 100000
set_option maxHeartbeats 4000000
namespace CW
open PySem L2
theorem all_mk {l : PySem.W.OpenLaw} {w : World} {K : PySem.W.Frag} {h : Heap} {mg : Str → Option Value} {fa : Addr} (X : K.In h) (G : h.Ns mainGlobals mg) (hfa : mg "law" = some (.ref fa))
    {f0 : Addr} {od0 an0 : Option Addr} {sl0 : Array (Option Value)} {oc0 kV0 dc0 pm0 cd0 ct0 : Value}
    {f1 : Addr} {od1 an1 : Option Addr} {sl1 : Array (Option Value)} {oc1 kV1 dc1 pm1 cd1 ct1 : Value}
    {f2 : Addr} {od2 an2 : Option Addr} {sl2 : Array (Option Value)} {oc2 kV2 dc2 pm2 cd2 ct2 : Value}
    {f3 : Addr} {od3 an3 : Option Addr} {sl3 : Array (Option Value)} {oc3 kV3 dc3 pm3 cd3 ct3 : Value}
    {f4 : Addr} {od4 an4 : Option Addr} {sl4 : Array (Option Value)} {oc4 kV4 dc4 pm4 cd4 ct4 : Value}
    {f5 : Addr} {od5 an5 : Option Addr} {sl5 : Array (Option Value)} {oc5 kV5 dc5 pm5 cd5 ct5 : Value}
    {f6 : Addr} {od6 an6 : Option Addr} {sl6 : Array (Option Value)} {oc6 kV6 dc6 pm6 cd6 ct6 : Value}
    {f7 : Addr} {od7 an7 : Option Addr} {sl7 : Array (Option Value)} {oc7 kV7 dc7 pm7 cd7 ct7 : Value}
    {f8 : Addr} {od8 an8 : Option Addr} {sl8 : Array (Option Value)} {oc8 kV8 dc8 pm8 cd8 ct8 : Value}
    {f9 : Addr} {od9 an9 : Option Addr} {sl9 : Array (Option Value)} {oc9 kV9 dc9 pm9 cd9 ct9 : Value}
    {f10 : Addr} {od10 an10 : Option Addr} {sl10 : Array (Option Value)} {oc10 kV10 dc10 pm10 cd10 ct10 : Value}
    {t_MOST_STONES : Tok}
    {t_MOST_NICHES : Tok}
    (a0 : PySem.W.nsIn K mainGlobals "look_niches" = some (some (.ref f0))) (l0 : K.lookup f0 = some ⟨oc0, od0, .func (PySem.W.fnOf "look_niches" "look_niches" (defArgs s_look_niches) (defBody s_look_niches) (defScope s_look_niches) .none kV0 dc0 pm0 an0 cd0 ct0), sl0⟩) (c0 : PySem.W.codeIn K cd0 "look_niches" = true) (k0 : PySem.W.keepIn K (.ref f0) = true)
    (a1 : PySem.W.nsIn K mainGlobals "look_sizes" = some (some (.ref f1))) (l1 : K.lookup f1 = some ⟨oc1, od1, .func (PySem.W.fnOf "look_sizes" "look_sizes" (defArgs s_look_sizes) (defBody s_look_sizes) (defScope s_look_sizes) .none kV1 dc1 pm1 an1 cd1 ct1), sl1⟩) (c1 : PySem.W.codeIn K cd1 "look_sizes" = true) (k1 : PySem.W.keepIn K (.ref f1) = true)
    (a2 : PySem.W.nsIn K mainGlobals "rooms" = some (some (.ref f2))) (l2 : K.lookup f2 = some ⟨oc2, od2, .func (PySem.W.fnOf "rooms" "rooms" (defArgs s_rooms) (defBody s_rooms) (defScope s_rooms) .none kV2 dc2 pm2 an2 cd2 ct2), sl2⟩) (c2 : PySem.W.codeIn K cd2 "rooms" = true) (k2 : PySem.W.keepIn K (.ref f2) = true)
    (a3 : PySem.W.nsIn K mainGlobals "choices" = some (some (.ref f3))) (l3 : K.lookup f3 = some ⟨oc3, od3, .func (PySem.W.fnOf "choices" "choices" (defArgs s_choices) (defBody s_choices) (defScope s_choices) .none kV3 dc3 pm3 an3 cd3 ct3), sl3⟩) (c3 : PySem.W.codeIn K cd3 "choices" = true) (k3 : PySem.W.keepIn K (.ref f3) = true)
    (a4 : PySem.W.nsIn K mainGlobals "how_many" = some (some (.ref f4))) (l4 : K.lookup f4 = some ⟨oc4, od4, .func (PySem.W.fnOf "how_many" "how_many" (defArgs s_how_many) (defBody s_how_many) (defScope s_how_many) .none kV4 dc4 pm4 an4 cd4 ct4), sl4⟩) (c4 : PySem.W.codeIn K cd4 "how_many" = true) (k4 : PySem.W.keepIn K (.ref f4) = true)
    (a5 : PySem.W.nsIn K mainGlobals "_law_numbers" = some (some (.ref f5))) (l5 : K.lookup f5 = some ⟨oc5, od5, .func (PySem.W.fnOf "_law_numbers" "_law_numbers" (defArgs s_law_numbers) (defBody s_law_numbers) (defScope s_law_numbers) .none kV5 dc5 pm5 an5 cd5 ct5), sl5⟩) (c5 : PySem.W.codeIn K cd5 "_law_numbers" = true) (k5 : PySem.W.keepIn K (.ref f5) = true)
    (a6 : PySem.W.nsIn K mainGlobals "_law_same" = some (some (.ref f6))) (l6 : K.lookup f6 = some ⟨oc6, od6, .func (PySem.W.fnOf "_law_same" "_law_same" (defArgs s_law_same) (defBody s_law_same) (defScope s_law_same) .none kV6 dc6 pm6 an6 cd6 ct6), sl6⟩) (c6 : PySem.W.codeIn K cd6 "_law_same" = true) (k6 : PySem.W.keepIn K (.ref f6) = true)
    (a7 : PySem.W.nsIn K mainGlobals "_law_space" = some (some (.ref f7))) (l7 : K.lookup f7 = some ⟨oc7, od7, .func (PySem.W.fnOf "_law_space" "_law_space" (defArgs s_law_space) (defBody s_law_space) (defScope s_law_space) .none kV7 dc7 pm7 an7 cd7 ct7), sl7⟩) (c7 : PySem.W.codeIn K cd7 "_law_space" = true) (k7 : PySem.W.keepIn K (.ref f7) = true)
    (a8 : PySem.W.nsIn K mainGlobals "_law_choose" = some (some (.ref f8))) (l8 : K.lookup f8 = some ⟨oc8, od8, .func (PySem.W.fnOf "_law_choose" "_law_choose" (defArgs s_law_choose) (defBody s_law_choose) (defScope s_law_choose) .none kV8 dc8 pm8 an8 cd8 ct8), sl8⟩) (c8 : PySem.W.codeIn K cd8 "_law_choose" = true) (k8 : PySem.W.keepIn K (.ref f8) = true)
    (a9 : PySem.W.nsIn K mainGlobals "_law_count" = some (some (.ref f9))) (l9 : K.lookup f9 = some ⟨oc9, od9, .func (PySem.W.fnOf "_law_count" "_law_count" (defArgs s_law_count) (defBody s_law_count) (defScope s_law_count) .none kV9 dc9 pm9 an9 cd9 ct9), sl9⟩) (c9 : PySem.W.codeIn K cd9 "_law_count" = true) (k9 : PySem.W.keepIn K (.ref f9) = true)
    (a10 : PySem.W.nsIn K mainGlobals "law" = some (some (.ref f10))) (l10 : K.lookup f10 = some ⟨oc10, od10, .func (PySem.W.fnOf "law" "law" (defArgs s_law) (defBody s_law) (defScope s_law) .none kV10 dc10 pm10 an10 cd10 ct10), sl10⟩) (c10 : PySem.W.codeIn K cd10 "law" = true) (k10 : PySem.W.keepIn K (.ref f10) = true)
    (z_len : PySem.W.nsIn K mainGlobals "len" = some none)
    (z_range : PySem.W.nsIn K mainGlobals "range" = some none)
    (z_list : PySem.W.nsIn K mainGlobals "list" = some none)
    (z_tuple : PySem.W.nsIn K mainGlobals "tuple" = some none)
    (z_bool : PySem.W.nsIn K mainGlobals "bool" = some none)
    (z_str : PySem.W.nsIn K mainGlobals "str" = some none)
    (z_int : PySem.W.nsIn K mainGlobals "int" = some none)
    (z_isinstance : PySem.W.nsIn K mainGlobals "isinstance" = some none)
    (z_all : PySem.W.nsIn K mainGlobals "all" = some none)
    (z_sorted : PySem.W.nsIn K mainGlobals "sorted" = some none)
    (z_max : PySem.W.nsIn K mainGlobals "max" = some none)
    (z_min : PySem.W.nsIn K mainGlobals "min" = some none)
    (z_set : PySem.W.nsIn K mainGlobals "set" = some none)
    (z_reversed : PySem.W.nsIn K mainGlobals "reversed" = some none)
    (z_sum : PySem.W.nsIn K mainGlobals "sum" = some none)
    (z_enumerate : PySem.W.nsIn K mainGlobals "enumerate" = some none)
    (z_zip : PySem.W.nsIn K mainGlobals "zip" = some none)
    (z_any : PySem.W.nsIn K mainGlobals "any" = some none)
    (z_abs : PySem.W.nsIn K mainGlobals "abs" = some none)
    (y_MOST_STONES : PySem.W.nsIn K mainGlobals "MOST_STONES" = some (some (.int 60 t_MOST_STONES)))
    (y_MOST_NICHES : PySem.W.nsIn K mainGlobals "MOST_NICHES" = some (some (.int 200 t_MOST_NICHES))) :
    ∃ fd : FuncData, (∀ (s : Shared) (v : Value), BindsTo s fd ⟨[v], []⟩ [("_law_script", v)]) ∧ ∀ base : Heap, K.In base → base.Ns mainGlobals mg → FnOk l.prog w K mg base CX0 5 fa fd ["_law_script"] (spLaw K) := by
  have e := hfa.symm.trans (PySem.W.mg_of X G a10)
  cases e
  have B : Bt mg := ⟨PySem.W.mg_none_of X G z_len, PySem.W.mg_none_of X G z_range, PySem.W.mg_none_of X G z_list, PySem.W.mg_none_of X G z_tuple, PySem.W.mg_none_of X G z_bool, PySem.W.mg_none_of X G z_str, PySem.W.mg_none_of X G z_int, PySem.W.mg_none_of X G z_isinstance, PySem.W.mg_none_of X G z_all, PySem.W.mg_none_of X G z_sorted, PySem.W.mg_none_of X G z_max, PySem.W.mg_none_of X G z_min, PySem.W.mg_none_of X G z_set, PySem.W.mg_none_of X G z_reversed, PySem.W.mg_none_of X G z_sum, PySem.W.mg_none_of X G z_enumerate, PySem.W.mg_none_of X G z_zip, PySem.W.mg_none_of X G z_any, PySem.W.mg_none_of X G z_abs⟩
  have C : Cn mg t_MOST_STONES := ⟨PySem.W.mg_of X G y_MOST_STONES⟩
  have C2 : Cn2 mg t_MOST_NICHES := ⟨PySem.W.mg_of X G y_MOST_NICHES⟩
  have F0 := fun_mk (st := s_look_niches) l0 c0 k0
  have b0 := F0.binds1 (p1 := "niches") fun _ _ _ _ _ _ _ => rfl
  have m0 := PySem.W.mg_of X G a0
  have F1 := fun_mk (st := s_look_sizes) l1 c1 k1
  have b1 := F1.binds1 (p1 := "sizes") fun _ _ _ _ _ _ _ => rfl
  have m1 := PySem.W.mg_of X G a1
  have F2 := fun_mk (st := s_rooms) l2 c2 k2
  have b2 := F2.binds2 (p1 := "niches") (p2 := "sizes") fun _ _ _ _ _ _ _ _ => rfl
  have m2 := PySem.W.mg_of X G a2
  have F3 := fun_mk (st := s_choices) l3 c3 k3
  have b3 := F3.binds2 (p1 := "many") (p2 := "room") fun _ _ _ _ _ _ _ _ => rfl
  have m3 := PySem.W.mg_of X G a3
  have F4 := fun_mk (st := s_how_many) l4 c4 k4
  have b4 := F4.binds2 (p1 := "niches") (p2 := "sizes") fun _ _ _ _ _ _ _ _ => rfl
  have m4 := PySem.W.mg_of X G a4
  have F5 := fun_mk (st := s_law_numbers) l5 c5 k5
  have b5 := F5.binds2 (p1 := "_law_script") (p2 := "_law_many") fun _ _ _ _ _ _ _ _ => rfl
  have m5 := PySem.W.mg_of X G a5
  have F6 := fun_mk (st := s_law_same) l6 c6 k6
  have b6 := F6.binds2 (p1 := "_law_found") (p2 := "_law_due") fun _ _ _ _ _ _ _ _ => rfl
  have m6 := PySem.W.mg_of X G a6
  have F7 := fun_mk (st := s_law_space) l7 c7 k7
  have b7 := F7.binds3 (p1 := "_law_niches") (p2 := "_law_sizes") (p3 := "_law_size") fun _ _ _ _ _ _ _ _ _ => rfl
  have m7 := PySem.W.mg_of X G a7
  have F8 := fun_mk (st := s_law_choose) l8 c8 k8
  have b8 := F8.binds2 (p1 := "_law_many") (p2 := "_law_things") fun _ _ _ _ _ _ _ _ => rfl
  have m8 := PySem.W.mg_of X G a8
  have F9 := fun_mk (st := s_law_count) l9 c9 k9
  have b9 := F9.binds2 (p1 := "_law_niches") (p2 := "_law_sizes") fun _ _ _ _ _ _ _ _ => rfl
  have m9 := PySem.W.mg_of X G a9
  have F10 := fun_mk (st := s_law) l10 c10 k10
  have b10 := F10.binds1 (p1 := "_law_script") fun _ _ _ _ _ _ _ => rfl
  have m10 := PySem.W.mg_of X G a10
  refine ⟨PySem.W.fnOf "law" "law" (defArgs s_law) (defBody s_law) (defScope s_law) .none kV10 dc10 pm10 an10 cd10 ct10, fun s v => .of_eq rfl, fun base _ _ => ?_⟩
  have A_look_niches : FnAt l.prog w K mg base "look_niches" 1 ["niches"] spLookN := ⟨f0, _, ok_look_niches F0 B C2, m0, k0, b0⟩
  have A_look_sizes : FnAt l.prog w K mg base "look_sizes" 1 ["sizes"] spLookS := ⟨f1, _, ok_look_sizes F1 B C, m1, k1, b1⟩
  have A_rooms : FnAt l.prog w K mg base "rooms" 1 ["niches", "sizes"] spRooms := ⟨f2, _, ok_rooms F2 B, m2, k2, b2⟩
  have A_choices : FnAt l.prog w K mg base "choices" 1 ["many", "room"] spChoices := ⟨f3, _, ok_choices F3 B, m3, k3, b3⟩
  have A_how_many : FnAt l.prog w K mg base "how_many" 2 ["niches", "sizes"] spHow := ⟨f4, _, ok_how_many F4 B A_look_niches A_look_sizes A_rooms A_choices, m4, k4, b4⟩
  have A_law_numbers : FnAt l.prog w K mg base "_law_numbers" 1 ["_law_script", "_law_many"] (spNumbers K) := ⟨f5, _, ok_numbers F5 B, m5, k5, b5⟩
  have A_law_same : FnAt l.prog w K mg base "_law_same" 4 ["_law_found", "_law_due"] (spSame 3) := ⟨f6, _, ok_same F6 B m6 b6 3, m6, k6, b6⟩
  have A_law_space : FnAt l.prog w K mg base "_law_space" 1 ["_law_niches", "_law_sizes", "_law_size"] spSpace := ⟨f7, _, ok_law_space F7 B, m7, k7, b7⟩
  have A_law_choose : FnAt l.prog w K mg base "_law_choose" 1 ["_law_many", "_law_things"] spChoose := ⟨f8, _, ok_law_choose F8 B, m8, k8, b8⟩
  have A_law_count : FnAt l.prog w K mg base "_law_count" 2 ["_law_niches", "_law_sizes"] spHow := ⟨f9, _, ok_law_count F9 B A_law_space A_law_choose, m9, k9, b9⟩
  exact ok_law F10 B A_law_numbers A_law_count A_how_many A_law_same
theorem walk {l : PySem.W.OpenLaw} {q : Program} {loose : List Str} {XP : (Str → Option Value) → Heap → Prop} {YP : World → Heap → Prop} {d : DefRec} {K : Params → PySem.W.Frag} (hn : l.most = some 63) (hdf : d.params.defaults = [])
    (hY : ∀ (w : World) (h : Heap), YP w h → (K w.params).In h)
    (F : ∀ (w : World) (mg : Str → Option Value) (fa : Addr) (h : Heap), (K w.params).In h → h.Ns mainGlobals mg → mg d.name = some (.ref fa) →
      ∃ fd : FuncData, (∀ (s : Shared) (u : Value), BindsTo s fd ⟨[u], []⟩ [("_law_script", u)]) ∧ ∀ base : Heap, (K w.params).In base → base.Ns mainGlobals mg → FnOk l.prog w (K w.params) mg base CX0 5 fa fd ["_law_script"] (spLaw (K w.params))) :
    PySem.W.WalkO q loose XP YP l.row.toRowW d [] (fun f vs => PySem.call f vs) :=
  L2.walk_of (n := 63) (k := 5) (x := "_law_script") (CX := fun _ => CX0) (sp := fun w => spLaw (K w.params)) hn (by decide) hdf ⟨rfl, by decide, by decide⟩ hY F (fun _ _ a ns hl _ hS => ⟨a, ns, rfl, hS, hl, fun _ => rfl⟩) fun _ _ _ _ _ z => z
end CW
def PySem.W.Fast.tw33906709978328722 : Unit := ()
def PySem.W.Fast.tw10686911594148632679 : Unit := ()
def PySem.W.Fast.tw5680959638301118198 : Unit := ()
def PySem.W.Fast.tw15629426692092582167 : Unit := ()
def PySem.W.Fast.tw4179083327608277157 : Unit := ()
def PySem.W.Fast.tw15410815539157943396 : Unit := ()
def PySem.W.Fast.tw15430702462933781470 : Unit := ()
def PySem.W.Fast.tw13772524593430940088 : Unit := ()
def PySem.W.Fast.tw8369344064569680428 : Unit := ()
def PySem.W.Fast.tw14694225932396573919 : Unit := ()
def PySem.W.Fast.tw9796064781240184323 : Unit := ()
def PySem.W.Fast.tw7899162965466451031 : Unit := ()
def PySem.W.Fast.tw16286790356807284392 : Unit := ()
def PySem.W.Fast.tw2756178222220837371 : Unit := ()
def PySem.W.Fast.tw10815366444402713225 : Unit := ()
def PySem.W.Fast.tw14359402363319817244 : Unit := ()
def PySem.W.Fast.tw18078063942560428756 : Unit := ()
def PySem.W.Fast.tw9338624330325488508 : Unit := ()
def PySem.W.Fast.tw639383021635618843 : Unit := ()
def PySem.W.Fast.tw2937267711116544756 : Unit := ()
def PySem.W.Fast.tw8635743056178841944 : Unit := ()
def PySem.W.Fast.tw765378436725167180 : Unit := ()
def PySem.W.Fast.tw2085575819175986186 : Unit := ()
def PySem.W.Fast.tw710063806214506845 : Unit := ()
def PySem.W.Fast.tw17913250134280759487 : Unit := ()
def PySem.W.Fast.tw7188204028337817496 : Unit := ()
def PySem.W.Fast.tw3037615801998037388 : Unit := ()
def PySem.W.Fast.tw7249569659785762071 : Unit := ()
def PySem.W.Fast.tw17917292622678185269 : Unit := ()
def PySem.W.Fast.tw4600724437009710961 : Unit := ()
def PySem.W.Fast.tw13965809656459400353 : Unit := ()
def PySem.W.Fast.tw16887376702915942364 : Unit := ()
def PySem.W.Fast.tw13582925989137605625 : Unit := ()
def PySem.W.Fast.tw9790668006341259974 : Unit := ()
def PySem.W.Fast.tw11435346245540177275 : Unit := ()
def PySem.W.Fast.tw16811906281472993123 : Unit := ()
def PySem.W.Fast.tw16349205605060178614 : Unit := ()
def PySem.W.Fast.tw1449054131093161637 : Unit := ()
def PySem.W.Fast.tw14873134084797699420 : Unit := ()
def PySem.W.Fast.tw5695343539303421325 : Unit := ()
def PySem.W.Fast.tw15078832464611344120 : Unit := ()
def PySem.W.Fast.tw12578539897089121825 : Unit := ()
def PySem.W.Fast.tw4934099307892030484 : Unit := ()
def PySem.W.Fast.tw18438260184818708232 : Unit := ()
def PySem.W.Fast.tw1861268568549253105 : Unit := ()
def PySem.W.Fast.tw10026598222870608895 : Unit := ()
def PySem.W.Fast.tw16561717057664734703 : Unit := ()
def PySem.W.Fast.tw3527164812073169034 : Unit := ()
def PySem.W.Fast.tw11711369996135589276 : Unit := ()
def PySem.W.Fast.tw15826840505230459106 : Unit := ()
def PySem.W.Fast.tw18202714197176397061 : Unit := ()
def PySem.W.Fast.tw4574587652139614934 : Unit := ()
def PySem.W.Fast.tw15183891662418905212 : Unit := ()
def PySem.W.Fast.tw9343986601121522991 : Unit := ()
def PySem.W.Fast.tw12004242273810278 : Unit := ()
def PySem.W.Fast.tw2305202137608072706 : Unit := ()
def PySem.W.Fast.tw11160259336662959084 : Unit := ()
def PySem.W.Fast.tw11907131463244998235 : Unit := ()
def PySem.W.Fast.tw16526812993915485871 : Unit := ()
def PySem.W.Fast.tw8941451831716978311 : Unit := ()
def PySem.W.Fast.tw2588396881777993446 : Unit := ()
def PySem.W.Fast.tw17909511118744901246 : Unit := ()
def PySem.W.Fast.tw12025335171770158256 : Unit := ()
def PySem.W.Fast.tw13156044996355077780 : Unit := ()
def PySem.W.Fast.tw17802496747137090959 : Unit := ()
def PySem.W.Fast.tw15403793327102406863 : Unit := ()
def PySem.W.Fast.tw1122965953008649503 : Unit := ()
def PySem.W.Fast.tw1758603387502550895 : Unit := ()
def PySem.W.Fast.tw1628266701532581466 : Unit := ()
open PySem PySem.W PyProof.Rows
set_option maxRecDepth 100000 in
set_option maxHeartbeats 0 in
theorem PySem.Challenge.cw_creelway_k34_sober_rows_counted_holds : PySem.Challenge.rw_creelway_k34_sober_rows_counted.Holds := by
  w_on; o_law; k_head; (case hw => w_witness2)
  k_fill
  refine CW.walk (l := PySem.Challenge.rw_creelway_k34_sober_rows_counted) rfl rfl (fun w h Y => PySem.W.kIn_of Y) ?F
  case F =>
    intro w mg fa h KX G hmg
    refine' CW.all_mk KX G hmg ?a0 ?l0 ?c0 ?k0 ?a1 ?l1 ?c1 ?k1 ?a2 ?l2 ?c2 ?k2 ?a3 ?l3 ?c3 ?k3 ?a4 ?l4 ?c4 ?k4 ?a5 ?l5 ?c5 ?k5 ?a6 ?l6 ?c6 ?k6 ?a7 ?l7 ?c7 ?k7 ?a8 ?l8 ?c8 ?k8 ?a9 ?l9 ?c9 ?k9 ?a10 ?l10 ?c10 ?k10 ?z_len ?z_range ?z_list ?z_tuple ?z_bool ?z_str ?z_int ?z_isinstance ?z_all ?z_sorted ?z_max ?z_min ?z_set ?z_reversed ?z_sum ?z_enumerate ?z_zip ?z_any ?z_abs ?y_MOST_STONES ?y_MOST_NICHES
    (case a0 => k_is)
    (case l0 => k_is)
    (case c0 => k_is)
    (case k0 => k_is)
    (case a1 => k_is)
    (case l1 => k_is)
    (case c1 => k_is)
    (case k1 => k_is)
    (case a2 => k_is)
    (case l2 => k_is)
    (case c2 => k_is)
    (case k2 => k_is)
    (case a3 => k_is)
    (case l3 => k_is)
    (case c3 => k_is)
    (case k3 => k_is)
    (case a4 => k_is)
    (case l4 => k_is)
    (case c4 => k_is)
    (case k4 => k_is)
    (case a5 => k_is)
    (case l5 => k_is)
    (case c5 => k_is)
    (case k5 => k_is)
    (case a6 => k_is)
    (case l6 => k_is)
    (case c6 => k_is)
    (case k6 => k_is)
    (case a7 => k_is)
    (case l7 => k_is)
    (case c7 => k_is)
    (case k7 => k_is)
    (case a8 => k_is)
    (case l8 => k_is)
    (case c8 => k_is)
    (case k8 => k_is)
    (case a9 => k_is)
    (case l9 => k_is)
    (case c9 => k_is)
    (case k9 => k_is)
    (case a10 => k_is)
    (case l10 => k_is)
    (case c10 => k_is)
    (case k10 => k_is)
    (case z_len => k_is)
    (case z_range => k_is)
    (case z_list => k_is)
    (case z_tuple => k_is)
    (case z_bool => k_is)
    (case z_str => k_is)
    (case z_int => k_is)
    (case z_isinstance => k_is)
    (case z_all => k_is)
    (case z_sorted => k_is)
    (case z_max => k_is)
    (case z_min => k_is)
    (case z_set => k_is)
    (case z_reversed => k_is)
    (case z_sum => k_is)
    (case z_enumerate => k_is)
    (case z_zip => k_is)
    (case z_any => k_is)
    (case z_abs => k_is)
    (case y_MOST_STONES => k_is)
    (case y_MOST_NICHES => k_is)
