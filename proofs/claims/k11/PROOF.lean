import PyProof.Rows.All
import Wide.All
import OpenK.AllK
import Wide.FinOn
import Lean
import PyProof.EqAt
import PyProof.EqKinds
import PyProof.TupleCall
import PySem.Challenge.RW_creelway_k11_rows_peeled
set_option Elab.async false
set_option linter.all false
set_option maxRecDepth 100000
namespace L2
open PySem PySem.Spec PyProof.Rows

noncomputable abbrev Key := Sum Int Str
noncomputable def keyIs : Key → Value → Bool
  | .inl k, v => Value.isInt k v
  | .inr x, v => Value.isStrOf x v
noncomputable def keyH (w : World) : Key → Int
  | .inl k => hashInt k
  | .inr x => hashStr w x
theorem keyIs_shape : ∀ {k : Key} {v : Value}, keyIs k v = true → (∃ i t, k = Sum.inl i ∧ v = Value.int i t) ∨ (∃ x t, k = Sum.inr x ∧ v = Value.str x t)
  | .inl i, v, h => by
    obtain ⟨t, e⟩ := Value.isInt_shape (k := i) (v := v) h
    exact .inl ⟨i, t, rfl, e⟩
  | .inr x, v, h => by
    obtain ⟨t, e⟩ := Value.isStrOf_shape (x := x) (v := v) h
    exact .inr ⟨x, t, rfl, e⟩
theorem key_ll (a b : Int) : decide ((Sum.inl a : Key) = Sum.inl b) = (a == b) := by
  by_cases e : a = b
  · subst e; simp
  · have h : ¬ (Sum.inl a : Key) = Sum.inl b := fun q => e (Sum.inl.inj q)
    rw [decide_eq_false h]
    exact (beq_eq_false_iff_ne.mpr e).symm
theorem key_rr (a b : Str) : decide ((Sum.inr a : Key) = Sum.inr b) = decide (a = b) := by
  by_cases e : a = b
  · subst e; simp
  · have h : ¬ (Sum.inr a : Key) = Sum.inr b := fun q => e (Sum.inr.inj q)
    rw [decide_eq_false h, decide_eq_false e]
theorem key_lr (a : Int) (b : Str) : decide ((Sum.inl a : Key) = Sum.inr b) = false := decide_eq_false (fun q => nomatch q)
theorem key_rl (a : Str) (b : Int) : decide ((Sum.inr a : Key) = Sum.inl b) = false := decide_eq_false (fun q => nomatch q)

noncomputable def mixKind (prog : Program) (w : World) : PySem.KeyKind prog w Key where
  is := keyIs
  hash := keyH w
  inj := fun v a b ha hb => by
    rcases keyIs_shape ha with ⟨i, t, rfl, rfl⟩ | ⟨x, t, rfl, rfl⟩
    · rcases keyIs_shape hb with ⟨j, u, rfl, e⟩ | ⟨y, u, rfl, e⟩
      · injection e with e1 _; rw [e1]
      · exact nomatch e
    · rcases keyIs_shape hb with ⟨j, u, rfl, e⟩ | ⟨y, u, rfl, e⟩
      · exact nomatch e
      · injection e with e1 _; rw [e1]
  byValue := fun k v h => by
    rcases keyIs_shape h with ⟨i, t, rfl, rfl⟩ | ⟨x, t, rfl, rfl⟩ <;> rfl
  pyHash := fun hv h => by
    rcases keyIs_shape hv with ⟨i, t, rfl, rfl⟩ | ⟨x, t, rfl, rfl⟩
    · exact wpAny_pyHash_int h
    · exact wpAny_pyHash_str h
  eqBool := fun hu hv h => by
    rcases keyIs_shape hu with ⟨i, t, rfl, rfl⟩ | ⟨x, t, rfl, rfl⟩
    · rcases keyIs_shape hv with ⟨j, u, rfl, rfl⟩ | ⟨y, u, rfl, rfl⟩
      · rw [key_ll] at h; exact wpAny_eqBool_int h
      · rw [key_lr] at h; exact SeqAt.EqAt.int_str i t y u _ _ _ _ h
    · rcases keyIs_shape hv with ⟨j, u, rfl, rfl⟩ | ⟨y, u, rfl, rfl⟩
      · rw [key_rl] at h; exact SeqAt.EqAt.str_int x t j u _ _ _ _ h
      · rw [key_rr] at h; exact wpAny_eqBool_str h
  «strs» := fun k x t v h => by
    rcases keyIs_shape h with ⟨i, u, rfl, e⟩ | ⟨y, u, rfl, e⟩
    · exact nomatch e
    · injection e with e1 _
      subst e1
      cases v <;> rfl

end L2

namespace L2
open PySem PySem.Spec PyProof.Rows

inductive V where
  | non | bl (b : Bool) | int (i : Int) | str (x : Str) | byt (b : Array UInt8) | flt (b : UInt64) | ref (a : Addr) | ty (n : String)
  deriving DecidableEq

noncomputable def RelV : V → Value → Prop
  | .non, u => u = Value.none
  | .bl b, u => u = Value.bool b
  | .int i, u => ∃ t, u = Value.int i t
  | .str x, u => ∃ t, u = Value.str x t
  | .byt b, u => ∃ t, u = Value.bytes b t
  | .flt b, u => ∃ t, u = Value.float b t
  | .ref a, u => u = Value.ref a
  | .ty n, u => u = Value.type n

noncomputable abbrev Vals : List V → List Value → Prop := Paired RelV
theorem Vals.length {xs : List V} {us : List Value} (r : Vals xs us) : xs.length = us.length := Paired.length r
theorem Vals.get : ∀ {xs : List V} {us : List Value} {i : Nat} {x : V}, Vals xs us → xs[i]? = some x → ∃ u, us[i]? = some u ∧ RelV x u
  | _, _, _, _, .nil, e => by simp at e
  | _, _, 0, _, .cons r _, e => by simp at e; subst e; exact ⟨_, rfl, r⟩
  | _, _, i + 1, x, .cons _ t, e => by
    obtain ⟨u, h1, h2⟩ := Vals.get (i := i) (x := x) t (by simpa using e)
    exact ⟨u, by simpa using h1, h2⟩
theorem Vals.set {x : V} {u : Value} (r : RelV x u) : ∀ {xs : List V} {us : List Value} (i : Nat), Vals xs us → Vals (xs.set i x) (us.set i u)
  | _, _, _, .nil => .nil
  | _, _, 0, .cons _ t => .cons r t
  | _, _, i + 1, .cons q t => .cons q (Vals.set r i t)
theorem Vals.append : ∀ {xs ys : List V} {us ws : List Value}, Vals xs us → Vals ys ws → Vals (xs ++ ys) (us ++ ws)
  | _, _, _, _, .nil, s => s
  | _, _, _, _, .cons r t, s => .cons r (Vals.append t s)
theorem Vals.take : ∀ {xs : List V} {us : List Value} (n : Nat), Vals xs us → Vals (xs.take n) (us.take n)
  | _, _, 0, _ => .nil
  | _, _, _ + 1, .nil => .nil
  | _, _, n + 1, .cons r t => .cons r (Vals.take n t)
theorem Vals.drop : ∀ {xs : List V} {us : List Value} (n : Nat), Vals xs us → Vals (xs.drop n) (us.drop n)
  | _, _, 0, r => r
  | _, _, _ + 1, .nil => .nil
  | _, _, n + 1, .cons _ t => Vals.drop n t
noncomputable def RelO : Option V → Option Value → Prop
  | some v, some u => RelV v u
  | none, none => True
  | _, _ => False
noncomputable def KV {κ : Type} : List (κ × V) → List (κ × Value) → Prop := Paired fun (p : κ × V) (q : κ × Value) => p.1 = q.1 ∧ RelV p.2 q.2

noncomputable def kV : Key → V
  | .inl i => .int i
  | .inr x => .str x

inductive HO where
    | lst (xs : List V)
    | tup (xs : List V)
    | dK (kvs : List (Key × V)) | dT (kvs : List (List Key × V))
    | set (S : Int → Bool) (n : Nat)
    | ins (C dx : Addr) (fs : List (Str × V))
    | own (x : Addr)
    | xd (fs : List (Str × V))
    | met (f x : Addr)
    | rng (lo hi : Int)
    | frz (o : Obj) (u : HO)
    | tbl (ps : Array Value)
    | ext (φ : Heap → Prop)

noncomputable abbrev Hp := Addr → Option HO
noncomputable def upd (H : Hp) (a : Addr) (o : HO) : Hp := fun b => if b = a then some o else H b
theorem upd_same {H : Hp} {a : Addr} {o : HO} : upd H a o a = some o := by unfold upd; rw [if_pos rfl]
theorem upd_ne {H : Hp} {a b : Addr} {o : HO} (h : b ≠ a) : upd H a o b = H b := by unfold upd; rw [if_neg h]
theorem ne_of {H : Hp} {a b : Addr} {o u : HO} (h : H a = some o) (h' : H b = some u) (d : o ≠ u) : a ≠ b := by
  intro e; subst e; rw [h] at h'; exact d (Option.some.inj h')
theorem ne_of_none {H : Hp} {a b : Addr} {o : HO} (h : H a = some o) (h' : H b = none) : a ≠ b := by
  intro e; subst e; rw [h] at h'; cases h'

section
variable (P : Program) (w : World)
noncomputable def ObjOk (H : Hp) (h : Heap) (a : Addr) : HO → Prop
  | .lst xs => xs.length ≤ sizeLine ∧ ∃ (its : List Value) (n : Nat), Vals xs its ∧ h.get? a = some { cls := .type "list", data := .seq its.toArray n }
  | .tup xs => xs.length ≤ sizeLine ∧ ∃ its : List Value, Vals xs its ∧ IsTup h a its.toArray
  | .dK kvs => kvs.length ≤ sizeLine ∧ (a == sysModules) = false ∧ ∃ vs, KV kvs vs ∧ h.DictOf (mixKind P w) a vs
  | .dT kvs => kvs.length ≤ sizeLine ∧ (a == sysModules) = false ∧ ∃ xs : List (List Key × Addr × Value),
      Paired (fun (p : List Key × V) (q : List Key × Addr × Value) => p.1 = q.1 ∧ H q.2.1 = some (.tup (p.1.map kV)) ∧ RelV p.2 q.2.2) kvs xs ∧
      ∃ o es ep, h.get? a = some o ∧ o.ExactDict ∧ o.data = .dict es ep ∧ es.toList = xs.map (entryOfKey (tupleKind (mixKind P w))) ∧ (xs.map (·.1)).Nodup
  | .set S n => h.SetOf (intKind P w) a S n
  | .ins C dx fs => H dx = some (.own a) ∧ fs.length ≤ 1000 ∧ dx ≠ a ∧ h.get? a = some (PySem.W.instObj C dx) ∧
      ∃ mA, h.Ns1 dx mA ∧ (∀ f, RelO (fs.lookup f) (mA f)) ∧ PySem.Within mA (fs.map (·.1))
  | .own _ => ∃ o, h.get? a = some o
  | .xd fs => ∃ mA, h.Ns1 a mA ∧ ∀ f, RelO (fs.lookup f) (mA f)
  | .rng lo hi => ∃ t u v, h.get? a = some { cls := .type "range", data := .fields #[.int lo t, .int hi u, .int 1 v] }
  | .frz o u => h.get? a = some o ∧ ObjOk H h a u
  | .tbl ps => h.get? a = some { cls := .none, data := .fields ps }
  | .met f x => h.get? a = some (PySem.W.methodObj (.ref f) (.ref x))
  | .ext φ => φ h ∧ (∃ o, h.get? a = some o) ∧ ∀ h1 h2 : Heap, φ h1 → (∀ o, h1.get? a = some o → h2.get? a = some o) → φ h2
noncomputable def HOk (H : Hp) (h : Heap) : Prop := ∀ a o, H a = some o → ObjOk P w H h a o
end

section
variable {P : Program} {w : World} {H H' : Hp} {h h' : Heap} {a : Addr} {o : HO}
theorem ObjOk.lt (x : ObjOk P w H h a o) : a < h.objs.size := by
  cases o with
  | lst xs => obtain ⟨_, _, _, _, e⟩ := x; exact Heap.lt_size e
  | tup xs => obtain ⟨_, _, _, p⟩ := x; exact p.lt
  | dK kvs => obtain ⟨_, _, _, _, o, _, _, e, _⟩ := x; exact Heap.lt_size e
  | dT kvs => obtain ⟨_, _, _, _, o, _, _, e, _⟩ := x; exact Heap.lt_size e
  | set S n => obtain ⟨o, _, _, _, e, _⟩ := x; exact Heap.lt_size e
  | ins C dx fs => obtain ⟨_, _, _, e, _⟩ := x; exact Heap.lt_size e
  | own y => obtain ⟨_, e⟩ := x; exact Heap.lt_size e
  | xd fs => obtain ⟨_, ⟨_, _, _, e, _⟩, _⟩ := x; exact Heap.lt_size e
  | rng lo hi => obtain ⟨_, _, _, e⟩ := x; exact Heap.lt_size e
  | frz ob u => obtain ⟨e, _⟩ := x; exact Heap.lt_size e
  | tbl ps => exact Heap.lt_size (show h.get? a = some _ from x)
  | met f y => exact Heap.lt_size (show h.get? a = some _ from x)
  | ext φ => obtain ⟨_, ⟨_, e⟩, _⟩ := x; exact Heap.lt_size e
theorem Paired.mapP {α β : Type} {F G : α → β → Prop} : ∀ {l₁ : List α} {l₂ : List β}, Paired F l₁ l₂ → (∀ a b, F a b → G a b) → Paired G l₁ l₂
  | _, _, .nil, _ => .nil
  | _, _, .cons r t, f => .cons (f _ _ r) (Paired.mapP t f)
theorem ObjOk.stay (x : ObjOk P w H h a o) (k : ∀ b u, (b = a ∨ H b = some (.own a)) → h.get? b = some u → h'.get? b = some u)
    (ho : ∀ b, H b = some (.own a) → H' b = some (.own a)) (ht : ∀ b xs, H b = some (.tup xs) → H' b = some (.tup xs)) : ObjOk P w H' h' a o := by
  induction o with
  | lst xs => obtain ⟨z, its, n, r, e⟩ := x; exact ⟨z, its, n, r, k _ _ (.inl rfl) e⟩
  | tup xs => obtain ⟨z, its, r, ob, e, c⟩ := x; exact ⟨z, its, r, ob, k _ _ (.inl rfl) e, c⟩
  | dK kvs => obtain ⟨z, y, vs, r, ob, es, ep, e, c⟩ := x; exact ⟨z, y, vs, r, ob, es, ep, k _ _ (.inl rfl) e, c⟩
  | dT kvs =>
    obtain ⟨z, y, xs, r, ob, es, ep, e, c⟩ := x
    exact ⟨z, y, xs, Paired.mapP r fun p q z => ⟨z.1, ht _ _ z.2.1, z.2.2⟩, ob, es, ep, k _ _ (.inl rfl) e, c⟩
  | set S n => obtain ⟨ob, es, ep, t, e, c⟩ := x; exact ⟨ob, es, ep, t, k _ _ (.inl rfl) e, c⟩
  | ins C dx fs =>
    obtain ⟨d, z, ne, e, mA, ⟨od, es, ep, e2, c⟩, r⟩ := x
    exact ⟨ho _ d, z, ne, k _ _ (.inl rfl) e, mA, ⟨od, es, ep, k _ _ (.inr d) e2, c⟩, r⟩
  | own y => obtain ⟨ob, e⟩ := x; exact ⟨ob, k _ _ (.inl rfl) e⟩
  | xd fs => obtain ⟨mA, ⟨od, es, ep, e, c⟩, r⟩ := x; exact ⟨mA, ⟨od, es, ep, k _ _ (.inl rfl) e, c⟩, r⟩
  | rng lo hi => obtain ⟨t, u, v, e⟩ := x; exact ⟨t, u, v, k _ _ (.inl rfl) e⟩
  | frz ob u ih => obtain ⟨e, q⟩ := x; exact ⟨k _ _ (.inl rfl) e, ih q⟩
  | tbl ps =>
    have e : h.get? a = some { cls := .none, data := .fields ps } := x
    show h'.get? a = some { cls := .none, data := .fields ps }
    exact k a _ (.inl rfl) e
  | met f y =>
    have e : h.get? a = some (PySem.W.methodObj (.ref f) (.ref y)) := x
    show h'.get? a = some (PySem.W.methodObj (.ref f) (.ref y))
    exact k a _ (.inl rfl) e
  | ext φ => obtain ⟨p, ⟨o, e⟩, st⟩ := x; exact ⟨st _ _ p fun o q => k _ _ (.inl rfl) q, ⟨o, k _ _ (.inl rfl) e⟩, st⟩
theorem HOk.lt (x : HOk P w H h) (e : H a = some o) : a < h.objs.size := (x a o e).lt
theorem HOk.fresh (x : HOk P w H h) (e : h.objs.size ≤ a) : H a = none := by
  cases q : H a with
  | none => rfl
  | some u => exact absurd (Nat.lt_of_lt_of_le (x.lt q) e) (Nat.lt_irrefl _)
theorem HOk.kept (x : HOk P w H h) (k : ∀ b u, h.get? b = some u → h'.get? b = some u) : HOk P w H h' := fun a o e =>
  (x a o e).stay (fun b u _ q => k b u q) (fun _ q => q) fun _ _ q => q
theorem HOk.laid (x : HOk P w H h) (k : ∀ b u, h.get? b = some u → h'.get? b = some u) (hp : h.objs.size ≤ a) (new : ObjOk P w (upd H a o) h' a o) : HOk P w (upd H a o) h' := fun b u e => by
  have hn := x.fresh hp
  by_cases hb : b = a
  · subst hb; rw [upd_same] at e; cases e; exact new
  · rw [upd_ne hb] at e
    exact (x b u e).stay (fun c v _ q => k c v q) (fun c q => by rw [upd_ne (ne_of_none q hn)]; exact q) fun c xs q => by rw [upd_ne (ne_of_none q hn)]; exact q
end

noncomputable def Rd (H : Hp) (a : Addr) (u : HO) : Prop := H a = some u ∨ ∃ o, H a = some (.frz o u)
theorem Rd.ok {P : Program} {w : World} {H : Hp} {h : Heap} {a : Addr} {u : HO} (r : Rd H a u) (x : HOk P w H h) : ObjOk P w H h a u := by
  rcases r with r | ⟨o, r⟩
  · exact x a u r
  · obtain ⟨_, q⟩ := x a _ r
    exact q
noncomputable def Mut : Option HO → Prop
  | some (.lst _) => True
  | some (.dK _) => True
  | some (.dT _) => True
  | some (.set _ _) => True
  | some (.ins _ _ _) => True
  | some (.ext _) => True
  | _ => False
section
variable {P : Program} {w : World} {H : Hp} {h h' : Heap} {x e : Addr} {o' : HO}
theorem HOk.write (ok : HOk P w H h) (mu : Mut (H x)) (he : e = x ∨ H e = some (.own x)) (k : ∀ b u, b ≠ e → h.get? b = some u → h'.get? b = some u) (heo : ∃ u, h'.get? e = some u)
    (new : ObjOk P w (upd H x o') h' x o') : HOk P w (upd H x o') h' := fun b u q => by
  have nown : ∀ c y, H c = some (.own y) → c ≠ x := fun c y r z => by subst z; rw [r] at mu; exact mu
  have ntup : ∀ c xs, H c = some (.tup xs) → c ≠ x := fun c xs r z => by subst z; rw [r] at mu; exact mu
  by_cases hb : b = x
  · subst hb; rw [upd_same] at q; cases q; exact new
  · rw [upd_ne hb] at q
    by_cases hbe : b = e
    · have q' : H b = some (.own x) := by
        rcases he with z | z
        · exact absurd (hbe.trans z) hb
        · rw [hbe]; exact z
      rw [q] at q'; cases q'
      obtain ⟨v, hv⟩ := heo
      exact ⟨v, by rw [hbe]; exact hv⟩
    · refine (ok b u q).stay (fun c v hc r => k c v ?_ r) (fun c r => by rw [upd_ne (nown c b r)]; exact r) fun c xs r => by rw [upd_ne (ntup c xs r)]; exact r
      rcases hc with rfl | hc
      · exact hbe
      · rintro rfl
        rcases he with z | z
        · exact nown c b hc z
        · rw [hc] at z; cases z; exact hb rfl
end

structure Un (fs ex : List Addr) (H H' : Hp) (h h' : Heap) : Prop where
  keep : ∀ b o, h.get? b = some o → H b = none → b ∉ fs → b ∉ ex → h'.get? b = some o
  slot : ∀ b o, h.get? b = some o → H b = none → b ∈ fs → b ∉ ex → ∃ sl, h'.get? b = some { o with slots := sl }
  free : ∀ b o, h.get? b = some o → H b = none → b ∉ ex → H' b = none
  there : ∀ b o, h.get? b = some o → b ∉ ex → ∃ o', h'.get? b = some o'
  tups : ∀ b xs, H b = some (.tup xs) → H' b = some (.tup xs)
  frzs : ∀ b o u, H b = some (.frz o u) → H' b = some (.frz o u)
  tbls : ∀ b ps, H b = some (.tbl ps) → ∃ more, H' b = some (.tbl (ps ++ more))
section
variable {fs fs' ex ex' : List Addr} {H H1 H2 : Hp} {h h1 h2 h' : Heap} {a x e : Addr} {o : HO}
theorem Un.any (u : Un fs ex H H1 h h1) {b : Addr} {ob : Obj} (q : h.get? b = some ob) (n : H b = none) (hx : b ∉ ex) : ∃ sl, h1.get? b = some { ob with slots := sl } := by
  by_cases hb : b ∈ fs
  · exact u.slot b ob q n hb hx
  · exact ⟨ob.slots, u.keep b ob q n hb hx⟩
theorem Un.trans (a : Un fs ex H H1 h h1) (b : Un fs ex H1 H2 h1 h2) : Un fs ex H H2 h h2 where
  keep := fun c ob q n hc hx => b.keep c ob (a.keep c ob q n hc hx) (a.free c ob q n hx) hc hx
  slot := fun c ob q n hc hx => by
    obtain ⟨sl, e1⟩ := a.slot c ob q n hc hx
    obtain ⟨sl', e2⟩ := b.slot c _ e1 (a.free c ob q n hx) hc hx
    exact ⟨sl', e2⟩
  free := fun c ob q n hx => by
    obtain ⟨o', e1⟩ := a.there c ob q hx
    exact b.free c o' e1 (a.free c ob q n hx) hx
  there := fun c ob q hx => by
    obtain ⟨o', e1⟩ := a.there c ob q hx
    exact b.there c o' e1 hx
  tups := fun c xs q => b.tups c xs (a.tups c xs q)
  frzs := fun c ob xs q => b.frzs c ob xs (a.frzs c ob xs q)
  tbls := fun c ps q => by
    obtain ⟨m1, e1⟩ := a.tbls c ps q
    obtain ⟨m2, e2⟩ := b.tbls c _ e1
    exact ⟨m1 ++ m2, by rw [e2, Array.append_assoc]⟩
theorem Un.kept (k : ∀ b u, h.get? b = some u → h'.get? b = some u) : Un fs ex H H h h' :=
  ⟨fun b ob q _ _ _ => k b ob q, fun b ob q _ _ _ => ⟨ob.slots, k b ob q⟩, fun _ _ _ n _ => n, fun b ob q _ => ⟨ob, k b ob q⟩, fun _ _ q => q, fun _ _ _ q => q, fun _ ps q => ⟨#[], by rw [q]; simp⟩⟩
theorem Un.refl : Un fs ex H H h h := Un.kept fun _ _ q => q
theorem Un.laid (k : ∀ b u, h.get? b = some u → h'.get? b = some u) (hp : h.objs.size ≤ a) (hn : H a = none) : Un fs ex H (upd H a o) h h' where
  keep := fun b u q _ _ _ => k b u q
  slot := fun b u q _ _ _ => ⟨u.slots, k b u q⟩
  free := fun b u q n _ => by rw [upd_ne (Nat.ne_of_lt (Nat.lt_of_lt_of_le (Heap.lt_size q) hp))]; exact n
  there := fun b u q _ => ⟨u, k b u q⟩
  tups := fun b xs q => by rw [upd_ne (ne_of_none q hn)]; exact q
  frzs := fun b u xs q => by rw [upd_ne (ne_of_none q hn)]; exact q
  tbls := fun b ps q => ⟨#[], by rw [upd_ne (ne_of_none q hn), q]; simp⟩
theorem Un.write (mu : Mut (H x)) (he : e = x ∨ H e = some (.own x)) (k : ∀ b u, b ≠ e → h.get? b = some u → h'.get? b = some u) (heo : ∃ u, h'.get? e = some u) : Un fs ex H (upd H x o) h h' := by
  have hx : ∀ b, H b = none → b ≠ x := fun b n z => by subst z; rw [n] at mu; exact mu
  have hb : ∀ b, H b = none → b ≠ e := fun b n z => by
    subst z
    rcases he with r | r
    · exact hx b n r
    · rw [n] at r; cases r
  have hm : ∀ b u, H b = some u → ¬ Mut (some u) → b ≠ x := fun b u q nm z => by subst z; rw [q] at mu; exact nm mu
  refine ⟨fun b u q n _ _ => k b u (hb b n) q, fun b u q n _ _ => ⟨u.slots, k b u (hb b n) q⟩, fun b u q n _ => by rw [upd_ne (hx b n)]; exact n, fun b u q _ => ?_,
    fun b xs q => by rw [upd_ne (hm b _ q fun z => z)]; exact q, fun b u xs q => by rw [upd_ne (hm b _ q fun z => z)]; exact q, fun b ps q => ⟨#[], by rw [upd_ne (hm b _ q fun z => z), q]; simp⟩⟩
  by_cases hbe : b = e
  · subst hbe; exact heo
  · exact ⟨u, k b u hbe q⟩
theorem Un.mono (u : Un fs ex H H1 h h1) (hs : ∀ b ∈ fs, b ∈ fs') (hx : ∀ b ∈ ex, b ∈ ex') : Un fs' ex' H H1 h h1 :=
  ⟨fun b ob q n hb he => u.keep b ob q n (fun z => hb (hs b z)) fun z => he (hx b z), fun _ _ q n _ he => u.any q n fun z => he (hx _ z), fun b ob q n he => u.free b ob q n fun z => he (hx b z), fun b ob q he => u.there b ob q fun z => he (hx b z), u.tups, u.frzs, u.tbls⟩
end

noncomputable def trk (h : Heap) (H : Hp) : List Addr := (List.range h.objs.size).filter fun a => (H a).isSome
noncomputable def hidT (h : Heap) (H : Hp) : Heap := PySem.W.hideAll h (trk h H)
theorem hidT_size (h : Heap) (H : Hp) : (hidT h H).objs.size = h.objs.size := PySem.W.hideAll_size _ _
theorem hidT_get {h : Heap} {H : Hp} {b : Addr} {o : Obj} (e : h.get? b = some o) (n : H b = none) : (hidT h H).get? b = some o :=
  PySem.W.hideAll_get _ e fun hm => by
    have q : (H b).isSome = true := (List.mem_filter.mp hm).2
    rw [n] at q; simp at q
theorem of_hidT {h : Heap} {H : Hp} {b : Addr} {o : Obj} (e : (hidT h H).get? b = some o) : h.get? b = some o ∧ H b = none := by
  have e' : h.get? b = some o := PySem.W.of_hideAll (trk h H) e
  refine ⟨e', ?_⟩
  cases q : H b with
  | none => rfl
  | some x =>
    have hm : b ∈ trk h H := List.mem_filter.mpr ⟨List.mem_range.mpr (Heap.lt_size e'), by simp [q]⟩
    have z : (hidT h H).get? b = none := PySem.W.hideAll_none (trk h H) hm
    rw [z] at e; cases e

noncomputable def allNews (g h : Heap) (L : Addr) : List (Addr × Obj) := (List.range h.objs.size).filterMap fun a => if a = L ∨ (g.get? a).isSome = true then none else (h.get? a).map fun o => (a, o)
noncomputable def rest (g h : Heap) (L d : Addr) : List (Addr × Obj) := (allNews g h L).filter fun p => decide (p.1 ≠ d)
end L2

namespace L2
open PySem PySem.Spec PyProof.Rows

structure Mod (K : PySem.W.Frag) (mg : Str → Option Value) (base : Heap) : Prop where
  kin : K.In base
  glob : base.Ns mainGlobals mg
  blt : ∃ mb, base.Ns builtinsNs mb ∧ ∀ x : Str, x ≠ "__name__" → mb x = bootBuiltins x
  nolimit : base.NoLimit

structure Cx where
  prog : Program
  w : World
  K : PySem.W.Frag
  mg : Str → Option Value
  base : Heap
  A : Around
  N : List Str
  s₀ : Shared
  H₀ : Hp
  env : Env
  outer : List Env
  stack : List Env
  ex : List Addr
  fn : Str → Bool
  calm : Bool
  pn : List (Addr × Obj)
  xe : Value → Shared → Prop
noncomputable def frs (l : List Env) : List Addr := l.filterMap (·.frame)
noncomputable abbrev Cx.fs (X : Cx) : List Addr := frs X.outer

noncomputable def Vis (sc : Scope) (x : Str) : Prop := sc.names.lookup x = some .local ∨ sc.names.lookup x = some .cell ∨ sc.names.lookup x = some .free
noncomputable def Loc (sc : Scope) (x : Str) : Prop := sc.names.lookup x = some .local ∨ sc.names.lookup x = some .cell
noncomputable def Look (env : Env) (h : Heap) (m : Str → Option Value) (x : Str) (u : Value) : Prop :=
  (env.kindOf x = some .local ∧ m x = some u) ∨ ((env.kindOf x = some .cell ∨ env.kindOf x = some .free) ∧ ∃ c, env.cells.lookup x = some c ∧ h.IsCell c (some u))

structure Cx.Ok (X : Cx) : Prop where
  mod : Mod X.K X.mg X.base
  kind : X.env.scope.kind = .function
  glob : X.env.globals = mainGlobals
  blt : X.env.builtins = builtinsNs
  above : X.s₀.heap.objs.size ≤ X.env.locals
  inj : ∀ x y c, X.env.cells.lookup x = some c → X.env.cells.lookup y = some c → x = y
  has : ∀ x, (X.env.kindOf x = some .cell ∨ X.env.kindOf x = some .free) → ∃ c, X.env.cells.lookup x = some c
  cab : ∀ x c, X.fn x = true → X.env.cells.lookup x = some c → X.s₀.heap.objs.size ≤ c
  hd : X.calm = true → X.A.handled = none
  frames : X.A.frames = some X.stack
  stk : X.stack = X.outer ∨ (X.stack = X.env :: X.outer ∧ X.env.frame = some X.env.locals)
  exf : ∀ b ∈ X.ex, b ≠ X.env.locals ∧ ∀ x c, X.env.cells.lookup x = some c → c ≠ b
  bs : ∀ b o, X.base.get? b = some o → X.s₀.heap.get? b = some o ∧ X.H₀ b = none
  bsz : X.base.objs.size ≤ X.s₀.heap.objs.size
  noex : ∀ b o, X.base.get? b = some o → b ∉ X.ex
  exfs : ∀ b ∈ X.ex, b ∉ X.fs
  funs : X.s₀.heap.FunFrames X.base X.outer
  frf : ∀ b ∈ X.fs, X.H₀ b = none

structure Inv (X : Cx) (pins : List (Addr × Obj)) (σ : List (Option V)) (H : Hp) (s : Shared) : Prop where
  ok : X.Ok
  os : s.os = X.s₀.os
  bare : AllBare s.gens
  base : Un X.fs X.ex X.H₀ H X.s₀.heap s.heap
  loc : ∃ m, s.heap.Ns X.env.locals m ∧ ∀ (i : Nat) (x : Str) (v : V), X.N[i]? = some x → σ[i]? = some (some v) → Vis X.env.scope x → ∃ u, RelV v u ∧ Look X.env s.heap m x u
  cell : ∀ x c, X.env.cells.lookup x = some c → ∃ v, s.heap.IsCell c v
  free : H X.env.locals = none
  freeC : ∀ x c, X.env.cells.lookup x = some c → H c = none
  pin : ∀ p ∈ X.pn ++ pins, s.heap.get? p.1 = some p.2 ∧ H p.1 = none ∧ p.1 ≠ X.env.locals ∧ p.1 ∉ X.fs ∧ ∀ v, p.2.data ≠ .cell v
  hok : HOk X.prog X.w H s.heap
  len : σ.length = X.N.length

section
variable {X : Cx} {pins : List (Addr × Obj)} {σ : List (Option V)} {H H' : Hp} {s : Shared} {h' : Heap}

theorem Cx.Ok.nofr (ok : X.Ok) {b : Addr} {o : Obj} (e : X.base.get? b = some o) : b ∉ X.fs := fun hb => by
  have := (ok.funs.mem hb).1
  rw [e] at this; cases this
theorem Inv.bs (I : Inv X pins σ H s) : ∀ b o, X.base.get? b = some o → s.heap.get? b = some o ∧ H b = none := fun b o e =>
  ⟨I.base.keep b o (I.ok.bs b o e).1 (I.ok.bs b o e).2 (I.ok.nofr e) (I.ok.noex b o e), I.base.free b o (I.ok.bs b o e).1 (I.ok.bs b o e).2 (I.ok.noex b o e)⟩
theorem Inv.bk (I : Inv X pins σ H s) : ∀ b o, X.base.get? b = some o → s.heap.get? b = some o := fun b o e => (I.bs b o e).1
theorem Inv.mod (I : Inv X pins σ H s) : Mod X.K X.mg X.base := I.ok.mod
theorem Inv.kIn (I : Inv X pins σ H s) : X.K.In s.heap := I.ok.mod.kin.keeps I.bk
theorem Inv.nolimit (I : Inv X pins σ H s) : s.heap.NoLimit := I.ok.mod.nolimit.keeps I.bk
theorem Inv.lt (I : Inv X pins σ H s) : X.env.locals < s.heap.objs.size := let ⟨_, hn, _⟩ := I.loc; hn.lt
theorem Inv.sz (I : Inv X pins σ H s) : X.s₀.heap.objs.size ≤ s.heap.objs.size := Nat.le_trans I.ok.above (Nat.le_of_lt I.lt)
theorem Inv.nofs (I : Inv X pins σ H s) {a : Addr} (h : s.heap.objs.size ≤ a) : a ∉ X.fs := fun hb => by
  obtain ⟨_, o, ho, _⟩ := I.ok.funs.mem hb
  exact absurd (Nat.lt_of_lt_of_le (Heap.lt_size ho) (Nat.le_trans I.sz h)) (Nat.lt_irrefl _)
theorem Inv.cne (I : Inv X pins σ H s) : ∀ x c, X.env.cells.lookup x = some c → c ≠ X.env.locals := fun x c e z => by
  obtain ⟨v, o, ho, hd⟩ := I.cell x c e
  obtain ⟨m, ⟨o', es, ep, ho', hd', _⟩, _⟩ := I.loc
  rw [z, ho'] at ho; cases ho; rw [hd'] at hd; cases hd
theorem Inv.funs (I : Inv X pins σ H s) : s.heap.FunFrames X.base X.outer := by
  have all : ∀ (l : List Env), (∀ b ∈ frs l, b ∈ X.fs) → X.s₀.heap.FunFrames X.base l → s.heap.FunFrames X.base l := by
    intro l
    induction l with
    | nil => intro _ _; trivial
    | cons env r ih =>
      intro hs hl
      obtain ⟨hk, ⟨L, o, hf, hn, ho, hd⟩, hr⟩ := hl
      have hL : L ∈ X.fs := hs L (by unfold frs; rw [List.filterMap_cons, hf]; exact List.mem_cons_self)
      obtain ⟨sl, e⟩ := I.base.slot L o ho (I.ok.frf L hL) hL fun z => I.ok.exfs L z hL
      exact ⟨hk, ⟨L, _, hf, hn, e, hd⟩, ih (fun b hb => hs b (by unfold frs; rw [List.filterMap_cons, hf]; exact List.mem_cons_of_mem _ hb)) hr⟩
  exact all X.outer (fun _ hb => hb) I.ok.funs

theorem Inv.stack (I : Inv X pins σ H s) : s.heap.FunFrames X.base X.stack := by
  rcases I.ok.stk with e | ⟨e, hf⟩
  · rw [e]; exact I.funs
  · rw [e]
    obtain ⟨m, hn, _⟩ := I.loc
    refine .cons (by rw [I.ok.kind]; decide) hf hn ?_ I.funs
    exact Heap.get?_none_of_le (Nat.le_trans I.ok.bsz I.ok.above)
theorem Inv.stkSub (I : Inv X pins σ H s) : ∀ b ∈ frs X.stack, b ∈ X.env.locals :: X.fs := fun b hb => by
  rcases I.ok.stk with e | ⟨e, hf⟩
  · rw [e] at hb; exact List.mem_cons_of_mem _ hb
  · rw [e] at hb
    unfold frs at hb
    rw [List.filterMap_cons, hf] at hb
    exact hb
theorem Inv.stkFree (I : Inv X pins σ H s) : ∀ b ∈ frs X.stack, H b = none := fun b hb => by
  rcases List.mem_cons.mp (I.stkSub b hb) with e | hb
  · rw [e]; exact I.free
  · obtain ⟨_, o, ho, _⟩ := I.ok.funs.mem hb
    exact I.base.free b o ho (I.ok.frf b hb) fun z => I.ok.exfs b z hb

theorem Inv.step {g' : Array GenState} {t' : Nat} {d' : Drawn} {ch : List Addr} (I : Inv X pins σ H s)
    (hch : ∀ b ∈ ch, (b ∈ X.ex ∨ X.s₀.heap.objs.size ≤ b) ∧ b ≠ X.env.locals ∧ (∀ x c, X.env.cells.lookup x = some c → c ≠ b) ∧ ∀ p ∈ X.pn ++ pins, p.1 ≠ b)
    (keep : ∀ b o, b ≠ X.env.locals → b ∉ X.fs → b ∉ ch → s.heap.get? b = some o → H b = none → h'.get? b = some o)
    (slot : ∀ b o, b ≠ X.env.locals → b ∈ X.fs → b ∉ ch → s.heap.get? b = some o → H b = none → ∃ sl, h'.get? b = some { o with slots := sl }) (free : ∀ b o, b ∉ ch → s.heap.get? b = some o → H b = none → H' b = none)
    (there : ∀ b o, b ∉ ch → s.heap.get? b = some o → ∃ o', h'.get? b = some o')
    (tups : ∀ b xs, H b = some (.tup xs) → H' b = some (.tup xs)) (frzs : ∀ b o u, H b = some (.frz o u) → H' b = some (.frz o u)) (tbls : ∀ b ps, H b = some (.tbl ps) → ∃ more, H' b = some (.tbl (ps ++ more)))
    (ns : ∀ m, s.heap.Ns X.env.locals m → h'.Ns X.env.locals m) (hok : HOk X.prog X.w H' h') (hg : AllBare g') :
    Inv X pins σ H' { s with heap := h', gens := g', drawn := d', toks := t' } := by
  have neL : ∀ b o, X.s₀.heap.get? b = some o → b ≠ X.env.locals := fun b o e => Nat.ne_of_lt (Nat.lt_of_lt_of_le (Heap.lt_size e) I.ok.above)
  have neC : ∀ b o, X.s₀.heap.get? b = some o → b ∉ X.ex → b ∉ ch := fun b o e hx hb => by
    rcases (hch b hb).1 with z | z
    · exact hx z
    · exact absurd (Nat.lt_of_lt_of_le (Heap.lt_size e) z) (Nat.lt_irrefl _)
  have cellK : ∀ x c, X.env.cells.lookup x = some c → ∀ v, s.heap.IsCell c v → h'.IsCell c v := fun x c e v ⟨o, ho, hd⟩ => by
    have nch : c ∉ ch := fun z => (hch c z).2.2.1 x c e rfl
    by_cases hc : c ∈ X.fs
    · obtain ⟨sl, q⟩ := slot c o (I.cne x c e) hc nch ho (I.freeC x c e)
      exact ⟨_, q, hd⟩
    · exact ⟨o, keep c o (I.cne x c e) hc nch ho (I.freeC x c e), hd⟩
  refine ⟨I.ok, I.os, hg, ⟨fun b o e n hb hx => ?_, fun b o e n hb hx => ?_, fun b o e n hx => ?_, fun b o e hx => ?_, fun b xs e => tups b xs (I.base.tups b xs e), fun b o xs e => frzs b o xs (I.base.frzs b o xs e), fun b ps e => ?_⟩, ?_, fun x c e => ?_, ?_, fun x c e => ?_, fun p hp => ?_, hok, I.len⟩
  · exact keep b o (neL b o e) hb (neC b o e hx) (I.base.keep b o e n hb hx) (I.base.free b o e n hx)
  · obtain ⟨sl, e1⟩ := I.base.slot b o e n hb hx
    obtain ⟨sl', e2⟩ := slot b _ (neL b o e) hb (neC b o e hx) e1 (I.base.free b o e n hx)
    exact ⟨sl', e2⟩
  · obtain ⟨o', e1⟩ := I.base.there b o e hx
    exact free b o' (neC b o e hx) e1 (I.base.free b o e n hx)
  · obtain ⟨o', e1⟩ := I.base.there b o e hx
    exact there b o' (neC b o e hx) e1
  · obtain ⟨m1, e1⟩ := I.base.tbls b ps e
    obtain ⟨m2, e2⟩ := tbls b _ e1
    exact ⟨m1 ++ m2, by rw [e2, Array.append_assoc]⟩
  · obtain ⟨m, hn, hl⟩ := I.loc
    refine ⟨m, ns m hn, fun i x v e1 e2 e3 => ?_⟩
    obtain ⟨u, r, l⟩ := hl i x v e1 e2 e3
    refine ⟨u, r, ?_⟩
    rcases l with l | ⟨k, c, e, z⟩
    · exact .inl l
    · exact .inr ⟨k, c, e, cellK x c e _ z⟩
  · obtain ⟨v, z⟩ := I.cell x c e
    exact ⟨v, cellK x c e v z⟩
  · obtain ⟨m, ⟨o, _, _, ho, _⟩, _⟩ := I.loc
    exact free _ o (fun z => (hch _ z).2.1 rfl) ho I.free
  · obtain ⟨v, o, ho, hd⟩ := I.cell x c e
    exact free c o (fun z => (hch c z).2.2.1 x c e rfl) ho (I.freeC x c e)
  · obtain ⟨e, n, ne, nf, d⟩ := I.pin p hp
    have nch : p.1 ∉ ch := fun z => (hch p.1 z).2.2.2 p hp rfl
    exact ⟨keep p.1 p.2 ne nf nch e n, free p.1 p.2 nch e n, ne, nf, d⟩
theorem Inv.un {t' : Nat} (I : Inv X pins σ H s) (u : Un X.fs [] H H' s.heap h') (hok : HOk X.prog X.w H' h') : Inv X pins σ H' { s with heap := h', toks := t' } := by
  obtain ⟨m, ⟨o, es, ep, ho, r⟩, _⟩ := id I.loc
  obtain ⟨sl, hL⟩ := u.any ho I.free (by simp)
  exact I.step (g' := s.gens) (d' := s.drawn) (ch := []) (fun _ z => nomatch z) (fun b o _ hb _ e n => u.keep b o e n hb (by simp)) (fun b o _ hb _ e n => u.slot b o e n hb (by simp)) (fun b o _ e n => u.free b o e n (by simp)) (fun b o _ e => u.there b o e (by simp)) u.tups u.frzs u.tbls (fun m' hm => by
    obtain ⟨o', es', ep', ho', r'⟩ := hm
    rw [ho] at ho'; cases ho'
    exact ⟨_, es', ep', hL, r'⟩) hok I.bare
theorem Inv.call {g' : Array GenState} {t' : Nat} {d' : Drawn} {ch : List Addr} (I : Inv X pins σ H s) (u : Un (frs X.stack) ch H H' s.heap h') (hok : HOk X.prog X.w H' h') (hg : AllBare g')
    (hch : ∀ b ∈ ch, (b ∈ X.ex ∨ X.s₀.heap.objs.size ≤ b) ∧ b ≠ X.env.locals ∧ (∀ x c, X.env.cells.lookup x = some c → c ≠ b) ∧ ∀ p ∈ X.pn ++ pins, p.1 ≠ b) :
    Inv X pins σ H' { s with heap := h', gens := g', drawn := d', toks := t' } := by
  obtain ⟨m, ⟨o, es, ep, ho, r⟩, _⟩ := id I.loc
  obtain ⟨sl, hL⟩ := u.any ho I.free fun z => (hch _ z).2.1 rfl
  exact I.step (ch := ch) hch (fun b o hL hb hc e n => u.keep b o e n (fun z => (List.mem_cons.mp (I.stkSub b z)).elim hL hb) hc) (fun b o _ _ hc e n => u.any e n hc) (fun b o hc e n => u.free b o e n hc) (fun b o hc e => u.there b o e hc) u.tups u.frzs u.tbls (fun m' hm => by
    obtain ⟨o', es', ep', ho', r'⟩ := hm
    rw [ho] at ho'; cases ho'
    exact ⟨_, es', ep', hL, r'⟩) hok hg
theorem Inv.turned {t' : Nat} {it : Addr} (I : Inv X pins σ H s) (k : ∀ b o, b ≠ it → s.heap.get? b = some o → h'.get? b = some o) (hn : H it = none) (hL : it ≠ X.env.locals)
    (h1 : it ∈ X.ex ∨ X.s₀.heap.objs.size ≤ it) (h2 : ∀ x c, X.env.cells.lookup x = some c → c ≠ it) (h3 : ∀ p ∈ X.pn ++ pins, p.1 ≠ it) : Inv X pins σ H { s with heap := h', toks := t' } := by
  have nit : ∀ b u, H b = some u → b ≠ it := fun b u e z => by rw [z, hn] at e; cases e
  refine I.step (g' := s.gens) (d' := s.drawn) (ch := [it]) (fun b hb => ?_) (fun b o _ _ hc e _ => k b o (fun z => hc (by simp [z])) e) (fun b o _ _ hc e _ => ⟨o.slots, k b o (fun z => hc (by simp [z])) e⟩) (fun _ _ _ _ n => n)
    (fun b o hc e => ⟨o, k b o (fun z => hc (by simp [z])) e⟩) (fun _ _ e => e) (fun _ _ _ e => e) (fun b ps e => ⟨#[], by rw [e]; simp⟩) (fun m hm => ?_) (fun b u e => ?_) I.bare
  · have e : b = it := by simpa using hb
    subst e
    exact ⟨h1, hL, h2, h3⟩
  · obtain ⟨o, es, ep, ho, r⟩ := hm
    exact ⟨o, es, ep, k _ o (Ne.symm hL) ho, r⟩
  · refine (I.hok b u e).stay (fun c v hc q => k c v ?_ q) (fun _ q => q) fun _ _ q => q
    rcases hc with z | z
    · rw [z]; exact nit b u e
    · exact nit c _ z
theorem Inv.tok (I : Inv X pins σ H s) (t : Nat) : Inv X pins σ H { s with toks := t } := I.un (h' := s.heap) (t' := t) Un.refl I.hok
theorem Inv.kept {t' : Nat} (I : Inv X pins σ H s) (k : ∀ b u, s.heap.get? b = some u → h'.get? b = some u) : Inv X pins σ H { s with heap := h', toks := t' } := I.un (Un.kept k) (I.hok.kept k)
theorem Inv.laid {a : Addr} {o : HO} {t' : Nat} (I : Inv X pins σ H s) (k : ∀ b u, s.heap.get? b = some u → h'.get? b = some u) (hp : s.heap.objs.size ≤ a) (new : ObjOk X.prog X.w (upd H a o) h' a o) :
    Inv X pins σ (upd H a o) { s with heap := h', toks := t' } := I.un (Un.laid k hp (I.hok.fresh hp)) (I.hok.laid k hp new)
theorem Inv.write {x e : Addr} {o : HO} {t' : Nat} (I : Inv X pins σ H s) (mu : Mut (H x)) (he : e = x ∨ H e = some (.own x)) (k : ∀ b u, b ≠ e → s.heap.get? b = some u → h'.get? b = some u) (heo : ∃ u, h'.get? e = some u)
    (new : ObjOk X.prog X.w (upd H x o) h' x o) : Inv X pins σ (upd H x o) { s with heap := h', toks := t' } := I.un (Un.write mu he k heo) (I.hok.write mu he k heo new)
theorem Inv.weak {σ' : List (Option V)} (I : Inv X pins σ H s) (hl : σ'.length = σ.length) (w : ∀ (i : Nat) v, σ'[i]? = some (some v) → σ[i]? = some (some v)) : Inv X pins σ' H s :=
  ⟨I.ok, I.os, I.bare, I.base, let ⟨m, hn, hl'⟩ := I.loc; ⟨m, hn, fun i x v e1 e2 e3 => hl' i x v e1 (w i v e2) e3⟩, I.cell, I.free, I.freeC, I.pin, I.hok, hl.trans I.len⟩
theorem Inv.pins_of {pins' : List (Addr × Obj)} (I : Inv X pins σ H s) (h : ∀ p ∈ pins', s.heap.get? p.1 = some p.2 ∧ H p.1 = none ∧ p.1 ≠ X.env.locals ∧ p.1 ∉ X.fs ∧ ∀ v, p.2.data ≠ .cell v) : Inv X pins' σ H s :=
  ⟨I.ok, I.os, I.bare, I.base, I.loc, I.cell, I.free, I.freeC, fun p hp => (List.mem_append.mp hp).elim (fun z => I.pin p (List.mem_append_left _ z)) (h p), I.hok, I.len⟩

theorem nodup_ix {N : List Str} (hN : N.Nodup) {i j : Nat} {x : Str} (a : N[i]? = some x) (b : N[j]? = some x) : i = j := by
  obtain ⟨h1, e1⟩ := List.getElem?_eq_some_iff.mp a
  obtain ⟨h2, e2⟩ := List.getElem?_eq_some_iff.mp b
  exact (List.getElem_inj hN).mp (e1.trans e2.symm)

theorem store_ok2 {M : Model} {A : Around} {E : Value → Shared → Prop} {i : Nat} {x : Str} {v : V} {u : Value} {Q : Unit → Shared → Prop} (I : Inv X pins σ H s) (hN : X.N.Nodup) (hi : X.N[i]? = some x) (hx : Loc X.env.scope x) (r : RelV v u)
    (h : ∀ s', Inv X pins (σ.set i (some v)) H s' → (∃ a, Heap.SameBut a s.heap s'.heap ∧ (a = X.env.locals ∨ X.env.cells.lookup x = some a)) → Q () s') (hf : X.fn x = true ∨ X.env.scope.names.lookup x = some .local := by first | exact .inl rfl | exact .inr rfl | assumption) : wpAny M A (storeName X.env x u) Q E s := by
  obtain ⟨m, hn, hl⟩ := id I.loc
  have hcls : (X.env.scope.kind == .class || (X.env.scope.kind == .module && X.env.locals != X.env.globals)) = false := by rw [I.ok.kind]; rfl
  have hiσ : i < σ.length := by rw [I.len]; exact (List.getElem?_eq_some_iff.mp hi).1
  have cne := I.cne
  have tracked : ∀ {a : Addr} {h' : Heap}, (∃ o, s.heap.get? a = some o ∧ H a = none) → Heap.SameBut a s.heap h' → HOk X.prog X.w H h' := fun {a h'} ha hs b ob e => by
    obtain ⟨_, _, hfree⟩ := ha
    refine (I.hok b ob e).stay (fun c w' hc q => (hs.2 c ?_).trans q) (fun _ q => q) fun _ _ q => q
    rintro rfl
    rcases hc with rfl | hc
    · rw [hfree] at e; cases e
    · rw [hfree] at hc; cases hc
  rcases hx with hk | hk
  · refine wpAny_storeName_local hk hn (fun h' hn' hs => ?_) hcls
    obtain ⟨oL, _, _, hoL, _⟩ := id hn
    refine h _ ⟨I.ok, I.os, I.bare, ⟨fun b o e n hb hx => ?_, fun b o e n hb hx => ?_, I.base.free, fun b o e hx => ?_, I.base.tups, I.base.frzs, I.base.tbls⟩, ⟨_, hn', fun j y v' e1 e2 e3 => ?_⟩, fun y c e => ?_, I.free, I.freeC, fun p hp => ?_, tracked ⟨oL, hoL, I.free⟩ hs, by simpa using I.len⟩ ⟨_, hs, .inl rfl⟩
    · exact (hs.2 b (Nat.ne_of_lt (Nat.lt_of_lt_of_le (Heap.lt_size e) I.ok.above))).trans (I.base.keep b o e n hb hx)
    · obtain ⟨sl, e1⟩ := I.base.slot b o e n hb hx
      exact ⟨sl, (hs.2 b (Nat.ne_of_lt (Nat.lt_of_lt_of_le (Heap.lt_size e) I.ok.above))).trans e1⟩
    · obtain ⟨o', e1⟩ := I.base.there b o e hx
      exact ⟨o', (hs.2 b (Nat.ne_of_lt (Nat.lt_of_lt_of_le (Heap.lt_size e) I.ok.above))).trans e1⟩
    · by_cases hj : j = i
      · subst hj
        rw [hi] at e1; cases e1
        rw [List.getElem?_set_self hiσ] at e2
        cases e2
        exact ⟨u, r, .inl ⟨hk, by simp⟩⟩
      · rw [List.getElem?_set_ne (Ne.symm hj)] at e2
        obtain ⟨u', r', q⟩ := hl j y v' e1 e2 e3
        refine ⟨u', r', ?_⟩
        rcases q with ⟨k, e⟩ | ⟨k, c, e, z⟩
        · refine .inl ⟨k, ?_⟩
          have : y ≠ x := fun e => hj (nodup_ix hN e1 (e ▸ hi))
          simp [this, e]
        · exact .inr ⟨k, c, e, z.sameBut hs (cne y c e)⟩
    · obtain ⟨w', z⟩ := I.cell y c e
      exact ⟨w', z.sameBut hs (cne y c e)⟩
    · obtain ⟨e, n, ne, nf, d⟩ := I.pin p hp
      exact ⟨(hs.2 p.1 ne).trans e, n, ne, nf, d⟩
  · have hfn : X.fn x = true := by
      rcases hf with z | z
      · exact z
      · rw [z] at hk; cases hk
    obtain ⟨c, hc⟩ := I.ok.has x (.inl hk)
    obtain ⟨w', z⟩ := I.cell x c hc
    refine wpAny_storeName_cell I.ok.kind hk hc z (fun h' hc' hs => ?_)
    obtain ⟨oc, hoc, hocd⟩ := id z
    refine h { s with heap := h' } ⟨I.ok, I.os, I.bare, ⟨fun b o e n hb hx => ?_, fun b o e n hb hx => ?_, I.base.free, fun b o e hx => ?_, I.base.tups, I.base.frzs, I.base.tbls⟩, ⟨m, hn.sameBut hs (Ne.symm (cne x c hc)), fun j y v' e1 e2 e3 => ?_⟩, fun y c' e => ?_, I.free, I.freeC, fun p hp => ?_, tracked ⟨oc, hoc, I.freeC x c hc⟩ hs, by simpa using I.len⟩ ⟨c, hs, .inr hc⟩
    · exact (hs.2 b (Nat.ne_of_lt (Nat.lt_of_lt_of_le (Heap.lt_size e) (I.ok.cab x c hfn hc)))).trans (I.base.keep b o e n hb hx)
    · obtain ⟨sl, e1⟩ := I.base.slot b o e n hb hx
      exact ⟨sl, (hs.2 b (Nat.ne_of_lt (Nat.lt_of_lt_of_le (Heap.lt_size e) (I.ok.cab x c hfn hc)))).trans e1⟩
    · obtain ⟨o', e1⟩ := I.base.there b o e hx
      exact ⟨o', (hs.2 b (Nat.ne_of_lt (Nat.lt_of_lt_of_le (Heap.lt_size e) (I.ok.cab x c hfn hc)))).trans e1⟩
    · by_cases hj : j = i
      · subst hj
        rw [hi] at e1; cases e1
        rw [List.getElem?_set_self hiσ] at e2
        cases e2
        exact ⟨u, r, .inr ⟨.inl hk, c, hc, hc'⟩⟩
      · rw [List.getElem?_set_ne (Ne.symm hj)] at e2
        obtain ⟨u', r', q⟩ := hl j y v' e1 e2 e3
        refine ⟨u', r', ?_⟩
        rcases q with q | ⟨k, c', e, z'⟩
        · exact .inl q
        · refine .inr ⟨k, c', e, z'.sameBut hs ?_⟩
          rintro rfl
          exact hj (nodup_ix hN e1 (I.ok.inj _ _ _ e hc ▸ hi))
    · by_cases hcc : c' = c
      · subst hcc; exact ⟨_, hc'⟩
      · obtain ⟨w2, z2⟩ := I.cell y c' e
        exact ⟨w2, z2.sameBut hs hcc⟩
    · obtain ⟨e, n, ne, nf, d⟩ := I.pin p hp
      refine ⟨(hs.2 p.1 ?_).trans e, n, ne, nf, d⟩
      intro q
      rw [q, hoc] at e
      have q' : oc = p.2 := Option.some.inj e
      exact d w' (by rw [← q']; exact hocd)
theorem store_ok {M : Model} {A : Around} {E : Value → Shared → Prop} {i : Nat} {x : Str} {v : V} {u : Value} {Q : Unit → Shared → Prop} (I : Inv X pins σ H s) (hN : X.N.Nodup) (hi : X.N[i]? = some x) (hx : Loc X.env.scope x) (r : RelV v u)
    (h : ∀ s', Inv X pins (σ.set i (some v)) H s' → Q () s') (hf : X.fn x = true ∨ X.env.scope.names.lookup x = some .local := by first | exact .inl rfl | exact .inr rfl | assumption) : wpAny M A (storeName X.env x u) Q E s :=
  store_ok2 I hN hi hx r (fun s' I' _ => h s' I') hf
theorem Inv.call' {s' : Shared} {ch : List Addr} (I : Inv X pins σ H s) (ho : s'.os = s.os) (u : Un (frs X.stack) ch H H' s.heap s'.heap) (hok : HOk X.prog X.w H' s'.heap) (hg : AllBare s'.gens)
    (hch : ∀ b ∈ ch, (b ∈ X.ex ∨ X.s₀.heap.objs.size ≤ b) ∧ b ≠ X.env.locals ∧ (∀ x c, X.env.cells.lookup x = some c → c ≠ b) ∧ ∀ p ∈ X.pn ++ pins, p.1 ≠ b) : Inv X pins σ H' s' := by
  obtain ⟨h', g', d', t', o'⟩ := s'
  have e : o' = s.os := ho
  subst e
  exact I.call (g' := g') (t' := t') (d' := d') u hok hg hch
end

noncomputable abbrev XK := Value → Option Addr → Hp → Prop
noncomputable abbrev St := List (Option V)
noncomputable abbrev VK := V → Hp → Prop
noncomputable abbrev TE := St → Hp → VK → Prop
noncomputable abbrev TT := St → Hp → (Bool → Hp → Prop) → Prop
noncomputable abbrev TA := St → Hp → (List V → Hp → Prop) → Prop
structure Ends where
  nx : St → Hp → Prop
  rt : VK
  bk : St → Hp → Prop := fun _ _ => False
  ct : St → Hp → Prop := fun _ _ => False
noncomputable abbrev TS := Ends → St → Hp → Prop

noncomputable def EP (X : Cx) (pins : List (Addr × Obj)) (σ : St) (Q : VK) (u : Value) (s' : Shared) : Prop := ∃ v H', Inv X pins σ H' s' ∧ RelV v u ∧ Q v H'
noncomputable def TP (X : Cx) (pins : List (Addr × Obj)) (σ : St) (Q : Bool → Hp → Prop) (b : Bool) (s' : Shared) : Prop := ∃ H', Inv X pins σ H' s' ∧ Q b H'
noncomputable def AP (X : Cx) (pins : List (Addr × Obj)) (σ : St) (Q : List V → Hp → Prop) (us : List Value) (s' : Shared) : Prop := ∃ vs H', Inv X pins σ H' s' ∧ Vals vs us ∧ Q vs H'
noncomputable def SP (X : Cx) (pins : List (Addr × Obj)) (D : Ends) (f : Flow) (s' : Shared) : Prop :=
  match f with
  | .next => ∃ σ' H', Inv X pins σ' H' s' ∧ D.nx σ' H'
  | .brk => ∃ σ' H', Inv X pins σ' H' s' ∧ D.bk σ' H'
  | .cont => ∃ σ' H', Inv X pins σ' H' s' ∧ D.ct σ' H'
  | .ret u => ∃ v σ' H', Inv X pins σ' H' s' ∧ RelV v u ∧ D.rt v H'

noncomputable def PE (X : Cx) (e : Expr) (t : TE) : Prop :=
  ∀ (pins : List (Addr × Obj)) (s : Shared) (σ : St) (H : Hp) (Q : VK), Inv X pins σ H s → t σ H Q → wpAny (model X.prog X.w) X.A (eval e X.env) (EP X pins σ Q) X.xe s
noncomputable def PT (X : Cx) (e : Expr) (t : TT) : Prop :=
  ∀ (pins : List (Addr × Obj)) (s : Shared) (σ : St) (H : Hp) (Q : Bool → Hp → Prop), Inv X pins σ H s → t σ H Q → wpAny (model X.prog X.w) X.A (isTrue e X.env (eval e X.env)) (TP X pins σ Q) X.xe s
noncomputable def PW (X : Cx) (e : Expr) (t : TT) : Prop :=
  ∀ (whole : Sem Value) (pins : List (Addr × Obj)) (s : Shared) (σ : St) (H : Hp) (Q : Bool → Hp → Prop), Inv X pins σ H s → t σ H Q → wpAny (model X.prog X.w) X.A (isTrue e X.env whole) (TP X pins σ Q) X.xe s
theorem PW.pt {X : Cx} {e : Expr} {t : TT} (h : PW X e t) : PT X e t := h _
noncomputable def PA (X : Cx) (es : List Expr) (t : TA) : Prop :=
  ∀ (pos : Pos) (pins : List (Addr × Obj)) (s : Shared) (σ : St) (H : Hp) (Q : List V → Hp → Prop), Inv X pins σ H s → t σ H Q → wpAny (model X.prog X.w) X.A (spliced (backTo pos (starEach es X.env))) (AP X pins σ Q) X.xe s
noncomputable def PS (X : Cx) (st : Stmt) (t : TS) : Prop :=
  ∀ (pins : List (Addr × Obj)) (s : Shared) (σ : St) (H : Hp) (D : Ends), Inv X pins σ H s → t D σ H → wpAny (model X.prog X.w) X.A (exec st X.env) (SP X pins D) X.xe s
noncomputable def PSs (X : Cx) (st : List Stmt) (t : TS) : Prop :=
  ∀ (pins : List (Addr × Obj)) (s : Shared) (σ : St) (H : Hp) (D : Ends), Inv X pins σ H s → t D σ H → wpAny (model X.prog X.w) X.A (execs st X.env) (SP X pins D) X.xe s
theorem thn {α : Type} {t : Sem α} {Q Q' : α → Shared → Prop} {M : Model} {A : Around} {E : Value → Shared → Prop} {s : Shared} (h : wpAny M A t Q E s) (hQ : ∀ a s, Q a s → Q' a s) : wpAny M A t Q' E s := wpAny_mono h hQ fun _ _ x => x
end L2

namespace L2
open PySem PySem.Spec PyProof.Rows
section
variable {X : Cx}

noncomputable def tVar (i : Nat) : TE := fun σ H Q => ∃ v, σ[i]? = some (some v) ∧ Q v H
noncomputable def tC (v : V) : TE := fun _ H Q => Q v H
theorem pe_var {i : Nat} {x : Str} {pos : Pos} (hN : X.N[i]? = some x) (hv : Vis X.env.scope x) (hd : (x == ("__debug__" : Str)) = false := by decide) (hcd : (x == ("__classdict__" : Str)) = false := by decide) : PE X (.Name x pos) (tVar i) := by
  intro pins s σ H Q I h
  obtain ⟨v, e, h⟩ := h
  obtain ⟨m, hn, hl⟩ := I.loc
  obtain ⟨u, r, l⟩ := hl i x v hN e hv
  have fin : EP X pins σ Q u s := ⟨v, H, I, r, h⟩
  rcases l with ⟨hk, hm⟩ | ⟨hk, c, hc, hcell⟩
  · exact wpAny_Name (wpAny_loadName_local I.ok.kind hk hn hm fin) hd
  · rcases hk with hk | hk
    · exact wpAny_Name (wpAny_loadName_cell I.ok.kind hk hc hcell fin) hd
    · exact wpAny_Name (wpAny_loadName_free I.ok.kind hk hc hcell fin hcd) hd
theorem pe_int {i j pos} : PE X (.Constant (.int i) j pos) (tC (.int i)) := fun _ _ _ H _ I h => wpAny_Constant_int ⟨.int i, H, I.tok _, ⟨_, rfl⟩, h⟩
theorem pe_bl {b j pos} : PE X (.Constant (.bool b) j pos) (tC (.bl b)) := fun _ _ _ H _ I h => Constant_bool ⟨.bl b, H, I, rfl, h⟩
theorem pe_non {j pos} : PE X (.Constant .none j pos) (tC .non) := fun _ _ _ H _ I h => Constant_none ⟨.non, H, I, rfl, h⟩
noncomputable def Gl (X : Cx) (x : Str) : Prop := X.env.kindOf x = some .globalImplicit
theorem ld_glob {E : Value → Shared → Prop} {pins : List (Addr × Obj)} {s : Shared} {σ : St} {H : Hp} {x : Str} {u : Value} {pos : Pos} {Q : Value → Shared → Prop} (I : Inv X pins σ H s) (hg : Gl X x) (hm : X.mg x = some u) (h : Q u s)
    (hd : (x == ("__debug__" : Str)) = false := by decide) : wpAny (model X.prog X.w) X.A (eval (.Name x pos) X.env) Q E s :=
  Calls.Name_function_global I.ok.kind hg (Calls.loadGlobal_global (by rw [I.ok.glob]; exact I.mod.glob.keeps I.bk) hm h) hd
theorem ld_blt {E : Value → Shared → Prop} {pins : List (Addr × Obj)} {s : Shared} {σ : St} {H : Hp} {x : Str} {u : Value} {pos : Pos} {Q : Value → Shared → Prop} (I : Inv X pins σ H s) (hg : Gl X x) (hm : X.mg x = none) (hv : bootBuiltins x = some u) (h : Q u s)
    (hn : x ≠ "__name__" := by decide) (hd : (x == ("__debug__" : Str)) = false := by decide) : wpAny (model X.prog X.w) X.A (eval (.Name x pos) X.env) Q E s := by
  obtain ⟨mb, h1, h2⟩ := I.mod.blt
  exact Calls.Name_function_global I.ok.kind hg (Calls.loadGlobal_builtin (by rw [I.ok.glob]; exact I.mod.glob.keeps I.bk) hm (by rw [I.ok.blt]; exact h1.keeps I.bk) ((h2 x hn).trans hv) h) hd
theorem pe_glob {x : Str} {v : V} {u : Value} {pos : Pos} (hg : Gl X x) (hm : X.mg x = some u) (r : RelV v u) (hd : (x == ("__debug__" : Str)) = false := by decide) : PE X (.Name x pos) (tC v) :=
  fun _ _ _ H _ I h => ld_glob I hg hm ⟨v, H, I, r, h⟩ hd
theorem pe_bltn {x : Str} {v : V} {u : Value} {pos : Pos} (hg : Gl X x) (hm : X.mg x = none) (hv : bootBuiltins x = some u) (r : RelV v u) (hn : x ≠ "__name__" := by decide) (hd : (x == ("__debug__" : Str)) = false := by decide) : PE X (.Name x pos) (tC v) :=
  fun _ _ _ H _ I h => ld_blt I hg hm hv ⟨v, H, I, r, h⟩ hn hd

variable {a b : Expr} {ta tb : TE} {pos : Pos}
variable {tA tB' : TT} {rest : List Expr}
noncomputable def tAnd (t u : TT) : TT := fun σ H Q => t σ H fun c H1 => if c = true then u σ H1 Q else Q false H1
noncomputable def tOr (t u : TT) : TT := fun σ H Q => t σ H fun c H1 => if c = true then Q true H1 else u σ H1 Q
noncomputable def tNot (t : TT) : TT := fun σ H Q => t σ H fun c H1 => Q (!c) H1
theorem pw_and1 (ha : PT X a tA) : PW X (.BoolOp .And [a] pos) tA := by
  intro wh pins s σ H Q I h
  refine isTrue_and (thn (ha pins s σ H Q I h) fun c s1 e => ?_)
  cases c with
  | true => exact isTrue_and_nil e
  | false => exact e
theorem pw_or1 (ha : PT X a tA) : PW X (.BoolOp .Or [a] pos) tA := by
  intro wh pins s σ H Q I h
  refine isTrue_or (thn (ha pins s σ H Q I h) fun c s1 e => ?_)
  cases c with
  | false => exact isTrue_or_nil e
  | true => exact e
theorem pw_and (ha : PT X a tA) (hb : PW X (.BoolOp .And (b :: rest) pos) tB') : PW X (.BoolOp .And (a :: b :: rest) pos) (tAnd tA tB') := by
  intro wh pins s σ H Q I h
  refine isTrue_and (thn (ha pins s σ H _ I h) fun c s1 ⟨H1, I1, q1⟩ => ?_)
  cases c with
  | true => exact hb wh pins s1 σ H1 Q I1 q1
  | false => exact ⟨H1, I1, q1⟩
theorem pw_or (ha : PT X a tA) (hb : PW X (.BoolOp .Or (b :: rest) pos) tB') : PW X (.BoolOp .Or (a :: b :: rest) pos) (tOr tA tB') := by
  intro wh pins s σ H Q I h
  refine isTrue_or (thn (ha pins s σ H _ I h) fun c s1 ⟨H1, I1, q1⟩ => ?_)
  cases c with
  | true => exact ⟨H1, I1, q1⟩
  | false => exact hb wh pins s1 σ H1 Q I1 q1
theorem pt_not (ha : PT X a tA) : PT X (.UnaryOp .Not a pos) (tNot tA) := by
  intro pins s σ H Q I h
  exact isTrue_not (ha pins s σ H (fun c H1 => Q (!c) H1) I h)
noncomputable def tAndV (ta tb : TE) : TE := fun σ H Q => ta σ H fun x H1 => ∃ c, x = .bl c ∧ if c = true then tb σ H1 Q else Q (.bl false) H1
theorem pe_one {op} {t : TE} (h : PE X a t) : PE X (.BoolOp op [a] pos) t := fun pins s σ H Q I hw => BoolOp_one (h pins s σ H Q I hw)
theorem pe_and (ha : PE X a ta) (hb : PE X (.BoolOp .And (b :: rest) pos) tb) : PE X (.BoolOp .And (a :: b :: rest) pos) (tAndV ta tb) := by
  intro pins s σ H Q I h
  refine BoolOp_and (thn (ha pins s σ H _ I h) fun v s1 ⟨x, H1, I1, r1, q1⟩ => ?_)
  obtain ⟨c, rfl, q1⟩ := q1
  cases r1
  refine wpAny_truthy_bool ?_
  cases c with
  | true => exact hb pins s1 σ H1 Q I1 q1
  | false => exact ⟨.bl false, H1, I1, rfl, q1⟩
noncomputable def tIf (t : TT) (ta tb : TE) : TE := fun σ H Q => t σ H fun c H1 => if c = true then ta σ H1 Q else tb σ H1 Q
theorem pe_ifExp {c : Expr} (hc : PT X c tA) (ha : PE X a ta) (hb : PE X b tb) : PE X (.IfExp c a b pos) (tIf tA ta tb) := by
  intro pins s σ H Q I h
  refine wpAny_IfExp (thn (hc pins s σ H _ I h) fun d s1 ⟨H1, I1, q1⟩ => ?_)
  cases d with
  | true => exact ha pins s1 σ H1 Q I1 q1
  | false => exact hb pins s1 σ H1 Q I1 q1
end
end L2

namespace L2
open PySem PySem.Spec PyProof.Rows

noncomputable def SqL (K : PySem.W.Frag) (H : Hp) (a : Addr) (xs : List V) : Prop :=
  Rd H a (.lst xs) ∨
    ∃ (o : Obj) (its : Array Value) (n : Nat), K.lookup a = some o ∧ o.cls = .type "list" ∧ o.dict = none ∧ o.data = .seq its n ∧ its.size ≤ sizeLine ∧ Vals xs its.toList
noncomputable def SqT (K : PySem.W.Frag) (H : Hp) (a : Addr) (xs : List V) : Prop :=
  Rd H a (.tup xs) ∨
    ∃ (o : Obj) (its : Array Value) (n : Nat), K.lookup a = some o ∧ o.cls = .type "tuple" ∧ o.data = .seq its n ∧ its.size ≤ sizeLine ∧ Vals xs its.toList
noncomputable def absV : Value → Option V
  | .none => some .non
  | .bool b => some (.bl b)
  | .int i _ => some (.int i)
  | .str x _ => some (.str x)
  | .bytes b _ => some (.byt b)
  | .float b _ => some (.flt b)
  | .ref a => some (.ref a)
  | .type n => some (.ty n)
  | _ => none
theorem RelV.abs {x : V} {u : Value} (r : RelV x u) : absV u = some x := by
  cases x with
  | non => cases r; rfl
  | bl _ => cases r; rfl
  | int _ => obtain ⟨t, rfl⟩ := r; rfl
  | str _ => obtain ⟨t, rfl⟩ := r; rfl
  | byt _ => obtain ⟨t, rfl⟩ := r; rfl
  | flt _ => obtain ⟨t, rfl⟩ := r; rfl
  | ref _ => cases r; rfl
  | ty _ => cases r; rfl
theorem RelV.inj {x y : V} {u : Value} (r : RelV x u) (q : RelV y u) : x = y := Option.some.inj (r.abs.symm.trans q.abs)
theorem Vals.inj : ∀ {xs ys : List V} {us : List Value}, Vals xs us → Vals ys us → xs = ys
  | _, _, _, .nil, .nil => rfl
  | _, _, _, .cons r t, .cons r' t' => by rw [r.inj r', Vals.inj t t']
section
variable {X : Cx} {pins : List (Addr × Obj)} {σ : St} {H : Hp} {s : Shared} {a : Addr} {xs ys : List V}
theorem SqL.of {K : PySem.W.Frag} (h : H a = some (.lst xs)) : SqL K H a xs := .inl (.inl h)
theorem SqT.of {K : PySem.W.Frag} (h : H a = some (.tup xs)) : SqT K H a xs := .inl (.inl h)
theorem Inv.list (I : Inv X pins σ H s) (h : SqL X.K H a xs) : ∃ its : List Value, Vals xs its ∧ PlainL s.heap a its.toArray ∧ xs.length ≤ sizeLine := by
  rcases h with h | ⟨o, its, n, hk, hc, hd, hs, hz, r⟩
  · obtain ⟨z, its, n, r, e⟩ := h.ok I.hok
    exact ⟨its, r, ⟨_, n, e, rfl, rfl, rfl⟩, z⟩
  · refine ⟨its.toList, r, ⟨o, n, I.kIn a o hk, hc, hd, by simpa using hs⟩, ?_⟩
    have e := r.length
    simp only [Array.length_toList] at e
    omega
theorem Inv.tuple (I : Inv X pins σ H s) (h : SqT X.K H a xs) : ∃ its : List Value, Vals xs its ∧ IsTup s.heap a its.toArray ∧ xs.length ≤ sizeLine := by
  rcases h with h | ⟨o, its, n, hk, hc, hs, hz, r⟩
  · obtain ⟨z, its, r, p⟩ := h.ok I.hok
    exact ⟨its, r, p, z⟩
  · refine ⟨its.toList, r, ⟨o, I.kIn a o hk, hc, n, by simpa using hs⟩, ?_⟩
    have e := r.length
    simp only [Array.length_toList] at e
    omega
theorem Inv.list_inj (I : Inv X pins σ H s) (h : SqL X.K H a xs) (h' : SqL X.K H a ys) : xs = ys := by
  obtain ⟨its, r, ⟨o, n, e, _, _, d⟩, _⟩ := I.list h
  obtain ⟨its', r', ⟨o', n', e', _, _, d'⟩, _⟩ := I.list h'
  rw [e] at e'; cases e'
  rw [d] at d'
  injection d' with d1 _
  have : its = its' := by simpa using congrArg Array.toList d1
  subst this
  exact r.inj r'
end

noncomputable abbrev Cx.wish (X : Cx) (E : Value → Shared → Prop) : Cx := { X with xe := E }
noncomputable abbrev Cx.nox (X : Cx) : Cx := X.wish fun _ _ => False
theorem Cx.Ok.wish {X : Cx} (ok : X.Ok) (E : Value → Shared → Prop) : (X.wish E).Ok :=
  ⟨ok.mod, ok.kind, ok.glob, ok.blt, ok.above, ok.inj, ok.has, ok.cab, ok.hd, ok.frames, ok.stk, ok.exf, ok.bs, ok.bsz, ok.noex, ok.exfs, ok.funs, ok.frf⟩
theorem Cx.Ok.unwish {X : Cx} {E : Value → Shared → Prop} (ok : (X.wish E).Ok) : X.Ok :=
  ⟨ok.mod, ok.kind, ok.glob, ok.blt, ok.above, ok.inj, ok.has, ok.cab, ok.hd, ok.frames, ok.stk, ok.exf, ok.bs, ok.bsz, ok.noex, ok.exfs, ok.funs, ok.frf⟩
section
variable {X : Cx} {pins : List (Addr × Obj)} {σ : St} {H : Hp} {s : Shared} {E : Value → Shared → Prop}
theorem Inv.wish (I : Inv X pins σ H s) (E : Value → Shared → Prop) : Inv (X.wish E) pins σ H s := ⟨I.ok.wish E, I.os, I.bare, I.base, I.loc, I.cell, I.free, I.freeC, I.pin, I.hok, I.len⟩
theorem Inv.unwish (I : Inv (X.wish E) pins σ H s) : Inv X pins σ H s := ⟨I.ok.unwish, I.os, I.bare, I.base, I.loc, I.cell, I.free, I.freeC, I.pin, I.hok, I.len⟩
theorem SP.unwish {D : Ends} {f : Flow} {s' : Shared} (h : SP (X.wish E) pins D f s') : SP X pins D f s' := by
  cases f with
  | next => obtain ⟨σ', H', I, q⟩ := h; exact ⟨σ', H', I.unwish, q⟩
  | brk => obtain ⟨σ', H', I, q⟩ := h; exact ⟨σ', H', I.unwish, q⟩
  | cont => obtain ⟨σ', H', I, q⟩ := h; exact ⟨σ', H', I.unwish, q⟩
  | ret u => obtain ⟨v, σ', H', I, r, q⟩ := h; exact ⟨v, σ', H', I.unwish, r, q⟩
theorem PSs.nox {st : List Stmt} {t : TS} (h : PSs X.nox st t) : PSs X st t := fun pins s σ H D I hw =>
  wpAny_mono (h pins s σ H D (I.wish _) hw) (fun _ _ q => q.unwish) fun _ _ z => False.elim z
end

section
variable {X : Cx} {st : Stmt} {rest : List Stmt} {t u : TS} {e : Expr} {te : TE} {pos : Pos}
noncomputable def tNext : TS := fun D σ H => D.nx σ H
noncomputable def tSeq (t u : TS) : TS := fun D σ H => t { D with nx := u D } σ H
theorem pss_nil : PSs X [] tNext := fun _ _ σ H _ I h => wpAny_execs_nil ⟨σ, H, I, h⟩
theorem pss_cons (h1 : PS X st t) (h2 : PSs X rest u) : PSs X (st :: rest) (tSeq t u) := by
  intro pins s σ H D I h
  refine wpAny_execs_cons (thn (h1 pins s σ H { D with nx := u D } I h) fun f s1 q => ?_)
  cases f with
  | next =>
    obtain ⟨σ', H', I', q⟩ := q
    exact h2 pins s1 σ' H' D I' q
  | ret v => exact q
  | brk => exact q
  | cont => exact q
theorem pss_one (h1 : PS X st t) : PSs X [st] t := by
  intro pins s σ H D I h
  refine wpAny_execs_cons (thn (h1 pins s σ H D I h) fun f s1 q => ?_)
  cases f with
  | next => exact wpAny_execs_nil q
  | ret v => exact q
  | brk => exact q
  | cont => exact q
theorem Inv.quiet {pins : List (Addr × Obj)} {σ : St} {H : Hp} {s : Shared} (I : Inv X pins σ H s) : interactive X.env = false := by simp [interactive, I.ok.kind]
noncomputable def tDrop (te : TE) : TS := fun D σ H => te σ H fun _ H1 => D.nx σ H1
theorem ps_expr (he : PE X e te) (hs : swapsWith e none pos.line X.env = pure false := by rfl) : PS X (.Expr e pos) (tDrop te) := by
  intro pins s σ H D I h
  exact wpAny_Expr_any (thn (he pins s σ H _ I h) fun v s1 ⟨x, H1, I1, r1, q1⟩ => ⟨σ, H1, I1, q1⟩) I.quiet hs
noncomputable def tRet (te : TE) : TS := fun D σ H => te σ H D.rt
theorem ps_ret (he : PE X e te) : PS X (.Return (some e) pos) (tRet te) := by
  intro pins s σ H D I h
  exact wpAny_Return_some (thn (he pins s σ H _ I h) fun v s1 ⟨x, H1, I1, r1, q1⟩ => ⟨x, σ, H1, I1, r1, q1⟩)
noncomputable def tIfS (c : TT) (t u : TS) : TS := fun D σ H => c σ H fun b H1 => if b = true then t D σ H1 else u D σ H1
theorem ps_if {c : Expr} {a b : List Stmt} {tc : TT} (hc : PT X c tc) (ha : PSs X a t) (hb : PSs X b u) : PS X (.If c a b pos) (tIfS tc t u) := by
  intro pins s σ H D I h
  refine wpAny_If (thn (hc pins s σ H _ I h) fun d s1 ⟨H1, I1, q1⟩ => ?_)
  cases d with
  | true => exact ha pins s1 σ H1 D I1 q1
  | false => exact hb pins s1 σ H1 D I1 q1
noncomputable def tNever : TS := fun _ _ _ => False
theorem ps_never : PS X st tNever := fun _ _ _ _ _ _ h => h.elim
end

noncomputable abbrev TG := V → St → Hp → (St → Hp → Prop) → Prop
noncomputable abbrev TGs := List V → St → Hp → (St → Hp → Prop) → Prop
noncomputable def PG (X : Cx) (target : Expr) (t : TG) : Prop :=
  ∀ (pins : List (Addr × Obj)) (s : Shared) (σ : St) (H : Hp) (v : V) (u : Value) (Q : St → Hp → Prop), Inv X pins σ H s → RelV v u → t v σ H Q →
    wpAny (model X.prog X.w) X.A (assign target X.env u) (fun _ s' => ∃ σ' H', Inv X pins σ' H' s' ∧ Q σ' H') X.xe s
noncomputable def PGs (X : Cx) (ts : List Expr) (t : TGs) : Prop :=
  ∀ (pins : List (Addr × Obj)) (s : Shared) (σ : St) (H : Hp) (vs : List V) (us : List Value) (Q : St → Hp → Prop), Inv X pins σ H s → Vals vs us → t vs σ H Q →
    wpAny (model X.prog X.w) X.A (assignInOrder ((assignEach ts X.env).map (·.2)) us) (fun _ s' => ∃ σ' H', Inv X pins σ' H' s' ∧ Q σ' H') X.xe s
noncomputable abbrev TSet := V → V → V → Hp → (Hp → Prop) → Prop
noncomputable def PSet (X : Cx) (t : TSet) : Prop :=
  ∀ (pins : List (Addr × Obj)) (s : Shared) (σ : St) (H : Hp) (o i v : V) (ov iv u : Value) (Q : Hp → Prop), Inv X pins σ H s → RelV o ov → RelV i iv → RelV v u → t o i v H Q →
    wpAny (model X.prog X.w) X.A (setItem ov iv u) (fun _ s' => ∃ H', Inv X pins σ H' s' ∧ Q H') X.xe s
noncomputable abbrev TIp := V → V → Hp → VK → Prop
noncomputable def PIp (X : Cx) (op : Operator) (t : TIp) : Prop :=
  ∀ (pins : List (Addr × Obj)) (s : Shared) (σ : St) (H : Hp) (x y : V) (v u : Value) (Q : VK), Inv X pins σ H s → RelV x v → RelV y u → t x y H Q →
    wpAny (model X.prog X.w) X.A (inplaceOp op v u) (EP X pins σ Q) X.xe s
section
variable {X : Cx} {pos : Pos}
noncomputable def gName (i : Nat) : TG := fun v σ H Q => Q (σ.set i (some v)) H
theorem pg_name {i : Nat} {x : Str} (hN : X.N.Nodup) (hi : X.N[i]? = some x) (hx : Loc X.env.scope x) (hf : X.fn x = true ∨ X.env.scope.names.lookup x = some .local := by first | exact .inl rfl | exact .inr rfl | assumption) : PG X (.Name x pos) (gName i) := by
  intro pins s σ H v u Q I r h
  exact wpAny_assign_Name (store_ok I hN hi hx r (fun s' I' => ⟨_, H, I', h⟩) hf)
noncomputable def gNil : TGs := fun vs σ H Q => vs = [] ∧ Q σ H
noncomputable def gCons (t : TG) (u : TGs) : TGs := fun vs σ H Q => ∃ v r, vs = v :: r ∧ t v σ H fun σ' H' => u r σ' H' Q
theorem pgs_nil : PGs X [] gNil := by
  intro pins s σ H vs us Q I r h
  obtain ⟨e, h⟩ := h
  subst e
  cases r
  exact assignInOrder_nil ⟨σ, H, I, h⟩
theorem pgs_cons {e : Expr} {es : List Expr} {t : TG} {u : TGs} (h1 : PG X e t) (h2 : PGs X es u)
    (hs : (assignEach (e :: es) X.env).map (·.2) = assign e X.env :: (assignEach es X.env).map (·.2) := by rfl) : PGs X (e :: es) (gCons t u) := by
  intro pins s σ H vs us Q I r h
  obtain ⟨v, vr, e1, h⟩ := h
  subst e1
  cases r with
  | cons r rr =>
    rw [hs]
    refine assignInOrder_cons (thn (h1 pins s σ H _ _ _ I r h) fun _ s1 ⟨σ1, H1, I1, q1⟩ => ?_)
    exact h2 pins s1 σ1 H1 _ _ Q I1 rr q1
noncomputable def gTup (K : PySem.W.Frag) (n : Nat) (t : TGs) : TG := fun v σ H Q => ∃ a xs, v = .ref a ∧ SqT K H a xs ∧ xs.length = n ∧ t xs σ H Q
theorem pg_tup {es : List Expr} {k : Nat} {t : TGs} {n : Nat} (hc : X.calm = true) (h : PGs X es t)
    (hn : (assignEach es X.env).length = n := by rfl) (hst : (assignEach es X.env).findIdx? (·.1) = none := by rfl) : PG X (.Tuple es k pos) (gTup X.K n t) := by
  intro pins s σ H v u Q I r hw
  obtain ⟨a, xs, e1, hq, hl, hw⟩ := hw
  subst e1
  cases r
  obtain ⟨its, rv, ht, hz⟩ := I.tuple hq
  refine assign_Tuple_tuple (I.ok.hd hc) ht (by simp [hn, ← hl, rv.length]) hst fun h' hx => ?_
  have I1 : Inv X pins σ H { s with heap := h' } := I.kept (t' := s.toks) fun b o e => hx b o (Nat.ne_of_lt (Heap.lt_size e)) e
  exact h pins _ σ H xs _ Q I1 (by simpa using rv) hw
noncomputable def gSub (to ti : TE) (t : TSet) : TG := fun v σ H Q => to σ H fun o H1 => ti σ H1 fun i H2 => t o i v H2 fun H3 => Q σ H3
theorem pg_sub {o i : Expr} {to ti : TE} {t : TSet} (ho : PE X o to) (hi : PE X i ti) (hs : PSet X t)
    (ha : ∀ v, assign (.Subscript o i pos) X.env v = (do
      let ov ← holding [v] (eval o X.env)
      let iv ← holding [v, ov] (eval i X.env)
      standAt pos
      holding [v, ov, iv] (setItem ov iv v)
      release [v, ov, iv] []) := by intro _; rfl) : PG X (.Subscript o i pos) (gSub to ti t) := by
  intro pins s σ H v u Q I r h
  rw [ha]
  refine wpAny_bind (wpAny_holding (thn (ho pins s σ H _ I h) fun ov s1 ⟨x, H1, I1, r1, q1⟩ => ?_))
  refine wpAny_bind (wpAny_holding (thn (hi pins s1 σ H1 _ I1 q1) fun iv s2 ⟨y, H2, I2, r2, q2⟩ => ?_))
  refine wpAny_bind (wpAny_standAt (wpAny_bind (wpAny_holding (thn (hs pins s2 σ H2 x y v ov iv u _ I2 r1 r2 r q2) fun _ s3 ⟨H3, I3, q3⟩ => ?_))))
  exact wpAny_release ⟨σ, H3, I3, q3⟩
noncomputable def tAsg (te : TE) (g : TG) : TS := fun D σ H => te σ H fun x H1 => g x σ H1 D.nx
theorem ps_asg {tg e : Expr} {te : TE} {g : TG} (he : PE X e te) (hg : PG X tg g) (hs : swapsWithSole [tg] e pos.line X.env = pure false := by rfl) (hw : swappedStores [tg] e X.env = pure none := by rfl)
    (h1 : (assignEach [tg] X.env).map (·.2) = [assign tg X.env] := by rfl) : PS X (.Assign [tg] e pos) (tAsg te g) := by
  intro pins s σ H D I h
  refine wpAny_Assign_stores (thn (he pins s σ H _ I h) fun v s1 ⟨x, H1, I1, r1, q1⟩ => ?_) hs hw
  rw [h1]
  exact thn (hg pins s1 σ H1 x v _ I1 r1 q1) fun _ s2 q => q
theorem ps_set {i : Nat} {x : Str} {e : Expr} {te : TE} {pos' : Pos} (hN : X.N.Nodup) (hi : X.N[i]? = some x) (hx : Loc X.env.scope x) (he : PE X e te) (hs : swapsWith e (some (.Name x pos')) pos.line X.env = pure false := by rfl) (hf : X.fn x = true ∨ X.env.scope.names.lookup x = some .local := by first | exact .inl rfl | exact .inr rfl | assumption) :
    PS X (.Assign [.Name x pos'] e pos) (tAsg te (gName i)) := by
  intro pins s σ H D I h
  refine wpAny_Assign_Name (thn (he pins s σ H _ I h) fun v s1 ⟨y, H1, I1, r1, q1⟩ => ?_) hs
  exact store_ok I1 hN hi hx r1 (fun s2 I2 => ⟨_, H1, I2, q1⟩) hf
noncomputable def tAug (i : Nat) (te : TE) (ti : TIp) : TS := fun D σ H => ∃ x, σ[i]? = some (some x) ∧ te σ H fun y H1 => ti x y H1 fun z H2 => D.nx (σ.set i (some z)) H2
theorem ps_aug {i : Nat} {x : Str} {e : Expr} {te : TE} {op : Operator} {ti : TIp} {pos' : Pos} (hN : X.N.Nodup) (hi : X.N[i]? = some x) (hx : Loc X.env.scope x) (he : PE X e te) (ho : PIp X op ti) (hf : X.fn x = true ∨ X.env.scope.names.lookup x = some .local := by first | exact .inl rfl | exact .inr rfl | assumption) :
    PS X (.AugAssign (.Name x pos') op e pos) (tAug i te ti) := by
  intro pins s σ H D I h
  obtain ⟨v, e1, h⟩ := h
  obtain ⟨m, hn, hl⟩ := I.loc
  have vis : Vis X.env.scope x := by rcases hx with k | k; exact .inl k; exact .inr (.inl k)
  obtain ⟨u, r, l⟩ := hl i x v hi e1 vis
  refine wpAny_AugAssign_Name ?_
  have go : wpAny (model X.prog X.w) X.A (eval e X.env) (fun w s₂ => wpAny (model X.prog X.w) X.A (inplaceOp op u w) (fun r s₃ => wpAny (model X.prog X.w) X.A (storeName X.env x r) (fun _ => SP X pins D .next) X.xe s₃) X.xe s₂) X.xe s := by
    refine thn (he pins s σ H _ I h) fun w s1 ⟨y, H1, I1, r1, q1⟩ => ?_
    refine thn (ho pins s1 σ H1 v y u w _ I1 r r1 q1) fun z s2 ⟨zv, H2, I2, r2, q2⟩ => ?_
    exact store_ok I2 hN hi hx r2 (fun s3 I3 => ⟨_, H2, I3, q2⟩) hf
  rcases l with ⟨hk, hm⟩ | ⟨hk, c, hc, hcell⟩
  · exact wpAny_loadName_local I.ok.kind hk hn hm go
  · rcases hk with hk | hk
    · exact wpAny_loadName_cell I.ok.kind hk hc hcell go
    · rcases hx with k | k
      · have : X.env.scope.names.lookup x = some .free := hk
        rw [k] at this; cases this
      · have : X.env.scope.names.lookup x = some .free := hk
        rw [k] at this; cases this
noncomputable def ipI (f : Int → Int → Int) : TIp := fun x y H Q => ∃ i j, x = .int i ∧ y = .int j ∧ Q (.int (f i j)) H
theorem ip_add : PIp X .Add (ipI fun i j => i + j) := by
  intro pins s σ H x y v u Q I r1 r2 h
  obtain ⟨i, j, e1, e2, q⟩ := h
  subst e1; subst e2
  obtain ⟨t, rfl⟩ := r1
  obtain ⟨t', rfl⟩ := r2
  exact iadd_int ⟨.int _, H, I.tok _, ⟨_, rfl⟩, q⟩
end

section
variable {X : Cx} {pos : Pos}
noncomputable def tWhile (c : TT) (tb : TS) : TS := fun D σ H => ∃ W : Nat → St → Hp → Prop, (∃ m, W m σ H) ∧ ∀ m σ H, W m σ H →
  c σ H fun b H1 => if b = true then ∃ N : St → Hp → Prop, (∀ σ' H', N σ' H' → ∃ m', m' < m ∧ W m' σ' H') ∧ tb { D with nx := N, ct := N, bk := D.nx } σ H1 else D.nx σ H1
theorem ps_while {c : Expr} {body : List Stmt} {tc : TT} {tb : TS} (hp : PassesOwn (model X.prog X.w) X.A X.env X.xe) (hc : PT X c tc) (hb : PSs X body tb) : PS X (.While c body [] pos) (tWhile tc tb) := by
  intro pins s σ H D I h
  obtain ⟨W, ⟨m0, w0⟩, turn⟩ := h
  refine wpAny_While (codeAny_whileLoop (fun n s' => ∃ σ' H', Inv X pins σ' H' s' ∧ W n σ' H') ?_ m0 ⟨σ, H, I, w0⟩)
  rintro n s1 ⟨σ1, H1, I1, w1⟩
  refine wpAny_passesOwn hp (thn (hc pins s1 σ1 H1 _ I1 (turn n σ1 H1 w1)) fun b s2 ⟨H2, I2, q2⟩ => ?_)
  cases b with
  | true =>
    obtain ⟨N, hN, q2⟩ := q2
    rw [if_pos rfl]
    refine wpAny_passesOwn hp (thn (hb pins s2 σ1 H2 _ I2 q2) fun f s3 q3 => ?_)
    cases f with
    | next =>
      obtain ⟨σ3, H3, I3, n3⟩ := q3
      obtain ⟨m', hm, w3⟩ := hN σ3 H3 n3
      exact ⟨m', hm, σ3, H3, I3, w3⟩
    | cont =>
      obtain ⟨σ3, H3, I3, n3⟩ := q3
      obtain ⟨m', hm, w3⟩ := hN σ3 H3 n3
      exact ⟨m', hm, σ3, H3, I3, w3⟩
    | brk => exact q3
    | ret v => exact q3
  | false =>
    rw [if_neg Bool.false_ne_true]
    exact wpAny_execs_nil ⟨σ1, H2, I2, q2⟩
end

structure It where
  go : Nat → Hp → Prop
  yld : Nat → Hp → V → Hp → Prop
  stop : Nat → Hp → Prop
noncomputable def FpOk (X : Cx) (pins : List (Addr × Obj)) (H : Hp) (b : Addr) : Prop :=
  H b = none ∧ b ≠ X.env.locals ∧ b ∉ X.fs ∧ (b ∈ X.ex ∨ X.s₀.heap.objs.size ≤ b) ∧ (∀ x c, X.env.cells.lookup x = some c → c ≠ b) ∧ ∀ p ∈ X.pn ++ pins, p.1 ≠ b
theorem Inv.fpOk {X : Cx} {pins : List (Addr × Obj)} {σ : St} {H H' : Hp} {s : Shared} {b : Addr} (I : Inv X pins σ H s) (hb : s.heap.objs.size ≤ b) (hn : H' b = none) : FpOk X pins H' b := by
  refine ⟨hn, Nat.ne_of_gt (Nat.lt_of_lt_of_le I.lt hb), I.nofs hb, .inr (Nat.le_trans I.sz hb), fun x c e z => ?_, fun p hp z => ?_⟩
  · obtain ⟨v, q⟩ := I.cell x c e
    exact absurd (Nat.lt_of_lt_of_le q.lt (by rw [z]; exact hb)) (Nat.lt_irrefl _)
  · exact absurd (Nat.lt_of_lt_of_le (Heap.lt_size (I.pin p hp).1) (by rw [z]; exact hb)) (Nat.lt_irrefl _)
structure Turn (P : Program) (w : World) (K : PySem.W.Frag) (tg : Expr) (J : It) (fp : List Addr) (it : Addr) (tn : Nat → Heap → Prop) : Prop where
  mem : it ∈ fp
  obj : ∀ i h, tn i h → ∀ b ∈ fp, ∃ o, h.get? b = some o ∧ ∀ v, o.data ≠ .cell v
  keep : ∀ i h h', tn i h → (∀ b ∈ fp, ∀ o, h.get? b = some o → h'.get? b = some o) → tn i h'
  item : ∀ (X : Cx), X.prog = P → X.w = w → X.K = K → X.calm = true → ∀ (i : Nat) (pins : List (Addr × Obj)) (s : Shared) (σ : St) (H : Hp) (E : Value → Shared → Prop), Inv X pins σ H s → (∀ b ∈ fp, FpOk X pins H b) → tn i s.heap → J.go i H →
    wpAny (model P w) X.A (pyNext (.ref it)) (fun r s1 => ∃ u, r = some u ∧
      wpAny (model P w) X.A (letOwnedTupleGo tg (.ref it) u) (fun _ s2 => ∃ x H', Inv X pins σ H' s2 ∧ RelV x u ∧ J.yld i H x H' ∧ tn (i + 1) s2.heap ∧ ∀ b ∈ fp, H' b = none) E s1) E s
  done : ∀ (X : Cx), X.prog = P → X.w = w → X.K = K → X.calm = true → ∀ (i : Nat) (pins : List (Addr × Obj)) (s : Shared) (σ : St) (H : Hp) (E : Value → Shared → Prop), Inv X pins σ H s → (∀ b ∈ fp, FpOk X pins H b) → tn i s.heap → J.stop i H →
    wpAny (model P w) X.A (pyNext (.ref it)) (fun r s1 => r = none ∧ Inv X pins σ H s1) E s
  self : ∀ (A : Around) (i : Nat) (s : Shared) (Q : Value → Shared → Prop) (E : Value → Shared → Prop), tn i s.heap → Q (.ref it) s → wpAny (model P w) A (pyIter (.ref it)) Q E s
noncomputable abbrev TI := St → Hp → (It → Hp → Prop) → Prop
noncomputable def PIE (X : Cx) (pins : List (Addr × Obj)) (σ : St) (tg : Expr) (R : It → Hp → Prop) (itv : Value) (s2 : Shared) : Prop :=
  ∃ (it : Addr) (fp : List Addr) (tn : Nat → Heap → Prop) (J : It) (H' : Hp), itv = .ref it ∧ Inv X pins σ H' s2 ∧ Turn X.prog X.w X.K tg J fp it tn ∧ tn 0 s2.heap ∧ (∀ b ∈ fp, FpOk X pins H' b) ∧ R J H'
noncomputable def PI (X : Cx) (tg iter : Expr) (wi : TI) : Prop :=
  ∀ (pins : List (Addr × Obj)) (s : Shared) (σ : St) (H : Hp) (R : It → Hp → Prop), Inv X pins σ H s → wi σ H R →
    wpAny (model X.prog X.w) X.A (eval iter X.env) (fun v s1 => wpAny (model X.prog X.w) X.A (pyIter v) (PIE X pins σ tg R) X.xe s1) X.xe s

theorem go_of {M : Model} {A : Around} {E : Value → Shared → Prop} {s : Shared} {tg : Expr} {it : Addr} {u : Value} {o : Obj} {n : String} {vs : Array Value} {Q : Unit → Shared → Prop} (ho : s.heap.get? it = some o) (hc : o.cls = .type n) (hd : o.data = .fields vs)
    (hn : ["enumerate", "zip", "dict_itemiterator", "dict_reverseitemiterator", "odict_iterator", "itertools.zip_longest", "itertools.pairwise"].contains n = false) (hQ : Q () s) : wpAny M A (letOwnedTupleGo tg (.ref it) u) Q E s := by
  unfold letOwnedTupleGo
  cases tg <;> first
    | exact wpAny_pure hQ
    | (cases u <;> first
        | exact wpAny_pure hQ
        | (refine wpAny_bind (wpAny_load ho ?_)
           rw [hc, hd]
           show wpAny M A (if (["enumerate", "zip", "dict_itemiterator", "dict_reverseitemiterator", "odict_iterator", "itertools.zip_longest", "itertools.pairwise"].contains n && vs[0]? == some (rawInt _)) = true then _ else _) Q E s
           rw [if_neg (by intro h; rw [hn, Bool.false_and] at h; cases h)]
           exact wpAny_pure hQ))

noncomputable def Itl (K : PySem.W.Frag) (a : Addr) : It :=
  ⟨fun i H => ∃ xs x, SqL K H a xs ∧ xs[i]? = some x, fun i H x H' => H' = H ∧ ∀ xs, SqL K H a xs → xs[i]? = some x, fun i H => ∃ xs, SqL K H a xs ∧ xs.length ≤ i⟩
noncomputable def Itr (lo : Int) (n : Nat) : It := ⟨fun i _ => i < n, fun i H x H' => H' = H ∧ x = .int (lo + i), fun i _ => n ≤ i⟩
theorem turn_list {P : Program} {w : World} {K : PySem.W.Frag} {tg : Expr} (a it : Addr) : Turn P w K tg (Itl K a) [it] it (fun i h => h.IsListIter it a i) where
  mem := by simp
  obj := fun i h st b hb => by
    have e : b = it := by simpa using hb
    subst e
    obtain ⟨o, e, c, d⟩ := st
    exact ⟨o, e, fun v z => by rw [d] at z; cases z⟩
  keep := fun i h h' st k => st.at fun o e => k it (by simp) o e
  item := by
    intro X hP hw hK hc i pins s σ H E I hf st hg
    subst hP hw hK
    obtain ⟨xs, x, hq, hx⟩ := hg
    obtain ⟨its, rv, p, hz⟩ := I.list hq
    obtain ⟨u, hu, ru⟩ := rv.get hx
    obtain ⟨f0, f1, f2, f3, f4, f5⟩ := hf it (by simp)
    refine wpAny_pyNext_list_item st p.isList (x := u) (by simpa using hu) fun h' st' sb => ?_
    have I1 : Inv X pins σ H { s with heap := h' } := I.turned (t' := s.toks) (fun b o hb e => (sb.2 b hb).trans e) f0 f1 f3 f4 f5
    obtain ⟨o, e, c, d⟩ := id st'
    exact ⟨u, rfl, go_of (s := { s with heap := h' }) e c d (by decide) ⟨x, H, I1, ru, ⟨rfl, fun ys hy => by rw [I.list_inj hy hq]; exact hx⟩, st', fun b hb => (hf b hb).1⟩⟩
  done := by
    intro X hP hw hK hc i pins s σ H E I hf st hg
    subst hP hw hK
    obtain ⟨xs, hq, hx⟩ := hg
    obtain ⟨its, rv, p, hz⟩ := I.list hq
    obtain ⟨f0, f1, f2, f3, f4, f5⟩ := hf it (by simp)
    have hl := rv.length
    exact wpAny_pyNext_list_end (I.ok.hd hc) st p.isList (by simp; omega) fun h' eb => ⟨rfl, I.turned (t' := s.toks) (fun b o hb e => eb b o hb e) f0 f1 f3 f4 f5⟩
  self := fun _ _ _ _ _ st h => wpAny_pyIter_listiter st h
theorem turn_range {P : Program} {w : World} {K : PySem.W.Frag} {tg : Expr} (it : Addr) (lo : Int) (n : Nat) : Turn P w K tg (Itr lo n) [it] it (fun i h => IsRangeIter h it (lo + (i : Nat) * 1) ((n : Int) - (i : Nat)) 1) where
  mem := by simp
  obj := fun i h st b hb => by
    have e : b = it := by simpa using hb
    subst e
    exact ⟨_, st, fun v z => by
      have z' : Data.fields _ = Data.cell v := z
      cases z'⟩
  keep := fun i h h' st k => k it (by simp) _ st
  item := by
    intro X hP hw hK hc i pins s σ H E I hf st hg
    subst hP hw hK
    obtain ⟨f0, f1, f2, f3, f4, f5⟩ := hf it (by simp)
    have W := Walks.range (prog := X.prog) (w := X.w) (I.ok.hd hc) it lo 1 n
    refine W.item i s _ _ hg st fun v h' tk hv st' kk => ?_
    obtain ⟨t, rfl⟩ := hv
    have I1 : Inv X pins σ H { s with heap := h', toks := tk } := I.turned (fun b o hb e => kk b o (by simpa using hb) e) f0 f1 f3 f4 f5
    refine ⟨_, rfl, go_of (s := { s with heap := h', toks := tk }) (n := "range_iterator") st' rfl rfl (by decide) ⟨.int (lo + i), H, I1, ⟨t, ?_⟩, ⟨rfl, rfl⟩, st', fun b hb => (hf b hb).1⟩⟩
    rw [Int.mul_one]
  done := by
    intro X hP hw hK hc i pins s σ H E I hf st hg
    subst hP hw hK
    obtain ⟨f0, f1, f2, f3, f4, f5⟩ := hf it (by simp)
    exact wpAny_pyNext_range_end (I.ok.hd hc) st (by have : n ≤ i := hg; omega) fun h' eb => ⟨rfl, I.turned (t' := s.toks) (fun b o hb e => eb b o hb e) f0 f1 f3 f4 f5⟩
  self := fun _ _ _ _ _ st h => wpAny_pyIter_rangeiter st h
end L2

namespace L2
open PySem PySem.Spec PyProof.Rows
section
variable {X : Cx} {tg : Expr}
noncomputable def iList (K : PySem.W.Frag) (tl : TE) : TI := fun σ H R => tl σ H fun x H1 => ∃ a, x = .ref a ∧ (∃ xs, SqL K H1 a xs) ∧ R (Itl K a) H1
theorem pi_list {l : Expr} {tl : TE} (hl : PE X l tl) : PI X tg l (iList X.K tl) := by
  intro pins s σ H R I h
  refine thn (hl pins s σ H _ I h) fun v s1 ⟨x, H1, I1, r1, q1⟩ => ?_
  obtain ⟨a, e, ⟨xs, hq⟩, q⟩ := q1
  subst e
  cases r1
  obtain ⟨its, rv, p, hz⟩ := I1.list hq
  refine wpAny_pyIter_list p.isList ?_
  refine ⟨s1.heap.objs.size, [s1.heap.objs.size], _, _, H1, rfl, I1.kept (t' := s1.toks) fun b o e => Heap.get?_push_of_some _ e, turn_list a _, ⟨_, Heap.get?_push_size _ rfl, rfl, rfl⟩, fun b hb => ?_, q⟩
  have e : b = s1.heap.objs.size := by simpa using hb
  subst e
  exact I1.fpOk (Nat.le_refl _) (I1.hok.fresh (Nat.le_refl _))
theorem range_it {pins : List (Addr × Obj)} {σ : St} {H : Hp} {s : Shared} {R : It → Hp → Prop} {E : Value → Shared → Prop} {lo hi : Int} {t u v : Tok} {tk : Nat} (I : Inv X pins σ H s) (h1 : -(2 ^ 62) ≤ lo) (h2 : lo < 2 ^ 62) (h3 : -(2 ^ 62) ≤ hi) (h4 : hi < 2 ^ 62)
    (q : R (Itr lo (hi - lo).toNat) H) : wpAny (model X.prog X.w) X.A (pyIter (.ref s.heap.objs.size)) (PIE X pins σ tg R) E { s with heap := s.heap.push { cls := .type "range", data := .fields #[.int lo t, .int hi u, .int 1 v] }, toks := tk } := by
  refine wpAny_pyIter_range (IsRange.new ..) (small_one h1 h2 h3 h4) ?_
  have I1 : Inv X pins σ H { s with heap := s.heap.push { cls := .type "range", data := .fields #[.int lo t, .int hi u, .int 1 v] }, toks := tk } := I.kept fun b o e => Heap.get?_push_of_some _ e
  refine ⟨(s.heap.push { cls := .type "range", data := .fields #[.int lo t, .int hi u, .int 1 v] }).objs.size, [(s.heap.push { cls := .type "range", data := .fields #[.int lo t, .int hi u, .int 1 v] }).objs.size], _, _, H, rfl,
    I1.kept (t' := tk) fun b o e => Heap.get?_push_of_some _ e, turn_range _ lo (hi - lo).toNat, ?_, fun b hb => ?_, q⟩
  · have e1 : lo + ((0 : Nat) : Int) * 1 = lo := by simp
    have e2 : (((hi - lo).toNat : Nat) : Int) - ((0 : Nat) : Int) = Builtin.Range.rangeSize lo hi 1 := by rw [rangeSize_one]; split <;> omega
    show IsRangeIter _ _ (lo + ((0 : Nat) : Int) * 1) ((((hi - lo).toNat : Nat) : Int) - ((0 : Nat) : Int)) 1
    rw [e1, e2]
    exact Heap.get?_push_size _ rfl
  · have e : b = (s.heap.push { cls := .type "range", data := .fields #[.int lo t, .int hi u, .int 1 v] }).objs.size := by simpa using hb
    subst e
    exact I1.fpOk (Nat.le_refl _) (I1.hok.fresh (Nat.le_refl _))
noncomputable def iRng1 (ta : TA) : TI := fun σ H R => ta σ H fun vs H1 => ∃ j : Int, vs = [.int j] ∧ -(2 ^ 62) ≤ j ∧ j < 2 ^ 62 ∧ R (Itr 0 j.toNat) H1
noncomputable def iRng2 (ta : TA) : TI := fun σ H R => ta σ H fun vs H1 => ∃ i j : Int, vs = [.int i, .int j] ∧ (-(2 ^ 62) ≤ i ∧ i < 2 ^ 62 ∧ -(2 ^ 62) ≤ j ∧ j < 2 ^ 62) ∧ R (Itr i (j - i).toNat) H1
theorem pi_range1 {a : Expr} {ta : TA} {p pos : Pos} (hg : Gl X "range") (hm : X.mg "range" = none) (ha : PA X [a] ta) (hs : starEach [a] X.env = [(false, eval a X.env)] := by rfl) : PI X tg (.Call (.Name "range" p) [a] [] pos) (iRng1 ta) := by
  intro pins s σ H R I h
  refine Call_ (ld_blt I hg hm boot_range (PyProof.Rows.callWith_type1 (thn (ha pos pins s σ H _ I h) fun us s1 ⟨vs, H1, I1, r1, q1⟩ => ?_) hs rfl))
  obtain ⟨j, e, q1, q2, q⟩ := q1
  subst e
  cases r1 with
  | cons r rr =>
    cases rr
    obtain ⟨t, rfl⟩ := r
    exact call_range_1 (range_it I1 (by omega) (by omega) q1 q2 (by simpa using q))
theorem pi_range2 {a b : Expr} {ta : TA} {p pos : Pos} (hg : Gl X "range") (hm : X.mg "range" = none) (ha : PA X [a, b] ta) (hs : starEach [a, b] X.env = [(false, eval a X.env), (false, eval b X.env)] := by rfl) (hs2 : starEach [b] X.env = [(false, eval b X.env)] := by rfl) :
    PI X tg (.Call (.Name "range" p) [a, b] [] pos) (iRng2 ta) := by
  intro pins s σ H R I h
  refine Call_ (ld_blt I hg hm boot_range (PyProof.Rows.callWith_type1 (thn (ha pos pins s σ H _ I h) fun us s1 ⟨vs, H1, I1, r1, q1⟩ => ?_) (by rw [hs, hs2]) (by rw [hs2]; rfl)))
  obtain ⟨i, j, e, ⟨q1, q2, q3, q4⟩, q⟩ := q1
  subst e
  cases r1 with
  | cons r rr =>
    cases rr with
    | cons r' rr =>
      cases rr
      obtain ⟨t, rfl⟩ := r
      obtain ⟨t', rfl⟩ := r'
      exact call_range_2 (range_it I1 q1 q2 q3 q4 q)

noncomputable def tFor (wi : TI) (g : TG) (tb : TS) : TS := fun D σ H => wi σ H fun J H1 => ∃ W : Nat → Nat → St → Hp → Prop, (∃ m, W 0 m σ H1) ∧ ∀ i m σ H, W i m σ H →
  (J.stop i H ∧ D.nx σ H) ∨ (J.go i H ∧ ∃ N : St → Hp → Prop, (∀ σ' H', N σ' H' → ∃ m', m' < m ∧ W (i + 1) m' σ' H') ∧ ∀ x H', J.yld i H x H' → g x σ H' fun σ2 H2 => tb { D with nx := N, ct := N, bk := D.nx } σ2 H2)
noncomputable def pinsAt (fp : List Addr) (h : Heap) : List (Addr × Obj) := fp.filterMap fun b => (h.get? b).map fun o => (b, o)
theorem mem_pinsAt {fp : List Addr} {h : Heap} {b : Addr} {o : Obj} (hb : b ∈ fp) (e : h.get? b = some o) : (b, o) ∈ pinsAt fp h := List.mem_filterMap.mpr ⟨b, hb, by rw [e]; rfl⟩
theorem of_pinsAt {fp : List Addr} {h : Heap} {p : Addr × Obj} (hp : p ∈ pinsAt fp h) : p.1 ∈ fp ∧ h.get? p.1 = some p.2 := by
  obtain ⟨b, hb, e⟩ := List.mem_filterMap.mp hp
  cases q : h.get? b with
  | none => rw [q] at e; cases e
  | some o =>
    rw [q] at e
    have e' : (b, o) = p := Option.some.inj e
    subst e'
    exact ⟨hb, q⟩
theorem Inv.pinned {pins : List (Addr × Obj)} {σ : St} {H : Hp} {s : Shared} {fp : List Addr} (I : Inv X pins σ H s) (hf : ∀ b ∈ fp, FpOk X pins H b) (ho : ∀ b ∈ fp, ∃ o, s.heap.get? b = some o ∧ ∀ v, o.data ≠ .cell v) : Inv X (pins ++ pinsAt fp s.heap) σ H s :=
  I.pins_of fun p hp => (List.mem_append.mp hp).elim (fun z => I.pin p (List.mem_append_right _ z)) fun z => by
    obtain ⟨hb, e⟩ := of_pinsAt z
    obtain ⟨f0, f1, f2, _⟩ := hf p.1 hb
    obtain ⟨o, e', d⟩ := ho p.1 hb
    rw [e] at e'; cases e'
    exact ⟨e, f0, f1, f2, d⟩
theorem Inv.unpinned {pins pl : List (Addr × Obj)} {σ : St} {H : Hp} {s : Shared} (I : Inv X (pins ++ pl) σ H s) : Inv X pins σ H s := I.pins_of fun p hp => I.pin p (List.mem_append_right _ (List.mem_append_left _ hp))
theorem ps_for {iter : Expr} {body : List Stmt} {wi : TI} {g : TG} {tb : TS} {pos : Pos} (hp : PassesOwn (model X.prog X.w) X.A X.env X.xe) (hc : X.calm = true) (hi : PI X tg iter wi) (hg : PG X tg g) (hb : PSs X body tb)
    (hs : ∀ x, foldedSetIterable iter X.env x = pure x := by intro _; rfl) : PS X (.For tg iter body [] pos) (tFor wi g tb) := by
  intro pins s σ H D I h
  refine wpAny_For (thn (hi pins s σ H _ I h) fun v s1 h1 => thn h1 fun itv s2 h2 => ?_) hs
  obtain ⟨it, fp, tn, J, H2, e, I2, T, st2, f2, W, ⟨m0, w0⟩, turn⟩ := h2
  subst e
  -- what stays true of the iterator's objects through the loop
  have stat : ∀ {H' : Hp}, (∀ b ∈ fp, H' b = none) → ∀ b ∈ fp, FpOk X pins H' b := fun hn b hb => ⟨hn b hb, (f2 b hb).2⟩
  refine codeAny_forLoop_any (fun n s' => ∃ i σ' H', Inv X pins σ' H' s' ∧ tn i s'.heap ∧ (∀ b ∈ fp, H' b = none) ∧ W i n σ' H') ?_ m0 ⟨0, σ, H2, I2, st2, fun b hb => (f2 b hb).1, w0⟩
  rintro n s3 ⟨i, σ3, H3, I3, st3, fr3, w3⟩
  rcases turn i n σ3 H3 w3 with ⟨stop, qn⟩ | ⟨go, N, hN, step⟩
  · refine wpAny_passesOwn hp (thn (T.done X rfl rfl rfl hc i pins s3 σ3 H3 X.xe I3 (stat fr3) st3 stop) fun r s4 ⟨hr, I4⟩ => ?_)
    subst hr
    exact wpAny_execs_nil ⟨σ3, H3, I4, qn⟩
  · refine wpAny_passesOwn hp (thn (T.item X rfl rfl rfl hc i pins s3 σ3 H3 X.xe I3 (stat fr3) st3 go) fun r s4 ⟨u, hr, h4⟩ => ?_)
    subst hr
    refine wpAny_passesOwn hp (thn h4 fun _ s5 ⟨x, H5, I5, r5, y5, st5, fr5⟩ => ?_)
    have I5' := I5.pinned (stat fr5) (T.obj _ _ st5)
    refine wpAny_passesOwn hp (thn (hg _ s5 σ3 H5 x u _ I5' r5 (step x H5 y5)) fun _ s6 ⟨σ6, H6, I6, q6⟩ => ?_)
    refine wpAny_passesOwn hp (thn (hb _ s6 σ6 H6 _ I6 q6) fun f s7 q7 => ?_)
    have again : ∀ {σ7 : St} {H7 : Hp}, Inv X (pins ++ pinsAt fp s5.heap) σ7 H7 s7 → N σ7 H7 → ∃ m, m < n ∧ ∃ i σ' H', Inv X pins σ' H' s7 ∧ tn i s7.heap ∧ (∀ b ∈ fp, H' b = none) ∧ W i m σ' H' := fun {σ7 H7} I7 n7 => by
      obtain ⟨m', hm, w7⟩ := hN σ7 H7 n7
      refine ⟨m', hm, i + 1, σ7, H7, I7.unpinned, T.keep _ _ _ st5 fun b hb o e => (I7.pin (b, o) (List.mem_append_right _ (List.mem_append_right _ (mem_pinsAt hb e)))).1, fun b hb => ?_, w7⟩
      obtain ⟨o, e, d⟩ := T.obj _ _ st5 b hb
      exact (I7.pin (b, o) (List.mem_append_right _ (List.mem_append_right _ (mem_pinsAt hb e)))).2.1
    cases f with
    | next => obtain ⟨σ7, H7, I7, n7⟩ := q7; exact again I7 n7
    | cont => obtain ⟨σ7, H7, I7, n7⟩ := q7; exact again I7 n7
    | brk => obtain ⟨σ7, H7, I7, q7⟩ := q7; exact ⟨σ7, H7, I7.unpinned, q7⟩
    | ret v => obtain ⟨x7, σ7, H7, I7, r7, q7⟩ := q7; exact ⟨x7, σ7, H7, I7.unpinned, r7, q7⟩
end

theorem for_list {K : PySem.W.Frag} {a : Addr} {xs : List V} {g : TG} {tb : TS} {D : Ends} {σ : St} {H : Hp} (Pv : Nat → St → Hp → Prop) (h0 : Pv 0 σ H) (hl : ∀ i σ H, i ≤ xs.length → Pv i σ H → SqL K H a xs)
    (hs : ∀ i x σ H, xs[i]? = some x → Pv i σ H → g x σ H fun σ2 H2 => tb { D with nx := Pv (i + 1), ct := Pv (i + 1), bk := D.nx } σ2 H2) (hd : ∀ σ H, Pv xs.length σ H → D.nx σ H) :
    ∃ W : Nat → Nat → St → Hp → Prop, (∃ m, W 0 m σ H) ∧ ∀ i m σ H, W i m σ H →
      ((Itl K a).stop i H ∧ D.nx σ H) ∨ ((Itl K a).go i H ∧ ∃ N : St → Hp → Prop, (∀ σ' H', N σ' H' → ∃ m', m' < m ∧ W (i + 1) m' σ' H') ∧ ∀ x H', (Itl K a).yld i H x H' → g x σ H' fun σ2 H2 => tb { D with nx := N, ct := N, bk := D.nx } σ2 H2) := by
  refine ⟨fun i m σ H => m = xs.length - i ∧ i ≤ xs.length ∧ Pv i σ H, ⟨xs.length, by simp, Nat.zero_le _, h0⟩, ?_⟩
  rintro i m σ H ⟨rfl, hi, p⟩
  have q := hl i σ H hi p
  by_cases hlt : i < xs.length
  · refine .inr ⟨⟨xs, xs[i], q, by simp [hlt]⟩, Pv (i + 1), fun σ' H' p' => ⟨xs.length - (i + 1), by omega, rfl, hlt, p'⟩, fun x H' y => ?_⟩
    obtain ⟨e, y⟩ := y
    subst e
    exact hs i x σ _ (y xs q) p
  · have e : i = xs.length := by omega
    subst e
    exact .inl ⟨⟨xs, q, Nat.le_refl _⟩, hd σ H p⟩
theorem for_range {lo : Int} {n : Nat} {g : TG} {tb : TS} {D : Ends} {σ : St} {H : Hp} (Pv : Nat → St → Hp → Prop) (h0 : Pv 0 σ H)
    (hs : ∀ i σ H, i < n → Pv i σ H → g (.int (lo + i)) σ H fun σ2 H2 => tb { D with nx := Pv (i + 1), ct := Pv (i + 1), bk := D.nx } σ2 H2) (hd : ∀ σ H, Pv n σ H → D.nx σ H) :
    ∃ W : Nat → Nat → St → Hp → Prop, (∃ m, W 0 m σ H) ∧ ∀ i m σ H, W i m σ H →
      ((Itr lo n).stop i H ∧ D.nx σ H) ∨ ((Itr lo n).go i H ∧ ∃ N : St → Hp → Prop, (∀ σ' H', N σ' H' → ∃ m', m' < m ∧ W (i + 1) m' σ' H') ∧ ∀ x H', (Itr lo n).yld i H x H' → g x σ H' fun σ2 H2 => tb { D with nx := N, ct := N, bk := D.nx } σ2 H2) := by
  refine ⟨fun i m σ H => m = n - i ∧ i ≤ n ∧ Pv i σ H, ⟨n, by simp, Nat.zero_le _, h0⟩, ?_⟩
  rintro i m σ H ⟨rfl, hi, p⟩
  by_cases hlt : i < n
  · refine .inr ⟨hlt, Pv (i + 1), fun σ' H' p' => ⟨n - (i + 1), by omega, rfl, hlt, p'⟩, fun x H' y => ?_⟩
    obtain ⟨e, y⟩ := y
    subst e y
    exact hs i σ _ hlt p
  · have e : i = n := by omega
    subst e
    exact .inl ⟨Nat.le_refl _, hd σ H p⟩
theorem while_by {c : TT} {tb : TS} {D : Ends} {σ : St} {H : Hp} (Pv : St → Hp → Prop) (μ : St → Hp → Nat) (h0 : Pv σ H)
    (hs : ∀ σ H, Pv σ H → c σ H fun b H1 => if b = true then tb { D with nx := fun σ' H' => Pv σ' H' ∧ μ σ' H' < μ σ H, ct := fun σ' H' => Pv σ' H' ∧ μ σ' H' < μ σ H, bk := D.nx } σ H1 else D.nx σ H1)
    (mono : ∀ σ H Q Q', (∀ b H1, Q b H1 → Q' b H1) → c σ H Q → c σ H Q') : tWhile c tb D σ H := by
  refine ⟨fun m σ H => m = μ σ H ∧ Pv σ H, ⟨_, rfl, h0⟩, ?_⟩
  rintro m σ H ⟨rfl, p⟩
  refine mono σ H _ _ (fun b H1 q => ?_) (hs σ H p)
  cases b with
  | true => exact ⟨_, fun σ' H' ⟨p', l⟩ => ⟨_, l, rfl, p'⟩, q⟩
  | false => exact q
end L2

namespace L2
open PySem PySem.Spec PyProof.Rows

noncomputable abbrev R2 := V → V → Hp → VK → Prop
noncomputable def OpR (X : Cx) (f : Value → Value → Sem Value) (r : R2) : Prop :=
  ∀ (pins : List (Addr × Obj)) (s : Shared) (σ : St) (H : Hp) (x y : V) (v u : Value) (Q : VK), Inv X pins σ H s → RelV x v → RelV y u → r x y H Q →
    wpAny (model X.prog X.w) X.A (f v u) (EP X pins σ Q) X.xe s
noncomputable def UnR (X : Cx) (f : Value → Sem Value) (r : V → Hp → VK → Prop) : Prop :=
  ∀ (pins : List (Addr × Obj)) (s : Shared) (σ : St) (H : Hp) (x : V) (v : Value) (Q : VK), Inv X pins σ H s → RelV x v → r x H Q →
    wpAny (model X.prog X.w) X.A (f v) (EP X pins σ Q) X.xe s
noncomputable def CallR (X : Cx) (f : Value) (r : List V → Hp → VK → Prop) : Prop :=
  ∀ (pins : List (Addr × Obj)) (s : Shared) (σ : St) (H : Hp) (xs : List V) (us : List Value) (Q : VK), Inv X pins σ H s → Vals xs us → r xs H Q →
    wpAny (model X.prog X.w) X.A (call f us) (EP X pins σ Q) X.xe s
noncomputable def TruR (X : Cx) (r : V → Hp → (Bool → Hp → Prop) → Prop) : Prop :=
  ∀ (pins : List (Addr × Obj)) (s : Shared) (σ : St) (H : Hp) (x : V) (v : Value) (Q : Bool → Hp → Prop), Inv X pins σ H s → RelV x v → r x H Q →
    wpAny (model X.prog X.w) X.A (truthy v) (TP X pins σ Q) X.xe s

noncomputable def tOp (r : R2) (ta tb : TE) : TE := fun σ H Q => ta σ H fun x H1 => tb σ H1 fun y H2 => r x y H2 Q
noncomputable def tUn (r : V → Hp → VK → Prop) (ta : TE) : TE := fun σ H Q => ta σ H fun x H1 => r x H1 Q
noncomputable def rI (C : Int → Int → Prop) (g : Int → Int → V) : R2 := fun x y H Q => ∃ i j, x = .int i ∧ y = .int j ∧ C i j ∧ Q (g i j) H
noncomputable def rI0 (g : Int → Int → V) : R2 := fun x y H Q => ∃ i j, x = .int i ∧ y = .int j ∧ Q (g i j) H
noncomputable def rU (g : Int → V) : V → Hp → VK → Prop := fun x H Q => ∃ i, x = .int i ∧ Q (g i) H

section
variable {X : Cx} {a b c : Expr} {ta tb tc : TE} {pos : Pos}

theorem binT (ha : PE X a ta) (hb : PE X b tb) {pins : List (Addr × Obj)} {s : Shared} {σ : St} {H : Hp} {R : V → V → Hp → Prop} (I : Inv X pins σ H s)
    (h : ta σ H fun x H1 => tb σ H1 fun y H2 => R x y H2) {Q : Value → Shared → Prop} {f : Value → Value → Sem Value}
    (hf : ∀ v u s2 x y H2, Inv X pins σ H2 s2 → RelV x v → RelV y u → R x y H2 → wpAny (model X.prog X.w) X.A (f v u) Q X.xe s2) :
    wpAny (model X.prog X.w) X.A (eval a X.env) (fun v s₁ => wpAny (model X.prog X.w) X.A (eval b X.env) (fun u s₂ => wpAny (model X.prog X.w) X.A (f v u) Q X.xe s₂) X.xe s₁) X.xe s := by
  refine thn (ha pins s σ H _ I h) fun v s1 ⟨x, H1, I1, r1, q1⟩ => ?_
  refine thn (hb pins s1 σ H1 _ I1 q1) fun u s2 ⟨y, H2, I2, r2, q2⟩ => ?_
  exact hf v u s2 x y H2 I2 r1 r2 q2

theorem pe_op {op : Operator} {r : R2} (ho : OpR X (binaryOp op) r) (ha : PE X a ta) (hb : PE X b tb) : PE X (.BinOp a op b pos) (tOp r ta tb) := by
  intro pins s σ H Q I h
  exact wpAny_BinOp (binT ha hb I h fun v u s2 x y H2 I2 rx ry q => ho pins s2 σ H2 x y v u Q I2 rx ry q)
theorem pe_un {op : UnaryOp} {r : V → Hp → VK → Prop} (ho : UnR X (unaryOp op) r) (ha : PE X a ta) : PE X (.UnaryOp op a pos) (tUn r ta) := by
  intro pins s σ H Q I h
  exact UnaryOp_ (thn (ha pins s σ H _ I h) fun v s1 ⟨x, H1, I1, r1, q1⟩ => ho pins s1 σ H1 x v Q I1 r1 q1)
theorem opI {f : Value → Value → Sem Value} {C : Int → Int → Prop} {g : Int → Int → Int}
    (rule : ∀ (i j : Int) (t u : Tok) (s : Shared) (Q : Value → Shared → Prop) (E : Value → Shared → Prop), C i j → Q (.int (g i j) s.toks) { s with toks := s.toks + 1 } → wpAny (model X.prog X.w) X.A (f (.int i t) (.int j u)) Q E s) :
    OpR X f (rI C fun i j => .int (g i j)) := by
  intro pins s σ H x y v u Q I rx ry h
  obtain ⟨i, j, rfl, rfl, hc, q⟩ := h
  obtain ⟨t, rfl⟩ := rx
  obtain ⟨t', rfl⟩ := ry
  exact rule i j t t' s _ _ hc ⟨.int (g i j), H, I.tok _, ⟨_, rfl⟩, q⟩
theorem opI0 {f : Value → Value → Sem Value} {g : Int → Int → Int}
    (rule : ∀ (i j : Int) (t u : Tok) (s : Shared) (Q : Value → Shared → Prop) (E : Value → Shared → Prop), Q (.int (g i j) s.toks) { s with toks := s.toks + 1 } → wpAny (model X.prog X.w) X.A (f (.int i t) (.int j u)) Q E s) :
    OpR X f (rI0 fun i j => .int (g i j)) := by
  intro pins s σ H x y v u Q I rx ry h
  obtain ⟨i, j, rfl, rfl, q⟩ := h
  obtain ⟨t, rfl⟩ := rx
  obtain ⟨t', rfl⟩ := ry
  exact rule i j t t' s _ _ ⟨.int (g i j), H, I.tok _, ⟨_, rfl⟩, q⟩
theorem opB0 {f : Value → Value → Sem Value} {g : Int → Int → Bool}
    (rule : ∀ (i j : Int) (t u : Tok) (s : Shared) (Q : Value → Shared → Prop) (E : Value → Shared → Prop), Q (.bool (g i j)) s → wpAny (model X.prog X.w) X.A (f (.int i t) (.int j u)) Q E s) :
    OpR X f (rI0 fun i j => .bl (g i j)) := by
  intro pins s σ H x y v u Q I rx ry h
  obtain ⟨i, j, rfl, rfl, q⟩ := h
  obtain ⟨t, rfl⟩ := rx
  obtain ⟨t', rfl⟩ := ry
  exact rule i j t t' s _ _ ⟨.bl (g i j), H, I, rfl, q⟩

noncomputable def CDiv (i j : Int) : Prop := 0 < j ∧ j < 1073741824
noncomputable def CPow (i j : Int) : Prop := 0 ≤ j ∧ j ≤ 1000000 ∧ i.natAbs < 2 ^ 64
noncomputable def CMul (i j : Int) : Prop := (-(2 ^ 64) < i ∧ i < 2 ^ 64) ∨ (-(2 ^ 64) < j ∧ j < 2 ^ 64)
theorem CMul.ok {i j : Int} (h : CMul i j) : IntMulOk i j := by
  rcases h with ⟨h1, h2⟩ | ⟨h1, h2⟩
  · exact .of_left (intBits_le_64 h1 h2)
  · exact .of_right (intBits_le_64 h1 h2)
theorem op_add : OpR X (binaryOp .Add) (rI0 fun i j => .int (i + j)) := opI0 fun _ _ _ _ _ _ _ q => add_int q
theorem op_sub : OpR X (binaryOp .Sub) (rI0 fun i j => .int (i - j)) := opI0 fun _ _ _ _ _ _ _ q => sub_int q
theorem op_mul : OpR X (binaryOp .Mult) (rI CMul fun i j => .int (i * j)) := opI fun _ _ _ _ _ _ _ hc q => mul_int q hc.ok
theorem op_fdiv : OpR X (binaryOp .FloorDiv) (rI CDiv fun i j => .int (i / j)) := opI fun i j _ _ _ _ _ hc q => by
  have h1 : (0 : Int) < j := hc.1
  have h2 : j < 1073741824 := hc.2
  exact floordiv_int (by omega) (by rw [Int.fdiv_eq_ediv_of_nonneg i (by omega)]; exact q) (.inl (PyProof.noPylong_small (by omega)))
theorem op_mod : OpR X (binaryOp .Mod) (rI (fun _ j => 0 < j) fun i j => .int (i % j)) := opI fun i j _ _ _ _ _ hc q => by
  have h1 : (0 : Int) < j := hc
  exact mod_int' (by omega) (by rw [Int.fmod_eq_emod_of_nonneg i (by omega)]; exact q)
theorem op_pow : OpR X (binaryOp .Pow) (rI CPow fun i j => .int (i ^ j.toNat)) := opI fun _ _ _ _ _ _ _ hc q => pow_int_small hc.1 hc.2.1 hc.2.2 q
theorem unI {f : Value → Sem Value} {g : Int → Int}
    (rule : ∀ (i : Int) (t : Tok) (s : Shared) (Q : Value → Shared → Prop) (E : Value → Shared → Prop), Q (.int (g i) s.toks) { s with toks := s.toks + 1 } → wpAny (model X.prog X.w) X.A (f (.int i t)) Q E s) :
    UnR X f (rU fun i => .int (g i)) := by
  intro pins s σ H x v Q I rx h
  obtain ⟨i, rfl, q⟩ := h
  obtain ⟨t, rfl⟩ := rx
  exact rule i t s _ _ ⟨.int (g i), H, I.tok _, ⟨_, rfl⟩, q⟩
theorem un_neg : UnR X (unaryOp .USub) (rU fun i => .int (-i)) := unI fun _ _ _ _ _ q => neg_int q
end

noncomputable def scal : V → V → Bool
  | .non, .non => true | .non, .int _ => true | .int _, .non => true | .non, .bl _ => true | .bl _, .non => true | .non, .str _ => true | .str _, .non => true
  | .int _, .int _ => true | .bl _, .bl _ => true | .str _, .str _ => true | .byt _, .byt _ => true
  | .int _, .str _ => true | .str _, .int _ => true | .bl _, .str _ => true | .str _, .bl _ => true
  | _, _ => false
noncomputable def rEq : R2 := fun x y H Q => scal x y = true ∧ Q (.bl (decide (x = y))) H
noncomputable def rNe : R2 := fun x y H Q => scal x y = true ∧ Q (.bl (!decide (x = y))) H

theorem dec_int {i j : Int} : decide (V.int i = V.int j) = (i == j) := by
  rw [Bool.eq_iff_iff]
  simp
theorem dec_bl {i j : Bool} : decide (V.bl i = V.bl j) = (i == j) := by
  rw [Bool.eq_iff_iff]
  simp
theorem dec_str {i j : Str} : decide (V.str i = V.str j) = (i == j) := by
  rw [Bool.eq_iff_iff]
  simp
theorem dec_byt {i j : Array UInt8} : decide (V.byt i = V.byt j) = (i.toList == j.toList) := by
  rw [Bool.eq_iff_iff]
  cases i
  cases j
  simp

section
variable {X : Cx} {a b c : Expr} {ta tb tc : TE} {pos : Pos}
theorem fin_bl {pins : List (Addr × Obj)} {σ : St} {H : Hp} {s : Shared} {Q : VK} {k k' : Bool} (I : Inv X pins σ H s) (q : Q (.bl k) H) (e : k = k') : EP X pins σ Q (.bool k') s := by
  subst e
  exact ⟨.bl k, H, I, rfl, q⟩
theorem op_eq : OpR X (compareOp .Eq) rEq := by
  intro pins s σ H x y v u Q I rx ry h
  obtain ⟨hs, q⟩ := h
  cases x with
  | non =>
    cases rx
    cases y with
    | non => cases ry; exact PySem.EqNone.eq_none_none (fin_bl I q (by simp))
    | bl j => cases ry; exact PySem.EqNone.eq_none_bool (fin_bl I q (by simp))
    | int j => obtain ⟨t', rfl⟩ := ry; exact PySem.EqNone.eq_none_int (fin_bl I q (by simp))
    | str j => obtain ⟨t', rfl⟩ := ry; exact PySem.EqNone.eq_none_str (fin_bl I q (by simp))
    | _ => exact absurd (show false = true from hs) Bool.false_ne_true
  | bl i =>
    cases rx
    cases y with
    | non => cases ry; exact PySem.EqNone.eq_bool_none (fin_bl I q (by simp))
    | bl j => cases ry; exact eq_bool (fin_bl I q dec_bl)
    | str j => obtain ⟨t', rfl⟩ := ry; exact PySem.EqMixed.eq_bool_str (fin_bl I q (by simp))
    | _ => exact absurd (show false = true from hs) Bool.false_ne_true
  | int i =>
    obtain ⟨t, rfl⟩ := rx
    cases y with
    | non => cases ry; exact PySem.EqNone.eq_int_none (fin_bl I q (by simp))
    | int j => obtain ⟨t', rfl⟩ := ry; exact eq_int (fin_bl I q dec_int)
    | str j => obtain ⟨t', rfl⟩ := ry; exact PySem.EqMixed.eq_int_str (fin_bl I q (by simp))
    | _ => exact absurd (show false = true from hs) Bool.false_ne_true
  | str i =>
    obtain ⟨t, rfl⟩ := rx
    cases y with
    | non => cases ry; exact PySem.EqNone.eq_str_none (fin_bl I q (by simp))
    | bl j => cases ry; exact PySem.EqMixed.eq_str_bool (fin_bl I q (by simp))
    | int j => obtain ⟨t', rfl⟩ := ry; exact PySem.EqMixed.eq_str_int (fin_bl I q (by simp))
    | str j => obtain ⟨t', rfl⟩ := ry; exact eq_str (fin_bl I q dec_str)
    | _ => exact absurd (show false = true from hs) Bool.false_ne_true
  | byt i =>
    obtain ⟨t, rfl⟩ := rx
    cases y with
    | byt j => obtain ⟨t', rfl⟩ := ry; exact PySem.W.eq_bytes (fin_bl I q dec_byt)
    | _ => exact absurd (show false = true from hs) Bool.false_ne_true
  | _ => cases y <;> exact absurd (show false = true from hs) Bool.false_ne_true
theorem op_ne : OpR X (compareOp .NotEq) rNe := by
  intro pins s σ H x y v u Q I rx ry h
  obtain ⟨hs, q⟩ := h
  cases x with
  | non =>
    cases rx
    cases y with
    | non => cases ry; exact PySem.EqNone.ne_none_none (fin_bl I q (by simp))
    | bl j => cases ry; exact PySem.EqNone.ne_none_bool (fin_bl I q (by simp))
    | int j => obtain ⟨t', rfl⟩ := ry; exact PySem.EqNone.ne_none_int (fin_bl I q (by simp))
    | str j => obtain ⟨t', rfl⟩ := ry; exact PySem.EqNone.ne_none_str (fin_bl I q (by simp))
    | _ => exact absurd (show false = true from hs) Bool.false_ne_true
  | bl i =>
    cases rx
    cases y with
    | non => cases ry; exact PySem.EqNone.ne_bool_none (fin_bl I q (by simp))
    | bl j => cases ry; exact ne_bool (fin_bl I q (congrArg not dec_bl))
    | str j => obtain ⟨t', rfl⟩ := ry; exact PySem.EqMixed.ne_bool_str (fin_bl I q (by simp))
    | _ => exact absurd (show false = true from hs) Bool.false_ne_true
  | int i =>
    obtain ⟨t, rfl⟩ := rx
    cases y with
    | non => cases ry; exact PySem.EqNone.ne_int_none (fin_bl I q (by simp))
    | int j => obtain ⟨t', rfl⟩ := ry; exact ne_int (fin_bl I q (congrArg not dec_int))
    | str j => obtain ⟨t', rfl⟩ := ry; exact PySem.EqMixed.ne_int_str (fin_bl I q (by simp))
    | _ => exact absurd (show false = true from hs) Bool.false_ne_true
  | str i =>
    obtain ⟨t, rfl⟩ := rx
    cases y with
    | non => cases ry; exact PySem.EqNone.ne_str_none (fin_bl I q (by simp))
    | bl j => cases ry; exact PySem.EqMixed.ne_str_bool (fin_bl I q (by simp))
    | int j => obtain ⟨t', rfl⟩ := ry; exact PySem.EqMixed.ne_str_int (fin_bl I q (by simp))
    | str j => obtain ⟨t', rfl⟩ := ry; exact ne_str (fin_bl I q (congrArg not dec_str))
    | _ => exact absurd (show false = true from hs) Bool.false_ne_true
  | byt i =>
    obtain ⟨t, rfl⟩ := rx
    cases y with
    | byt j => obtain ⟨t', rfl⟩ := ry; exact PySem.W.ne_bytes (fin_bl I q (congrArg not dec_byt))
    | _ => exact absurd (show false = true from hs) Bool.false_ne_true
  | _ => cases y <;> exact absurd (show false = true from hs) Bool.false_ne_true

theorem op_lt : OpR X (compareOp .Lt) (rI0 fun i j => .bl (decide (i < j))) := opB0 fun _ _ _ _ _ _ _ q => lt_int q
theorem op_le : OpR X (compareOp .LtE) (rI0 fun i j => .bl (decide (i ≤ j))) := opB0 fun _ _ _ _ _ _ _ q => le_int q
theorem op_gt : OpR X (compareOp .Gt) (rI0 fun i j => .bl (decide (j < i))) := opB0 fun _ _ _ _ _ _ _ q => gt_int q
theorem op_isN : OpR X (compareOp .Is) (fun x y H Q => y = .non ∧ Q (.bl (decide (x = .non))) H) := by
  intro pins s σ H x y v u Q I rx ry h
  obtain ⟨rfl, q⟩ := h
  cases ry
  refine is_none_gen (fin_bl I q ?_)
  cases x <;> first
    | (cases rx; rfl)
    | (obtain ⟨t, rfl⟩ := rx; rfl)
theorem nomark (b : Expr) {op : CmpOp} (h : op ≠ .In := by decide) (h2 : op ≠ .NotIn := by decide) : behindInMarks op b = false := by
  have e1 : (op == CmpOp.In) = false := by cases op <;> first | rfl | exact absurd rfl h
  have e2 : (op == CmpOp.NotIn) = false := by cases op <;> first | rfl | exact absurd rfl h2
  cases b <;> simp [behindInMarks, e1, e2]
theorem pe_cmpR {op : CmpOp} {r : R2} (ho : OpR X (compareOp op) r) (ha : PE X a ta) (hb : PE X b tb) (hm : behindInMarks op b = false) : PE X (.Compare a [op] [b] pos) (tOp r ta tb) := by
  intro pins s σ H Q I h
  exact wpAny_Compare1 (binT ha hb I h fun v u s2 x y H2 I2 rx ry q => ho pins s2 σ H2 x y v u Q I2 rx ry q) hm
noncomputable def tTest (t : TE) : TT := fun σ H Q => t σ H fun x H' => ∃ k, x = .bl k ∧ Q k H'
theorem pt_cmpR {op : CmpOp} {r : R2} (ho : OpR X (compareOp op) r) (ha : PE X a ta) (hb : PE X b tb) (hm : behindInMarks op b = false) : PT X (.Compare a [op] [b] pos) (tTest (tOp r ta tb)) := by
  intro pins s σ H Q I h
  refine wpAny_isTrue_Compare1 (thn (ha pins s σ H _ I h) fun v s1 ⟨x, H1, I1, r1, q1⟩ => thn (hb pins s1 σ H1 _ I1 q1) fun u s2 ⟨y, H2, I2, r2, q2⟩ =>
    thn (ho pins s2 σ H2 x y v u _ I2 r1 r2 q2) fun c s3 ⟨z, H3, I3, r3, k, e, q3⟩ => ?_) hm
  subst e
  cases r3
  exact wpAny_truthy_bool ⟨H3, I3, q3⟩
noncomputable def TruV (K : PySem.W.Frag) (x : V) (H : Hp) (k : Bool) : Prop :=
  match x with
  | .non => k = false
  | .bl b => k = b
  | .int i => k = (i != 0)
  | .str y => y.length ≤ sizeLine ∧ k = ((y.length : Int) != 0)
  | .byt y => y.size ≤ sizeLine ∧ k = ((y.size : Int) != 0)
  | .ref p => (∃ xs, SqL K H p xs ∧ k = !xs.isEmpty) ∨ (∃ xs, SqT K H p xs ∧ k = !xs.isEmpty) ∨ ∃ kvs, H p = some (.dK kvs) ∧ k = !kvs.isEmpty
  | _ => False
theorem isEmpty_kv {κ : Type} {kvs : List (κ × V)} {vs : List (κ × Value)} (r : KV kvs vs) : (!vs.isEmpty) = !kvs.isEmpty := by
  cases r <;> rfl
theorem isEmpty_of {xs : List V} {its : List Value} (r : Vals xs its) : (!its.toArray.isEmpty) = !xs.isEmpty := by
  cases r <;> simp
theorem line63 : (sizeLine : Nat) < 2 ^ 63 := by rw [sizeLine_eq]; decide
theorem tru_ok : TruR X (fun x H Q => ∃ k, TruV X.K x H k ∧ Q k H) := by
  intro pins s σ H x v Q I rx h
  obtain ⟨k, e, q⟩ := h
  have hl := line63
  have hs : sizeLine = 16777216 := sizeLine_eq
  cases x with
  | non =>
    cases rx
    have e' : k = false := e
    subst e'
    exact truthy_none ⟨H, I, q⟩
  | bl b =>
    cases rx
    have e' : k = b := e
    subst e'
    exact wpAny_truthy_bool ⟨H, I, q⟩
  | int i =>
    obtain ⟨t, rfl⟩ := rx
    have e' : k = (i != 0) := e
    subst e'
    exact PySem.P.truthy_int ⟨H, I, q⟩
  | str y =>
    obtain ⟨t, rfl⟩ := rx
    obtain ⟨hy, e'⟩ : y.length ≤ sizeLine ∧ k = ((y.length : Int) != 0) := e
    subst e'
    exact PySem.P.truthy_str (by omega) ⟨H, I.tok _, q⟩
  | byt y =>
    obtain ⟨t, rfl⟩ := rx
    obtain ⟨hy, e'⟩ : y.size ≤ sizeLine ∧ k = ((y.size : Int) != 0) := e
    subst e'
    exact PySem.W.truthy_bytes (by omega) ⟨H, I.tok _, q⟩
  | ref p =>
    cases rx
    have e' : (∃ xs, SqL X.K H p xs ∧ k = !xs.isEmpty) ∨ (∃ xs, SqT X.K H p xs ∧ k = !xs.isEmpty) ∨ ∃ kvs, H p = some (.dK kvs) ∧ k = !kvs.isEmpty := e
    rcases e' with ⟨xs, hx, e'⟩ | ⟨xs, hx, e'⟩ | ⟨kvs, hx, e'⟩
    · subst e'
      obtain ⟨its, r, pl, hz⟩ := I.list hx
      have hlen := r.length
      exact wpAny_truthy_list pl.isList (by simp only [List.size_toArray]; omega) ⟨H, I.tok _, by rw [isEmpty_of r]; exact q⟩
    · subst e'
      obtain ⟨its, r, pl, hz⟩ := I.tuple hx
      have hlen := r.length
      exact truthy_tuple pl (by simp only [List.size_toArray]; omega) ⟨H, I.tok _, by rw [isEmpty_of r]; exact q⟩
    · subst e'
      obtain ⟨hz, hS, vs, r, m⟩ : kvs.length ≤ sizeLine ∧ (p == sysModules) = false ∧ ∃ vs, KV kvs vs ∧ s.heap.DictOf (mixKind X.prog X.w) p vs := I.hok p _ hx
      have hlen : kvs.length = vs.length := Paired.length r
      exact wpAny_truthy_dict hS m (by omega) ⟨H, I.tok _, by rw [isEmpty_kv r]; exact q⟩
  | _ => exact (show False from e).elim
theorem pt_truth (ha : PE X a ta) (he : ∀ whole, isTrue a X.env whole = (do let v ← whole; standAt a.pos; holding [v] (truthy v))) :
    PT X a (fun σ H Q => ta σ H fun x H' => ∃ k, TruV X.K x H' k ∧ Q k H') := by
  intro pins s σ H Q I h
  exact isTrue_plain (thn (ha pins s σ H _ I h) fun v s1 ⟨x, H1, I1, r1, q1⟩ => tru_ok pins s1 σ H1 x v Q I1 r1 q1) (he _)

theorem vals1 {x : V} {us : List Value} (r : Vals [x] us) : ∃ u, us = [u] ∧ RelV x u := by
  cases r with
  | cons r1 r2 => cases r2; exact ⟨_, rfl, r1⟩
end
end L2

namespace L2
open PySem PySem.Spec PyProof.Rows

structure ObjM (h : Heap) (x dx C : Addr) (mA : Str → Option Value) : Prop where
  obj : h.get? x = some (PySem.W.instObj C dx)
  ns : h.Ns1 dx mA
  ne : dx ≠ x

theorem lookIn_ns {h : Heap} {dx : Addr} {mA : Str → Option Value} (n : h.Ns1 dx mA) : ∃ od, h.get? dx = some od ∧ ∀ name, PySem.W.lookIn name od = some (mA name) := by
  obtain ⟨o, es, ep, ho, hd, hk, _, hm⟩ := n
  refine ⟨o, ho, fun name => ?_⟩
  have e := hm name
  unfold nsFind findBy at e
  rw [← Array.find?_toList] at e
  unfold PySem.W.lookIn
  rw [hd]
  dsimp only
  split
  · rename_i y q
    rw [q] at e
    exact congrArg some e
  · rename_i q
    rw [q] at e
    have a : es.toList.any (·.refKey) = false := by
      rw [List.any_eq_false]
      intro y hy
      obtain ⟨z, t, hkey⟩ := hk y (Array.mem_toList_iff.mp hy)
      simp [DictEntry.refKey, hkey]
    have a' : ¬ es.toList.any (·.refKey) = true := by rw [a]; exact Bool.false_ne_true
    rw [if_neg a']
    exact congrArg some e

theorem ObjM.look {h : Heap} {x dx C : Addr} {mA : Str → Option Value} (I : ObjM h x dx C mA) : ∃ od, PySem.W.InstAt h x (PySem.W.instObj C dx) C (some od) ∧ ∀ name, PySem.W.lookIn name od = some (mA name) :=
  let ⟨od, ho, hl⟩ := lookIn_ns I.ns
  ⟨od, ⟨I.obj, rfl, rfl, ho⟩, hl⟩

section
variable {prog : Program} {w : World} {A : Around} {E : Value → Shared → Prop} {s : Shared} {K : PySem.W.Frag} {x dx C f : Addr} {mA : Str → Option Value} {name : Str} {v : Value}

end

section
variable {P : Program} {w : World} {H H' : Hp} {h h' : Heap} {a C dx : Addr} {fs fs' : List (Str × V)}
theorem ins_get (hok : HOk P w H h) (e : H a = some (.ins C dx fs)) : ∃ mA, ObjM h a dx C mA ∧ (∀ f, RelO (fs.lookup f) (mA f)) ∧ PySem.Within mA (fs.map (·.1)) ∧ fs.length ≤ 1000 ∧ H dx = some (.own a) := by
  obtain ⟨d, z, ne, ob, mA, n, r, q⟩ := (show ObjOk P w H h a (.ins C dx fs) from hok a _ e)
  exact ⟨mA, ⟨ob, n, ne⟩, r, q, z, d⟩
end

structure Cls (K : PySem.W.Frag) (C : Addr) : Prop where
  pg : PySem.W.plainGet K C Str.empty = true
  hd : PySem.W.hasDictIn K C = true
  po : PySem.W.plainOver K C = true
  sa : PySem.W.findIn K (.ref C) "__setattr__" = some (some (.builtin "object.__setattr__"))
theorem Cls.get {K : PySem.W.Frag} {C : Addr} (c : Cls K C) (f : Str) : PySem.W.plainGet K C f = true := c.pg
section
variable {X : Cx} {pins : List (Addr × Obj)} {σ : St} {H : Hp} {s : Shared} {a C dx : Addr} {fs : List (Str × V)} {f : Str} {v : V} {A : Around} {E : Value → Shared → Prop}

end

section
variable {X : Cx} {o e value : Expr} {f : Str} {pos pos' tpos : Pos} {ta tv : TE}
end

section
variable {X : Cx} {pins : List (Addr × Obj)} {σ : St} {H : Hp} {s : Shared} {A : Around} {E : Value → Shared → Prop} {Q : Value → Shared → Prop} {c : Value} {b : Bool}
inductive TyOf (K : PySem.W.Frag) (H : Hp) : V → Value → Prop where
  | non : TyOf K H .non (.type "NoneType")
  | bl (x : Bool) : TyOf K H (.bl x) (.type "bool")
  | int (i : Int) : TyOf K H (.int i) (.type "int")
  | str (x : Str) : TyOf K H (.str x) (.type "str")
  | flt (x : UInt64) : TyOf K H (.flt x) (.type "float")
  | lst {a : Addr} {xs : List V} (e : H a = some (.lst xs)) : TyOf K H (.ref a) (.type "list")
  | frz {a : Addr} {o : Obj} {xs : List V} (e : H a = some (.frz o (.lst xs))) : TyOf K H (.ref a) (.type "list")
  | tup {a : Addr} {xs : List V} (e : H a = some (.tup xs)) : TyOf K H (.ref a) (.type "tuple")
  | dK {a : Addr} {kvs : List (Key × V)} (e : H a = some (.dK kvs)) : TyOf K H (.ref a) (.type "dict")
  | dT {a : Addr} {kvs : List (List Key × V)} (e : H a = some (.dT kvs)) : TyOf K H (.ref a) (.type "dict")
  | ins {a C dx : Addr} {fs : List (Str × V)} (e : H a = some (.ins C dx fs)) (cl : Cls K C) (ha : PySem.W.findIn K (.ref C) "__class__" = some (some (.builtin "object.__class__")))
      (hn : PySem.W.specialIn K (.builtin "object.__class__") "__get__" = some (some (.builtin "getset_descriptor.__get__"))) (htk : PySem.W.takesIn K (.builtin "object.__class__") = some true)
      (hm : PySem.W.mroIn K C (.type "object") = some true) : TyOf K H (.ref a) (.ref C)
theorem isinst_ok {x : V} {u t : Value} (I : Inv X pins σ H s) (rx : RelV x u) (ty : TyOf X.K H x t) (e : PySem.W.kitOne X.K t c = some b) (h : ∀ tk, Q (.bool b) { s with toks := tk }) :
    wpAny (model X.prog X.w) A (call (.builtin "isinstance") [u, c]) Q E s := by
  cases ty with
  | non => cases (show u = Value.none from rx); exact PySem.W.kia_one PySem.W.kitx_none I.kIn True.intro e (fun z => nomatch z) h
  | bl y => cases (show u = Value.bool y from rx); exact PySem.W.kia_one PySem.W.kitx_bool I.kIn True.intro e (fun z => nomatch z) h
  | int i => obtain ⟨t, q⟩ := (show ∃ t, u = Value.int i t from rx); cases q; exact PySem.W.kia_one PySem.W.kitx_int I.kIn True.intro e (fun z => nomatch z) h
  | str y => obtain ⟨t, q⟩ := (show ∃ t, u = Value.str y t from rx); cases q; exact PySem.W.kia_one PySem.W.kitx_str I.kIn True.intro e (fun z => nomatch z) h
  | flt y => obtain ⟨t, q⟩ := (show ∃ t, u = Value.float y t from rx); cases q; exact PySem.W.kia_one PySem.W.kitx_float I.kIn True.intro e (fun z => nomatch z) h
  | @lst a xs ea =>
    cases (show u = Value.ref a from rx)
    obtain ⟨_, _, n, _, h1⟩ := (show ObjOk X.prog X.w H s.heap a (.lst xs) from I.hok a _ ea)
    exact PySem.W.kia_one PySem.W.kitx_list I.kIn ⟨_, h1, rfl⟩ e (fun z => nomatch z) h
  | @frz a ob xs ea =>
    cases (show u = Value.ref a from rx)
    obtain ⟨_, _, _, n, _, h1⟩ := (show ObjOk X.prog X.w H s.heap a (.frz ob (.lst xs)) from I.hok a _ ea)
    exact PySem.W.kia_one PySem.W.kitx_list I.kIn ⟨_, h1, rfl⟩ e (fun z => nomatch z) h
  | @tup a xs ea =>
    cases (show u = Value.ref a from rx)
    obtain ⟨_, _, _, p⟩ := (show ObjOk X.prog X.w H s.heap a (.tup xs) from I.hok a _ ea)
    obtain ⟨o, h1, h2, _⟩ := p
    exact PySem.W.kia_one PySem.W.kitx_tuple I.kIn ⟨o, h1, h2⟩ e (fun z => nomatch z) h
  | @dK a kvs ea =>
    cases (show u = Value.ref a from rx)
    obtain ⟨_, _, vs, _, p⟩ := (show ObjOk X.prog X.w H s.heap a (.dK kvs) from I.hok a _ ea)
    obtain ⟨o, es, ep, h1, h2, _⟩ := p
    exact PySem.W.kia_one PySem.W.kitx_dict I.kIn ⟨o, h1, h2.1⟩ e (fun z => nomatch z) h
  | @dT a kvs ea =>
    cases (show u = Value.ref a from rx)
    obtain ⟨_, _, xs, _, o, es, ep, h1, h2, _⟩ := (show ObjOk X.prog X.w H s.heap a (.dT kvs) from I.hok a _ ea)
    exact PySem.W.kia_one PySem.W.kitx_dict I.kIn ⟨o, h1, h2.1⟩ e (fun z => nomatch z) h
  | @ins a C dx fs ea cl ha hn htk hm =>
    cases (show u = Value.ref a from rx)
    obtain ⟨mA, O, _⟩ := ins_get I.hok ea
    obtain ⟨od, J, _⟩ := O.look
    exact PySem.W.kia_one (PySem.W.kitx_own (cl.get _) cl.hd ha hn htk hm) I.kIn J e (fun z => nomatch z) h
end
end L2

namespace L2
open PySem PySem.Spec PyProof.Rows

structure Room (k : Nat) (A : Around) : Prop where
  hd : A.handled = none
  dp : A.depth + 3 * k + 5 < recursionLimit
  un : A.units + 16 * k + 200 < cLine
theorem Room.mono {j k : Nat} {A : Around} (r : Room k A) (h : j ≤ k) : Room j A := ⟨r.hd, by have := r.dp; omega, by have := r.un; omega⟩
theorem Room.deeper {k : Nat} {A : Around} (r : Room (k + 1) A) (env : Env) : Room k (A.deeper env) :=
  ⟨r.hd, by have := r.dp; show A.depth + 1 + 3 * k + 5 < _; omega, by have := r.un; show A.units + 3 + 16 * k + 200 < _; omega⟩
theorem Room.depth {k : Nat} {A : Around} (r : Room k A) : A.depth < recursionLimit := by have := r.dp; omega
theorem Room.units {k : Nat} {A : Around} (r : Room k A) : A.units + 64 < cLine := by have := r.un; omega
noncomputable def tNil : TA := fun _ H Q => Q [] H
noncomputable def tCons (ta : TE) (tr : TA) : TA := fun σ H Q => ta σ H fun x H1 => tr σ H1 fun xs H2 => Q (x :: xs) H2
section
variable {X : Cx} {e : Expr} {es : List Expr} {te : TE} {t : TA} {pos : Pos}
theorem pa_nil : PA X [] tNil := fun _ _ _ _ H Q I h => Calls.spliced_nil ⟨[], H, I, .nil, h⟩
theorem pa_cons (ha : PE X e te) (hr : PA X es t) (hs : starEach (e :: es) X.env = (false, eval e X.env) :: starEach es X.env := by rfl) : PA X (e :: es) (tCons te t) := by
  intro pos pins s σ H Q I h
  rw [hs]
  show wpAny _ _ (spliced ((false, eval e X.env) :: backTo pos (starEach es X.env))) _ _ s
  refine Calls.spliced_cons (thn (ha pins s σ H _ I h) fun u s1 ⟨x, H1, I1, r1, q1⟩ => ?_)
  exact thn (hr pos pins s1 σ H1 _ I1 q1) fun us s2 ⟨xs, H2, I2, r2, q2⟩ => ⟨x :: xs, H2, I2, .cons r1 r2, q2⟩

noncomputable def tTup (t : TA) : TE := fun σ H Q => t σ H fun xs H1 => xs.length ≤ sizeLine ∧ ∀ p, H1 p = none → Q (.ref p) (upd H1 p (.tup xs))
noncomputable def tLst (t : TA) : TE := fun σ H Q => t σ H fun xs H1 => xs.length ≤ sizeLine ∧ ∀ p, H1 p = none → Q (.ref p) (upd H1 p (.lst xs))
theorem pe_tup {x1} (h : PA X es t) : PE X (.Tuple es x1 pos) (tTup t) := by
  intro pins s σ H Q I hq
  refine wpAny_Tuple_spliced (thn (h pos pins s σ H _ I hq) fun us s1 ⟨xs, H1, I1, r, z, q⟩ => ⟨by rw [← r.length]; exact z, ?_⟩)
  have hf : H1 s1.heap.objs.size = none := I1.hok.fresh (Nat.le_refl _)
  refine ⟨.ref s1.heap.objs.size, upd H1 s1.heap.objs.size (.tup xs), I1.laid (t' := s1.toks) (fun b u e => Heap.get?_push_of_some _ e) (Nat.le_refl _) ?_, rfl, q _ hf⟩
  exact ⟨z, us, r, ⟨_, Heap.get?_push_size _ rfl, rfl, _, rfl⟩⟩
theorem pe_lst (h : PA X es t) : PE X (.List es pos) (tLst t) := by
  intro pins s σ H Q I hq
  refine wpAny_List_spliced (thn (h pos pins s σ H _ I hq) fun us s1 ⟨xs, H1, I1, r, z, q⟩ => ⟨by rw [← r.length]; exact z, ?_⟩)
  have hf : H1 s1.heap.objs.size = none := I1.hok.fresh (Nat.le_refl _)
  refine ⟨.ref s1.heap.objs.size, upd H1 s1.heap.objs.size (.lst xs), I1.laid (t' := s1.toks) (fun b u e => Heap.get?_push_of_some _ e) (Nat.le_refl _) ?_, rfl, q _ hf⟩
  exact ⟨z, us, 0, r, Heap.get?_push_size _ rfl⟩
end

noncomputable abbrev Sp := List V → Hp → VK → XK → Prop
noncomputable abbrev CXT := List Env → Hp → Shared → XK → Value → Shared → Prop

structure Env0 (P : Program) (w : World) (K : PySem.W.Frag) (mg : Str → Option Value) (base : Heap) (A : Around) (outer : List Env) (s : Shared) (H : Hp) : Prop where
  frames : A.frames = some outer
  mod : Mod K mg base
  bs : ∀ b o, base.get? b = some o → s.heap.get? b = some o ∧ H b = none
  bsz : base.objs.size ≤ s.heap.objs.size
  funs : s.heap.FunFrames base outer
  frf : ∀ b ∈ frs outer, H b = none
  hok : HOk P w H s.heap
  bare : AllBare s.gens
noncomputable def CE (outer : List Env) (P : Program) (w : World) (H : Hp) (s : Shared) (Q : VK) (u : Value) (s' : Shared) : Prop :=
  ∃ v H', s'.os = s.os ∧ AllBare s'.gens ∧ Un (frs outer) [] H H' s.heap s'.heap ∧ HOk P w H' s'.heap ∧ RelV v u ∧ Q v H'
noncomputable def CR (CX : CXT) (outer : List Env) (P : Program) (w : World) (H : Hp) (s : Shared) (Q : VK) (E : XK) (r : Result) (s' : Shared) : Prop :=
  match r with
  | .ok (.ret u) => CE outer P w H s Q u s'
  | .ok _ => False
  | .error e => CX outer H s E e s'
structure FnOk (P : Program) (w : World) (K : PySem.W.Frag) (mg : Str → Option Value) (base : Heap) (CX : CXT) (k : Nat) (f : Addr) (fd : FuncData) (ps : List Str) (sp : Sp) : Prop where
  len : ∀ vs H Q E, sp vs H Q E → vs.length = ps.length
  run : ∀ (A : Around) (outer : List Env) (s : Shared) (H : Hp) (args : Args) (us : List Value) (vs : List V) (Q : VK) (E : XK), Room k A → Env0 P w K mg base A outer s H → BindsTo s fd args (ps.zip us) → Vals vs us → sp vs H Q E →
    codeAny (model P w) A (.call (.ref f) args) (CR CX outer P w H s Q E) s
theorem FnOk.mono {P : Program} {w : World} {K : PySem.W.Frag} {mg : Str → Option Value} {base : Heap} {CX : CXT} {j k : Nat} {f : Addr} {fd : FuncData} {ps : List Str} {sp : Sp} (F : FnOk P w K mg base CX j f fd ps sp) (h : j ≤ k) :
    FnOk P w K mg base CX k f fd ps sp := ⟨F.len, fun A outer s H args us vs Q E hr => F.run A outer s H args us vs Q E (hr.mono h)⟩
theorem FnOk.imp {P : Program} {w : World} {K : PySem.W.Frag} {mg : Str → Option Value} {base : Heap} {CX : CXT} {k : Nat} {f : Addr} {fd : FuncData} {ps : List Str} {sp sp' : Sp} (F : FnOk P w K mg base CX k f fd ps sp)
    (h : ∀ vs H Q E, sp' vs H Q E → sp vs H Q E) : FnOk P w K mg base CX k f fd ps sp' :=
  ⟨fun vs H Q E q => F.len vs H Q E (h _ _ _ _ q), fun A outer s H args us vs Q E hr he hb hv hs => F.run A outer s H args us vs Q E hr he hb hv (h _ _ _ _ hs)⟩

section
variable {X : Cx} {pins : List (Addr × Obj)} {σ : St} {H : Hp} {s s' : Shared}
theorem Inv.env0 (I : Inv X pins σ H s) : Env0 X.prog X.w X.K X.mg X.base X.A X.stack s H :=
  ⟨I.ok.frames, I.ok.mod, I.bs, Nat.le_trans I.ok.bsz I.sz, I.stack, I.stkFree, I.hok, I.bare⟩
theorem Inv.after {Q : VK} {u : Value} (I : Inv X pins σ H s) (h : CE X.stack X.prog X.w H s Q u s') : EP X pins σ Q u s' := by
  obtain ⟨v, H', os, bare, un, hok, r, q⟩ := h
  obtain ⟨hh, g, d, t, os'⟩ := s'
  obtain rfl : os' = s.os := os
  exact ⟨v, H', I.call (h' := hh) (g' := g) (d' := d) (t' := t) (ch := []) un hok bare (fun b z => absurd z (by simp)), r, q⟩
end

noncomputable def tCall (sp : Sp) (dvs : List V) (E : XK) (t : TA) : TE := fun σ H Q => t σ H fun vs H1 => sp (vs ++ dvs) H1 Q E
noncomputable def Binds (K : PySem.W.Frag) (fd : FuncData) (ps : List Str) (ds : List Value) : Prop :=
  ∀ (s : Shared) (us : List Value), K.In s.heap → (us ++ ds).length = ps.length → BindsTo s fd ⟨us, []⟩ (ps.zip (us ++ ds))
theorem Binds.all {K : PySem.W.Frag} {fd : FuncData} {ps : List Str} (h : ∀ us : List Value, us.length = ps.length → bindArgs fd ⟨us, []⟩ = pure (ps.zip us)) : Binds K fd ps [] := fun s us _ hl => by
  rw [List.append_nil] at hl ⊢
  exact .of_eq (h us hl)

noncomputable def Passes (CX : CXT) (X : Cx) (E : XK) : Prop := ∀ (pins : List (Addr × Obj)) (σ : St) (H : Hp) (s : Shared) (e : Value) (s' : Shared), Inv X pins σ H s → CX X.stack H s E e s' → X.xe e s'

section
variable {X : Cx} {CX : CXT} {k : Nat} {f C : Addr} {fd : FuncData} {ps : List Str} {sp : Sp} {dvs : List V} {ds : List Value} {E : XK} {x m : Str} {p pos apos : Pos} {e o : Expr} {es : List Expr} {ta : TE} {t : TA}

theorem run_fn {pins : List (Addr × Obj)} {σ : St} {H : Hp} {s : Shared} {Q : VK} {us : List Value} {vs : List V} (F : FnOk X.prog X.w X.K X.mg X.base CX k f fd ps sp) (hr : Room k X.A) (hb : Binds X.K fd ps ds) (hd : Vals dvs ds) (hx : Passes CX X E)
    (I : Inv X pins σ H s) (r : Vals vs us) (h : sp (vs ++ dvs) H Q E) : wpAny (model X.prog X.w) X.A (call (.ref f) us) (EP X pins σ Q) X.xe s := by
  have r2 : Vals (vs ++ dvs) (us ++ ds) := r.append hd
  have hl : (us ++ ds).length = ps.length := by rw [← r2.length]; exact F.len _ _ _ _ h
  refine wpAny_call (codeAny_mono (F.run X.A X.stack s H ⟨us, []⟩ (us ++ ds) (vs ++ dvs) Q E hr I.env0 (hb s us I.kIn hl) r2 h) fun r s' hq => ?_)
  cases r with
  | error e => exact hx pins σ H s e s' I hq
  | ok fl =>
    cases fl with
    | ret u => exact I.after hq
    | next => exact False.elim hq
    | brk => exact False.elim hq
    | cont => exact False.elim hq

theorem pe_call (F : FnOk X.prog X.w X.K X.mg X.base CX k f fd ps sp) (hr : Room k X.A) (hg : Gl X x) (hm : X.mg x = some (.ref f)) (hk : PySem.W.keepIn X.K (.ref f) = true) (hb : Binds X.K fd ps ds) (hd : Vals dvs ds) (hx : Passes CX X E)
    (ha : PA X (e :: es) t) (hdb : (x == ("__debug__" : Str)) = false := by decide) (he : starEach (e :: es) X.env = (false, eval e X.env) :: starEach es X.env := by rfl) (hpl : (backTo pos (starEach es X.env)).any (·.1) = false := by rfl) :
    PE X (.Call (.Name x p) (e :: es) [] pos) (tCall sp dvs E t) := by
  intro pins s σ H Q I h
  refine wpAny_Call_Name_kw (ld_glob I hg hm ?_ hdb)
  refine PySem.W.callWith_K (h₀ := X.base) I.ok.mod.kin hk (thn (ha pos pins s σ H _ I h) fun us s1 ⟨vs, H1, I1, r, q⟩ => ⟨I1.kIn, ?_⟩) he hpl
  exact run_fn F hr hb hd hx I1 r q
end

section
variable {X : Cx} {CX : CXT} {k : Nat} {f C : Addr} {fd : FuncData} {ps ks : List Str} {sp : Sp} {E : XK} {x m : Str} {p pos apos kpos : Pos} {e o : Expr} {es : List Expr} {kws : List Keyword} {te ta : TE} {t tk : TA} {nm : Option Str}
variable {g : List Value → List Value → List Value} {gV : List V → List V → List V}
end

structure FnScope (N P : List Str) (sc : Scope) : Prop where
  kind : sc.kind = .function
  co : sc.isCoroutine = false
  gen : sc.isGenerator = false
  nd : N.Nodup
  pre : N.take P.length = P
  par : ∀ x ∈ P, sc.names.lookup x = some .local ∨ sc.names.lookup x = some .cell
  nofree : ∀ y ∈ sc.names, y.2 ≠ .free

theorem bindL_out {kindOf : Str → Option NameKind} {x : Str} : ∀ {binds : List (Str × Value)} {m : Str → Option Value}, (∀ v, (x, v) ∉ binds) → bindL kindOf binds m x = m x
  | [], _, _ => rfl
  | (n, v) :: r, m, h => by
    unfold bindL
    rw [bindL_out fun w hw => h w (List.mem_cons_of_mem _ hw)]
    split
    · have : x ≠ n := by rintro rfl; exact h v List.mem_cons_self
      simp [this]
    · rfl
theorem bindC_out {kindOf : Str → Option NameKind} {x : Str} : ∀ {binds : List (Str × Value)} {m : Str → Option Value}, (∀ v, (x, v) ∉ binds) → bindC kindOf binds m x = m x
  | [], _, _ => rfl
  | (n, v) :: r, m, h => by
    unfold bindC
    rw [bindC_out fun w hw => h w (List.mem_cons_of_mem _ hw)]
    split
    · rfl
    · have : x ≠ n := by rintro rfl; exact h v List.mem_cons_self
      simp [this]
theorem bindL_get {kindOf : Str → Option NameKind} {x : Str} {v : Value} : ∀ {P : List Str} {vs : List Value} {i : Nat} {m : Str → Option Value}, P.Nodup → P[i]? = some x → vs[i]? = some v → kindOf x = some .local →
    bindL kindOf (P.zip vs) m x = some v
  | [], _, _, _, _, h, _, _ => by simp at h
  | _ :: _, [], _, _, _, _, h, _ => by simp at h
  | p :: P, w :: vs, 0, m, nd, h1, h2, hk => by
    simp at h1 h2; subst h1; subst h2
    show bindL kindOf ((p, w) :: P.zip vs) m p = _
    unfold bindL
    rw [bindL_out fun v hv => (List.nodup_cons.mp nd).1 (List.of_mem_zip hv).1, if_pos hk]
    simp
  | p :: P, w :: vs, i + 1, m, nd, h1, h2, hk => by
    show bindL kindOf ((p, w) :: P.zip vs) m x = _
    unfold bindL
    exact bindL_get (i := i) (List.nodup_cons.mp nd).2 (by simpa using h1) (by simpa using h2) hk
theorem bindC_get {kindOf : Str → Option NameKind} {x : Str} {v : Value} : ∀ {P : List Str} {vs : List Value} {i : Nat} {m : Str → Option Value}, P.Nodup → P[i]? = some x → vs[i]? = some v → kindOf x ≠ some .local →
    bindC kindOf (P.zip vs) m x = some v
  | [], _, _, _, _, h, _, _ => by simp at h
  | _ :: _, [], _, _, _, _, h, _ => by simp at h
  | p :: P, w :: vs, 0, m, nd, h1, h2, hk => by
    simp at h1 h2; subst h1; subst h2
    show bindC kindOf ((p, w) :: P.zip vs) m p = _
    unfold bindC
    rw [bindC_out fun v hv => (List.nodup_cons.mp nd).1 (List.of_mem_zip hv).1, if_neg hk]
    simp
  | p :: P, w :: vs, i + 1, m, nd, h1, h2, hk => by
    show bindC kindOf ((p, w) :: P.zip vs) m x = _
    unfold bindC
    exact bindC_get (i := i) (List.nodup_cons.mp nd).2 (by simpa using h1) (by simpa using h2) hk

noncomputable def start (N : List Str) (vs : List V) : St := vs.map some ++ List.replicate (N.length - vs.length) none

noncomputable def cxOf (CX : CXT) (P : Program) (w : World) (K : PySem.W.Frag) (mg : Str → Option Value) (base : Heap) (N : List Str) (qual : Str) (scope : Scope) (f : Addr) (cd : Value) (A : Around) (outer : List Env) (s : Shared) (H : Hp) (E : XK) : Cx where
  prog := P
  w := w
  K := K
  mg := mg
  base := base
  A := A.deeper (envOfC qual scope s.heap.objs.size f cd)
  N := N
  s₀ := s
  H₀ := H
  env := envOfC qual scope s.heap.objs.size f cd
  outer := outer
  stack := envOfC qual scope s.heap.objs.size f cd :: outer
  ex := []
  calm := true
  fn := fun _ => true
  pn := []
  xe := fun e s' => wpAny (model P w) (A.deeper (envOfC qual scope s.heap.objs.size f cd)) (leaving (envOfC qual scope s.heap.objs.size f cd) e) (fun _ s'' => CX outer H s E e s'') (fun e' s'' => CX outer H s E e' s'') s'

theorem cell_has {sc : Scope} {n : Nat} {x : Str} (h : sc.names.lookup x = some .cell) : ∃ c, (cellsFrom n sc.names []).lookup x = some c := by
  have q := PySem.W.cellsFrom_some sc.names n [] (.inl h)
  exact Option.isSome_iff_exists.mp q

theorem inv_start {CX : CXT} {P : Program} {w : World} {K : PySem.W.Frag} {mg : Str → Option Value} {base : Heap} {N ps : List Str} {qual : Str} {scope : Scope} {f : Addr} {cd : Value} {A : Around} {outer : List Env} {s s1 : Shared} {H : Hp} {E : XK} {us : List Value} {vs : List V}
    (S : FnScope N ps scope) (hd : A.handled = none) (e0 : Env0 P w K mg base A outer s H) (hl : vs.length = ps.length) (r : Vals vs us)
    (x : InCallC s s.heap.objs.size (bindL (envOfC qual scope s.heap.objs.size f cd).kindOf (ps.zip us) fun _ => none) (cellsFrom (s.heap.objs.size + 1) scope.names []) (bindC (envOfC qual scope s.heap.objs.size f cd).kindOf (ps.zip us) fun _ => none) s1) :
    Inv (cxOf CX P w K mg base N qual scope f cd A outer s H E) [] (start N vs) H s1 := by
  have hpl : ps.length ≤ N.length := by have := congrArg List.length S.pre; rw [List.length_take] at this; omega
  obtain ⟨h1, tk, rfl, hk⟩ := x.done
  have noA : ∀ b : Addr, b ∉ (cxOf CX P w K mg base N qual scope f cd A outer s H E).ex := fun b z => absurd (show b ∈ ([] : List Addr) from z) (by simp)
  refine ⟨⟨e0.mod, S.kind, rfl, rfl, Nat.le_refl _, fun y z c h1 h2 => ?_, fun y hy => ?_, fun y c _ h => ?_, fun _ => hd, Around.frames_deeper e0.frames, .inr ⟨rfl, rfl⟩, fun b z => absurd z (noA b), e0.bs, e0.bsz, fun b _ _ => noA b, fun b z => absurd z (noA b), e0.funs, e0.frf⟩,
    rfl, e0.bare, Un.kept hk, ⟨_, x.toInCall.ns, fun i y v h1 h2 h3 => ?_⟩, fun y c h => ⟨_, x.cell y c h⟩, e0.hok.fresh (Nat.le_refl _), fun y c h => ?_, fun p hp => absurd (show p ∈ ([] : List (Addr × Obj)) from hp) (by simp), e0.hok.kept hk, ?_⟩
  · exact name_of_addr x.apart (PySem.mem_of_lookup h1) (PySem.mem_of_lookup h2)
  · have hy : scope.names.lookup y = some .cell ∨ scope.names.lookup y = some .free := hy
    rcases hy with hy | hy
    · exact cell_has hy
    · exact absurd rfl (S.nofree _ (PySem.mem_of_lookup hy))
  · exact Nat.le_of_lt (x.above y c (PySem.mem_of_lookup h))
  · have hi : i < vs.length := by
      unfold start at h2
      by_cases hi : i < vs.length
      · exact hi
      · rw [List.getElem?_append_right (by simpa using hi)] at h2
        rw [List.getElem?_replicate] at h2
        split at h2 <;> cases h2
    have ha : vs[i]? = some v := by
      unfold start at h2
      rw [List.getElem?_append_left (by simpa using hi), List.getElem?_map] at h2
      cases e : vs[i]? with
      | none => rw [e] at h2; cases h2
      | some a => rw [e] at h2; cases h2; rfl
    obtain ⟨u, hu, rv⟩ := r.get ha
    have hp : ps[i]? = some y := by
      rw [← S.pre, List.getElem?_take_of_lt (by omega)]; exact h1
    have ndP : ps.Nodup := by rw [← S.pre]; exact S.nd.sublist (List.take_sublist _ _)
    refine ⟨u, rv, ?_⟩
    rcases S.par y (List.mem_of_getElem? hp) with k | k
    · exact .inl ⟨k, bindL_get ndP hp hu k⟩
    · obtain ⟨c, e⟩ := cell_has (n := s.heap.objs.size + 1) k
      refine .inr ⟨.inl k, c, e, ?_⟩
      have q := x.cell y c e
      rw [bindC_get ndP hp hu (by show scope.names.lookup y ≠ _; rw [k]; decide)] at q
      exact q
  · exact e0.hok.fresh (Nat.le_of_lt (x.above y c (PySem.mem_of_lookup h)))
  · unfold start
    show _ = N.length
    rw [List.length_append, List.length_map, List.length_replicate]
    omega

theorem fn_of {CX : CXT} {P : Program} {w : World} {K : PySem.W.Frag} {mg : Str → Option Value} {base : Heap} {k : Nat} {f : Addr} {name qual : Str} {params : Arguments} {body : List Stmt} {scope : Scope} {dV kV doc pm cdv ct oc : Value} {an od : Option Addr}
    {osl : Array (Option Value)} {N ps : List Str} {sp : Sp} (lk : K.lookup f = some ⟨oc, od, .func (PySem.W.fnOf name qual params body scope dV kV doc pm an cdv ct), osl⟩) (hcd : PySem.W.codeIn K cdv qual = true) (S : FnScope N ps scope)
    (len : ∀ vs H Q E, sp vs H Q E → vs.length = ps.length)
    (hbody : ∀ (A : Around) (outer : List Env) (s : Shared) (H : Hp) (vs : List V) (Q : VK) (E : XK), Room k (A.deeper (envOfC qual scope s.heap.objs.size f cdv)) → sp vs H Q E →
      ∃ t, PSs (cxOf CX P w K mg base N qual scope f cdv A outer s H E) body t ∧ t { nx := fun _ H' => Q .non H', rt := Q } (start N vs) H) :
    FnOk P w K mg base CX (k + 1) f (PySem.W.fnOf name qual params body scope dV kV doc pm an cdv ct) ps sp := by
  refine ⟨len, fun A outer s H args us vs Q E hr e0 hb r hsp => ?_⟩
  have hl := len _ _ _ _ hsp
  have KX : K.In s.heap := e0.mod.kin.keeps fun b o e => (e0.bs b o e).1
  have lim : s.heap.NoLimit := e0.mod.nolimit.keeps fun b o e => (e0.bs b o e).1
  have hkind : ∀ y ∈ ps.zip us, scope.names.lookup y.1 = some .local ∨ (scope.names.lookup y.1 = some .cell ∧ ((cellsFrom (s.heap.objs.size + 1) scope.names []).lookup y.1).isSome = true) := fun ⟨n, v⟩ hy => by
    rcases S.par n (List.of_mem_zip hy).1 with q | q
    · exact .inl q
    · exact .inr ⟨q, PySem.W.cellsFrom_some _ _ _ (.inl q)⟩
  refine codeAny_call_function hr.depth (KX _ _ lk) rfl S.co S.gen rfl (PySem.W.codeRec_of KX hcd) (hb _ _ _ _ ?_)
  refine wpAny_newFunctionEnv_cells S.kind hkind fun env he s1 x => ?_
  subst he
  refine ⟨lim.keeps x.toInCall.keep, codeAny_func ?_⟩
  obtain ⟨t, ht, hq⟩ := hbody A outer s H vs Q E (hr.deeper _) hsp
  have I : Inv (cxOf CX P w K mg base N qual scope f cdv A outer s H E) [] (start N vs) H s1 := inv_start S hr.hd e0 hl r x
  refine wpAny_mono (ht [] s1 (start N vs) H _ I hq) (fun fl s' hs => ?_) fun e s' hs => hs
  have fin : ∀ {σ' : St} {H' : Hp} {v : V} {u : Value}, Inv (cxOf CX P w K mg base N qual scope f cdv A outer s H E) [] σ' H' s' → RelV v u → Q v H' → CE outer P w H s Q u s' :=
    fun {σ' H' v u} J rv q => ⟨v, H', J.os, J.bare, J.base, J.hok, rv, q⟩
  cases fl with
  | ret u =>
    obtain ⟨v, σ', H', J, rv, q⟩ := hs
    exact fin J rv q
  | next =>
    obtain ⟨σ', H', J, q⟩ := hs
    exact fin (v := V.non) (u := Value.none) J rfl q
  | brk =>
    obtain ⟨_, _, _, q⟩ := hs
    exact False.elim q
  | cont =>
    obtain ⟨_, _, _, q⟩ := hs
    exact False.elim q
end L2

namespace L2
open PySem PySem.Spec PyProof.Rows
section
variable {X : Cx} {x : Str} {p pos : Pos} {e : Expr} {es : List Expr} {t : TA} {id T : String} {r : List V → Hp → VK → Prop}

noncomputable def tCB (r : List V → Hp → VK → Prop) (t : TA) : TE := fun σ H Q => t σ H fun vs H1 => r vs H1 Q
theorem pe_callB (hc : CallR X (.builtin id) r) (hg : Gl X x) (hm : X.mg x = none) (hv : bootBuiltins x = some (.builtin id)) (ha : PA X (e :: es) t) (hn : x ≠ "__name__" := by decide) (hdb : (x == ("__debug__" : Str)) = false := by decide)
    (he : starEach (e :: es) X.env = (false, eval e X.env) :: starEach es X.env := by rfl) (hpl : (backTo pos (starEach es X.env)).any (·.1) = false := by rfl) : PE X (.Call (.Name x p) (e :: es) [] pos) (tCB r t) := by
  intro pins s σ H Q I h
  refine wpAny_Call_Name_kw (ld_blt I hg hm hv ?_ hn hdb)
  exact PyProof.Rows.callWith_builtin1 (thn (ha pos pins s σ H _ I h) fun us s1 ⟨vs, H1, I1, r1, q1⟩ => hc pins s1 σ H1 vs us Q I1 r1 q1) he hpl
theorem pe_callTy (hc : CallR X (.type T) r) (hg : Gl X x) (hm : X.mg x = none) (hv : bootBuiltins x = some (.type T)) (ha : PA X (e :: es) t) (hn : x ≠ "__name__" := by decide) (hdb : (x == ("__debug__" : Str)) = false := by decide)
    (he : starEach (e :: es) X.env = (false, eval e X.env) :: starEach es X.env := by rfl) (hpl : (backTo pos (starEach es X.env)).any (·.1) = false := by rfl) : PE X (.Call (.Name x p) (e :: es) [] pos) (tCB r t) := by
  intro pins s σ H Q I h
  refine wpAny_Call_Name_kw (ld_blt I hg hm hv ?_ hn hdb)
  exact PyProof.Rows.callWith_type1 (thn (ha pos pins s σ H _ I h) fun us s1 ⟨vs, H1, I1, r1, q1⟩ => hc pins s1 σ H1 vs us Q I1 r1 q1) he hpl
end
end L2

namespace HT
open PySem PyProof.Rows

section
open PySem.SeqAt
open PySem.AutoSeq1 (wpAny_loadPart')
open PySem.MeetsSeq PySem.MeetsSeq2 PySem.MeetsSeq3

end

section
variable {prog : Program} {w : World} {A : Around} {E : Value → Shared → Prop} {s : Shared}

noncomputable def sIx (n d : Nat) : Option Int → Nat
  | none => d
  | some v => if v < 0 then (v + (n : Int)).toNat else min v.toNat n
theorem sIx_none (n d : Nat) : sIx n d none = d := rfl
theorem sIx_nat (n d k : Nat) : sIx n d (some (k : Int)) = min k n := by
  show (if (k : Int) < 0 then ((k : Int) + (n : Int)).toNat else min (k : Int).toNat n) = min k n
  rw [if_neg (by omega), Int.toNat_natCast]
end
end HT

namespace L2
open PySem PySem.Spec PyProof.Rows

noncomputable abbrev TO := St → Hp → (Option Int → Hp → Prop) → Prop
noncomputable def PO (X : Cx) (e : Option Expr) (t : TO) : Prop :=
  ∀ (pins : List (Addr × Obj)) (s : Shared) (σ : St) (H : Hp) (Q : Option Int → Hp → Prop), Inv X pins σ H s → t σ H Q →
    wpAny (model X.prog X.w) X.A (evalPart e X.env) (fun u s' => ∃ o H', Inv X pins σ H' s' ∧ IsPart u o ∧ Q o H') X.xe s
noncomputable def tNoPart : TO := fun _ H Q => Q none H
noncomputable def tPart (t : TE) : TO := fun σ H Q => t σ H fun x H1 => ∃ i, x = .int i ∧ Q (some i) H1

section
variable {X : Cx} {e : Expr} {te : TE} {lo hi : Option Expr} {tl th : TO} {pos p2 : Pos}

theorem po_none : PO X none tNoPart := by
  intro pins s σ H Q I h
  rw [evalPart_none]
  exact wpAny_pure ⟨none, H, I, .none, h⟩
theorem po_some (h : PE X e te) : PO X (some e) (tPart te) := by
  intro pins s σ H Q I hw
  rw [evalPart_some]
  refine thn (h pins s σ H _ I hw) fun u s1 ⟨x, H1, I1, r1, q1⟩ => ?_
  obtain ⟨i, rfl, q⟩ := q1
  obtain ⟨t, rfl⟩ := r1
  exact ⟨some i, H1, I1, .int i t, q⟩

noncomputable def SlR (X : Cx) (r : V → Option Int → Option Int → Hp → VK → Prop) : Prop :=
  ∀ (pins : List (Addr × Obj)) (s : Shared) (σ : St) (H : Hp) (x : V) (v vl vu : Value) (lo hi : Option Int) (sl : Addr) (Q : VK), Inv X pins σ H s → RelV x v → s.heap.IsSliceOf sl vl vu .none → IsPart vl lo → IsPart vu hi → r x lo hi H Q →
    ∃ T id, typeLookup (.type T) "__getitem__" = pure (some (.builtin id)) ∧ s.TypeIs v T ∧ wpAny (model X.prog X.w) X.A (getItem v (.ref sl)) (EP X pins σ Q) X.xe s
noncomputable def tSl (r : V → Option Int → Option Int → Hp → VK → Prop) (te : TE) (tl th : TO) : TE := fun σ H Q => te σ H fun x H1 => tl σ H1 fun l H2 => th σ H2 fun u H3 => r x l u H3 Q
theorem pe_slice {r : V → Option Int → Option Int → Hp → VK → Prop} (hr : SlR X r) (he : PE X e te) (hl : PO X lo tl) (hu : PO X hi th) : PE X (.Subscript e (.Slice lo hi none p2) pos) (tSl r te tl th) := by
  intro pins s σ H Q I h
  refine Subscript_ (thn (he pins s σ H _ I h) fun v s1 ⟨x, H1, I1, r1, q1⟩ => ?_)
  refine wpAny_Slice (thn (hl pins s1 σ H1 _ I1 q1) fun vl s2 ⟨l, H2, I2, pl, q2⟩ => thn (hu pins s2 σ H2 _ I2 q2) fun vu s3 ⟨u, H3, I3, pu, q3⟩ => ?_)
  rw [evalPart_none]
  refine wpAny_pure ?_
  have I4 : Inv X pins σ H3 { s3 with heap := s3.heap.push { cls := .type "slice", data := .fields #[vl, vu, .none] } } := I3.kept (t' := s3.toks) fun b ob q => Heap.get?_push_of_some _ q
  obtain ⟨T, id, hT, ht, hg⟩ := hr pins { s3 with heap := s3.heap.push { cls := .type "slice", data := .fields #[vl, vu, .none] } } σ H3 x v vl vu l u s3.heap.objs.size Q I4 r1 (Heap.IsSliceOf.new ..) pl pu q3
  show wpAny (model X.prog X.w) X.A (subscriptTail e (.Slice lo hi none p2) v (.ref s3.heap.objs.size)) (EP X pins σ Q) X.xe { s3 with heap := s3.heap.push { cls := .type "slice", data := .fields #[vl, vu, .none] } }
  exact tail_any (ops := [.ref s3.heap.objs.size, v]) ht hT hg (by with_unfolding_all rfl)

noncomputable def cutV (xs : List V) (lo hi : Option Int) : List V := (xs.drop (HT.sIx xs.length 0 lo)).take (HT.sIx xs.length xs.length hi - HT.sIx xs.length 0 lo)
theorem cutV_length (xs : List V) (lo hi : Option Int) : (cutV xs lo hi).length ≤ xs.length := by
  unfold cutV
  rw [List.length_take, List.length_drop]
  omega
end
end L2

namespace L2
open PySem PySem.Spec PyProof.Rows

noncomputable def ixN (n : Nat) (i : Int) : Option Nat := if 0 ≤ i then (if i < n then some i.toNat else none) else if -(n : Int) ≤ i then some (i + n).toNat else none
noncomputable def atI {α : Type} (xs : List α) (i : Int) : Option α := (ixN xs.length i).bind fun j => xs[j]?
theorem ixN_seq {n : Nat} {i : Int} {j : Nat} (h : ixN n i = some j) : seqIndex? i n = some j ∧ j < n ∧ -(n : Int) ≤ i ∧ i < n := by
  unfold ixN at h
  by_cases h0 : 0 ≤ i
  · rw [if_pos h0] at h
    by_cases h1 : i < n
    · rw [if_pos h1] at h
      have e : i.toNat = j := Option.some.inj h
      exact ⟨by rw [seqIndex_of h0 h1, e], by omega, by omega, h1⟩
    · rw [if_neg h1] at h; cases h
  · rw [if_neg h0] at h
    by_cases h1 : -(n : Int) ≤ i
    · rw [if_pos h1] at h
      have e : (i + n).toNat = j := Option.some.inj h
      exact ⟨by rw [seqIndex_neg (by omega) h1, e], by omega, h1, by omega⟩
    · rw [if_neg h1] at h; cases h
theorem atI_get {α : Type} {xs : List α} {i : Int} {v : α} (h : atI xs i = some v) : ∃ j, seqIndex? i xs.length = some j ∧ xs[j]? = some v ∧ j < xs.length ∧ -(xs.length : Int) ≤ i ∧ i < xs.length := by
  unfold atI at h
  cases e : ixN xs.length i with
  | none => rw [e] at h; cases h
  | some j =>
    rw [e] at h
    obtain ⟨h1, h2, h3, h4⟩ := ixN_seq e
    exact ⟨j, h1, h, h2, h3, h4⟩
theorem atI_nat {α : Type} {xs : List α} {j : Nat} {v : α} (h : xs[j]? = some v) : atI xs (j : Int) = some v := by
  have hj : j < xs.length := (List.getElem?_eq_some_iff.mp h).1
  have e : ixN xs.length (j : Int) = some j := by
    unfold ixN
    rw [if_pos (by omega), if_pos (by omega)]; simp
  unfold atI; rw [e]; exact h
theorem atI_last {α : Type} (xs : List α) (v : α) : atI (xs ++ [v]) (-1) = some v := by
  have hl : (xs ++ [v]).length = xs.length + 1 := by simp
  have e : ixN (xs ++ [v]).length (-1) = some xs.length := by
    unfold ixN
    rw [hl, if_neg (by decide), if_pos (by omega)]
    congr 1
    omega
  unfold atI
  rw [e]
  show (xs ++ [v])[xs.length]? = some v
  simp

noncomputable def PlainIx (b : Expr) : Prop := ∀ o i, subscripted b false o i = operate [o, i] (getItem o i)
noncomputable def IxR (X : Cx) (r : R2) : Prop :=
  ∀ (value slice : Expr) (pins : List (Addr × Obj)) (s : Shared) (σ : St) (H : Hp) (x y : V) (v u : Value) (Q : VK), Inv X pins σ H s → RelV x v → RelV y u → r x y H Q →
    subscripted slice false v u = operate [v, u] (getItem v u) → wpAny (model X.prog X.w) X.A (subscriptTail value slice v u) (EP X pins σ Q) X.xe s
noncomputable def MtR (X : Cx) (id : String) (r : V → List V → Hp → VK → Prop) : Prop :=
  ∀ (pins : List (Addr × Obj)) (s : Shared) (σ : St) (H : Hp) (x : V) (xs : List V) (v : Value) (us : List Value) (Q : VK), Inv X pins σ H s → RelV x v → Vals xs us → r x xs H Q →
    wpAny (model X.prog X.w) X.A (call (.builtin id) (v :: us)) (EP X pins σ Q) X.xe s
section
variable {X : Cx} {a b : Expr} {ta tb : TE} {pos : Pos}
theorem IxR.or {r r' : R2} (h : IxR X r) (h' : IxR X r') : IxR X (fun x y H Q => r x y H Q ∨ r' x y H Q) := by
  intro value slice pins s σ H x y v u Q I rx ry q hs
  rcases q with q | q
  · exact h value slice pins s σ H x y v u Q I rx ry q hs
  · exact h' value slice pins s σ H x y v u Q I rx ry q hs
theorem pe_ix {r : R2} (hr : IxR X r) (ha : PE X a ta) (hb : PE X b tb) (hs : PlainIx b) : PE X (.Subscript a b pos) (tOp r ta tb) := by
  intro pins s σ H Q I h
  exact Subscript_ (binT ha hb I h fun v u s2 x y H2 I2 rx ry q => hr a b pins s2 σ H2 x y v u Q I2 rx ry q (hs _ _))

noncomputable def rIxL (K : PySem.W.Frag) : R2 := fun x y H Q => ∃ p xs i v, x = .ref p ∧ y = .int i ∧ SqL K H p xs ∧ atI xs i = some v ∧ Q v H
noncomputable def rIxT (K : PySem.W.Frag) : R2 := fun x y H Q => ∃ p xs i v, x = .ref p ∧ y = .int i ∧ SqT K H p xs ∧ atI xs i = some v ∧ Q v H
noncomputable def rIxS : R2 := fun x y H Q => ∃ z i c, x = .str z ∧ y = .int i ∧ z.length ≤ sizeLine ∧ atI z.cps.toList i = some c ∧ Q (.str ⟨#[c]⟩) H
theorem ix_list : IxR X (rIxL X.K) := by
  intro value slice pins s σ H x y v u Q I rx ry h hs
  obtain ⟨p, xs, i, z, rfl, rfl, hq, he, q⟩ := h
  cases rx
  obtain ⟨t, rfl⟩ := ry
  obtain ⟨its, r, pl, hz⟩ := I.list hq
  obtain ⟨j, h1, h2, h3, h4, h5⟩ := atI_get he
  obtain ⟨w, ew, rw'⟩ := r.get h2
  have hl := r.length
  have hn := line63
  have fin : EP X pins σ Q w s := ⟨z, H, I, rw', q⟩
  by_cases h0 : 0 ≤ i
  · have hj : i.toNat = j := by
      rw [seqIndex_of h0 h5] at h1
      exact Option.some.inj h1
    exact item_listR pl.isList h0 (by omega) (by rw [hj]; simpa using ew) fin hs
  · have hj : (i + (its.toArray.size : Int)).toNat = j := by
      rw [seqIndex_neg (by omega) h4] at h1
      rw [List.size_toArray, ← hl]
      exact Option.some.inj h1
    exact subscriptTail_builtinR (x := w) pl.isList.typeIs slot_list_getitem.lookup
      (wpAny_getItem_list_neg (Q := fun r s' => r = w ∧ EP X pins σ Q r s') pl.isList (by omega) (by rw [List.size_toArray] <;> omega) (by omega) (by rw [hj]; simpa using ew) ⟨rfl, fin⟩) hs
theorem ix_tup : IxR X (rIxT X.K) := by
  intro value slice pins s σ H x y v u Q I rx ry h hs
  obtain ⟨p, xs, i, z, rfl, rfl, hq, he, q⟩ := h
  cases rx
  obtain ⟨t, rfl⟩ := ry
  obtain ⟨its, r, pl, hz⟩ := I.tuple hq
  obtain ⟨j, h1, h2, h3, h4, h5⟩ := atI_get he
  obtain ⟨w, ew, rw'⟩ := r.get h2
  have hl := r.length
  have hn := line63
  have fin : EP X pins σ Q w s := ⟨z, H, I, rw', q⟩
  exact subscriptTail_builtinR (x := w) pl.typeIs slot_tuple_getitem.lookup
    (getItem_tuple (j := j) (Q := fun r s' => r = w ∧ EP X pins σ Q r s') pl (by omega) (by omega) (by rw [List.size_toArray, ← hl]; exact h1) (by simpa using ew) ⟨rfl, fin⟩) hs
theorem ix_str : IxR X rIxS := by
  intro value slice pins s σ H x y v u Q I rx ry h hs
  obtain ⟨z, i, c, rfl, rfl, hz, he, q⟩ := h
  obtain ⟨t, rfl⟩ := rx
  obtain ⟨t', rfl⟩ := ry
  obtain ⟨j, h1, h2, h3, h4, h5⟩ := atI_get he
  have hl : z.cps.toList.length = z.length := by simp [Str.length]
  rw [hl] at h1 h4 h5
  have hn := line63
  exact tail_any (typeIs_str s z t) slot_str_getitem.lookup (getItem_str (c := c) (by
    have e1 : decide (i < -(2 ^ 63 : Int)) = false := decide_eq_false (by omega)
    have e2 : decide (i ≥ 2 ^ 63) = false := decide_eq_false (by omega)
    rw [e1, e2, Bool.or_false]) (by rw [h1]; simpa using h2) ⟨.str ⟨#[c]⟩, H, I.tok _, ⟨_, rfl⟩, q⟩) hs
noncomputable def rIx (K : PySem.W.Frag) : R2 := fun x y H Q => rIxL K x y H Q ∨ rIxT K x y H Q ∨ rIxS x y H Q
theorem ix_seq : IxR X (rIx X.K) := ix_list.or (ix_tup.or ix_str)

theorem mapSeq_set (its : List Value) (n j : Nat) (u : Value) : Obj.mapSeq (·.setIfInBounds j u) { cls := .type "list", data := .seq its.toArray n } = { cls := .type "list", data := .seq (its.set j u).toArray n } := by
  simp [Obj.mapSeq]
theorem Inv.lst {pins : List (Addr × Obj)} {σ : St} {H : Hp} {s : Shared} {p : Addr} {xs : List V} (I : Inv X pins σ H s) (h : H p = some (.lst xs)) :
    ∃ (its : List Value) (n : Nat), Vals xs its ∧ s.heap.get? p = some { cls := .type "list", data := .seq its.toArray n } ∧ xs.length ≤ sizeLine := by
  obtain ⟨z, its, n, r, e⟩ := I.hok p _ h
  exact ⟨its, n, r, e, z⟩
theorem Inv.lstUpd {pins : List (Addr × Obj)} {σ : St} {H : Hp} {s : Shared} {p : Addr} {xs ys : List V} {its its' : List Value} {n n' : Nat} {f : Obj → Obj} (I : Inv X pins σ H s) (h : H p = some (.lst xs))
    (ho : s.heap.get? p = some { cls := .type "list", data := .seq its.toArray n }) (hf : f { cls := .type "list", data := .seq its.toArray n } = { cls := .type "list", data := .seq its'.toArray n' }) (r : Vals ys its') (hz : ys.length ≤ sizeLine) (t : Nat) :
    Inv X pins σ (upd H p (.lst ys)) { s with heap := s.heap.update p f, toks := t } := by
  have e : (s.heap.update p f).get? p = some { cls := .type "list", data := .seq its'.toArray n' } := by
    rw [Heap.get?_update_self f ho (by rw [hf] <;> rfl), hf]
  refine I.write (x := p) (e := p) (by rw [h]; trivial) (.inl rfl) (fun b u hb q => (Heap.get?_update_other _ _ (Ne.symm hb)).trans q) ⟨_, e⟩ ?_
  exact ⟨hz, its', n', r, e⟩
noncomputable def rSetL : V → V → V → Hp → (Hp → Prop) → Prop := fun o i v H Q => ∃ p xs k j, o = .ref p ∧ i = .int k ∧ H p = some (.lst xs) ∧ ixN xs.length k = some j ∧ Q (upd H p (.lst (xs.set j v)))
theorem set_list : PSet X rSetL := by
  intro pins s σ H o i v ov iv u Q I ro ri rv h
  obtain ⟨p, xs, k, j, rfl, rfl, hp, hj, q⟩ := h
  cases ro
  obtain ⟨t, rfl⟩ := ri
  obtain ⟨its, n, r, ho, hz⟩ := I.lst hp
  obtain ⟨h1, h2, h3, h4⟩ := ixN_seq hj
  have hl := r.length
  have hn := line63
  have I' : Inv X pins σ (upd H p (.lst (xs.set j v))) { s with heap := s.heap.update p (Obj.mapSeq (·.setIfInBounds j u)) } :=
    I.lstUpd hp ho (mapSeq_set its n j u) (r.set rv j) (by rw [List.length_set]; exact hz) s.toks
  by_cases h0 : 0 ≤ k
  · have hk : k.toNat = j := by
      rw [seqIndex_of h0 h4] at h1
      exact Option.some.inj h1
    exact PySem.W.ki_setAt ho h0 (by omega) (by rw [List.size_toArray, ← hl]; exact h4) (by rw [hk]; exact ⟨_, I', q⟩)
  · have hk : (k + (its.toArray.size : Int)).toNat = j := by
      rw [seqIndex_neg (by omega) h3] at h1
      rw [List.size_toArray, ← hl]
      exact Option.some.inj h1
    exact PySem.W.ki_setBack ho (by omega) (by rw [List.size_toArray, ← hl]; exact h3) (by omega) (by rw [hk]; exact ⟨_, I', q⟩)

theorem slice_bounds (lo hi : Option Int) (n : Nat) : (sliceBounds lo hi none n).1 = ((HT.sIx n 0 lo : Nat) : Int) ∧ (sliceBounds lo hi none n).2.1 = ((HT.sIx n n hi : Nat) : Int) ∧ (sliceBounds lo hi none n).2.2 = 1 := by
  refine ⟨?_, ?_, rfl⟩
  · cases lo with
    | none => simp [sliceBounds, HT.sIx]
    | some i =>
      simp only [sliceBounds, HT.sIx, Option.getD_none, show (1 : Int) > 0 by decide, if_true]
      by_cases h : i < 0
      · simp only [h, if_true] <;> omega
      · simp only [h, if_false] <;> omega
  · cases hi with
    | none => simp [sliceBounds, HT.sIx]
    | some i =>
      simp only [sliceBounds, HT.sIx, Option.getD_none, show (1 : Int) > 0 by decide, if_true]
      by_cases h : i < 0
      · simp only [h, if_true] <;> omega
      · simp only [h, if_false] <;> omega
theorem slicePick_cut (its : List Value) (lo hi : Option Int) : slicePick its.toArray lo hi none = ((its.drop (HT.sIx its.length 0 lo)).take (HT.sIx its.length its.length hi - HT.sIx its.length 0 lo)).toArray := by
  obtain ⟨h1, h2, h3⟩ := slice_bounds lo hi its.toArray.size
  unfold slicePick
  rw [h1, h2, h3]
  simp only [sliceRange_one, pick_run, List.size_toArray] <;> rfl
noncomputable def rSlL (K : PySem.W.Frag) : V → Option Int → Option Int → Hp → VK → Prop := fun x lo hi H Q => ∃ a xs, x = .ref a ∧ SqL K H a xs ∧ ∀ p, H p = none → Q (.ref p) (upd H p (.lst (cutV xs lo hi)))
theorem sl_list : SlR X (rSlL X.K) := by
  intro pins s σ H x v vl vu lo hi sl Q I rx hs pl pu h
  obtain ⟨a, xs, rfl, hx, q⟩ := h
  cases rx
  obtain ⟨its, r, ht, hz⟩ := I.list hx
  have hlen := r.length
  refine ⟨"list", _, slot_list_getitem.lookup, ht.isList.typeIs, ?_⟩
  refine wpAny_getItem_list_slice ht.isList hs pl pu .none (by simp) ?_ (by rw [List.size_toArray] <;> omega)
  rw [slicePick_cut, ← hlen]
  refine ⟨.ref s.heap.objs.size, _, I.laid (t' := s.toks) (o := .lst (cutV xs lo hi)) (fun b ob q => Heap.get?_push_of_some _ q) (Nat.le_refl _) ?_, rfl, q _ (I.hok.fresh (Nat.le_refl _))⟩
  exact ⟨Nat.le_trans (cutV_length xs lo hi) hz, _, 0, (r.drop (HT.sIx xs.length 0 lo)).take (HT.sIx xs.length xs.length hi - HT.sIx xs.length 0 lo), Heap.get?_push_size _ rfl⟩

noncomputable def flatV : V → Bool
  | .non => true
  | .bl _ => true
  | .int _ => true
  | .str _ => true
  | _ => false
noncomputable def eqV : V → V → Bool
  | .non, .non => true
  | .bl a, .bl b => a == b
  | .bl a, .int b => (if a then 1 else 0) == b
  | .int a, .bl b => a == (if b then 1 else 0)
  | .int a, .int b => a == b
  | .str a, .str b => a == b
  | _, _ => false
theorem eqAt_V {A : Around} {s : Shared} {y x : V} {u v : Value} (ry : RelV y u) (rx : RelV x v) (fy : flatV y = true) (fx : flatV x = true) : SeqAt.EqAt A s u v (eqV y x) := by
  cases y with
  | non =>
    cases ry
    cases x with
    | non => cases rx; exact SeqAt.EqAt.same _
    | bl b => cases rx; exact SeqAt.EqAt.none_bool b
    | int b => obtain ⟨t, rfl⟩ := rx; exact SeqAt.EqAt.none_int b t
    | str b => obtain ⟨t, rfl⟩ := rx; exact SeqAt.EqAt.none_str b t
    | _ => exact absurd (show false = true from fx) Bool.false_ne_true
  | bl a =>
    cases ry
    cases x with
    | non => cases rx; exact SeqAt.EqAt.bool_none a
    | bl b => cases rx; exact SeqAt.EqAt.bool_bool a b
    | int b => obtain ⟨t, rfl⟩ := rx; exact SeqAt.EqAt.bool_int a b t
    | str b => obtain ⟨t, rfl⟩ := rx; exact SeqAt.EqAt.bool_str a b t
    | _ => exact absurd (show false = true from fx) Bool.false_ne_true
  | int a =>
    obtain ⟨t', rfl⟩ := ry
    cases x with
    | non => cases rx; exact SeqAt.EqAt.int_none a t'
    | bl b => cases rx; exact SeqAt.EqAt.int_bool a t' b
    | int b => obtain ⟨t, rfl⟩ := rx; exact SeqAt.EqAt.int_int a t' b t
    | str b => obtain ⟨t, rfl⟩ := rx; exact SeqAt.EqAt.int_str a t' b t
    | _ => exact absurd (show false = true from fx) Bool.false_ne_true
  | str a =>
    obtain ⟨t', rfl⟩ := ry
    cases x with
    | non => cases rx; exact SeqAt.EqAt.str_none a t'
    | bl b => cases rx; exact SeqAt.EqAt.str_bool a t' b
    | int b => obtain ⟨t, rfl⟩ := rx; exact SeqAt.EqAt.str_int a t' b t
    | str b => obtain ⟨t, rfl⟩ := rx; exact SeqAt.EqAt.str_str a t' b t
    | _ => exact absurd (show false = true from fx) Bool.false_ne_true
  | _ => exact absurd (show false = true from fy) Bool.false_ne_true
noncomputable def eqU (x : V) (u : Value) : Bool := match u with
  | .none => eqV .non x
  | .bool b => eqV (.bl b) x
  | .int i _ => eqV (.int i) x
  | .str z _ => eqV (.str z) x
  | _ => false
theorem eqU_of {x y : V} {u : Value} (r : RelV y u) (f : flatV y = true) : eqU x u = eqV y x := by
  cases y with
  | non => cases r; rfl
  | bl b => cases r; rfl
  | int i => obtain ⟨t, rfl⟩ := r; rfl
  | str z => obtain ⟨t, rfl⟩ := r; rfl
  | _ => exact absurd (show false = true from f) Bool.false_ne_true
theorem any_eqU {x : V} : ∀ {xs : List V} {us : List Value}, Vals xs us → xs.all flatV = true → us.any (eqU x) = xs.any fun y => eqV y x
  | _, _, .nil, _ => rfl
  | y :: xs, u :: us, .cons r t, f => by
    rw [List.all_cons, Bool.and_eq_true] at f
    rw [List.any_cons, List.any_cons, eqU_of r f.1, any_eqU t f.2]
theorem mem_eqAt {A : Around} {s : Shared} {x : V} {v : Value} (rx : RelV x v) (fx : flatV x = true) : ∀ {xs : List V} {us : List Value}, Vals xs us → xs.all flatV = true → ∀ u ∈ us, SeqAt.EqAt A s u v (eqU x u)
  | _, _, .nil, _ => fun u hu => by cases hu
  | y :: xs, u :: us, .cons r t, f => fun u' hu => by
    rw [List.all_cons, Bool.and_eq_true] at f
    rcases List.mem_cons.mp hu with rfl | hu
    · rw [eqU_of r f.1]; exact eqAt_V r rx f.1 fx
    · exact mem_eqAt rx fx t f.2 u' hu
noncomputable def inV (x : V) (xs : List V) : Bool := xs.any fun y => eqV y x
noncomputable def rIn (K : PySem.W.Frag) (neg : Bool) : R2 := fun x y H Q => ∃ p xs, y = .ref p ∧ (SqL K H p xs ∨ SqT K H p xs) ∧ flatV x = true ∧ xs.all flatV = true ∧ Q (.bl (if neg then !inV x xs else inV x xs)) H
theorem op_notIn_seq : OpR X (compareOp .NotIn) (rIn X.K true) := by
  intro pins s σ H x y v u Q I rx ry h
  obtain ⟨p, xs, rfl, hq, fx, fs, q⟩ := h
  cases ry
  rcases hq with hq | hq
  · obtain ⟨its, r, pl, hz⟩ := I.list hq
    refine SeqAt.notIn_listAt (eqU x) pl.isList (fun w hw => mem_eqAt rx fx r fs w (by simpa using hw)) ⟨.bl _, H, I, rfl, ?_⟩
    rw [show its.toArray.any (eqU x) = its.any (eqU x) by simp, any_eqU r fs]
    exact q
  · obtain ⟨its, r, pl, hz⟩ := I.tuple hq
    refine SeqAt.notIn_tupleAt (eqU x) pl (fun w hw => mem_eqAt rx fx r fs w (by simpa using hw)) ⟨.bl _, H, I, rfl, ?_⟩
    rw [show its.toArray.any (eqU x) = its.any (eqU x) by simp, any_eqU r fs]
    exact q
theorem call_len_seq : CallR X (.builtin "len") (fun xs H Q => ∃ p ys, xs = [.ref p] ∧ (SqL X.K H p ys ∨ SqT X.K H p ys) ∧ Q (.int ys.length) H) := by
  intro pins s σ H xs us Q I r h
  obtain ⟨p, ys, rfl, hq, q⟩ := h
  obtain ⟨u, rfl, rx⟩ := vals1 r
  cases rx
  have hn := line63
  rcases hq with hq | hq
  · obtain ⟨its, r', pl, hz⟩ := I.list hq
    have hlen := r'.length
    exact Calls.call_len_list pl.isList (by simp only [List.size_toArray] <;> omega) ⟨.int ys.length, H, I.tok _, ⟨s.toks + 1, by rw [List.size_toArray, hlen]⟩, q⟩
  · obtain ⟨its, r', pl, hz⟩ := I.tuple hq
    have hlen := r'.length
    exact len_tuple pl (by simp only [List.size_toArray] <;> omega) ⟨.int ys.length, H, I.tok _, ⟨s.toks + 1, by rw [List.size_toArray, hlen]⟩, q⟩
theorem call_list_of : CallR X (.type "list") (fun xs H Q => ∃ p ys, xs = [.ref p] ∧ (SqL X.K H p ys ∨ SqT X.K H p ys) ∧ ∀ l, H l = none → Q (.ref l) (upd H l (.lst ys))) := by
  intro pins s σ H xs us Q I r h
  obtain ⟨p, ys, rfl, hq, q⟩ := h
  obtain ⟨u, rfl, rx⟩ := vals1 r
  cases rx
  have fin : ∀ (its : List Value), Vals ys its → ys.length ≤ sizeLine → ∀ (h' : Heap) (c' : Nat), (∀ b o', s.heap.get? b = some o' → h'.get? b = some o') →
      h'.get? s.heap.objs.size = some { cls := .type "list", dict := none, data := .seq its.toArray c', slots := #[] } → EP X pins σ Q (.ref s.heap.objs.size) { s with heap := h' } := fun its r' hz h' c' kp e =>
    ⟨.ref s.heap.objs.size, _, I.laid (t' := s.toks) kp (Nat.le_refl _) (show ObjOk X.prog X.w _ h' _ (.lst ys) from ⟨hz, its, c', r', e⟩), rfl, q _ (I.hok.fresh (Nat.le_refl _))⟩
  rcases hq with hq | hq
  · obtain ⟨its, r', pl, hz⟩ := I.list hq
    have hlen := r'.length
    obtain ⟨o, ho, hc, n, hd⟩ := pl.isList
    exact call_list_seq p (.inl rfl) ho hc hd (fun h' c' kp e => fin its r' hz h' c' kp e) (by simp only [List.size_toArray] <;> omega)
  · obtain ⟨its, r', pl, hz⟩ := I.tuple hq
    have hlen := r'.length
    obtain ⟨o, ho, hc, n, hd⟩ := pl
    exact call_list_seq p (.inr rfl) ho hc hd (fun h' c' kp e => fin its r' hz h' c' kp e) (by simp only [List.size_toArray] <;> omega)
noncomputable def tyV (K : PySem.W.Frag) (T : String) (x : V) (H : Hp) : Prop := match x with
  | .str _ => T = "str"
  | .int _ => T = "int"
  | .ref p => (T = "list" ∧ ∃ xs, SqL K H p xs) ∨ (T = "tuple" ∧ ∃ o, K.lookup p = some o ∧ o.cls = .type "tuple" ∧ o.dict = none) ∨
      (T = "dict" ∧ ((∃ kvs, H p = some (.dK kvs)) ∨ ∃ kvs, H p = some (.dT kvs))) ∨ (T = "set" ∧ ∃ S n, H p = some (.set S n))
  | _ => False
theorem tyV_is {pins : List (Addr × Obj)} {σ : St} {H : Hp} {s : Shared} {T : String} {x : V} {v : Value} (I : Inv X pins σ H s) (r : RelV x v) (ty : tyV X.K T x H) :
    s.TypeIs v T ∧ ∀ a, v = .ref a → ∃ ob, s.heap.get? a = some ob ∧ ob.dict = none := by
  cases x with
  | str z =>
    obtain ⟨t, rfl⟩ := r
    cases (show T = "str" from ty)
    exact ⟨typeIs_str s z t, fun _ e => nomatch e⟩
  | int i =>
    obtain ⟨t, rfl⟩ := r
    cases (show T = "int" from ty)
    exact ⟨typeIs_int s i t, fun _ e => nomatch e⟩
  | ref p =>
    cases r
    rcases ty with ⟨rfl, xs, hq⟩ | ⟨rfl, o, hk, hc, hd⟩ | ⟨rfl, hk⟩ | ⟨rfl, S, n, hk⟩
    · obtain ⟨its, _, pl, _⟩ := I.list hq
      refine ⟨pl.isList.typeIs, fun a e => ?_⟩
      cases e
      obtain ⟨o, n, e, c, hd, _⟩ := pl
      exact ⟨o, e, hd⟩
    · refine ⟨⟨o, I.kIn p o hk, hc⟩, fun a e => ?_⟩
      cases e
      exact ⟨o, I.kIn _ o hk, hd⟩
    · have z : ∃ o, s.heap.get? p = some o ∧ o.ExactDict := by
        rcases hk with ⟨kvs, hk⟩ | ⟨kvs, hk⟩
        · obtain ⟨_, _, _, _, o, _, _, e, ex, _⟩ := I.hok p _ hk
          exact ⟨o, e, ex⟩
        · obtain ⟨_, _, _, _, o, _, _, e, ex, _⟩ := I.hok p _ hk
          exact ⟨o, e, ex⟩
      obtain ⟨o, e, ex⟩ := z
      refine ⟨⟨o, e, ex.1⟩, fun a e2 => ?_⟩
      cases e2
      exact ⟨o, e, ex.2.1⟩
    · obtain ⟨o, _, _, _, e, ex, _⟩ := I.hok p _ hk
      refine ⟨⟨o, e, ex.1⟩, fun a e2 => ?_⟩
      cases e2
      exact ⟨o, e, ex.2.1⟩
  | _ => exact False.elim ty
noncomputable def tBM (K : PySem.W.Frag) (T : String) (r : V → List V → Hp → VK → Prop) (to : TE) (t : TA) : TE := fun σ H Q => to σ H fun x H1 => tyV K T x H1 ∧ t σ H1 fun xs H2 => r x xs H2 Q
variable {o e : Expr} {es : List Expr} {to : TE} {t : TA} {name : Str} {apos cpos : Pos} {T id : String} {r : V → List V → Hp → VK → Prop}
theorem pe_bm (pa : PlainAttrs T) (slot : Slot T name id) (hty : typeOf (.builtin id) = pure (.type "method_descriptor")) (hm : MtR X id r) (ho : PE X o to) (ha : PA X (e :: es) t)
    (hbase : attributeBase o name X.env (eval o X.env) = eval o X.env := by rfl)
    (hfew : ((backTo cpos (starEach (e :: es) X.env)).all (fun x => !x.1) && (backToKw cpos (keywordEach [] X.env)).all (fun x => x.1.isSome)
      && decide ((e :: es).length + ([] : List Keyword).length + (if ([] : List Keyword).isEmpty then 0 else 1) < 30)) = true := by rfl)
    (hline : (apos.endLine == cpos.line) = true := by rfl) (hs : starEach (e :: es) X.env = (false, eval e X.env) :: starEach es X.env := by rfl) (hplain : (backTo cpos (starEach es X.env)).any (·.1) = false := by rfl) :
    PE X (.Call (.Attribute o name apos) (e :: es) [] cpos) (tBM X.K T r to t) := by
  intro pins s σ H Q I h
  refine wpAny_Call_method_late hbase hfew hline rfl (thn (ho pins s σ H _ I h) fun v s1 ⟨x, H1, I1, r1, ty, q1⟩ => ?_)
  obtain ⟨h1, h2⟩ := tyV_is I1 r1 ty
  refine ⟨T, id, pa, slot, hty, h1, h2, ?_⟩
  have hA := ha cpos pins s1 σ H1 _ I1 q1
  rw [hs] at hA ⊢
  refine Calls.callWith_builtin (by show (false || (backTo cpos (starEach es X.env)).any (·.1)) = false; rw [hplain] <;> rfl) (Calls.evalArgs_plain ?_)
  exact thn hA fun us s2 ⟨vs, H2, I2, r2, q2⟩ => hm pins s2 σ H2 x vs v us Q I2 r1 r2 q2
/- xs.append(e), list.index on a module's tuple .. are MtR facts of 06m -/
end
end L2

namespace L2
open PySem PySem.Spec PyProof.Rows

noncomputable def MtM (X : Cx) (id : String) (r : V → List V → Hp → VK → Prop) : Prop :=
  ∀ (pins : List (Addr × Obj)) (s : Shared) (σ : St) (H : Hp) (x : V) (xs : List V) (v : Value) (us : List Value) (Q : VK), Inv X pins σ H s → RelV x v → Vals xs us → r x xs H Q →
    wpAny (model X.prog X.w) X.A (call (.builtin id) (v :: us)) (EP X pins σ Q) X.xe s

theorem Vals.one : ∀ {x : V} {us : List Value}, Vals [x] us → ∃ u, us = [u] ∧ RelV x u
  | _, _, .cons r .nil => ⟨_, rfl, r⟩
theorem Vals.two {x y : V} {us : List Value} (h : Vals [x, y] us) : ∃ u v, us = [u, v] ∧ RelV x u ∧ RelV y v := by
  cases h with
  | cons r h =>
    obtain ⟨u, e, q⟩ := Vals.one h
    exact ⟨_, u, by rw [e], r, q⟩
theorem Vals.dropLast {xs : List V} {us : List Value} (h : Vals xs us) : Vals xs.dropLast us.dropLast := by
  induction h with
  | nil => exact .nil
  | cons r t ih =>
    cases t with
    | nil => exact .nil
    | cons q t' => exact .cons r ih
section
variable {X : Cx} {pins : List (Addr × Obj)} {σ : St} {H : Hp} {s : Shared} {l b : Addr} {xs ys zs : List V}

theorem Inv.lset {its its' : List Value} {n : Nat} {f : Array Value → Array Value} {t' : Nat} (I : Inv X pins σ H s) (hH : H l = some (.lst xs))
    (e : s.heap.get? l = some { cls := .type "list", data := .seq its.toArray n }) (hf : f its.toArray = its'.toArray) (hv : Vals ys its') (hz : ys.length ≤ sizeLine) :
    Inv X pins σ (upd H l (.lst ys)) { s with heap := s.heap.update l (Obj.mapSeq f), toks := t' } := by
  have q := PySem.IsL.update e f
  rw [hf] at q
  refine I.write (x := l) (e := l) (by rw [hH]; exact trivial) (.inl rfl) (fun b' u hb hu => (Heap.get?_update_other s.heap (Obj.mapSeq f) (Ne.symm hb)).trans hu) ⟨_, q⟩ ?_
  exact ⟨hz, its', _, hv, q⟩
theorem Inv.lnew {its : List Value} {t' : Nat} (I : Inv X pins σ H s) (hv : Vals ys its) (hz : ys.length ≤ sizeLine) :
    Inv X pins σ (upd H s.heap.objs.size (.lst ys)) { s with heap := s.heap.push { cls := .type "list", data := .seq its.toArray }, toks := t' } :=
  I.laid (fun _ _ q => Heap.get?_push_of_some _ q) (Nat.le_refl _) ⟨hz, its, 0, hv, Heap.get?_push_size _ rfl⟩
theorem Inv.fresh (I : Inv X pins σ H s) : H s.heap.objs.size = none := I.hok.fresh (Nat.le_refl _)
theorem Inv.lstM (I : Inv X pins σ H s) (hH : H l = some (.lst xs)) : xs.length ≤ sizeLine ∧ ∃ (its : List Value) (n : Nat), Vals xs its ∧ xs.length = its.length ∧ s.heap.get? l = some { cls := .type "list", data := .seq its.toArray n } := by
  obtain ⟨z, its, n, r, e⟩ := I.hok l _ hH
  exact ⟨z, its, n, r, r.length, e⟩

end

section
variable {X : Cx}

noncomputable def rAppend : V → List V → Hp → VK → Prop := fun x vs H Q => ∃ l xs y, x = .ref l ∧ vs = [y] ∧ H l = some (.lst xs) ∧ xs.length < sizeLine ∧ Q .non (upd H l (.lst (xs ++ [y])))
theorem mt_append : MtM X "list.append" rAppend := by
  intro pins s σ H x vs v us Q I rx rv h
  obtain ⟨l, xs, y, rfl, rfl, hH, hz, q⟩ := h
  cases rx
  obtain ⟨u, rfl, ru⟩ := rv.one
  obtain ⟨z, its, n, r, hl, e⟩ := I.lstM hH
  refine call_meets F.slot_list_append ⟨_, e, rfl⟩ F.entry_list_append (F.args_list_append_2 _ _) (PySem.list_append l its.toArray n u (by rw [List.size_toArray]; omega)) ⟨e, ?_⟩
  refine ⟨.non, _, I.lset (its' := its ++ [u]) hH e (by simp) (r.append (.cons ru .nil)) ?_, rfl, q⟩
  rw [List.length_append, List.length_singleton]
  omega

noncomputable def rCat : R2 := fun x y H Q => ∃ l b xs zs, x = .ref l ∧ y = .ref b ∧ H l = some (.lst xs) ∧ H b = some (.lst zs) ∧ xs.length + zs.length ≤ sizeLine ∧ ∀ p, H p = none → Q (.ref p) (upd H p (.lst (xs ++ zs)))
theorem op_cat : OpR X (binaryOp .Add) rCat := by
  intro pins s σ H x y v u Q I rx ry h
  obtain ⟨l, b, xs, zs, rfl, rfl, hH, hB, hz, q⟩ := h
  cases rx
  cases ry
  obtain ⟨z, its, n, r, hl, e⟩ := I.lstM hH
  obtain ⟨z2, its2, n2, r2, hl2, e2⟩ := I.lstM hB
  refine PySem.P.add_list e e2 ?_ (by rw [List.size_toArray, List.size_toArray]; omega)
  have ea : its.toArray ++ its2.toArray = (its ++ its2).toArray := by simp
  rw [ea]
  exact ⟨.ref _, _, I.lnew (t' := s.toks) (r.append r2) (by rw [List.length_append]; omega), rfl, q _ I.fresh⟩
end

section
variable {prog : Program} {w : World} {A : Around} {E : Value → Shared → Prop} {s : Shared}
end

section
variable {X : Cx}
end
end L2

namespace Att
open PySem PySem.W PySem.Calls PyProof.Rows

theorem ints_of_wellAll {P : Params} {h : Heap} : ∀ (ns : List Int) (vs : List Value), WellAll P h vs (ns.map WData.int) → IntsAre vs ns := by
  intro ns
  induction ns with
  | nil =>
    intro vs w
    rw [List.map_nil] at w
    cases w
    exact .nil
  | cons n ns ih =>
    intro vs w
    rw [List.map_cons] at w
    cases w with
    | cons a b =>
      cases a
      exact .cons _ _ (ih _ b)

theorem script_of {l : OpenLaw} {n : Nat} (hn : l.most = some n) {P : Params} {h : Heap} {args : List WData} {vals : List Value}
    (hpre : l.row.toRowW.claim.pre args = true) (hwl : WellAll P h vals args) :
    ∃ a vs ns, vals = [Value.ref a] ∧ args = [WData.list (ns.map WData.int)] ∧ h.get? a = some { cls := .type "list", data := .seq vs.toArray } ∧ IntsAre vs ns ∧ ns.length ≤ n := by
  have hsh : WShape.hasAll [] args [.list .int] = true := (pre_splitW hpre).1
  have hc : l.pre.holds [] { args := args } = true := (pre_splitW hpre).2
  obtain ⟨d, r, rfl, h1, h2⟩ := hasAllW_cons hsh
  obtain rfl := hasAllW_nil h2
  obtain ⟨xs, rfl, h3⟩ := hasW_list h1
  obtain ⟨ns, rfl⟩ := items_int h3
  have hlen : ns.length ≤ n := by
    unfold OpenLaw.pre at hc
    have h4 : (WTm.not (.lt (.lit (.int (n : Int))) (.len (.arg 0)))).holds [] { args := [.list (ns.map .int)] } = true := by
      have h4 := (holds_andW hc).1
      rw [hn] at h4
      exact h4
    have h5 := condW_of h4 (w_not (w_lt w_lit (w_len_list (w_arg rfl))))
    rw [List.length_map] at h5
    refine Nat.le_of_not_lt fun q => ?_
    have q' : (n : Int) < ((ns.length : Nat) : Int) := by omega
    first
      | (rw [decide_eq_true q'] at h5; exact absurd h5 (by decide))
      | (simp at h5; omega)
  cases hwl with
  | cons w1 w2 =>
    cases w2
    cases w1 with
    | list ho hall => exact ⟨_, _, ns, rfl, rfl, ho, ints_of_wellAll ns _ hall, hlen⟩

theorem post_true (l : OpenLaw) (args : List WData) : l.row.toRowW.claim.post args (.bool true) args = true :=
  postW_of (r := l.row.toRowW) (X := (true == true))
    (show WShape.has [] (.bool true) .bool = true by first | rfl | decide | simp [WShape.has, WShape.arms, WShape.armsAll])
    (show (WTm.eq .res (.lit (.bool true))).value [] { args := args, res := some (.bool true), after := args } = some (.bool (true == true)) from w_eq_bool (w_res rfl) w_lit) rfl

theorem attach_call {l : OpenLaw} {n : Nat} {q : Program} {loose : List Str} {XP : (Str → Option Value) → Heap → Prop} {YP : World → Heap → Prop} {d : DefRec}
    (hn : l.most = some n) (hdf : d.params.defaults = [])
    (call : ∀ (w : World) (s₀ s₁ : Shared) (mg mb : Str → Option Value) (fa : Addr) (o : Obj) (pm cd doc : Value) (a : Addr) (vs : List Value) (ns : List Int),
      Ground q loose [] XP w s₀ mg mb s₁.heap → YP w s₁.heap →
      s₁.heap.get? fa = some o → o.data = .func (docDef d.name d.params d.body d.scope pm cd doc) → s₁.heap.CodeRec cd d.name → mg d.name = some (.ref fa) →
      s₁.heap.get? a = some { cls := .type "list", data := .seq vs.toArray } → IntsAre vs ns → ns.length ≤ n → s₁.gens = #[] →
      codeAny (model l.prog w) callerA (.call (.ref fa) ⟨[.ref a], []⟩) (fun r s' => r = .ok (.ret (.bool true)) ∧ OldK s₁.heap s'.heap ∧ s'.os = s₁.os ∧ AllBare s'.gens) s₁) :
    WalkO q loose XP YP l.row.toRowW d [] (fun f vs => PySem.call f vs) := by
  intro w s₀ s₁ mg mb G Y fa o pm cd doc dV kV ho hd hcd hD hmg hg args vals as hpre hlay hrd hwl hlo
  obtain rfl : dV = .none := Dflts.none hD hdf
  obtain rfl : kV = .none := Dflts.noKw hD
  obtain ⟨a, vs, ns, rfl, rfl, hobj, hints, hlen⟩ := script_of hn hpre hwl
  refine enter_call (codeAny_mono (call w s₀ s₁ mg mb fa o pm cd doc a vs ns G Y ho (fd_plain hd) hcd hmg hobj hints hlen hg) fun r s' hq => ?_)
  obtain ⟨rfl, h2, h3, h4⟩ := hq
  exact ⟨.inl ⟨.bool true, .bool true, [], rfl, fun _ => rfl, .bool true, post_true l _, fun _ => ⟨List.Pairwise.nil, fun _ hm => (nomatch hm)⟩⟩, h2, h3, h4⟩

section
variable {prog : Program} {w : World} {A : Around} {E : Value → Shared → Prop} {s : Shared} {K : Frag}

end
end Att

namespace L2
open PySem PySem.Spec PyProof.Rows

theorem vals_ints : ∀ {vs : List Value} {ns : List Int}, IntsAre vs ns → Vals (ns.map V.int) vs
  | _, _, .nil => .nil
  | _, _, .cons n t h => .cons ⟨t, rfl⟩ (vals_ints h)

noncomputable def Only (H : Hp) : Prop := ∀ b, H b = none ∨ ∃ o xs, H b = some (.frz o (.lst xs))

theorem law_call {P : Program} {w : World} {K : PySem.W.Frag} {mg mb : Str → Option Value} {CX : CXT} {k : Nat} {fa a : Addr} {fd : FuncData} {x : Str} {sp : Sp} {s₁ : Shared} {vs : List Value} {ns : List Int}
    (KX : K.In s₁.heap) (hns : s₁.heap.Ns mainGlobals mg) (hb : s₁.heap.Ns builtinsNs mb) (hbb : ∀ x : Str, x ≠ "__name__" → mb x = bootBuiltins x) (hlim : s₁.heap.NoLimit) (hg : s₁.gens = #[])
    (ha : s₁.heap.get? a = some { cls := .type "list", data := .seq vs.toArray }) (hi : IntsAre vs ns) (hl : ns.length ≤ sizeLine) (hr : Room k callerA)
    (F : ∀ base : Heap, K.In base → base.Ns mainGlobals mg → FnOk P w K mg base CX k fa fd [x] sp) (hbind : ∀ (s : Shared) (u : Value), BindsTo s fd ⟨[u], []⟩ [(x, u)])
    (hsp : ∀ H : Hp, Only H → SqL K H a (ns.map V.int) → sp [.ref a] H (fun v _ => v = .bl true) fun _ _ _ => False)
    (hCX : ∀ H e s', CX [] H s₁ (fun _ _ _ => False) e s' → False) :
    codeAny (model P w) callerA (.call (.ref fa) ⟨[.ref a], []⟩) (fun r s' => r = .ok (.ret (.bool true)) ∧ OldK s₁.heap s'.heap ∧ s'.os = s₁.os ∧ AllBare s'.gens) s₁ := by
  have rv := vals_ints hi
  have lenV := hi.length
  -- from an abstract heap in which nothing but the script may be tracked
  have core : ∀ H : Hp, Only H → SqL K H a (ns.map V.int) → HOk P w H s₁.heap → (∀ b, H b ≠ none → b = a) → (H a ≠ none → K.lookup a = none) →
      codeAny (model P w) callerA (.call (.ref fa) ⟨[.ref a], []⟩) (fun r s' => r = .ok (.ret (.bool true)) ∧ OldK s₁.heap s'.heap ∧ s'.os = s₁.os ∧ AllBare s'.gens) s₁ := by
    intro H hO hS hok hA hK
    have base_of : ∀ {b : Addr} {o : Obj}, s₁.heap.get? b = some o → H b = none → (hidT s₁.heap H).get? b = some o := fun e n => hidT_get e n
    have noA : ∀ {b : Addr} {o : Obj} {es : Array DictEntry} {ep : Nat}, s₁.heap.get? b = some o → o.data = .dict es ep → H b = none := fun {b o es ep} e d => by
      cases q : H b with
      | none => rfl
      | some u =>
        have e' : b = a := hA b (by rw [q]; simp)
        subst e'
        rw [ha] at e; cases e
        have d' : Data.seq vs.toArray _ = Data.dict es ep := d
        cases d'
    have nsK : ∀ {b : Addr} {m : Str → Option Value}, s₁.heap.Ns b m → (hidT s₁.heap H).Ns b m := fun {b m} ⟨o, es, ep, e, d, r⟩ => ⟨o, es, ep, base_of e (noA e d), d, r⟩
    have hKb : K.In (hidT s₁.heap H) := fun b o e => base_of (KX b o e) (by
      cases q : H b with
      | none => rfl
      | some u =>
        have e' : b = a := hA b (by rw [q]; simp)
        subst e'
        rw [hK (by rw [q]; simp)] at e; cases e)
    have hM : Mod K mg (hidT s₁.heap H) := ⟨hKb, nsK hns, ⟨mb, nsK hb, hbb⟩, let ⟨mc, h1, h2⟩ := hlim; ⟨mc, nsK h1, h2⟩⟩
    have e0 : Env0 P w K mg (hidT s₁.heap H) callerA [] s₁ H := ⟨rfl, hM, fun b o e => of_hidT e, Nat.le_of_eq (hidT_size _ _), trivial, fun b hb => absurd (show b ∈ ([] : List Addr) from hb) (by simp), hok, .of_eq hg⟩
    refine codeAny_mono ((F _ hKb (nsK hns)).run callerA [] s₁ H ⟨[.ref a], []⟩ [.ref a] [.ref a] _ _ hr e0 (hbind s₁ (.ref a)) (.cons rfl .nil) (hsp H hO hS)) fun r s' h => ?_
    cases r with
    | error e => exact (hCX H e s' h).elim
    | ok fl =>
      cases fl with
      | next => exact False.elim h
      | brk => exact False.elim h
      | cont => exact False.elim h
      | ret u =>
        obtain ⟨v, H', os, bare, un, hok', r', q⟩ := h
        have q' : v = .bl true := q
        subst q'
        obtain rfl : u = Value.bool true := r'
        refine ⟨rfl, OldK.of_keep fun b o e => ?_, os, bare⟩
        cases q : H b with
        | none => exact un.keep b o e q (by intro z; exact absurd (show b ∈ ([] : List Addr) from z) (by simp)) (by simp)
        | some u =>
          rcases hO b with z | ⟨ob, xs, z⟩
          · rw [q] at z; cases z
          · have z2 := un.frzs b ob _ z
            obtain ⟨e1, _⟩ := hok b _ z
            obtain ⟨e2, _⟩ := hok' b _ z2
            rw [e] at e1; cases e1
            exact e2
  cases hk : K.lookup a with
  | some o =>
    -- the script is one of the module's own objects
    have e := KX a o hk
    rw [ha] at e
    cases e
    refine core (fun _ => none) (fun _ => .inl rfl) (.inr ⟨_, vs.toArray, _, hk, rfl, rfl, rfl, by rw [List.size_toArray, lenV]; exact hl, by simpa using rv⟩) (fun b u z => by have z' : (none : Option HO) = some u := z; cases z') (fun b z => absurd rfl z) fun z => absurd rfl z
  | none =>
    refine core (fun b => if b = a then some (.frz { cls := .type "list", data := .seq vs.toArray } (.lst (ns.map V.int))) else none) (fun b => ?_) (.inl (.inr ⟨{ cls := .type "list", data := .seq vs.toArray }, if_pos rfl⟩)) (fun b u z => ?_) (fun b z => ?_) fun _ => hk
    · by_cases hb : b = a
      · exact .inr ⟨_, _, if_pos hb⟩
      · exact .inl (if_neg hb)
    · by_cases hb : b = a
      · have z' := (if_pos hb).symm.trans z
        cases z'
        subst hb
        exact ⟨ha, by rw [List.length_map]; exact hl, vs, _, rv, ha⟩
      · have z' := (if_neg hb).symm.trans z
        cases z'
    · by_cases hb : b = a
      · exact hb
      · exact absurd (if_neg hb) z
end L2

namespace L2
open PySem PySem.Spec PyProof.Rows

theorem walk_of {l : PySem.W.OpenLaw} {n k : Nat} {q : Program} {loose : List Str} {XP : (Str → Option Value) → Heap → Prop} {YP : World → Heap → Prop} {d : DefRec} {K : Params → PySem.W.Frag} {CX : World → CXT} {sp : World → Sp} {x : Str}
    (hn : l.most = some n) (hn2 : n ≤ sizeLine) (hdf : d.params.defaults = []) (hr : Room k callerA)
    (hY : ∀ (w : World) (h : Heap), YP w h → (K w.params).In h)
    (F : ∀ (w : World) (mg : Str → Option Value) (fa : Addr) (h : Heap), (K w.params).In h → h.Ns mainGlobals mg → mg d.name = some (.ref fa) →
      ∃ fd : FuncData, (∀ (s : Shared) (u : Value), BindsTo s fd ⟨[u], []⟩ [(x, u)]) ∧
        ∀ base : Heap, (K w.params).In base → base.Ns mainGlobals mg → FnOk l.prog w (K w.params) mg base (CX w) k fa fd [x] (sp w))
    (hsp : ∀ (w : World) (H : Hp) (a : Addr) (ns : List Int), ns.length ≤ n → Only H → SqL (K w.params) H a (ns.map V.int) → sp w [.ref a] H (fun v _ => v = .bl true) fun _ _ _ => False)
    (hCX : ∀ (w : World) (H : Hp) (s : Shared) (e : Value) (s' : Shared), CX w [] H s (fun _ _ _ => False) e s' → False) :
    PySem.W.WalkO q loose XP YP l.row.toRowW d [] (fun f vs => PySem.call f vs) := by
  refine Att.attach_call hn hdf fun w s₀ s₁ mg mb fa o pm cd doc a vs ns G Y ho hd hcd hmg hobj hints hlen hg => ?_
  have KX := hY w _ Y
  obtain ⟨fd, hb, hF⟩ := F w mg fa _ KX G.T.g hmg
  exact law_call KX G.T.g G.T.b G.T.builtins G.T.nolimit hg hobj hints (Nat.le_trans hlen hn2) hr hF hb (fun H hO hS => hsp w H a ns hlen hO hS) fun H e s' => hCX w H s₁ e s'
end L2

namespace L2
open PySem PySem.Spec PyProof.Rows

noncomputable def defArgs (s : Stmt) : Arguments := match s with
  | .FunctionDef _ a _ _ _ _ _ _ _ _ => a
  | _ => { posonlyargs := [], args := [], vararg := none, kwonlyargs := [], kw_defaults := [], kwarg := none, defaults := [] }
noncomputable def defBody (s : Stmt) : List Stmt := match s with
  | .FunctionDef _ _ b _ _ _ _ _ _ _ => b
  | _ => []
noncomputable def defScope (s : Stmt) : Scope := match s with
  | .FunctionDef _ _ _ _ _ _ sc _ _ _ => sc
  | _ => { kind := .function, names := [], isGenerator := false, isCoroutine := false }

noncomputable abbrev CX0 : CXT := fun _ _ _ _ _ _ => False
noncomputable abbrev E0 : XK := fun _ _ _ => False
theorem pass0 {X : Cx} : Passes CX0 X E0 := fun _ _ _ _ _ _ _ h => h.elim

structure Fun (K : PySem.W.Frag) (x qual : Str) (st : Stmt) (f : Addr) (fd : FuncData) : Prop where
  ex : ∃ (oc : Value) (od : Option Addr) (kV doc pm : Value) (an : Option Addr) (cdv ct : Value) (osl : Array (Option Value)),
    fd = PySem.W.fnOf x qual (defArgs st) (defBody st) (defScope st) .none kV doc pm an cdv ct ∧ K.lookup f = some ⟨oc, od, .func fd, osl⟩ ∧ PySem.W.codeIn K cdv qual = true
  kp : PySem.W.keepIn K (.ref f) = true
section
variable {P : Program} {w : World} {K : PySem.W.Frag} {mg : Str → Option Value} {base : Heap}
theorem Fun.ok {x qual : Str} {st : Stmt} {f : Addr} {fd : FuncData} {N ps : List Str} {k : Nat} {sp : Sp} (F : Fun K x qual st f fd) (S : FnScope N ps (defScope st)) (len : ∀ vs H Q E, sp vs H Q E → vs.length = ps.length)
    (hbody : ∀ (cdv : Value) (A : Around) (outer : List Env) (s : Shared) (H : Hp) (vs : List V) (Q : VK) (E : XK), Room k (A.deeper (envOfC qual (defScope st) s.heap.objs.size f cdv)) → sp vs H Q E →
      ∃ t, PSs (cxOf CX0 P w K mg base N qual (defScope st) f cdv A outer s H E).nox (defBody st) t ∧ t { nx := fun _ H' => Q .non H', rt := Q } (start N vs) H) : FnOk P w K mg base CX0 (k + 1) f fd ps sp := by
  obtain ⟨oc, od, kV, doc, pm, an, cdv, ct, osl, rfl, lk, hcd⟩ := F.ex
  refine fn_of lk hcd S len fun A outer s H vs Q E hr hsp => ?_
  obtain ⟨t, h, q⟩ := hbody cdv A outer s H vs Q E hr hsp
  exact ⟨t, h.nox, q⟩
theorem Fun.binds {x qual : Str} {st : Stmt} {f : Addr} {fd : FuncData} {ps : List Str} (F : Fun K x qual st f fd)
    (h : ∀ (kV doc pm : Value) (an : Option Addr) (cdv ct : Value) (us : List Value), us.length = ps.length → bindArgs (PySem.W.fnOf x qual (defArgs st) (defBody st) (defScope st) .none kV doc pm an cdv ct) ⟨us, []⟩ = pure (ps.zip us)) : Binds K fd ps [] := by
  obtain ⟨oc, od, kV, doc, pm, an, cdv, ct, osl, rfl, lk, hcd⟩ := F.ex
  exact .all (h kV doc pm an cdv ct)
theorem fun_mk {x qual : Str} {st : Stmt} {f : Addr} {oc : Value} {od an : Option Addr} {osl : Array (Option Value)} {kV doc pm cdv ct : Value} (l : K.lookup f = some ⟨oc, od, .func (PySem.W.fnOf x qual (defArgs st) (defBody st) (defScope st) .none kV doc pm an cdv ct), osl⟩)
    (c : PySem.W.codeIn K cdv qual = true) (k : PySem.W.keepIn K (.ref f) = true) : Fun K x qual st f (PySem.W.fnOf x qual (defArgs st) (defBody st) (defScope st) .none kV doc pm an cdv ct) := ⟨⟨oc, od, kV, doc, pm, an, cdv, ct, osl, rfl, l, c⟩, k⟩
end
section
variable {X : Cx}
theorem pv (i : Nat) {x : Str} {pos : Pos} (hN : X.N[i]? = some x := by rfl) (hv : Vis X.env.scope x := by first | exact Or.inl rfl | exact Or.inr (Or.inl rfl) | exact Or.inr (Or.inr rfl)) (hd : (x == ("__debug__" : Str)) = false := by decide)
    (hcd : (x == ("__classdict__" : Str)) = false := by decide) : PE X (.Name x pos) (tVar i) := pe_var hN hv hd hcd
end

noncomputable def Same (H H' : Hp) : Prop := ∀ b o, H b = some o → H' b = some o
theorem Same.refl (H : Hp) : Same H H := fun _ _ h => h
theorem Same.trans {H H1 H2 : Hp} (a : Same H H1) (b : Same H1 H2) : Same H H2 := fun c o h => b c o (a c o h)
theorem Same.free {H H' : Hp} (e : Same H H') {l : Addr} (h : H' l = Option.none) : H l = Option.none := by
  cases q : H l with
  | none => rfl
  | some o =>
    rw [e l o q] at h
    cases h
theorem Same.seq {K : PySem.W.Frag} {H H' : Hp} {a : Addr} {xs : List V} (e : Same H H') (h : SqL K H a xs) : SqL K H' a xs := by
  rcases h with (h | ⟨o, h⟩) | h
  · exact .inl (.inl (e _ _ h))
  · exact .inl (.inr ⟨o, e _ _ h⟩)
  · exact .inr h

end L2

set_option Elab.async false
set_option linter.all false
set_option maxRecDepth 100000
namespace L2
open PySem PySem.Spec PyProof.Rows
noncomputable def closL (scope : Scope) (env : Env) : List (Str × Addr) :=
  scope.names.foldl (fun acc y => if y.2 == .free then (match env.cells.lookup y.1 with | some c => (y.1, c) :: acc | none => acc) else acc) []
theorem closFor_aux {env : Env} : ∀ (names : List (Str × NameKind)) (acc : List (Str × Addr)), (∀ y ∈ names, y.2 = .free → ∃ c, env.cells.lookup y.1 = some c) →
    (forIn names acc fun (y : Str × NameKind) (r : List (Str × Addr)) => (match y with | (name, kind) => if (kind == NameKind.free) = true then (do let a ← cellOf env name; pure (ForInStep.yield ((name, a) :: r))) else pure (ForInStep.yield r) : Sem (ForInStep (List (Str × Addr))))) =
      pure (names.foldl (fun acc y => if y.2 == .free then (match env.cells.lookup y.1 with | some c => (y.1, c) :: acc | none => acc) else acc) acc)
  | [], acc, _ => rfl
  | (n, k) :: r, acc, h => by
    rw [List.forIn_cons, List.foldl_cons]
    have ih := fun acc => closFor_aux (env := env) r acc fun y hy => h y (List.mem_cons_of_mem _ hy)
    by_cases hk : k = .free
    · subst hk
      obtain ⟨c, e⟩ := h (n, .free) List.mem_cons_self rfl
      have e' : env.cells.lookup n = some c := e
      simp only [cellOf, e', beq_self_eq_true, if_true]
      exact ih _
    · have hb : (k == NameKind.free) = false := by simpa using hk
      simp only [hb, Bool.false_eq_true, if_false]
      exact ih _
theorem closFor {scope : Scope} {env : Env} (h : ∀ y ∈ scope.names, y.2 = .free → ∃ c, env.cells.lookup y.1 = some c) : closureFor scope env = pure (closL scope env) := by
  have e := closFor_aux (env := env) scope.names [] h
  unfold closureFor closL
  rw [← e]
  first | rfl | simp
theorem closL_aux {env : Env} {x : Str} {c : Addr} : ∀ (names : List (Str × NameKind)) (acc : List (Str × Addr)), (∀ z d, acc.lookup z = some d → env.cells.lookup z = some d) →
    (names.foldl (fun acc y => if y.2 == .free then (match env.cells.lookup y.1 with | some c => (y.1, c) :: acc | none => acc) else acc) acc).lookup x = some c → env.cells.lookup x = some c
  | [], acc, h, e => h x c e
  | (n, k) :: r, acc, h, e => by
    rw [List.foldl_cons] at e
    refine closL_aux r _ ?_ e
    intro z d q
    by_cases hk : (k == NameKind.free) = true
    · simp only [hk, if_true] at q
      cases el : env.cells.lookup n with
      | none => simp only [el] at q; exact h z d q
      | some a =>
        simp only [el, List.lookup_cons] at q
        by_cases hz : (z == n) = true
        · simp only [hz] at q
          have : z = n := by simpa using hz
          subst this
          rw [el]; exact q
        · have hz' : (z == n) = false := by simpa using hz
          simp only [hz'] at q
          exact h z d q
    · simp only [hk, if_false] at q
      exact h z d q
theorem closL_sub {scope : Scope} {env : Env} {x : Str} {c : Addr} (e : (closL scope env).lookup x = some c) : env.cells.lookup x = some c := closL_aux _ _ (fun _ _ q => by simp at q) e
theorem closL_has_aux {env : Env} {x : Str} : ∀ (names : List (Str × NameKind)) (acc : List (Str × Addr)), (∀ y ∈ names, y.2 = .free → ∃ c, env.cells.lookup y.1 = some c) → ((x, NameKind.free) ∈ names ∨ (acc.lookup x).isSome = true) →
    ((names.foldl (fun acc y => if y.2 == .free then (match env.cells.lookup y.1 with | some c => (y.1, c) :: acc | none => acc) else acc) acc).lookup x).isSome = true
  | [], acc, _, h => by
    rcases h with h | h
    · cases h
    · exact h
  | (n, k) :: r, acc, hc, h => by
    rw [List.foldl_cons]
    refine closL_has_aux r _ (fun y hy => hc y (List.mem_cons_of_mem _ hy)) ?_
    rcases h with h | h
    · rcases List.mem_cons.mp h with h | h
      · cases h
        obtain ⟨c, e⟩ := hc (x, .free) List.mem_cons_self rfl
        have e' : env.cells.lookup x = some c := e
        right
        simp [e', List.lookup_cons]
      · exact .inl h
    · right
      by_cases hk : (k == NameKind.free) = true
      · simp only [hk, if_true]
        cases el : env.cells.lookup n with
        | none => exact h
        | some a =>
          simp only [List.lookup_cons]
          by_cases hz : (x == n) = true
          · simp [hz]
          · have hz' : (x == n) = false := by simpa using hz
            simp only [hz']; exact h
      · simp only [hk]; exact h
theorem closL_has {scope : Scope} {env : Env} {x : Str} (hc : ∀ y ∈ scope.names, y.2 = .free → ∃ c, env.cells.lookup y.1 = some c) (h : (x, NameKind.free) ∈ scope.names) : ∃ c, (closL scope env).lookup x = some c :=
  Option.isSome_iff_exists.mp (closL_has_aux _ _ hc (.inl h))

noncomputable def compOk (sc inn : Scope) (N : List Str) (js : List Nat) (cs : List Str) : Bool :=
  (inn.kind == .function) && inn.names.all (fun y => y.2 != .cell && (y.2 != .local || inn.names.lookup y.1 == some .local) && (y.2 != .free || (sc.names.lookup y.1 == some .cell || sc.names.lookup y.1 == some .free))) &&
  (js.map fun j => N[j]?) == cs.map some && cs.all (fun x => inn.names.lookup x == some .free)
structure CompOk (sc inn : Scope) (N : List Str) (js : List Nat) (cs : List Str) : Prop where
  kind : inn.kind = .function
  nocell : ∀ y ∈ inn.names, y.2 ≠ .cell
  names : ∀ y ∈ inn.names, y.2 = .local → inn.names.lookup y.1 = some .local
  frees : ∀ y ∈ inn.names, y.2 = .free → sc.names.lookup y.1 = some .cell ∨ sc.names.lookup y.1 = some .free
  slots : (js.map fun j => N[j]?) = cs.map some
  caps : ∀ x ∈ cs, inn.names.lookup x = some .free
theorem CompOk.of {sc inn : Scope} {N : List Str} {js : List Nat} {cs : List Str} (h : compOk sc inn N js cs = true) : CompOk sc inn N js cs := by
  unfold compOk at h
  simp only [Bool.and_eq_true] at h
  obtain ⟨⟨⟨h1, h2⟩, h3⟩, h4⟩ := h
  rw [List.all_eq_true] at h2 h4
  refine ⟨by simpa using h1, fun y hy => ?_, fun y hy e => ?_, fun y hy e => ?_, by simpa using h3, fun x hx => by simpa using h4 x hx⟩
  · have := h2 y hy
    simp only [Bool.and_eq_true] at this
    simpa using this.1.1
  · have := h2 y hy
    simp only [Bool.and_eq_true, e] at this
    simpa using this.1.2
  · have := h2 y hy
    simp only [Bool.and_eq_true, e] at this
    simpa using this.2

noncomputable def sIn (nt : Nat) (js : List Nat) (σ : St) : St := List.replicate nt none ++ js.map fun j => (σ[j]?).join
noncomputable def cxIn (X : Cx) (inn : Scope) (N' : List Str) (s₀ : Shared) (H₀ : Hp) (ex : List Addr) : Cx where
  prog := X.prog
  w := X.w
  K := X.K
  mg := X.mg
  base := X.base
  A := X.A
  N := N'
  s₀ := s₀
  H₀ := H₀
  env := compEnvC inn (closL inn X.env) s₀.heap.objs.size X.env
  outer := X.stack
  stack := X.stack
  ex := ex
  fn := fun _ => false
  calm := X.calm
  pn := []
  xe := fun _ _ => False

noncomputable def PIf (X : Cx) (ifs : List Expr) (t : TT) : Prop :=
  ∀ (pins : List (Addr × Obj)) (s : Shared) (σ : St) (H : Hp) (Q : Bool → Hp → Prop), Inv X pins σ H s → t σ H Q →
    wpAny (model X.prog X.w) X.A (forIn ifs true fun c r => if r = true then do let ok ← isTrue c X.env (eval c X.env); pure (ForInStep.yield ok) else pure (ForInStep.yield r)) (TP X pins σ Q) X.xe s
noncomputable def tYes : TT := fun _ H Q => Q true H
theorem pif_nil {X : Cx} : PIf X [] tYes := fun _ _ _ H _ I h => wpAny_tests_nil ⟨H, I, h⟩
theorem pif_one {X : Cx} {c : Expr} {t : TT} (h : PT X c t) : PIf X [c] t := fun pins s σ H Q I hw => wpAny_tests_one (h pins s σ H Q I hw)

noncomputable def CompR (J : It) (σ0 : St) (g : TG) (tt : TT) (te : TE) (Q : VK) (H1 : Hp) : Prop := ∃ W : Nat → Nat → List V → Hp → Prop, (∃ m, W 0 m [] H1) ∧ ∀ i m ys H, W i m ys H →
  ys.length < sizeLine ∧ ((J.stop i H ∧ ∀ D, H D = none → Q (.ref D) (upd H D (.lst ys))) ∨
    (J.go i H ∧ ∃ N : List V → Hp → Prop, (∀ ys' H', N ys' H' → ∃ m', m' < m ∧ W (i + 1) m' ys' H') ∧ ∀ x H', J.yld i H x H' → g x σ0 H' fun σ2 H2 => tt σ2 H2 fun b H3 =>
      if b = true then te σ2 H3 fun y H4 => N (ys ++ [y]) H4 else N ys H3))
noncomputable def tComp (wi : TI) (nt : Nat) (js : List Nat) (g : TG) (tt : TT) (te : TE) : TE := fun σ H Q => wi σ H fun J H1 => CompR J (sIn nt js σ) g tt te Q H1
end L2

set_option Elab.async false
set_option linter.all false
set_option maxRecDepth 100000
set_option maxHeartbeats 4000000
namespace L2
open PySem PySem.Spec PyProof.Rows
theorem lookup_relabel_free {env : Env} : ∀ {names : List (Str × NameKind)} {x : Str}, names.lookup x = some .free →
    (names.map fun (n, k) => if (k == NameKind.free && env.scope.kind == .function && env.kindOf n == some .cell) then (n, NameKind.cell) else (n, k)).lookup x = some .cell ∨
    (names.map fun (n, k) => if (k == NameKind.free && env.scope.kind == .function && env.kindOf n == some .cell) then (n, NameKind.cell) else (n, k)).lookup x = some .free
  | [], _, h => by simp at h
  | (n, k) :: r, x, h => by
    have ih := @lookup_relabel_free env r x
    show List.lookup x ((if (k == NameKind.free && env.scope.kind == .function && env.kindOf n == some .cell) = true then (n, NameKind.cell) else (n, k)) :: _) = _ ∨ List.lookup x ((if (k == NameKind.free && env.scope.kind == .function && env.kindOf n == some .cell) = true then (n, NameKind.cell) else (n, k)) :: _) = _
    cases hx : x == n with
    | true =>
      simp only [List.lookup_cons, hx] at h
      cases h
      by_cases hc : (NameKind.free == NameKind.free && env.scope.kind == .function && env.kindOf n == some .cell) = true
      · left; rw [if_pos hc]; simp [List.lookup_cons, hx]
      · right; rw [if_neg hc]; simp [List.lookup_cons, hx]
    | false =>
      simp only [List.lookup_cons, hx] at h
      by_cases hc : (k == NameKind.free && env.scope.kind == .function && env.kindOf n == some .cell) = true
      · rw [if_pos hc]; simp only [List.lookup_cons, hx]; exact ih h
      · rw [if_neg hc]; simp only [List.lookup_cons, hx]; exact ih h
theorem relabel_cf_mem {env : Env} : ∀ {names : List (Str × NameKind)} {x : Str}, (∀ y ∈ names, y.2 ≠ NameKind.cell) →
    ((names.map fun (n, k) => if (k == NameKind.free && env.scope.kind == .function && env.kindOf n == some .cell) then (n, NameKind.cell) else (n, k)).lookup x = some .cell ∨
    (names.map fun (n, k) => if (k == NameKind.free && env.scope.kind == .function && env.kindOf n == some .cell) then (n, NameKind.cell) else (n, k)).lookup x = some .free) → (x, NameKind.free) ∈ names
  | [], _, _, h => by simp at h
  | (n, k) :: r, x, hn, h => by
    have ih := @relabel_cf_mem env r x (fun y hy => hn y (List.mem_cons_of_mem _ hy))
    have hk := hn (n, k) List.mem_cons_self
    rw [List.map_cons] at h
    cases hx : x == n with
    | true =>
      have e : x = n := by simpa using hx
      subst e
      by_cases hc : (k == NameKind.free && env.scope.kind == .function && env.kindOf x == some .cell) = true
      · have : k = .free := by simp only [Bool.and_eq_true] at hc; simpa using hc.1.1
        subst this
        exact List.mem_cons_self
      · simp only [if_neg hc, List.lookup_cons, hx] at h
        rcases h with h | h
        · cases h; exact absurd rfl hk
        · cases h; exact List.mem_cons_self
    | false =>
      refine List.mem_cons_of_mem _ (ih ?_)
      by_cases hc : (k == NameKind.free && env.scope.kind == .function && env.kindOf n == some .cell) = true
      · simp only [if_pos hc, List.lookup_cons, hx] at h; exact h
      · simp only [if_neg hc, List.lookup_cons, hx] at h; exact h

section
variable {X : Cx} {pins : List (Addr × Obj)} {σ : St} {H H' : Hp} {s : Shared} {inn : Scope} {js : List Nat} {cs ts : List Str} {nt : Nat}

theorem sIn_get {i : Nat} {v : V} (h : (sIn nt js σ)[i]? = some (some v)) : nt ≤ i ∧ ∃ j, js[i - nt]? = some j ∧ σ[j]? = some (some v) := by
  unfold sIn at h
  by_cases hi : i < nt
  · rw [List.getElem?_append_left (by simpa using hi), List.getElem?_replicate] at h
    split at h <;> cases h
  · rw [List.getElem?_append_right (by simpa using hi), List.length_replicate, List.getElem?_map] at h
    refine ⟨by omega, ?_⟩
    cases e : js[i - nt]? with
    | none => rw [e] at h; cases h
    | some j =>
      rw [e] at h
      have h' : (σ[j]?).join = some v := Option.some.inj h
      refine ⟨j, rfl, ?_⟩
      cases q : σ[j]? with
      | none => rw [q] at h'; cases h'
      | some o =>
        rw [q] at h'
        have h'' : o = some v := h'
        rw [h'']

theorem in_ok {ex : List Addr} (I : Inv X pins σ H s) (O : CompOk X.env.scope inn X.N js cs) (hex : ∀ b ∈ ex, b < s.heap.objs.size ∧ b ≠ X.env.locals ∧ b ∉ X.fs ∧ (∀ x c, X.env.cells.lookup x = some c → c ≠ b) ∧ ∀ o, X.base.get? b ≠ some o) :
    (cxIn X inn (ts ++ cs) s H ex).Ok where
  mod := I.ok.mod
  kind := O.kind
  glob := I.ok.glob
  blt := I.ok.blt
  above := Nat.le_refl _
  inj := fun x y c h1 h2 => I.ok.inj x y c (closL_sub h1) (closL_sub h2)
  has := fun x hx => by
    have hm : (x, NameKind.free) ∈ inn.names := relabel_cf_mem O.nocell hx
    exact closL_has (fun y hy e => I.ok.has y.1 (O.frees y hy e)) hm
  cab := fun _ _ h => absurd h (by show ¬ (false = true); decide)
  hd := I.ok.hd
  frames := I.ok.frames
  stk := .inl rfl
  exf := fun b hb => ⟨Nat.ne_of_lt (hex b hb).1, fun x c e => (hex b hb).2.2.2.1 x c (closL_sub e)⟩
  bs := I.bs
  bsz := Nat.le_trans I.ok.bsz I.sz
  noex := fun b o e hb => (hex b hb).2.2.2.2 o e
  exfs := fun b hb hs => by
    rcases List.mem_cons.mp (I.stkSub b hs) with e | e
    · exact (hex b hb).2.1 e
    · exact (hex b hb).2.2.1 e
  funs := I.stack
  frf := I.stkFree

theorem in_inv {ex : List Addr} {h' : Heap} {tk : Nat} (hts : ts.length = nt) (I : Inv X pins σ H s) (O : CompOk X.env.scope inn X.N js cs) (hex : ∀ b ∈ ex, b < s.heap.objs.size ∧ b ≠ X.env.locals ∧ b ∉ X.fs ∧ (∀ x c, X.env.cells.lookup x = some c → c ≠ b) ∧ ∀ o, X.base.get? b ≠ some o)
    (hn : ∃ m, h'.Ns s.heap.objs.size m) (hk : ∀ b o, s.heap.get? b = some o → h'.get? b = some o) :
    Inv (cxIn X inn (ts ++ cs) s H ex) [] (sIn nt js σ) H { s with heap := h', toks := tk } := by
  have ok : (cxIn X inn (ts ++ cs) s H ex).Ok := in_ok I O hex
  obtain ⟨m, hn⟩ := hn
  have cellK : ∀ c v, s.heap.IsCell c v → h'.IsCell c v := fun c v ⟨o, ho, hd⟩ => ⟨o, hk c o ho, hd⟩
  have hlen : js.length = cs.length := by have := congrArg List.length O.slots; simpa using this
  refine ⟨ok, rfl, I.bare, Un.kept hk, ⟨m, hn, fun i x v e1 e2 e3 => ?_⟩, fun x c e => ?_, I.hok.fresh (Nat.le_refl _), fun x c e => I.freeC x c (closL_sub e), fun p hp => ?_, I.hok.kept hk, ?_⟩
  · obtain ⟨hi, j, hj, hv⟩ := sIn_get e2
    have e1' : (ts ++ cs)[i]? = some x := e1
    rw [List.getElem?_append_right (by omega), hts] at e1'
    have hN : X.N[j]? = some x := by
      have q : (js.map fun j => X.N[j]?)[i - nt]? = (cs.map some)[i - nt]? := by rw [O.slots]
      rw [List.getElem?_map, List.getElem?_map, hj, e1'] at q
      exact Option.some.inj q
    have hcap := O.caps x (List.mem_of_getElem? e1')
    have hmem : (x, NameKind.free) ∈ inn.names := PySem.mem_of_lookup hcap
    have hout := O.frees _ hmem rfl
    obtain ⟨mo, hno, hl⟩ := I.loc
    obtain ⟨u, r, l⟩ := hl j x v hN hv (.inr hout)
    refine ⟨u, r, .inr ?_⟩
    rcases l with ⟨l1, _⟩ | ⟨k, c, ec, z⟩
    · have l1' : X.env.scope.names.lookup x = some .local := l1
      rcases hout with q | q <;> (rw [q] at l1'; cases l1')
    · refine ⟨?_, ?_⟩
      · exact lookup_relabel_free (env := X.env) hcap
      · obtain ⟨c', ec'⟩ := closL_has (env := X.env) (fun y hy e => I.ok.has y.1 (O.frees y hy e)) hmem
        have := closL_sub ec'
        rw [ec] at this; cases this
        exact ⟨c, ec', cellK _ _ z⟩
  · obtain ⟨v, z⟩ := I.cell x c (closL_sub e)
    exact ⟨v, cellK _ _ z⟩
  · exact absurd (show p ∈ ([] : List (Addr × Obj)) from hp) (by simp)
  · show (sIn nt js σ).length = (ts ++ cs).length
    unfold sIn
    simp [hts, hlen]

theorem Inv.track {a : Addr} {o : HO} (I : Inv X pins σ H s) (hn : H a = none) (h0 : X.s₀.heap.objs.size ≤ a) (hL : a ≠ X.env.locals) (hc : ∀ x c, X.env.cells.lookup x = some c → c ≠ a) (hp : ∀ p ∈ X.pn ++ pins, p.1 ≠ a)
    (new : ObjOk X.prog X.w (upd H a o) s.heap a o) : Inv X pins σ (upd H a o) s := by
  have ne0 : ∀ b ob, X.s₀.heap.get? b = some ob → b ≠ a := fun b ob e => Nat.ne_of_lt (Nat.lt_of_lt_of_le (Heap.lt_size e) h0)
  have neT : ∀ b u, H b = some u → b ≠ a := fun b u e => ne_of_none e hn
  refine ⟨I.ok, I.os, I.bare, ⟨I.base.keep, I.base.slot, fun b ob e n hx => ?_, I.base.there, fun b xs e => ?_, fun b ob u e => ?_, fun b ps e => ?_⟩, I.loc, I.cell, ?_, fun x c e => ?_, fun p hp' => ?_, fun b u e => ?_, I.len⟩
  · rw [upd_ne (ne0 b ob e)]; exact I.base.free b ob e n hx
  · have q := I.base.tups b xs e; rw [upd_ne (neT b _ q)]; exact q
  · have q := I.base.frzs b ob u e; rw [upd_ne (neT b _ q)]; exact q
  · obtain ⟨more, q⟩ := I.base.tbls b ps e; exact ⟨more, by rw [upd_ne (neT b _ q)]; exact q⟩
  · rw [upd_ne (Ne.symm hL)]; exact I.free
  · rw [upd_ne (hc x c e)]; exact I.freeC x c e
  · obtain ⟨q1, q2, q3, q4, q5⟩ := I.pin p hp'
    exact ⟨q1, by rw [upd_ne (hp p hp')]; exact q2, q3, q4, q5⟩
  · by_cases hb : b = a
    · subst hb; rw [upd_same] at e; cases e; exact new
    · rw [upd_ne hb] at e
      exact (I.hok b u e).stay (fun _ _ _ q => q) (fun c q => by rw [upd_ne (neT c _ q)]; exact q) fun c xs q => by rw [upd_ne (neT c _ q)]; exact q
end
end L2

set_option Elab.async false
set_option linter.all false
set_option maxRecDepth 100000
set_option maxHeartbeats 4000000
namespace L2
open PySem PySem.Spec PyProof.Rows
noncomputable def GK (nt : Nat) (g : TG) : Prop := ∀ v σ H Q, g v σ H Q → g v σ H fun σ' H' => ((∀ i, nt ≤ i → σ'[i]? = σ[i]?) ∧ σ'.length = σ.length) ∧ Q σ' H'
noncomputable def GKs (nt : Nat) (g : TGs) : Prop := ∀ vs σ H Q, g vs σ H Q → g vs σ H fun σ' H' => ((∀ i, nt ≤ i → σ'[i]? = σ[i]?) ∧ σ'.length = σ.length) ∧ Q σ' H'
theorem kg_name {nt i : Nat} (h : i < nt) : GK nt (gName i) := fun v σ H Q q => ⟨⟨fun j hj => by rw [List.getElem?_set_ne (by omega)], by simp⟩, q⟩
theorem kgs_nil {nt : Nat} : GKs nt gNil := fun vs σ H Q ⟨e, q⟩ => ⟨e, ⟨fun _ _ => rfl, rfl⟩, q⟩
theorem kgs_cons {nt i : Nat} {u : TGs} (h : i < nt) (hu : GKs nt u) : GKs nt (gCons (gName i) u) := fun vs σ H Q q => by
  obtain ⟨v, r, e, q⟩ := q
  refine ⟨v, r, e, ?_⟩
  have q' : u r (σ.set i (some v)) H Q := q
  have w := hu r (σ.set i (some v)) H Q q'
  -- weaken: the slots from nt on are those of σ
  have e1 : ∀ j, nt ≤ j → (σ.set i (some v))[j]? = σ[j]? := fun j hj => by rw [List.getElem?_set_ne (by omega)]
  have : (fun (σ' : St) (H' : Hp) => ((∀ j, nt ≤ j → σ'[j]? = (σ.set i (some v))[j]?) ∧ σ'.length = (σ.set i (some v)).length) ∧ Q σ' H') = fun σ' H' => ((∀ j, nt ≤ j → σ'[j]? = σ[j]?) ∧ σ'.length = σ.length) ∧ Q σ' H' := by
    funext σ' H'
    apply propext
    constructor
    · rintro ⟨⟨a, b⟩, c⟩
      exact ⟨⟨fun j hj => (a j hj).trans (e1 j hj), by simpa using b⟩, c⟩
    · rintro ⟨⟨a, b⟩, c⟩
      exact ⟨⟨fun j hj => (a j hj).trans (e1 j hj).symm, by simpa using b⟩, c⟩
  rw [this] at w
  exact w
theorem kg_tup {K : PySem.W.Frag} {nt n : Nat} {t : TGs} (h : GKs nt t) : GK nt (gTup K n t) := fun v σ H Q ⟨a, xs, e, hq, hl, q⟩ => ⟨a, xs, e, hq, hl, h xs σ H Q q⟩

section
variable {X : Cx} {pins : List (Addr × Obj)} {σ : St} {inn : Scope} {js : List Nat} {cs ts : List Str} {nt : Nat} {elt tg iter : Expr} {ifs : List Expr} {pos : Pos} {g : TG} {tt : TT} {te : TE}
theorem comp_core {J : It} {fp : List Addr} {it : Addr} {tn : Nat → Heap → Prop} {H2 : Hp} {s2 : Shared} {E : Value → Shared → Prop} {Q : VK} {RR : Value → Addr → Result → Shared → Prop}
    (hcalm : X.calm = true) (O : CompOk X.env.scope inn X.N js cs) (hts : ts.length = nt)
    (hg : ∀ s₀ H₀ ex, PG (cxIn X inn (ts ++ cs) s₀ H₀ ex) tg g) (hk : GK nt g) (ht : ∀ s₀ H₀ ex, PIf (cxIn X inn (ts ++ cs) s₀ H₀ ex) ifs tt) (he : ∀ s₀ H₀ ex, PE (cxIn X inn (ts ++ cs) s₀ H₀ ex) elt te)
    (I2 : Inv X pins σ H2 s2) (T : Turn X.prog X.w X.K tg J fp it tn) (st2 : tn 0 s2.heap) (f2 : ∀ b ∈ fp, FpOk X pins H2 b)
    (R : CompR J (sIn nt js σ) g tt te Q H2)
    (hRR : ∀ D C s' H', Inv X pins σ H' s' → (∃ m, s'.heap.Ns C m) → H' C = none → C ≠ X.env.locals → X.s₀.heap.objs.size ≤ C → (∀ x c, X.env.cells.lookup x = some c → c ≠ C) → (∀ p ∈ X.pn ++ pins, p.1 ≠ C) → Q (.ref D) H' → RR (.ref D) C (.ok .next) s') :
    wpAny (model X.prog X.w) X.A (newList []) (fun acc s₃ => wpAny (model X.prog X.w) X.A (newFunctionEnv inn X.env.globals (closL inn X.env) [] X.env.qual none .none (some X.env)) (fun cenv s₄ =>
      codeAny (model X.prog X.w) X.A (.compStart (.ListComp elt [⟨tg, iter, ifs, 0⟩] inn pos) 0 (.ref it) acc { cenv with scope := relabel inn X.env }) (RR acc cenv.locals) s₄) E s₃) E s2 := by
  refine wpAny_newObj_type (wpAny_newFunctionEnv O.nocell (by intro y hy; simp at hy) (fun h₁ hns₁ hsb₁ => ?_) O.kind)
  dsimp only at hns₁ hsb₁ ⊢
  generalize hD : s2.heap.objs.size = D
  have I3 : Inv X pins σ H2 { s2 with heap := s2.heap.push { cls := .type "list", dict := none, data := .seq ([] : List Value).toArray } } := I2.kept (t' := s2.toks) fun b o e => Heap.get?_push_of_some _ e
  generalize hs3 : ({ s2 with heap := s2.heap.push { cls := .type "list", dict := none, data := .seq ([] : List Value).toArray } } : Shared) = s3 at I3
  have e3 : s3.heap = s2.heap.push { cls := .type "list", dict := none, data := .seq ([] : List Value).toArray } := by rw [← hs3]
  have hD3 : s3.heap.get? D = some { cls := .type "list", dict := none, data := .seq ([] : List Value).toArray } := by rw [e3, ← hD]; exact Heap.get?_push_size _ rfl
  have hsz3 : s3.heap.objs.size = D + 1 := by rw [e3, Heap.size_push, hD]
  have e3' : (s2.heap.push { cls := .type "list", dict := none, data := .seq ([] : List Value).toArray }) = s3.heap := e3.symm
  rw [e3'] at hns₁ hsb₁ ⊢
  have fH2D : H2 D = none := I2.hok.fresh (by rw [hD]; exact Nat.le_refl _)
  have up : ∀ b o, s3.heap.get? b = some o → h₁.get? b = some o := fun b o e => hsb₁.extBut b o (Nat.ne_of_lt (Heap.lt_size e)) (Heap.get?_push_of_some _ e)
  -- what lies in ex
  have fpo : ∀ b ∈ fp, b < s3.heap.objs.size ∧ b ≠ D := fun b hb => by
    obtain ⟨o, eo, _⟩ := T.obj 0 _ st2 b hb
    have h1 := Heap.lt_size eo
    rw [hD] at h1
    exact ⟨by rw [hsz3]; exact Nat.lt_succ_of_lt h1, Nat.ne_of_lt h1⟩
  have nb : ∀ b, X.s₀.heap.objs.size ≤ b → ∀ o, X.base.get? b ≠ some o := fun b hb o e => absurd (Nat.lt_of_lt_of_le (Heap.lt_size e) (Nat.le_trans I2.ok.bsz hb)) (Nat.lt_irrefl _)
  have dge : s2.heap.objs.size ≤ D := by rw [hD]; exact Nat.le_refl _
  have fD : FpOk X pins H2 D := I2.fpOk dge fH2D
  have hex : ∀ b ∈ D :: fp, b < s3.heap.objs.size ∧ b ≠ X.env.locals ∧ b ∉ X.fs ∧ (∀ x c, X.env.cells.lookup x = some c → c ≠ b) ∧ ∀ o, X.base.get? b ≠ some o := fun b hb => by
    rcases List.mem_cons.mp hb with rfl | hb
    · exact ⟨by rw [hsz3]; exact Nat.lt_succ_self _, fD.2.1, fD.2.2.1, fD.2.2.2.2.1, nb _ (Nat.le_trans I2.sz dge)⟩
    · obtain ⟨f0, f1, f2', f3, f4, f5⟩ := f2 b hb
      refine ⟨(fpo b hb).1, f1, f2', f4, fun o e => ?_⟩
      rcases f3 with z | z
      · exact I2.ok.noex b o e z
      · exact nb b z o e
  have hC : s3.heap.objs.size = s3.heap.objs.size := rfl
  generalize hXi : cxIn X inn (ts ++ cs) s3 H2 (D :: fp) = Xi
  have I4 : Inv Xi [] (sIn nt js σ) H2 { s3 with heap := h₁, toks := s3.toks } := by
    rw [← hXi]; exact in_inv hts I3 O hex ⟨_, hns₁⟩ up
  have xp : Xi.prog = X.prog := by rw [← hXi]; rfl
  have xw : Xi.w = X.w := by rw [← hXi]; rfl
  have xK : Xi.K = X.K := by rw [← hXi]; rfl
  have xA : Xi.A = X.A := by rw [← hXi]; rfl
  have xc : Xi.calm = true := by rw [← hXi]; exact hcalm
  have xe : Xi.env = compEnvC inn (closL inn X.env) s3.heap.objs.size X.env := by rw [← hXi]; rfl
  have xx : Xi.xe = fun _ _ => False := by rw [← hXi]; rfl
  have xex : Xi.ex = D :: fp := by rw [← hXi]; rfl
  have xpn : Xi.pn = [] := by rw [← hXi]; rfl
  have xs0 : Xi.s₀ = s3 := by rw [← hXi]; rfl
  have xH0 : Xi.H₀ = H2 := by rw [← hXi]; rfl
  have xfs : Xi.fs = frs X.stack := by rw [← hXi]; rfl
  have hgX : PG Xi tg g := by rw [← hXi]; exact hg _ _ _
  have htX : PIf Xi ifs tt := by rw [← hXi]; exact ht _ _ _
  have heX : PE Xi elt te := by rw [← hXi]; exact he _ _ _
  have okX := I4.ok
  have xl : Xi.env.locals = s3.heap.objs.size := by rw [xe]; rfl
  have Dl : D ≠ Xi.env.locals := by rw [xl, hsz3]; exact Nat.ne_of_lt (Nat.lt_succ_self _)
  have stat : ∀ {H' : Hp} {pl : List (Addr × Obj)}, (∀ b ∈ fp, H' b = none) → (∀ p ∈ pl, p.1 = D) → ∀ b ∈ fp, FpOk Xi pl H' b := fun {H' pl} hn hpl b hb => by
    have hbx : b ∈ Xi.ex := by rw [xex]; exact List.mem_cons_of_mem _ hb
    refine ⟨hn b hb, (okX.exf b hbx).1, fun z => okX.exfs b hbx z, .inl hbx, (okX.exf b hbx).2, fun p hp => ?_⟩
    rw [xpn, List.nil_append] at hp
    rw [hpl p hp]
    exact Ne.symm (fpo b hb).2
  have DX : D ∈ Xi.ex := by rw [xex]; exact List.mem_cons_self
  obtain ⟨W, ⟨m0, w0⟩, turn⟩ := R
  have loop : codeAny (model X.prog X.w) X.A (.compLoop (.ListComp elt [⟨tg, iter, ifs, 0⟩] inn pos) 0 (.ref it) (.ref D) Xi.env) (RR (.ref D) s3.heap.objs.size) { s3 with heap := h₁, toks := s3.toks } := by
    refine codeAny_loop rfl (fun n s' => ∃ i ys H', Inv Xi [] (sIn nt js σ) H' s' ∧ tn i s'.heap ∧ (∀ b ∈ fp, H' b = none) ∧ H' D = none ∧ (∃ (its : List Value) (c : Nat), Vals ys its ∧ s'.heap.get? D = some { cls := .type "list", data := .seq its.toArray c }) ∧ W i n ys H') ?_ m0
      ⟨0, [], H2, I4, ?_, fun b hb => (f2 b hb).1, fH2D, ⟨[], 0, .nil, up D _ hD3⟩, w0⟩
    · rintro n s5 ⟨i, ys, H5, I5, st5, fr5, fD5, ⟨its, c, rv, eD⟩, w5⟩
      show wpAny _ X.A ((compTurn (.ListComp elt [⟨tg, iter, ifs, 0⟩] inn pos) 0 (.ref it) (.ref D) Xi.env).onRaise (fun x => do noteFrame x Xi.env; theTreesLotGoes x)) _ _ s5
      refine wpAny_noted ?_
      rw [compTurn_list]
      refine wpAny_bind (wpAny_standAt (wpAny_bind ?_))
      -- D is pinned
      have pinD : Inv Xi (pinsAt [D] s5.heap) (sIn nt js σ) H5 s5 := by
        have q := I5.pinned (fp := [D]) (fun b hb => ?_) (fun b hb => ?_)
        · simpa using q
        · have e : b = D := by simpa using hb
          subst e
          refine ⟨fD5, Dl, fun z => okX.exfs b DX z, .inl DX, (okX.exf b DX).2, fun p hp => ?_⟩
          rw [xpn, List.nil_append] at hp; cases hp
        · have e : b = D := by simpa using hb
          subst e
          exact ⟨_, eD, fun v z => by cases z⟩
      have plD : ∀ p ∈ pinsAt [D] s5.heap, p.1 = D := fun p hp => by simpa using (of_pinsAt hp).1
      have memD : (D, ({ cls := .type "list", data := .seq its.toArray c } : Obj)) ∈ pinsAt [D] s5.heap := mem_pinsAt (by simp) eD
      obtain ⟨hz, tn5⟩ := turn i n ys H5 w5
      rcases tn5 with ⟨stop, fin⟩ | ⟨go, N, hN, step⟩
      · have q := T.done Xi xp xw xK xc i _ s5 _ H5 (notedBy (model X.prog X.w) X.A Xi.env fun e s' => RR (.ref D) s3.heap.objs.size (.error e) s') pinD (stat fr5 plD) st5 stop
        rw [xA] at q
        refine wpAny_mono q (fun r s6 ⟨hr, I6⟩ => ?_) fun _ _ z => z
        subst hr
        refine wpAny_pure ?_
        have eD6 := (I6.pin (D, _) (List.mem_append_right _ memD)).1
        -- back to the def
        have un : Un (frs X.stack) (D :: fp) H2 H5 s3.heap s6.heap := by
          have z := I6.base
          rw [xfs, xex, xH0, xs0] at z
          exact z
        have os6 : s6.os = s3.os := by have z := I6.os; rw [xs0] at z; exact z
        have hok6 : HOk X.prog X.w H5 s6.heap := by have z := I6.hok; rw [xp, xw] at z; exact z
        have I7 : Inv X pins σ H5 s6 := I3.call' os6 un hok6 I6.bare fun b hb => by
          rcases List.mem_cons.mp hb with e | hb
          · rw [e]; exact ⟨.inr (Nat.le_trans I2.sz dge), fD.2.1, fD.2.2.2.2.1, fD.2.2.2.2.2⟩
          · obtain ⟨f0, f1, f2', f3, f4, f5⟩ := f2 b hb
            exact ⟨f3, f1, f4, f5⟩
        have I8 : Inv X pins σ (upd H5 D (.lst ys)) s6 := I7.track fD5 (Nat.le_trans I2.sz dge) fD.2.1 fD.2.2.2.2.1 fD.2.2.2.2.2 ⟨Nat.le_of_lt hz, its, c, rv, eD6⟩
        have Cge : s3.heap.objs.size ≤ s3.heap.objs.size := Nat.le_refl _
        have fC : FpOk X pins (upd H5 D (.lst ys)) s3.heap.objs.size := I3.fpOk Cge (by
          rw [upd_ne (by rw [← xl]; exact Ne.symm Dl)]
          have z := I6.free
          rw [xl] at z; exact z)
        obtain ⟨mm, hmm, _⟩ := I6.loc
        rw [xl] at hmm
        exact hRR D _ s6 _ I8 ⟨mm, hmm⟩ fC.1 fC.2.1 (Nat.le_trans I3.sz Cge) fC.2.2.2.2.1 fC.2.2.2.2.2 (fin D fD5)
      · have q := T.item Xi xp xw xK xc i _ s5 _ H5 (notedBy (model X.prog X.w) X.A Xi.env fun e s' => RR (.ref D) s3.heap.objs.size (.error e) s') pinD (stat fr5 plD) st5 go
        rw [xA] at q
        refine wpAny_mono q (fun r s6 ⟨u, hr, h6⟩ => ?_) fun _ _ z => z
        subst hr
        refine wpAny_bind (wpAny_mono h6 (fun _ s7 ⟨x, H7, I7, r7, y7, st7, fr7⟩ => ?_) fun _ _ z => z)
        have I7' := I7.pinned (fp := fp) (fun b hb => stat fr7 plD b hb) (T.obj _ _ st7)
        have q8 := hgX _ s7 _ H7 x u _ I7' r7 (hk x _ H7 _ (step x H7 y7))
        rw [xp, xw, xA, xx] at q8
        refine wpAny_bind (wpAny_mono q8 (fun _ s8 ⟨σ8, H8, I8, ⟨k8, l8⟩, q8⟩ => ?_) fun _ _ z => z.elim)
        have q9 := htX _ s8 σ8 H8 _ I8 q8
        rw [xp, xw, xA, xx] at q9
        refine wpAny_bind (wpAny_mono q9 (fun ok s9 ⟨H9, I9, q9⟩ => ?_) fun _ _ z => z.elim)
        have keepσ : ∀ (j : Nat) v, (sIn nt js σ)[j]? = some (some v) → σ8[j]? = some (some v) := fun j v e => by
          have hj := (sIn_get e).1
          rw [k8 j hj]; exact e
        -- what stays of the iterator behind the turn
        have ends : ∀ {H9 : Hp} {s9 : Shared} {ys' : List V}, Inv Xi (pinsAt [D] s5.heap ++ pinsAt fp s7.heap) σ8 H9 s9 → ∀ {h' : Heap} {its' : List Value} {c' : Nat}, (∀ b o, b ≠ D → s9.heap.get? b = some o → h'.get? b = some o) → Vals ys' its' → h'.get? D = some { cls := .type "list", data := .seq its'.toArray c' } → N ys' H9 →
            ∀ tk, ∃ m, m < n ∧ ∃ i ys H', Inv Xi [] (sIn nt js σ) H' { s9 with heap := h', toks := tk } ∧ tn i h' ∧ (∀ b ∈ fp, H' b = none) ∧ H' D = none ∧ (∃ (its : List Value) (c : Nat), Vals ys its ∧ h'.get? D = some { cls := .type "list", data := .seq its.toArray c }) ∧ W i m ys H' := fun {H9 s9 ys'} I9 {h' its' c'} kp rv' eD' n9 tk => by
          obtain ⟨m', hm, w9⟩ := hN ys' H9 n9
          have fD9 : H9 D = none := (I9.pin (D, _) (List.mem_append_right _ (List.mem_append_left _ memD))).2.1
          have fr9 : ∀ b ∈ fp, H9 b = none := fun b hb => by
            obtain ⟨o, e, d⟩ := T.obj _ _ st7 b hb
            exact (I9.pin (b, o) (List.mem_append_right _ (List.mem_append_right _ (mem_pinsAt hb e)))).2.1
          have I10 : Inv Xi [] σ8 H9 s9 := I9.pins_of fun p hp => by cases hp
          have I11 : Inv Xi [] σ8 H9 { s9 with heap := h', toks := tk } := I10.turned (it := D) kp fD9 Dl (.inl DX) (okX.exf D DX).2 (fun p hp => by rw [xpn] at hp; cases hp)
          refine ⟨m', hm, i + 1, ys', H9, I11.weak l8.symm keepσ, T.keep _ _ _ st7 fun b hb o e => kp b o (fpo b hb).2 (I9.pin (b, o) (List.mem_append_right _ (List.mem_append_right _ (mem_pinsAt hb e)))).1, fr9, fD9, ⟨its', c', rv', eD'⟩, w9⟩
        cases ok with
        | false =>
          rw [if_neg Bool.false_ne_true] at q9
          have eD9 := (I9.pin (D, _) (List.mem_append_right _ (List.mem_append_left _ memD))).1
          exact wpAny_pure ⟨rfl, ends I9 (h' := s9.heap) (fun _ _ _ e => e) rv eD9 q9 s9.toks⟩
        | true =>
          rw [if_pos rfl] at q9
          have q10 := heX _ s9 σ8 H9 _ I9 q9
          rw [xp, xw, xA, xx] at q10
          refine wpAny_bind (wpAny_bind (wpAny_mono q10 (fun v s10 ⟨y, H10, I10, r10, q10⟩ => ?_) fun _ _ z => z.elim))
          have eD10 := (I10.pin (D, _) (List.mem_append_right _ (List.mem_append_left _ memD))).1
          have hlen := rv.length
          refine wpAny_bind (wpAny_list_append_plain (items := its.toArray) ⟨c, eD10⟩ (fun h' hl hs => wpAny_pure (wpAny_pure ⟨rfl, ?_⟩)) (by rw [List.size_toArray]; omega))
          obtain ⟨c', e'⟩ := hl
          have e'' : h'.get? D = some { cls := .type "list", data := .seq (its ++ [v]).toArray c' } := by rw [e']; simp
          exact ends I10 (h' := h') (fun b o hb e => hs.extBut b o hb e) (rv.append (.cons r10 .nil)) e'' q10 s10.toks
    · exact T.keep 0 _ _ st2 fun b hb o e => up b o (by rw [e3]; exact Heap.get?_push_of_some _ e)
  have e4 : ({ s2 with heap := h₁, toks := s2.toks + ([] : List (Str × Value)).length } : Shared) = { s3 with heap := h₁, toks := s3.toks } := by rw [← hs3]; rfl
  rw [e4]
  show codeAny _ _ (.compStart (.ListComp elt [⟨tg, iter, ifs, 0⟩] inn pos) 0 (.ref it) (.ref D) (compEnvC inn (closL inn X.env) s3.heap.objs.size X.env)) (RR (.ref D) s3.heap.objs.size) _
  rw [← xe]
  refine codeAny_compStart_list loop ?_
  refine T.self X.A 0 _ _ _ ?_ loop
  exact T.keep 0 _ _ st2 fun b hb o e => up b o (by rw [e3]; exact Heap.get?_push_of_some _ e)
end
end L2
namespace L2
open PySem PySem.Spec PyProof.Rows
section
variable {X : Cx} {inn : Scope} {js : List Nat} {cs ts : List Str} {nt : Nat} {elt tg iter : Expr} {ifs : List Expr} {pos : Pos} {g : TG} {tt : TT} {te : TE} {wi : TI}
theorem pe_comp (ts cs : List Str) (js : List Nat) (hcalm : X.calm = true) (O : CompOk X.env.scope inn X.N js cs) (hi : PI X tg iter wi)
    (hg : ∀ s₀ H₀ ex, PG (cxIn X inn (ts ++ cs) s₀ H₀ ex) tg g) (hk : GK ts.length g) (ht : ∀ s₀ H₀ ex, PIf (cxIn X inn (ts ++ cs) s₀ H₀ ex) ifs tt) (he : ∀ s₀ H₀ ex, PE (cxIn X inn (ts ++ cs) s₀ H₀ ex) elt te)
    (hs : ∀ x, foldedSetIterable iter X.env x = pure x := by intro _; rfl) : PE X (.ListComp elt [⟨tg, iter, ifs, 0⟩] inn pos) (tComp wi ts.length js g tt te) := by
  intro pins s σ H Q I h
  rw [eval_ListComp]
  refine wpAny_comprehension_free (use := none) rfl hs (closFor fun y hy e => I.ok.has y.1 (O.frees y hy e)) O.kind O.names (thn (hi pins s σ H _ I h) fun xv s1 h1 => thn h1 fun itv s2 h2 => ?_)
  obtain ⟨it, fp, tn, J, H2, e, I2, T, st2, f2, R⟩ := h2
  subst e
  refine comp_core (Q := Q) (RR := fun acc C => compPost (model X.prog X.w) X.A X.xe none (EP X pins σ Q) acc C) hcalm O rfl hg hk ht he I2 T st2 f2 R ?_
  intro D C s' H' I' ⟨m, hm⟩ c1 c2 c3 c4 c5 q
  refine ⟨m, hm, fun h' hsb => ?_⟩
  exact ⟨.ref D, H', I'.turned (it := C) (t' := s'.toks) (fun b o hb e => hsb.extBut b o hb e) c1 c2 (.inr c3) c4 c5, rfl, q⟩
theorem ps_setc {i : Nat} {x : Str} {pos' spos : Pos} (ts cs : List Str) (js : List Nat) (hcalm : X.calm = true) (hN : X.N.Nodup) (hi' : X.N[i]? = some x) (hx : X.env.scope.names.lookup x = some .local) (O : CompOk X.env.scope inn X.N js cs) (hi : PI X tg iter wi)
    (hg : ∀ s₀ H₀ ex, PG (cxIn X inn (ts ++ cs) s₀ H₀ ex) tg g) (hk : GK ts.length g) (ht : ∀ s₀ H₀ ex, PIf (cxIn X inn (ts ++ cs) s₀ H₀ ex) ifs tt) (he : ∀ s₀ H₀ ex, PE (cxIn X inn (ts ++ cs) s₀ H₀ ex) elt te)
    (hsw : swapsWith (.ListComp elt [⟨tg, iter, ifs, 0⟩] inn pos) (some (.Name x pos')) spos.line X.env = pure true) (hs : ∀ x, foldedSetIterable iter X.env x = pure x := by intro _; rfl) :
    PS X (.Assign [.Name x pos'] (.ListComp elt [⟨tg, iter, ifs, 0⟩] inn pos) spos) (tAsg (tComp wi ts.length js g tt te) (gName i)) := by
  intro pins s σ H D I h
  rw [exec_Assign_Name_used _ _ _ _ hsw]
  refine wpAny_bind (wpAny_standAt (wpAny_bind ?_))
  show wpAny _ X.A (do let _ ← comprehension (.ListComp elt [⟨tg, iter, ifs, 0⟩] inn pos) inn X.env _ (newList []) false (eval iter X.env) (some (assign (.Name x pos') X.env))) _ _ s
  refine wpAny_bind (wpAny_mono (wpAny_comprehension_free (use := some (assign (.Name x pos') X.env)) (Q := fun _ s' => SP X pins D .next s') rfl hs (closFor fun y hy e => I.ok.has y.1 (O.frees y hy e)) O.kind O.names
    (thn (hi pins s σ H _ I h) fun xv s1 h1 => thn h1 fun itv s2 h2 => ?_)) (fun _ s' hq => wpAny_pure (wpAny_pure hq)) fun _ _ e => e)
  obtain ⟨it, fp, tn, J, H2, e, I2, T, st2, f2, R⟩ := h2
  subst e
  refine comp_core (Q := fun v H' => D.nx (σ.set i (some v)) H') (RR := fun acc C => compPost (model X.prog X.w) X.A X.xe (some (assign (.Name x pos') X.env)) (fun _ s' => SP X pins D .next s') acc C) hcalm O rfl hg hk ht he I2 T st2 f2 R ?_
  intro D' C s' H' I' ⟨m, hm⟩ c1 c2 c3 c4 c5 q
  show wpAny _ X.A (assign (.Name x pos') X.env (.ref D')) _ _ _
  refine wpAny_assign_Name (store_ok2 (v := .ref D') I' hN hi' (.inl hx) rfl (fun s2 I2 ⟨a, hsb, ha⟩ => ?_) (.inr hx))
  have hCa : C ≠ a := by
    rcases ha with e | e
    · rw [e]; exact c2
    · exact fun z => c4 _ _ e z.symm
  refine ⟨m, hm.sameBut hsb hCa, fun h' hsb' => ?_⟩
  exact ⟨_, H', I2.turned (it := C) (t' := s2.toks) (fun b o hb e => hsb'.extBut b o hb e) c1 c2 (.inr c3) c4 c5, q⟩
end
theorem comp_list {K : PySem.W.Frag} {a : Addr} {xs : List V} {σ0 : St} {g : TG} {tt : TT} {te : TE} {H : Hp} {Q : VK} (Pv : Nat → List V → Hp → Prop) (h0 : Pv 0 [] H) (hl : ∀ i ys H, i ≤ xs.length → Pv i ys H → SqL K H a xs ∧ ys.length < sizeLine)
    (hs : ∀ i x ys H, xs[i]? = some x → Pv i ys H → g x σ0 H fun σ2 H2 => tt σ2 H2 fun b H3 => if b = true then te σ2 H3 fun y H4 => Pv (i + 1) (ys ++ [y]) H4 else Pv (i + 1) ys H3) (hd : ∀ ys H, Pv xs.length ys H → ∀ D, H D = none → Q (.ref D) (upd H D (.lst ys))) :
    CompR (Itl K a) σ0 g tt te Q H := by
  refine ⟨fun i m ys H => m = xs.length - i ∧ i ≤ xs.length ∧ Pv i ys H, ⟨xs.length, by simp, Nat.zero_le _, h0⟩, ?_⟩
  rintro i m ys H ⟨rfl, hi, p⟩
  obtain ⟨q, hz⟩ := hl i ys H hi p
  refine ⟨hz, ?_⟩
  by_cases hlt : i < xs.length
  · refine .inr ⟨⟨xs, xs[i], q, by simp [hlt]⟩, Pv (i + 1), fun ys' H' p' => ⟨xs.length - (i + 1), by omega, rfl, hlt, p'⟩, fun x H' y => ?_⟩
    obtain ⟨e, y⟩ := y
    subst e
    exact hs i x ys _ (y xs q) p
  · have e : i = xs.length := by omega
    subst e
    exact .inl ⟨⟨xs, q, Nat.le_refl _⟩, hd ys H p⟩
theorem comp_range {lo : Int} {n : Nat} {σ0 : St} {g : TG} {tt : TT} {te : TE} {H : Hp} {Q : VK} (Pv : Nat → List V → Hp → Prop) (h0 : Pv 0 [] H) (hl : ∀ i ys H, i ≤ n → Pv i ys H → ys.length < sizeLine)
    (hs : ∀ i ys H, i < n → Pv i ys H → g (.int (lo + i)) σ0 H fun σ2 H2 => tt σ2 H2 fun b H3 => if b = true then te σ2 H3 fun y H4 => Pv (i + 1) (ys ++ [y]) H4 else Pv (i + 1) ys H3) (hd : ∀ ys H, Pv n ys H → ∀ D, H D = none → Q (.ref D) (upd H D (.lst ys))) :
    CompR (Itr lo n) σ0 g tt te Q H := by
  refine ⟨fun i m ys H => m = n - i ∧ i ≤ n ∧ Pv i ys H, ⟨n, by simp, Nat.zero_le _, h0⟩, ?_⟩
  rintro i m ys H ⟨rfl, hi, p⟩
  refine ⟨hl i ys H hi p, ?_⟩
  by_cases hlt : i < n
  · refine .inr ⟨hlt, Pv (i + 1), fun ys' H' p' => ⟨n - (i + 1), by omega, rfl, hlt, p'⟩, fun x H' y => ?_⟩
    obtain ⟨e, y⟩ := y
    subst e y
    exact hs i ys _ hlt p
  · have e : i = n := by omega
    subst e
    exact .inl ⟨Nat.le_refl _, hd ys H p⟩
end L2

set_option Elab.async false
set_option linter.all false
set_option maxRecDepth 100000
set_option maxHeartbeats 4000000
namespace L2
open PySem PySem.Spec PyProof.Rows
mutual
inductive Den (H : Hp) : V → PyData → Prop
  | non : Den H .non .none
  | bl (b : Bool) : Den H (.bl b) (.bool b)
  | int (i : Int) : Den H (.int i) (.int i)
  | str (x : Str) : Den H (.str x) (.str x)
  | lst {a : Addr} {vs : List V} {ds : List PyData} : H a = some (.lst vs) → Dens H vs ds → Den H (.ref a) (.list ds)
  | tup {a : Addr} {vs : List V} {ds : List PyData} : H a = some (.tup vs) → Dens H vs ds → Den H (.ref a) (.tuple ds)
inductive Dens (H : Hp) : List V → List PyData → Prop
  | nil : Dens H [] []
  | cons {v : V} {d : PyData} {vs : List V} {ds : List PyData} : Den H v d → Dens H vs ds → Dens H (v :: vs) (d :: ds)
end
theorem Dens.length : ∀ {H : Hp} {vs : List V} {ds : List PyData}, Dens H vs ds → vs.length = ds.length
  | _, _, _, .nil => rfl
  | _, _, _, .cons _ t => congrArg Nat.succ (Dens.length t)
theorem Dens.get : ∀ {H : Hp} {vs : List V} {ds : List PyData} {i : Nat} {d : PyData}, Dens H vs ds → ds[i]? = some d → ∃ v, vs[i]? = some v ∧ Den H v d
  | _, _, _, _, _, .nil, e => by simp at e
  | _, _, _, 0, _, .cons r _, e => by simp at e; subst e; exact ⟨_, rfl, r⟩
  | _, _, _, i + 1, d, .cons _ t, e => by
    obtain ⟨v, h1, h2⟩ := Dens.get (i := i) (d := d) t (by simpa using e)
    exact ⟨v, by simpa using h1, h2⟩
mutual
theorem Den.mono {H H' : Hp} (e : Same H H') : ∀ {v : V} {d : PyData}, Den H v d → Den H' v d
  | _, _, .non => .non
  | _, _, .bl b => .bl b
  | _, _, .int i => .int i
  | _, _, .str x => .str x
  | _, _, .lst h t => .lst (e _ _ h) (Dens.mono e t)
  | _, _, .tup h t => .tup (e _ _ h) (Dens.mono e t)
theorem Dens.mono {H H' : Hp} (e : Same H H') : ∀ {vs : List V} {ds : List PyData}, Dens H vs ds → Dens H' vs ds
  | _, _, .nil => .nil
  | _, _, .cons r t => .cons (Den.mono e r) (Dens.mono e t)
end
theorem Dens.ints {H : Hp} : ∀ ns : List Int, Dens H (ns.map V.int) (ns.map PyData.int)
  | [] => .nil
  | n :: r => .cons (.int n) (Dens.ints r)
theorem Den.ints {H : Hp} {a : Addr} {ns : List Int} (h : H a = some (.lst (ns.map V.int))) : Den H (.ref a) (.list (ns.map PyData.int)) := .lst h (Dens.ints ns)
theorem Same.upd {H : Hp} {a : Addr} {o : HO} (h : H a = none) : Same H (upd H a o) := fun b u e => by rw [upd_ne (ne_of_none e h)]; exact e
theorem Same.upd' {H H0 : Hp} {a : Addr} {o : HO} (h : H0 a = none) (s : Same H0 H) : Same H0 (L2.upd H a o) := fun b u e => by rw [upd_ne (ne_of_none e h)]; exact s b u e

section
variable {P : Program} {w : World} {H : Hp} {h : Heap}
mutual
theorem Den.reads (ok : HOk P w H h) : ∀ {v : V} {d : PyData} {u : Value}, Den H v d → RelV v u → ∃ as, Reads h u d as
  | _, _, _, .non, r => by cases r; exact ⟨_, .none⟩
  | _, _, _, .bl b, r => by cases r; exact ⟨_, .bool b⟩
  | _, _, _, .int i, r => by obtain ⟨t, rfl⟩ := r; exact ⟨_, .int i t⟩
  | _, _, _, .str x, r => by obtain ⟨t, rfl⟩ := r; exact ⟨_, .str x t⟩
  | _, _, _, .lst (a := a) e t, r => by
    cases r
    obtain ⟨_, its, n, rv, ho⟩ := ok a _ e
    obtain ⟨as, q⟩ := Dens.reads ok t rv
    exact ⟨_, .list ho rfl rfl (by simpa using q)⟩
  | _, _, _, .tup (a := a) e t, r => by
    cases r
    obtain ⟨_, its, rv, o, ho, hc, n, hd⟩ := ok a _ e
    obtain ⟨as, q⟩ := Dens.reads ok t rv
    exact ⟨_, .tuple ho hc hd (by simpa using q)⟩
theorem Dens.reads (ok : HOk P w H h) : ∀ {vs : List V} {ds : List PyData} {us : List Value}, Dens H vs ds → Vals vs us → ∃ as, ReadsAll h us ds as
  | _, _, _, .nil, .nil => ⟨_, .nil⟩
  | _, _, _, .cons r t, .cons q s => by
    obtain ⟨a, x⟩ := Den.reads ok r q
    obtain ⟨b, y⟩ := Dens.reads ok t s
    exact ⟨_, .cons x y⟩
end
end

noncomputable def rEqD : R2 := fun x y H Q => ∃ d e, Den H x d ∧ Den H y e ∧ SeqAt.shaped d = true ∧ SeqAt.shaped e = true ∧ Q (.bl (PyData.eqv d e)) H
noncomputable def rNeD : R2 := fun x y H Q => ∃ d e, Den H x d ∧ Den H y e ∧ SeqAt.shaped d = true ∧ SeqAt.shaped e = true ∧ Q (.bl (!PyData.eqv d e)) H
section
variable {X : Cx}
theorem op_eqD (hu : X.A.units + 64 < cLine) : OpR X (compareOp .Eq) rEqD := by
  intro pins s σ H x y v u Q I rx ry h
  obtain ⟨d, e, hd, he, sd, se, q⟩ := h
  obtain ⟨as, r1⟩ := hd.reads I.hok rx
  obtain ⟨bs, r2⟩ := he.reads I.hok ry
  exact eq_dataH r1 r2 sd se hu ⟨.bl _, H, I, rfl, q⟩
theorem op_neD (hu : X.A.units + 64 < cLine) : OpR X (compareOp .NotEq) rNeD := by
  intro pins s σ H x y v u Q I rx ry h
  obtain ⟨d, e, hd, he, sd, se, q⟩ := h
  obtain ⟨as, r1⟩ := hd.reads I.hok rx
  obtain ⟨bs, r2⟩ := he.reads I.hok ry
  exact ne_dataH r1 r2 sd se hu ⟨.bl _, H, I, rfl, q⟩

noncomputable def tyD : PyData → String
  | .none => "NoneType" | .bool _ => "bool" | .int _ => "int" | .str _ => "str" | .list _ => "list" | .tuple _ => "tuple" | .dict _ => "dict"
theorem Den.ty {K : PySem.W.Frag} {H : Hp} {v : V} {d : PyData} (h : Den H v d) : TyOf K H v (.type (tyD d)) := by
  cases h with
  | non => exact .non
  | bl b => exact .bl b
  | int i => exact .int i
  | str x => exact .str x
  | lst e _ => exact .lst e
  | tup e _ => exact .tup e
theorem call_isi : CallR X (.builtin "isinstance") (fun xs H Q => ∃ x T d b, xs = [x, .ty T] ∧ Den H x d ∧ PySem.W.kitOne X.K (.type (tyD d)) (.type T) = some b ∧ Q (.bl b) H) := by
  intro pins s σ H xs us Q I r h
  obtain ⟨x, T, d, b, rfl, hd, e, q⟩ := h
  obtain ⟨u, v, rfl, r1, r2⟩ := r.two
  cases r2
  exact isinst_ok I r1 (hd.ty (K := X.K)) e fun tk => ⟨.bl b, H, I.tok tk, rfl, q⟩
theorem kitTup {P : Program} {w : World} {H : Hp} {s : Shared} {K : PySem.W.Frag} {x : V} {u : Value} {d : PyData} {A : Around} {E : Value → Shared → Prop} {tp : Addr} {its : List Value} {n : Nat} {b : Bool} {Q : Value → Shared → Prop} (ok : HOk P w H s.heap) (kin : K.In s.heap) (rx : RelV x u) (hd : Den H x d)
    (htp : ∃ o, s.heap.get? tp = some o ∧ o.cls = .type "tuple" ∧ o.data = .seq its.toArray n) (e : PySem.W.kitAny K (.type (tyD d)) its = some b) (h : ∀ tk, Q (.bool b) { s with toks := tk }) : wpAny (model P w) A (call (.builtin "isinstance") [u, .ref tp]) Q E s := by
  obtain ⟨⟨cls, dd, data, sl⟩, ho, hc, hda⟩ := htp
  simp only at hc hda
  subst hc hda
  cases hd with
  | non => cases rx; exact PySem.W.kia_tup PySem.W.kitx_none kin True.intro ho e (fun z => nomatch z) h
  | bl y => cases rx; exact PySem.W.kia_tup PySem.W.kitx_bool kin True.intro ho e (fun z => nomatch z) h
  | int i => obtain ⟨t, rfl⟩ := rx; exact PySem.W.kia_tup PySem.W.kitx_int kin True.intro ho e (fun z => nomatch z) h
  | str y => obtain ⟨t, rfl⟩ := rx; exact PySem.W.kia_tup PySem.W.kitx_str kin True.intro ho e (fun z => nomatch z) h
  | @lst a vs ds ea _ =>
    cases rx
    obtain ⟨_, _, n, _, h1⟩ := (show ObjOk P w H s.heap a (.lst vs) from ok a _ ea)
    exact PySem.W.kia_tup PySem.W.kitx_list kin ⟨_, h1, rfl⟩ ho e (fun z => nomatch z) h
  | @tup a vs ds ea _ =>
    cases rx
    obtain ⟨_, _, _, p⟩ := (show ObjOk P w H s.heap a (.tup vs) from ok a _ ea)
    obtain ⟨o, h1, h2, _⟩ := p
    exact PySem.W.kia_tup PySem.W.kitx_tuple kin ⟨o, h1, h2⟩ ho e (fun z => nomatch z) h
theorem vals_ty : ∀ {Ts : List String} {us : List Value}, Vals (Ts.map V.ty) us → us = Ts.map Value.type
  | [], _, .nil => rfl
  | T :: r, _, .cons q t => by
    have e : _ = Value.type T := q
    rw [List.map_cons, e, vals_ty t]
theorem call_isiT : CallR X (.builtin "isinstance") (fun xs H Q => ∃ (x : V) (tp : Addr) (Ts : List String) (d : PyData) (b : Bool), xs = [x, .ref tp] ∧ H tp = some (.tup (Ts.map V.ty)) ∧ Den H x d ∧ PySem.W.kitAny X.K (.type (tyD d)) (Ts.map Value.type) = some b ∧ Q (.bl b) H) := by
  intro pins s σ H xs us Q I r h
  obtain ⟨x, tp, Ts, d, b, rfl, ht, hd, e, q⟩ := h
  obtain ⟨u, v, rfl, r1, r2⟩ := r.two
  cases r2
  obtain ⟨_, its, rv, o, ho, hc, n, hda⟩ := (show ObjOk X.prog X.w H s.heap tp (.tup (Ts.map V.ty)) from I.hok tp _ ht)
  have e2 := vals_ty rv
  subst e2
  exact kitTup I.hok I.kIn r1 hd ⟨o, ho, hc, hda⟩ e fun tk => ⟨.bl b, H, I.tok tk, rfl, q⟩

theorem call_all (hc : X.calm = true) : CallR X (.builtin "all") (fun xs H Q => ∃ (p : Addr) (bs : List Bool), xs = [.ref p] ∧ H p = some (.lst (bs.map V.bl)) ∧ Q (.bl (bs.all id)) H) := by
  intro pins s σ H xs us Q I r h
  obtain ⟨p, bs, rfl, hp, q⟩ := h
  obtain ⟨u, rfl, rx⟩ := vals1 r
  cases rx
  obtain ⟨its, rv, pl, hz⟩ := I.list (SqL.of hp)
  have hl := pl.isList
  have hlt : p < s.heap.objs.size := by obtain ⟨_, e, _⟩ := hl; exact Heap.lt_size e
  have hlen : bs.length = its.length := by have := rv.length; simpa using this
  refine call_all_walk (wpAny_pyIter_list hl ?_)
  refine ⟨s.heap.objs.size, [s.heap.objs.size, p], [s.heap.objs.size], its.toArray.size, _, _, fun i => (bs[i]?).getD true, rfl, Walks.list (A := X.A.in1) (I.ok.hd hc) _ p (Nat.ne_of_lt hlt) its.toArray,
    ⟨⟨_, Heap.get?_push_size _ rfl, rfl, rfl⟩, hl.push _⟩, fun i v s' Q' E' hP hQ => ?_, fun h' tk hk => ?_⟩
  · have hv : its[i]? = some v := by simpa using hP
    have hi : i < its.length := (List.getElem?_eq_some_iff.mp hv).1
    have hb : (bs.map V.bl)[i]? = some (V.bl (bs[i]'(by omega))) := by simp [hlen, hi]
    obtain ⟨u, eu, ru⟩ := rv.get hb
    rw [hv] at eu
    cases eu
    cases ru
    have e : (bs[i]?).getD true = bs[i]'(by omega) := by simp [show i < bs.length by omega]
    have hQ' : Q' ((bs[i]?).getD true) s' := hQ
    rw [e] at hQ'
    exact wpAny_truthy_bool hQ'
  · have e : ((List.range its.toArray.size).all fun i => (bs[i]?).getD true) = bs.all id := by
      rw [List.size_toArray, ← hlen]; exact LSm.range_all bs
    rw [e]
    have kp : ∀ b x, s.heap.get? b = some x → h'.get? b = some x := LSm.kept_iter hk
    exact ⟨.bl _, H, I.kept kp, rfl, q⟩

end
end L2

set_option Elab.async false
set_option linter.all false
set_option maxRecDepth 100000
set_option maxHeartbeats 4000000
namespace L2
open PySem PySem.Spec PyProof.Rows
theorem boot_list : bootBuiltins "list" = some (.type "list") := by decide +kernel
theorem boot_tuple : bootBuiltins "tuple" = some (.type "tuple") := by decide +kernel
theorem boot_bool : bootBuiltins "bool" = some (.type "bool") := by decide +kernel
theorem boot_str : bootBuiltins "str" = some (.type "str") := by decide +kernel
theorem boot_int : bootBuiltins "int" = some (.type "int") := by decide +kernel
theorem boot_isinstance : bootBuiltins "isinstance" = some (.builtin "isinstance") := by decide +kernel
theorem boot_all : bootBuiltins "all" = some (.builtin "all") := by decide +kernel
structure Bt (mg : Str → Option Value) : Prop where
  len : mg "len" = none
  range : mg "range" = none
  list : mg "list" = none
  tuple : mg "tuple" = none
  bool : mg "bool" = none
  str : mg "str" = none
  int : mg "int" = none
  isinstance : mg "isinstance" = none
  all : mg "all" = none
  sorted : mg "sorted" = none
  max : mg "max" = none
  min : mg "min" = none
  set : mg "set" = none
  reversed : mg "reversed" = none
  sum : mg "sum" = none
  enumerate : mg "enumerate" = none
  zip : mg "zip" = none
  any : mg "any" = none
  abs : mg "abs" = none
noncomputable def FnAt (P : Program) (w : World) (K : PySem.W.Frag) (mg : Str → Option Value) (base : Heap) (x : Str) (k : Nat) (ps : List Str) (sp : Sp) : Prop :=
  ∃ f fd, FnOk P w K mg base CX0 k f fd ps sp ∧ mg x = some (.ref f) ∧ PySem.W.keepIn K (.ref f) = true ∧ Binds K fd ps []
section
variable {X : Cx} {x : Str} {j k : Nat} {ps : List Str} {sp : Sp} {t : TA} {e : Expr} {es : List Expr} {p pos : Pos}
theorem pe_fn (F : FnAt X.prog X.w X.K X.mg X.base x j ps sp) (hr : Room k X.A) (hg : Gl X x) (ha : PA X (e :: es) t) (hj : j ≤ k := by decide) (hdb : (x == ("__debug__" : Str)) = false := by decide)
    (he : starEach (e :: es) X.env = (false, eval e X.env) :: starEach es X.env := by rfl) (hpl : (backTo pos (starEach es X.env)).any (·.1) = false := by rfl) :
    PE X (.Call (.Name x p) (e :: es) [] pos) (tCall sp [] E0 t) := by
  obtain ⟨f, fd, G, hm, hk, hb⟩ := F
  exact pe_call (hdb := hdb) (he := he) (hpl := hpl) G (hr.mono hj) hg hm hk hb .nil pass0 ha
theorem op_eqI : OpR X (compareOp .Eq) (rI0 fun i j => .bl (decide (i = j))) := opB0 fun i j _ _ _ _ _ q => eq_int (by
  have e : (i == j) = decide (i = j) := by rw [Bool.eq_iff_iff]; simp
  rw [e]; exact q)
end
noncomputable def tCut (t u : TS) : TS := fun D σ H => ∃ M : St → Hp → Prop, t { D with nx := M } σ H ∧ ∀ σ' H', M σ' H' → u D σ' H'
theorem pss_cut {X : Cx} {st : Stmt} {rest : List Stmt} {t u : TS} (h1 : PS X st t) (h2 : PSs X rest u) : PSs X (st :: rest) (tCut t u) := by
  intro pins s σ H D I h
  obtain ⟨M, h, hM⟩ := h
  refine wpAny_execs_cons (thn (h1 pins s σ H { D with nx := M } I h) fun f s1 q => ?_)
  cases f with
  | next =>
    obtain ⟨σ', H', I', q⟩ := q
    exact h2 pins s1 σ' H' D I' (hM σ' H' q)
  | ret v => exact q
  | brk => exact q
  | cont => exact q
noncomputable def tCutE (t : TE) : TE := fun σ H Q => ∃ R : VK, t σ H R ∧ ∀ v H', R v H' → Q v H'
theorem pe_cut {X : Cx} {e : Expr} {t : TE} (h : PE X e t) : PE X e (tCutE t) := by
  intro pins s σ H Q I hw
  obtain ⟨R, hw, hR⟩ := hw
  exact thn (h pins s σ H R I hw) fun u s1 ⟨v, H1, I1, r1, q1⟩ => ⟨v, H1, I1, r1, hR v H1 q1⟩
theorem iteD {c : Prop} [Decidable c] {A B : Prop} (h1 : c → A) (h2 : ¬ c → B) : if decide c = true then A else B := by
  by_cases h : c
  · rw [decide_eq_true h, if_pos rfl]; exact h1 h
  · rw [decide_eq_false h, if_neg Bool.false_ne_true]; exact h2 h
theorem iteDT {c : Prop} [Decidable c] {A B : Prop} (hc : c) (h1 : A) : if decide c = true then A else B := by
  rw [decide_eq_true hc, if_pos rfl]; exact h1
theorem iteDF {c : Prop} [Decidable c] {A B : Prop} (hc : ¬ c) (h1 : B) : if decide c = true then A else B := by
  rw [decide_eq_false hc, if_neg Bool.false_ne_true]; exact h1
section
variable {X : Cx} (K : PySem.W.Frag)
theorem ix_seqK (h : X.K = K) : IxR X (rIx K) := h ▸ ix_seq
theorem op_notIn_seqK (h : X.K = K) : OpR X (compareOp .NotIn) (rIn K true) := h ▸ op_notIn_seq
theorem call_len_seqK (h : X.K = K) : CallR X (.builtin "len") (fun xs H Q => ∃ p ys, xs = [.ref p] ∧ (SqL K H p ys ∨ SqT K H p ys) ∧ Q (.int ys.length) H) := h ▸ call_len_seq
theorem pg_tupK {es : List Expr} {k : Nat} {t : TGs} {n : Nat} {pos : Pos} (h : X.K = K) (hc : X.calm = true) (hs : PGs X es t) (hn : (assignEach es X.env).length = n := by rfl) (hst : (assignEach es X.env).findIdx? (·.1) = none := by rfl) : PG X (.Tuple es k pos) (gTup K n t) := h ▸ pg_tup hc hs hn hst
end
end L2

set_option linter.all false
namespace CW
end CW

set_option linter.all false
namespace CW
noncomputable def stp (c : Int) (l : Nat) (x : Bool) : Nat × Bool :=
  if x then (if (l : Int) < c then (l + 1, false) else (l, true)) else (if 0 < l then (l - 1, true) else (0, false))
noncomputable def run (c : Int) : Nat → List Bool → Nat × List Bool
  | l, [] => (l, [])
  | l, x :: xs => ((run c (stp c l x).1 xs).1, (stp c l x).2 :: (run c (stp c l x).1 xs).2)
end CW

set_option Elab.async false
set_option linter.all false
set_option maxRecDepth 100000
set_option maxHeartbeats 4000000
namespace CW
open PySem L2

theorem at_mem {ns : List Int} {i : Int} (h0 : 0 ≤ i) (h1 : i < ns.length) : ∃ n, n ∈ ns ∧ ns[i.toNat]? = some n ∧ atI (ns.map V.int) i = some (.int n) := by
  have hj : i.toNat < ns.length := by omega
  refine ⟨ns[i.toNat], List.getElem_mem hj, by simp [hj], ?_⟩
  have q : atI (ns.map V.int) ((i.toNat : Nat) : Int) = some (.int ns[i.toNat]) := atI_nat (by simp [hj])
  rw [Int.toNat_of_nonneg h0] at q
  exact q
theorem line_of {n : Nat} (h : n ≤ 10000) : n < sizeLine := Nat.lt_of_le_of_lt h (by decide)
theorem line_le {n : Nat} (h : n ≤ 10000) : n ≤ sizeLine := Nat.le_of_lt (line_of h)
noncomputable def Nums (ns : List Int) : Prop := ∀ n ∈ ns, 0 ≤ n ∧ n < 9967
theorem cutV_ints (ns : List Int) (lo hi : Option Int) : ∃ ms : List Int, cutV (ns.map V.int) lo hi = ms.map V.int ∧ ms.length ≤ ns.length ∧ ∀ n ∈ ms, n ∈ ns := by
  refine ⟨(ns.drop (HT.sIx ns.length 0 lo)).take (HT.sIx ns.length ns.length hi - HT.sIx ns.length 0 lo), ?_, ?_, ?_⟩
  · unfold cutV
    simp only [List.length_map, List.map_take, List.map_drop]
  · simp only [List.length_take, List.length_drop]; omega
  · intro n hn
    exact List.mem_of_mem_drop (List.mem_of_mem_take hn)
theorem cut_to (ns : List Int) (k : Nat) (h : k ≤ ns.length) : cutV (ns.map V.int) none (some (k : Int)) = (ns.take k).map V.int := by
  unfold cutV
  rw [HT.sIx_none, HT.sIx_nat, List.length_map, List.drop_zero, Nat.sub_zero, Nat.min_eq_left h, List.map_take]
theorem cut_from (ns : List Int) (k : Nat) (h : k ≤ ns.length) : cutV (ns.map V.int) (some (k : Int)) none = (ns.drop k).map V.int := by
  unfold cutV
  rw [HT.sIx_none, HT.sIx_nat, List.length_map, Nat.min_eq_left h, ← List.map_drop, ← List.map_take, List.take_of_length_le (by simp)]
noncomputable def sd1 (seed z : Int) : Int := (seed * 40014 + z % 999983 + 29) % 2147483563
noncomputable def sd2 (seed : Int) (ys : List Int) : Int := (seed * seed + 52774 * seed + 13 * ((List.map V.int ys).length : Int) + 7) % 2147483629
noncomputable def rs1 (z : Int) : Int := z - 10 ^ (18 : Int).toNat
inductive spNumbers (K : PySem.W.Frag) (vs : List V) (H : Hp) (Q : VK) (E_ : XK) : Prop
  | mk (a : Addr) (script : List Int) (m : Nat) (h0_ : vs = [.ref a, .int m]) (h1_ : SqL K H a (script.map V.int)) (h2_ : script.length ≤ 63) (h3_ : m ≤ 1000) (h4_ : ∀ (l : Addr) (ns : List Int) (H' : Hp), ns.length = m → Nums ns → H l = none → Same H H' → H' l = some (.lst (ns.map V.int)) → Q (.ref l) H') : spNumbers K vs H Q E_
noncomputable def Row (r : List Int) : Prop := r.Pairwise (· < ·)
theorem Row.lt {r : List Int} (h : Row r) {i j : Nat} {x y : Int} (hij : i < j) (hx : r[i]? = some x) (hy : r[j]? = some y) : x < y := by
  obtain ⟨h1, rfl⟩ := List.getElem?_eq_some_iff.mp hx
  obtain ⟨h2, rfl⟩ := List.getElem?_eq_some_iff.mp hy
  exact List.pairwise_iff_getElem.mp h i j h1 h2 hij
noncomputable def RetL (H : Hp) (Q : VK) (ns : List Int) : Prop := ∀ (l : Addr) (H' : Hp), H l = none → Same H H' → H' l = some (.lst (ns.map V.int)) → Q (.ref l) H'
inductive spLook (vs : List V) (H : Hp) (Q : VK) (E_ : XK) : Prop
  | mk (a : Addr) (row : List Int) (h0_ : vs = [.ref a]) (h1_ : H a = some (.lst (row.map V.int))) (h2_ : Row row) (h3_ : row.length ≤ 60) (h4_ : Q .non H) : spLook vs H Q E_
structure Cn (mg : Str → Option Value) (tC : Tok) : Prop where
  MOST_STONES : mg "MOST_STONES" = some (.int 60 tC)
theorem snoc_map {l : List Int} {i : Nat} {z : Int} (f : Int → Int) (h : l[i]? = some z) : ((l.take i).map f).map V.int ++ [V.int (f z)] = ((l.take (i + 1)).map f).map V.int := by
  rw [List.take_succ, h]
  simp
theorem int_at {l : List Int} {i : Nat} {x : V} (h : (l.map V.int)[i]? = some x) : ∃ z, x = .int z ∧ l[i]? = some z := by
  rw [List.getElem?_map] at h
  cases e : l[i]? with
  | none => rw [e] at h; cases h
  | some z => rw [e] at h; exact ⟨z, (Option.some.inj h).symm, rfl⟩
theorem take_len {α : Type} (l : List α) (i : Nat) (h : i ≤ 60) (f : α → Int) : ((((l.take i).map f).map V.int)).length < sizeLine := by
  simp only [List.length_map, List.length_take]
  exact line_of (by omega)
noncomputable def PairAt (H : Hp) (v : V) (p : Int × Int) : Prop := ∃ t, v = .ref t ∧ H t = some (.tup [.int p.1, .int p.2])
noncomputable abbrev Prs (H : Hp) : List V → List (Int × Int) → Prop := Paired (PairAt H)
noncomputable def TupS (H H' : Hp) : Prop := ∀ t xs, H t = some (.tup xs) → H' t = some (.tup xs)
theorem Prs.mono {H H' : Hp} (h : TupS H H') {vs : List V} {ps : List (Int × Int)} (r : Prs H vs ps) : Prs H' vs ps := Paired.mapP r fun _ _ ⟨t, e, q⟩ => ⟨t, e, h _ _ q⟩
theorem TupS.new {H : Hp} {a : Addr} {o : HO} (h : H a = none) : TupS H (upd H a o) := fun t xs e => by rw [upd_ne (ne_of_none e h)]; exact e
theorem TupS.lst {H : Hp} {a : Addr} {xs ys : List V} (h : H a = some (.lst xs)) : TupS H (upd H a (.lst ys)) := fun t zs e => by rw [upd_ne (ne_of e h (by intro z; cases z))]; exact e
theorem TupS.same {H H' : Hp} (h : Same H H') : TupS H H' := fun t xs e => h _ _ e
theorem TupS.trans {H H1 H2 : Hp} (a : TupS H H1) (b : TupS H1 H2) : TupS H H2 := fun t xs e => b _ _ (a _ _ e)
noncomputable def pD (p : Int × Int) : PyData := .tuple [.int p.1, .int p.2]
theorem Prs.dens {H : Hp} : ∀ {vs : List V} {ps : List (Int × Int)}, Prs H vs ps → Dens H vs (ps.map pD)
  | _, _, .nil => .nil
  | _, _, .cons ⟨t, e, q⟩ r => by subst e; exact .cons (.tup q (.cons (.int _) (.cons (.int _) .nil))) (Prs.dens r)
theorem Paired.append' {α β : Type} {F : α → β → Prop} : ∀ {l₁ m₁ : List α} {l₂ m₂ : List β}, Paired F l₁ l₂ → Paired F m₁ m₂ → Paired F (l₁ ++ m₁) (l₂ ++ m₂)
  | _, _, _, _, .nil, s => s
  | _, _, _, _, .cons r t, s => .cons r (Paired.append' t s)
theorem Paired.split_last {α β : Type} {F : α → β → Prop} {l₁ : List α} {l₂ : List β} {b : β} (h : Paired F l₁ (l₂ ++ [b])) : ∃ m a, l₁ = m ++ [a] ∧ Paired F m l₂ ∧ F a b := by
  induction l₂ generalizing l₁ with
  | nil =>
    cases h with
    | cons r t => cases t; exact ⟨[], _, rfl, .nil, r⟩
  | cons c l ih =>
    cases h with
    | cons r t =>
      obtain ⟨m, a, e, q, f⟩ := ih t
      exact ⟨_ :: m, a, by rw [e]; rfl, .cons r q, f⟩
noncomputable def stepR (ps : List (Int × Int)) (x : Int) : List (Int × Int) :=
  match ps.getLast? with
  | some p => if p.2 = x - 1 then ps.dropLast ++ [(p.1, x)] else ps ++ [(x, x)]
  | none => [(x, x)]
noncomputable def runsM (row : List Int) : List (Int × Int) := row.foldl stepR []
theorem stepR_nil (x : Int) : stepR [] x = [(x, x)] := rfl
theorem stepR_snoc (ps : List (Int × Int)) (p : Int × Int) (x : Int) : stepR (ps ++ [p]) x = if p.2 = x - 1 then ps ++ [(p.1, x)] else (ps ++ [p]) ++ [(x, x)] := by
  unfold stepR
  rw [List.getLast?_concat, List.dropLast_concat]
theorem runs_len (ps : List (Int × Int)) (x : Int) : (stepR ps x).length ≤ ps.length + 1 := by
  rcases List.eq_nil_or_concat ps with rfl | ⟨l, p, rfl⟩
  · exact Nat.le_refl _
  · simp only [List.concat_eq_append]
    rw [stepR_snoc]
    split <;> simp
theorem runs_snoc {row : List Int} {i : Nat} {z : Int} (h : row[i]? = some z) : stepR (runsM (row.take i)) z = runsM (row.take (i + 1)) := by
  unfold runsM
  rw [List.take_succ, h]
  simp
noncomputable def RetP (H : Hp) (Q : VK) (ps : List (Int × Int)) : Prop := ∀ (l : Addr) (vs : List V) (H' : Hp), H l = none → Same H H' → H' l = some (.lst vs) → Prs H' vs ps → Q (.ref l) H'
inductive spStretches (vs : List V) (H : Hp) (Q : VK) (E_ : XK) : Prop
  | mk (a : Addr) (row : List Int) (h0_ : vs = [.ref a]) (h1_ : H a = some (.lst (row.map V.int))) (h2_ : Row row) (h3_ : row.length ≤ 60) (h4_ : RetP H Q (runsM row)) : spStretches vs H Q E_
inductive spRuns (vs : List V) (H : Hp) (Q : VK) (E_ : XK) : Prop
  | mk (a : Addr) (row : List Int) (h0_ : vs = [.ref a]) (h1_ : H a = some (.lst (row.map V.int))) (h2_ : row.length ≤ 60) (h3_ : RetP H Q (runsM row)) : spRuns vs H Q E_
theorem ix_last (vs : List V) (v : V) : ixN (vs ++ [v]).length (-1) = some vs.length := by
  unfold ixN
  rw [if_neg (by decide), if_pos (by simp; omega)]
  congr 1
  simp
  omega
theorem set_last {α : Type} (vs : List α) (v u : α) : (vs ++ [v]).set vs.length u = vs ++ [u] := by
  rw [List.set_append_right _ _ (Nat.le_refl _)]
  simp
theorem canLay_pairs (ps : List (Int × Int)) : PyData.canLayAll0 (ps.map pD) = true := by
  induction ps with
  | nil => rfl
  | cons p r ih => simp [PyData.canLayAll0, pD, PyData.canLay0, ih]
theorem depth_pairs (ps : List (Int × Int)) : PyData.depthAll (ps.map pD) ≤ 1 := by
  induction ps with
  | nil => simp [PyData.depthAll]
  | cons p r ih => simp [PyData.depthAll, pD, PyData.depth]; omega
theorem canLay_ints (ns : List Int) : PyData.canLayAll0 (ns.map PyData.int) = true := by
  induction ns with
  | nil => rfl
  | cons p r ih => simp [PyData.canLayAll0, PyData.canLay0, ih]
theorem depth_ints (ns : List Int) : PyData.depthAll (ns.map PyData.int) = 0 := by
  induction ns with
  | nil => simp [PyData.depthAll]
  | cons p r ih => simp [PyData.depthAll, PyData.depth, ih]
theorem shaped_pairs (ps : List (Int × Int)) : SeqAt.shaped (.list (ps.map pD)) = true := by
  have := depth_pairs ps
  simp [SeqAt.shaped, PyData.canLay0, canLay_pairs, PyData.depth]
  omega
theorem shaped_ints (ns : List Int) : SeqAt.shaped (.list (ns.map PyData.int)) = true := by
  simp [SeqAt.shaped, PyData.canLay0, canLay_ints, PyData.depth, depth_ints]
inductive spRow (vs : List V) (H : Hp) (Q : VK) (E_ : XK) : Prop
  | mk (a : Addr) (ns : List Int) (m : Nat) (h0_ : vs = [.ref a, .int m]) (h1_ : H a = some (.lst (ns.map V.int))) (h2_ : Nums ns) (h3_ : m + 3 ≤ ns.length) (h4_ : m ≤ 60) (h5_ : ∀ row, Row row → row.length ≤ m → (∀ x ∈ row, -15 ≤ x ∧ x ≤ 800) → RetL H Q row) : spRow vs H Q E_
theorem row_snoc {r : List Int} {x : Int} (h : Row r) (hx : ∀ y ∈ r, y < x) : Row (r ++ [x]) := by
  unfold Row
  rw [List.pairwise_append]
  exact ⟨h, List.pairwise_singleton _ _, fun a ha b hb => by rw [List.mem_singleton.mp hb]; exact hx a ha⟩
inductive spLong (vs : List V) (H : Hp) (Q : VK) (E_ : XK) : Prop
  | mk (a : Addr) (ns : List Int) (m : Nat) (h0_ : vs = [.ref a, .int m]) (h1_ : H a = some (.lst (ns.map V.int))) (h2_ : Nums ns) (h3_ : m + 3 ≤ ns.length) (h4_ : m ≤ 60) (h5_ : ∀ row, Row row → row.length ≤ m → RetL H Q row) : spLong vs H Q E_
theorem row_long {row : List Int} {c : Nat} {b : Int} (h : Row row) (hb : 0 ≤ b) : Row (row.take c ++ (row.drop c).map (fun z => z + b)) := by
  unfold Row at *
  rw [List.pairwise_append]
  have hs := h
  rw [← List.take_append_drop c row, List.pairwise_append] at hs
  obtain ⟨h1, h2, h3⟩ := hs
  refine ⟨h1, ?_, fun x hx y hy => ?_⟩
  · rw [List.pairwise_map]
    exact h2.imp (fun {x y} q => by omega)
  · obtain ⟨z, hz, rfl⟩ := List.mem_map.mp hy
    have := h3 x hx z hz
    omega
mutual
noncomputable def sml : PyData → Bool
  | .list xs => decide (xs.length ≤ 5000) && smlAll xs
  | .tuple xs => decide (xs.length ≤ 5000) && smlAll xs
  | .dict _ => false
  | .none => false
  | .bool _ => false
  | .int _ => true
  | .str _ => false
noncomputable def smlAll : List PyData → Bool
  | [] => true
  | x :: xs => sml x && smlAll xs
end
theorem sml_mem {ds : List PyData} {d : PyData} (h : d ∈ ds) (hc : smlAll ds = true) : sml d = true := by
  induction ds with
  | nil => cases h
  | cons x r ih =>
    simp only [smlAll, Bool.and_eq_true] at hc
    rcases List.mem_cons.mp h with rfl | h
    · exact hc.1
    · exact ih h hc.2
theorem sml_ints {ns : List Int} (h : ns.length ≤ 5000) : sml (.list (ns.map PyData.int)) = true := by
  have : ∀ ns : List Int, smlAll (ns.map PyData.int) = true := fun ns => by
    induction ns with
    | nil => rfl
    | cons p r ih => simp [smlAll, sml, ih]
  simp [sml, this, h]
inductive spSame (n : Nat) (vs : List V) (H : Hp) (Q : VK) (E_ : XK) : Prop
  | mk (x y : V) (d : PyData) (h0_ : vs = [x, y]) (h1_ : Den H x d) (h2_ : Den H y d) (h3_ : d.depth ≤ n) (h4_ : SeqAt.shaped d = true) (h5_ : sml d = true) (h6_ : ∀ H', Same H H' → Q (.bl true) H') : spSame n vs H Q E_
theorem depth_mem {ds : List PyData} {d : PyData} (h : d ∈ ds) : d.depth ≤ PyData.depthAll ds := by
  induction ds with
  | nil => cases h
  | cons x r ih =>
    simp only [PyData.depthAll]
    rcases List.mem_cons.mp h with rfl | h
    · omega
    · have := ih h; omega
theorem canLay_mem {ds : List PyData} {d : PyData} (h : d ∈ ds) (hc : PyData.canLayAll0 ds = true) : d.canLay0 = true := by
  induction ds with
  | nil => cases h
  | cons x r ih =>
    simp only [PyData.canLayAll0, Bool.and_eq_true] at hc
    rcases List.mem_cons.mp h with rfl | h
    · exact hc.1
    · exact ih h hc.2
theorem eqv_self {d : PyData} (h : SeqAt.shaped d = true) : PyData.eqv d d = true := SeqAt.eqv_refl d (SeqAt.canLay_of_shaped h)
theorem runsM_len (row : List Int) : (runsM row).length ≤ row.length := by
  have : ∀ (r : List Int) (ps : List (Int × Int)), (r.foldl stepR ps).length ≤ ps.length + r.length := fun r => by
    induction r with
    | nil => intro ps; simp
    | cons x r ih =>
      intro ps
      rw [List.foldl_cons]
      have h1 := ih (stepR ps x)
      have h2 := runs_len ps x
      simp only [List.length_cons]
      omega
  have := this row []
  simpa [runsM] using this
inductive spLaw (K : PySem.W.Frag) (vs : List V) (H : Hp) (Q : VK) (E_ : XK) : Prop
  | mk (a : Addr) (ns : List Int) (h0_ : vs = [.ref a]) (h1_ : SqL K H a (ns.map V.int)) (h2_ : ns.length ≤ 63) (h3_ : ∀ H', Q (.bl true) H') : spLaw K vs H Q E_
end CW

set_option linter.all false
namespace CW
end CW

set_option Elab.async false
set_option linter.all false
set_option maxRecDepth 100000
set_option maxHeartbeats 4000000
namespace CW
open PySem L2
theorem paired_get {α β : Type} {F : α → β → Prop} : ∀ {l₁ : List α} {l₂ : List β} {i : Nat} {x : α}, Paired F l₁ l₂ → l₁[i]? = some x → ∃ y, l₂[i]? = some y ∧ F x y
  | _, _, _, _, .nil, e => by simp at e
  | _, _, 0, _, .cons r _, e => by simp at e; subst e; exact ⟨_, rfl, r⟩
  | _, _, i + 1, x, .cons _ t, e => by
    obtain ⟨y, h1, h2⟩ := paired_get (i := i) (x := x) t (by simpa using e)
    exact ⟨y, by simpa using h1, h2⟩
end CW

set_option Elab.async false
set_option linter.all false
set_option maxRecDepth 100000
set_option maxHeartbeats 1000000
namespace L2
open PySem PySem.Spec PyProof.Rows
section
variable {prog : Program} {w : World} {A : Around} {R : Result → Shared → Prop} {l it S : Addr} {its : List Value} {ns : List Int} {d : Value}
end
section
variable {X : Cx} {e f : Expr} {te tf : TE} {p pos kp : Pos}
end
end L2

set_option Elab.async false
set_option linter.all false
set_option maxRecDepth 100000
set_option maxHeartbeats 1000000
namespace L2
open PySem PySem.Spec PyProof.Rows
section
variable {X : Cx}
end
end L2

set_option Elab.async false
set_option linter.all false
set_option maxRecDepth 100000
set_option maxHeartbeats 4000000
namespace CW
open PySem L2
theorem flat_ints (ns : List Int) : (ns.map V.int).all flatV = true := by
  rw [List.all_eq_true]
  intro x hx
  obtain ⟨z, _, rfl⟩ := List.mem_map.mp hx
  rfl
theorem inV_ints (z : Int) (ns : List Int) : inV (.int z) (ns.map V.int) = decide (z ∈ ns) := by
  unfold inV
  induction ns with
  | nil => rfl
  | cons n r ih =>
    rw [List.map_cons, List.any_cons, ih]
    have e : eqV (.int n) (.int z) = decide (n = z) := by
      show (n == z) = _
      rw [Bool.eq_iff_iff]; simp
    rw [e, Bool.eq_iff_iff]
    simp only [Bool.or_eq_true, decide_eq_true_eq, List.mem_cons]
    constructor
    · rintro (h | h)
      · exact .inl h.symm
      · exact .inr h
    · rintro (h | h)
      · exact .inl h.symm
      · exact .inr h
end CW

set_option Elab.async false
set_option linter.all false
set_option maxRecDepth 100000
set_option maxHeartbeats 1000000
namespace L2
open PySem PySem.Spec PyProof.Rows
section
variable {X : Cx}
end
end L2

set_option Elab.async false
set_option linter.all false
set_option maxRecDepth 100000
set_option maxHeartbeats 4000000
namespace CW
open PySem L2
noncomputable def LP (H : Hp) (a : Addr) (ps : List (Int × Int)) : Prop := ∃ us, H a = some (.lst us) ∧ Prs H us ps
theorem LP.mono {H H' : Hp} (h : Same H H') {a : Addr} {ps : List (Int × Int)} (r : LP H a ps) : LP H' a ps := let ⟨us, e, p⟩ := r; ⟨us, h _ _ e, p.mono (TupS.same h)⟩
theorem Prs.len {H : Hp} {us : List V} {ps : List (Int × Int)} (h : Prs H us ps) : us.length = ps.length := Paired.length h
noncomputable def szs (ps : List (Int × Int)) : List Int := ps.map (·.1)
structure Trn (ps : List (Int × Int)) : Prop where
  pos : ∀ p ∈ ps, 1 ≤ p.1
  few : (szs ps).sum ≤ 60
theorem len_le_sum : ∀ {ps : List (Int × Int)}, (∀ p ∈ ps, 1 ≤ p.1) → (ps.length : Int) ≤ (szs ps).sum
  | [], _ => by simp [szs]
  | p :: r, h => by
    have h1 := h p (List.mem_cons_self)
    have h2 := len_le_sum (ps := r) fun q hq => h q (List.mem_cons_of_mem _ hq)
    simp only [szs, List.map_cons, List.sum_cons, List.length_cons] at h2 ⊢
    omega
theorem Trn.len {ps : List (Int × Int)} (h : Trn ps) : ps.length ≤ 60 := by
  have h1 := len_le_sum h.pos
  have := h.few
  omega
theorem paired_at {H : Hp} {us : List V} {ps : List (Int × Int)} (h : Prs H us ps) {i : Nat} {x : V} (e : us[i]? = some x) : ∃ p t, ps[i]? = some p ∧ x = .ref t ∧ H t = some (.tup [.int p.1, .int p.2]) := by
  obtain ⟨p, hp, t, e1, e2⟩ := paired_get h e
  exact ⟨p, t, hp, e1, e2⟩
theorem snoc_pairs {ps : List (Int × Int)} {i : Nat} {p : Int × Int} (f : Int × Int → Int) (h : ps[i]? = some p) : ((ps.take i).map f).map V.int ++ [V.int (f p)] = ((ps.take (i + 1)).map f).map V.int := by
  rw [List.take_succ, h]
  simp
end CW

set_option Elab.async false
set_option linter.all false
set_option maxRecDepth 100000
set_option maxHeartbeats 1000000
namespace L2
open PySem PySem.Spec PyProof.Rows
section
variable {X : Cx} {tg : Expr}
end
end L2

set_option Elab.async false
set_option linter.all false
set_option maxRecDepth 100000
set_option maxHeartbeats 1000000
namespace L2
open PySem PySem.W PySem.Spec PyProof.Rows
section
variable {O : KeyOrd} {key : Nat → O.α} {n : Nat} {cmp : Nat → Nat → (Bool → Shared → Prop) → Shared → Prop} {s : Shared}
noncomputable def KP (O : KeyOrd) (key : Nat → O.α) (p : Array Nat) (i : Nat) : O.α := key (p.getD i 0)
structure InR (n : Nat) (p : Array Nat) : Prop where
  pos : 0 < n
  size : p.size = n
  mem : ∀ x ∈ p, x < n
theorem InR.perm {p q : Array Nat} (h : InR n p) (e : q.Perm p) : InR n q := ⟨h.pos, e.size_eq.trans h.size, fun x hx => h.mem x (e.mem_iff.mp hx)⟩
noncomputable def Up (O : KeyOrd) (key : Nat → O.α) (p : Array Nat) (m : Nat) : Prop := ∀ i j, i ≤ j → j < m → O.kle (KP O key p i) (KP O key p j)
noncomputable def Dn (O : KeyOrd) (key : Nat → O.α) (p : Array Nat) (m : Nat) : Prop := ∀ i j, i ≤ j → j < m → O.kle (KP O key p j) (KP O key p i)
theorem Dn.same {p q : Array Nat} {m : Nat} (h : Dn O key p m) (e : ∀ k, KP O key q k = KP O key p k) : Dn O key q m := fun i j h1 h2 => by rw [e, e]; exact h i j h1 h2
theorem Up.same {p q : Array Nat} {m : Nat} (h : Up O key p m) (e : ∀ k, KP O key q k = KP O key p k) : Up O key q m := fun i j h1 h2 => by rw [e, e]; exact h i j h1 h2
end
end L2

set_option Elab.async false
set_option linter.all false
set_option maxRecDepth 100000
set_option maxHeartbeats 4000000
namespace CW
open PySem L2
noncomputable def rkP (p q : Int × Int) : Prop := p.2 - p.1 ≤ q.2 - q.1 ∧ p.2 - p.1 + 1 ≤ q.1 - p.2 - 1
noncomputable def Rnk (ps : List (Int × Int)) : Prop := ∀ (j : Nat) (p q : Int × Int), ps[j]? = some p → ps[j + 1]? = some q → rkP p q
theorem Rnk.nil : Rnk (runsM []) := fun j p q h => by simp [runsM] at h
theorem Rnk.snoc {ps : List (Int × Int)} {q : Int × Int} (h : Rnk ps) (hl : ∀ p, ps.getLast? = some p → rkP p q) : Rnk (ps ++ [q]) := by
  intro j a b ha hb
  have hj : j + 1 < (ps ++ [q]).length := (List.getElem?_eq_some_iff.mp hb).1
  simp only [List.length_append, List.length_singleton] at hj
  by_cases hlt : j + 1 < ps.length
  · rw [List.getElem?_append_left (by omega)] at ha
    rw [List.getElem?_append_left hlt] at hb
    exact h j a b ha hb
  · have e : j + 1 = ps.length := by omega
    rw [List.getElem?_append_left (by omega)] at ha
    rw [List.getElem?_append_right (by omega), e, Nat.sub_self] at hb
    have eb : q = b := by simpa using hb
    subst eb
    refine hl a ?_
    rw [List.getLast?_eq_getElem?, show ps.length - 1 = j by omega]
    exact ha
noncomputable def LastOk (ps : List (Int × Int)) (size place : Int) : Prop := ∀ q, ps.getLast? = some q → q.1 ≤ q.2 ∧ q.2 - q.1 + 1 ≤ size ∧ q.2 - q.1 + 1 ≤ place - q.2 - 1
theorem LastOk.mono {ps : List (Int × Int)} {size size' place : Int} (h : LastOk ps size place) (hs : size ≤ size') : LastOk ps size' place := fun q hq => by have := h q hq; omega
noncomputable def RowAt (H : Hp) (u : V) : Prop := ∃ l row, u = .ref l ∧ H l = some (.lst (row.map V.int)) ∧ Row row ∧ row.length ≤ 60
theorem RowAt.mono {H H' : Hp} (h : Same H H') {u : V} (r : RowAt H u) : RowAt H' u := let ⟨l, row, e, q, z⟩ := r; ⟨l, row, e, h _ _ q, z⟩
noncomputable def RowsOk (H : Hp) (lr : Addr) (us : List V) : Prop := H lr = some (.lst us) ∧ (∃ x r, us = .ref x :: r) ∧ ∀ u ∈ us, RowAt H u
theorem RowsOk.mono {H H' : Hp} (h : Same H H') {lr : Addr} {us : List V} (r : RowsOk H lr us) : RowsOk H' lr us := ⟨h _ _ r.1, r.2.1, fun u hu => (r.2.2 u hu).mono h⟩
theorem ints_ne {row : List Int} {x : Addr} {r : List V} : HO.lst (row.map V.int) ≠ HO.lst (.ref x :: r) := by
  intro z
  cases row with
  | nil => cases z
  | cons a b => cases z
theorem RowAt.set {H : Hp} {lr x : Addr} {r vs : List V} (h : H lr = some (.lst (.ref x :: r))) {u : V} (q : RowAt H u) : RowAt (upd H lr (.lst vs)) u := by
  obtain ⟨l, row, e, q, z⟩ := q
  exact ⟨l, row, e, by rw [upd_ne (ne_of q h ints_ne)]; exact q, z⟩
theorem RowsOk.snoc {H : Hp} {lr : Addr} {us : List V} {u : V} (h : RowsOk H lr us) (hu : RowAt H u) : RowsOk (upd H lr (.lst (us ++ [u]))) lr (us ++ [u]) := by
  obtain ⟨e, ⟨x, r, rfl⟩, q⟩ := h
  refine ⟨upd_same, ⟨x, r ++ [u], rfl⟩, fun v hv => ?_⟩
  rcases List.mem_append.mp hv with z | z
  · exact (q v z).set e
  · rw [List.mem_singleton.mp z]; exact hu.set e
end CW

set_option Elab.async false
set_option linter.all false
set_option maxRecDepth 100000
set_option maxHeartbeats 4000000
namespace CW
open PySem L2
theorem filter_snoc {l : List Int} {i : Nat} {z : Int} (p : Int → Bool) (h : l[i]? = some z) : ((l.take (i + 1)).filter p).map V.int = ((l.take i).filter p).map V.int ++ (if p z = true then [V.int z] else []) := by
  rw [List.take_succ, h, List.filter_append]
  simp only [Option.toList_some, List.filter_cons, List.filter_nil]
  by_cases q : p z = true
  · rw [if_pos q, if_pos q]; simp
  · rw [if_neg q, if_neg q]; simp
end CW

set_option Elab.async false
set_option linter.all false
set_option maxRecDepth 100000
set_option maxHeartbeats 1000000
namespace L2
open PySem PySem.W PySem.Spec PyProof.Rows
noncomputable def plt (a b : Int × Int) : Bool := decide (a.1 < b.1) || (decide (a.1 = b.1) && decide (a.2 < b.2))
section
variable {prog : Program} {w : World} {A : Around} {E : Value → Shared → Prop} {s : Shared}
end
section
variable {X : Cx}
end
end L2

set_option Elab.async false
set_option linter.all false
set_option maxRecDepth 100000
namespace L2
open PySem PySem.Spec PyProof.Rows

section
variable {κ : Type} [DecidableEq κ]
theorem RelO.getD {o : Option V} {u : Option Value} {d : V} {d' : Value} (r : RelO o u) (rd : RelV d d') : RelV (o.getD d) (u.getD d') := by
  cases o with
  | none => cases u with
    | none => exact rd
    | some _ => exact (show False from r).elim
  | some _ => cases u with
    | none => exact (show False from r).elim
    | some _ => exact r

theorem KV.any {kvs : List (κ × V)} {vs : List (κ × Value)} (r : KV kvs vs) (k : κ) : (kvs.any fun kv => decide (kv.1 = k)) = vs.any fun kv => decide (kv.1 = k) := by
  unfold KV at r
  induction r with
  | nil => rfl
  | cons h t ih => rw [List.any_cons, List.any_cons, ih, h.1]
theorem KV.length {kvs : List (κ × V)} {vs : List (κ × Value)} (r : KV kvs vs) : kvs.length = vs.length := Paired.length r
end


noncomputable abbrev KT (H : Hp) : List (List Key × V) → List (List Key × Addr × Value) → Prop := Paired fun p q => p.1 = q.1 ∧ H q.2.1 = some (.tup (p.1.map kV)) ∧ RelV p.2 q.2.2
theorem KT.keeps {H H' : Hp} {kvs : List (List Key × V)} {xs : List (List Key × Addr × Value)} (r : KT H kvs xs) (ht : ∀ b ys, H b = some (.tup ys) → H' b = some (.tup ys)) : KT H' kvs xs :=
  Paired.mapP r fun _ _ z => ⟨z.1, ht _ _ z.2.1, z.2.2⟩

section
variable {P : Program} {w : World} {H : Hp} {h : Heap} {a : Addr}
end

section
variable {X : Cx} {pins : List (Addr × Obj)} {σ : St} {H : Hp} {s : Shared} {a : Addr} {y v : V} {u r : Value} {o : Option V} {A : Around} {E : Value → Shared → Prop}

end

section
variable {X : Cx} {pins : List (Addr × Obj)} {σ : St} {H : Hp} {s : Shared} {a : Addr} {kvs : List (Key × V)} {k : Key} {u : Value} {A : Around} {E : Value → Shared → Prop}
end


section
variable {X : Cx} {o i e value : Expr} {pos pos' tpos : Pos} {td ty tv : TE}
end


section
variable {X : Cx} {pos : Pos}
end

structure M1 (X : Cx) (o : Expr) (m : Str) (apos : Pos) (e : Expr) (cpos : Pos) : Prop where
  base : attributeBase o m X.env (eval o X.env) = eval o X.env
  few : ((backTo cpos (starEach [e] X.env)).all (fun x => !x.1) && (backToKw cpos (keywordEach [] X.env)).all (fun x => x.1.isSome)
    && decide (([e] : List Expr).length + ([] : List Keyword).length + (if ([] : List Keyword).isEmpty then 0 else 1) < 30)) = true
  line : (apos.endLine == cpos.line) = true
  trees : backTo cpos (starEach [e] X.env) = [(false, eval e X.env)]
structure M2 (X : Cx) (o : Expr) (m : Str) (apos : Pos) (e f : Expr) (cpos : Pos) : Prop where
  base : attributeBase o m X.env (eval o X.env) = eval o X.env
  few : ((backTo cpos (starEach [e, f] X.env)).all (fun x => !x.1) && (backToKw cpos (keywordEach [] X.env)).all (fun x => x.1.isSome)
    && decide (([e, f] : List Expr).length + ([] : List Keyword).length + (if ([] : List Keyword).isEmpty then 0 else 1) < 30)) = true
  line : (apos.endLine == cpos.line) = true
  trees : backTo cpos (starEach [e, f] X.env) = [(false, eval e X.env), (false, eval f X.env)]

section
variable {X : Cx} {pins : List (Addr × Obj)} {σ : St} {H : Hp} {s : Shared} {a : Addr} {y d : V} {u r : Value} {o : Option V} {A : Around} {E : Value → Shared → Prop}
end

section
variable {X : Cx} {o e f : Expr} {apos cpos : Pos} {td ty tx : TE}
end

section
variable {X : Cx} {pins : List (Addr × Obj)} {σ : St} {H : Hp} {s : Shared} {a : Addr} {kvs : List (Key × V)} {A : Around} {E : Value → Shared → Prop}
end


section
variable {X : Cx} {pins : List (Addr × Obj)} {σ : St} {H : Hp} {s : Shared} {a : Addr} {y : V} {u : Value} {A : Around} {E : Value → Shared → Prop}
end
end L2

set_option Elab.async false
set_option linter.all false
set_option maxRecDepth 100000
set_option maxHeartbeats 1000000
namespace L2
open PySem PySem.Spec PyProof.Rows
section
variable {X : Cx} {pins : List (Addr × Obj)} {σ : St} {H : Hp} {s : Shared} {d : Addr} {kvs : List (Key × V)}
end
section
variable {X : Cx} {o e f : Expr} {apos cpos : Pos} {td ty tx : TE}
end
end L2

set_option Elab.async false
set_option linter.all false
set_option maxRecDepth 100000
set_option maxHeartbeats 4000000
namespace CW
open PySem L2
noncomputable abbrev Grp := Int × Addr × List Int
noncomputable def SameD (d : Addr) (H H' : Hp) : Prop := ∀ b o, b ≠ d → H b = some o → H' b = some o
theorem SameD.trans {d : Addr} {H H1 H2 : Hp} (a : SameD d H H1) (b : SameD d H1 H2) : SameD d H H2 := fun c o n h => b c o n (a c o n h)
section
variable {P : Program} {w : World} {K : PySem.W.Frag} {mg : Str → Option Value} {base : Heap}
end
end CW

set_option Elab.async false
set_option linter.all false
set_option maxRecDepth 100000
set_option maxHeartbeats 1000000
namespace L2
open PySem PySem.Spec PyProof.Rows
end L2

set_option Elab.async false
set_option linter.all false
set_option maxRecDepth 100000
set_option maxHeartbeats 1000000
namespace L2
open PySem PySem.W PySem.Spec PyProof.Rows
section
variable {X : Cx}
end
end L2

set_option Elab.async false
set_option linter.all false
set_option maxRecDepth 100000
set_option maxHeartbeats 1000000
namespace L2
open PySem PySem.Spec PyProof.Rows
end L2

set_option Elab.async false
set_option linter.all false
set_option maxRecDepth 100000
set_option maxHeartbeats 1000000
namespace L2
open PySem PySem.Spec PyProof.Rows
section
open PySem.SeqAt
open PySem.AutoSeq1 (wpAny_loadPart')
open PySem.MeetsSeq PySem.MeetsSeq2 PySem.MeetsSeq3
end
section
variable {prog : Program} {w : World} {A : Around} {E : Value → Shared → Prop} {s : Shared}
end
noncomputable def Top (ps : List (Int × Int)) (i : Nat) (j : Nat) : Prop := j < i ∧ ∀ k, k < i → plt (ps.getD j (0, 0)) (ps.getD k (0, 0)) = false
theorem Top.keep {ps : List (Int × Int)} {i j : Nat} (h : Top ps i j) (g : plt (ps.getD j (0, 0)) (ps.getD i (0, 0)) = false) : Top ps (i + 1) j := ⟨Nat.lt_succ_of_lt h.1, fun k hk => by
  by_cases e : k = i
  · rw [e]; exact g
  · exact h.2 k (by omega)⟩
section
variable {prog : Program} {w : World} {A : Around} {R : Result → Shared → Prop} {l it S : Addr} {its : List Value} {ps : List (Int × Int)}
end
end L2

set_option Elab.async false
set_option linter.all false
set_option maxRecDepth 100000
set_option maxHeartbeats 1000000
namespace L2
open PySem PySem.Spec PyProof.Rows
section
variable {X : Cx} {pins : List (Addr × Obj)} {σ : St} {H : Hp} {s : Shared}
end
end L2
namespace L2
open PySem PySem.Spec PyProof.Rows
end L2

set_option Elab.async false
set_option linter.all false
set_option maxRecDepth 100000
set_option maxHeartbeats 4000000
namespace CW
open PySem L2
noncomputable def StayG (d : Addr) (gs : List Grp) (H H' : Hp) : Prop := ∀ b o, b ≠ d → (∀ g ∈ gs, b ≠ g.2.1) → H b = some o → H' b = some o
section
variable {P : Program} {w : World} {K : PySem.W.Frag} {mg : Str → Option Value} {base : Heap}
end
end CW

set_option Elab.async false
set_option linter.all false
set_option maxRecDepth 100000
set_option maxHeartbeats 4000000
namespace CW
open PySem L2
end CW
namespace CW
open PySem L2
section
variable {P : Program} {w : World} {K : PySem.W.Frag} {mg : Str → Option Value} {base : Heap}
end
end CW
namespace CW
open PySem L2
theorem StayG.same {H H1 H2 : Hp} {d r : Addr} {gs : List Grp} (st : StayG d gs H1 H2) (sm : Same H H1) (hd : H d = none) (hfr : ∀ g ∈ gs, H g.2.1 = none ∧ g.2.1 ≠ r) : Same H H2 := fun b o e =>
  st b o (fun z => by rw [z, hd] at e; cases e) (fun g hg z => by rw [z, (hfr g hg).1] at e; cases e) (sm b o e)
end CW

set_option Elab.async false
set_option linter.all false
set_option maxHeartbeats 4000000
namespace CW
noncomputable abbrev Trs := List (Int × Int)
noncomputable def les (ps : Trs) (j : Int) : Int := (ps.map fun q => min j q.1).sum
theorem les_cons (q : Int × Int) (ps : Trs) (j : Int) : les (q :: ps) j = min j q.1 + les ps j := by simp [les]
theorem les_perm {ps qs : Trs} (h : ps.Perm qs) (j : Int) : les ps j = les qs j := by
  unfold les
  induction h with
  | nil => rfl
  | cons x _ ih => simp only [List.map_cons, List.sum_cons]; omega
  | swap x y l => simp only [List.map_cons, List.sum_cons]; omega
  | trans _ _ h1 h2 => exact h1.trans h2
noncomputable def Bd (ps : Trs) (n : Int) : Prop := ∀ q ∈ ps, 1 ≤ q.1 ∧ q.2 + 2 * les ps q.1 ≤ n
theorem Bd.perm {ps qs : Trs} {n : Int} (h : Bd ps n) (e : ps.Perm qs) : Bd qs n := fun q hq => by
  have := h q (e.mem_iff.mpr hq)
  rw [les_perm e] at this
  exact this
theorem Bd.mono {ps : Trs} {n m : Int} (h : Bd ps n) (e : n ≤ m) : Bd ps m := fun q hq => ⟨(h q hq).1, Int.le_trans (h q hq).2 e⟩
noncomputable def Add (ps : Trs) (p : Int) (qs : Trs) : Prop := ∃ (s : Int) (rest : Trs), 0 ≤ s ∧ (s = 0 ∧ ps.Perm rest ∨ 1 ≤ s ∧ ps.Perm ((s, p - 1 - 2 * les ps s) :: rest)) ∧ (∀ q ∈ ps, s < q.1 → q.2 + 2 * les ps q.1 ≠ p - 1) ∧ qs.Perm ((s + 1, p - 2 * les rest (s + 1) - 2 * (s + 1)) :: rest)
theorem Add.perm {ps ps' qs qs' : Trs} {p : Int} (h : Add ps p qs) (e : ps.Perm ps') (f : qs.Perm qs') : Add ps' p qs' := by
  obtain ⟨s, rest, h0, h1, h2, h3⟩ := h
  refine ⟨s, rest, h0, ?_, fun q hq hs => ?_, f.symm.trans h3⟩
  · rcases h1 with ⟨a, b⟩ | ⟨a, b⟩
    · exact .inl ⟨a, e.symm.trans b⟩
    · refine .inr ⟨a, ?_⟩
      rw [← les_perm e]
      exact e.symm.trans b
  · rw [← les_perm e]
    exact h2 q (e.mem_iff.mpr hq) hs
theorem Add.uniq {ps qs qs' : Trs} {p : Int} (h : Add ps p qs) (h' : Add ps p qs') : qs.Perm qs' := by
  obtain ⟨s, rest, h0, h1, h2, h3⟩ := h
  obtain ⟨s', rest', h0', h1', h2', h3'⟩ := h'
  have hs : s = s' := by
    rcases h1 with ⟨a, b⟩ | ⟨a, b⟩ <;> rcases h1' with ⟨a', b'⟩ | ⟨a', b'⟩
    · omega
    · exact absurd (show (p - 1 - 2 * les ps s') + 2 * les ps s' = p - 1 by omega) (h2 _ (b'.mem_iff.mpr List.mem_cons_self) (show s < s' by omega))
    · exact absurd (show (p - 1 - 2 * les ps s) + 2 * les ps s = p - 1 by omega) (h2' _ (b.mem_iff.mpr List.mem_cons_self) (show s' < s by omega))
    · rcases Int.lt_trichotomy s s' with l | l | l
      · exact absurd (show (p - 1 - 2 * les ps s') + 2 * les ps s' = p - 1 by omega) (h2 _ (b'.mem_iff.mpr List.mem_cons_self) l)
      · exact l
      · exact absurd (show (p - 1 - 2 * les ps s) + 2 * les ps s = p - 1 by omega) (h2' _ (b.mem_iff.mpr List.mem_cons_self) l)
  subst hs
  have hr : rest.Perm rest' := by
    rcases h1 with ⟨a, b⟩ | ⟨a, b⟩ <;> rcases h1' with ⟨a', b'⟩ | ⟨a', b'⟩
    · exact b.symm.trans b'
    · omega
    · omega
    · exact List.Perm.cons_inv (b.symm.trans b')
  refine h3.trans (List.Perm.trans ?_ h3'.symm)
  rw [les_perm hr]
  exact hr.cons _
theorem Add.bd {ps qs : Trs} {p : Int} (h : Add ps p qs) (b : Bd ps (p - 1)) : Bd qs p := by
  obtain ⟨s, rest, h0, h1, h2, h3⟩ := h
  have hl : ∀ j, 1 ≤ j → les qs j = les ps j + if s < j then 1 else 0 := fun j hj => by
    rw [les_perm h3, les_cons]
    rcases h1 with ⟨a, b⟩ | ⟨a, b⟩
    · rw [les_perm b]
      simp only
      split <;> omega
    · rw [les_perm b, les_cons]
      simp only
      split <;> omega
  intro q hq
  rcases List.mem_cons.mp (h3.mem_iff.mp hq) with rfl | hq
  · refine ⟨show 1 ≤ s + 1 by omega, ?_⟩
    have : les qs (s + 1) = s + 1 + les rest (s + 1) := by
      rw [les_perm h3, les_cons]
      simp only
      omega
    show (p - 2 * les rest (s + 1) - 2 * (s + 1)) + 2 * les qs (s + 1) ≤ p
    omega
  · have hm : q ∈ ps := by
      rcases h1 with ⟨_, e⟩ | ⟨_, e⟩
      · exact e.mem_iff.mpr hq
      · exact e.mem_iff.mpr (List.mem_cons_of_mem _ hq)
    obtain ⟨b1, b2⟩ := b q hm
    refine ⟨b1, ?_⟩
    have := h2 q hm
    rw [hl q.1 b1]
    split <;> omega
noncomputable def Tak (ps : Trs) (p : Int) (qs : Trs) : Prop := ∃ (s : Int) (rest : Trs), 1 ≤ s ∧ ps.Perm ((s, p - 2 * les ps s) :: rest) ∧ (∀ q ∈ ps, q.2 + 2 * les ps q.1 ≤ p) ∧ (∀ q ∈ ps, q.1 < s → q.2 + 2 * les ps q.1 < p) ∧
  (s = 1 ∧ qs.Perm rest ∨ 2 ≤ s ∧ qs.Perm ((s - 1, p - 1 - 2 * les rest (s - 1) - 2 * (s - 1)) :: rest))
theorem Tak.add {ps qs : Trs} {p : Int} (h : Tak ps p qs) (hp : ∀ q ∈ ps, 1 ≤ q.1) : Bd qs (p - 1) ∧ Add qs p ps := by
  obtain ⟨s, rest, h0, h1, h2, h3, h4⟩ := h
  have hl : ∀ j, 0 ≤ j → les ps j = les qs j + if s ≤ j then 1 else 0 := fun j hj => by
    rw [les_perm h1, les_cons]
    rcases h4 with ⟨a, b⟩ | ⟨a, b⟩
    · rw [les_perm b]; simp only; split <;> omega
    · rw [les_perm b, les_cons]; simp only; split <;> omega
  have hold : ∀ q ∈ rest, 1 ≤ q.1 ∧ q.2 + 2 * les qs q.1 ≤ p - 1 ∧ (s ≤ q.1 → q.2 + 2 * les qs q.1 ≤ p - 2) := fun q hq => by
    have hm : q ∈ ps := h1.mem_iff.mpr (List.mem_cons_of_mem _ hq)
    have a1 := hp q hm
    have a2 := h2 q hm
    have a3 := h3 q hm
    have a4 := hl q.1 (by omega)
    refine ⟨a1, ?_, fun hs => ?_⟩
    · by_cases hs : s ≤ q.1
      · rw [if_pos hs] at a4; omega
      · rw [if_neg hs] at a4; have := a3 (by omega); omega
    · rw [if_pos hs] at a4; omega
  have hnew : 2 ≤ s → les qs (s - 1) = (s - 1) + les rest (s - 1) := fun h => by
    rcases h4 with ⟨a, b⟩ | ⟨a, b⟩
    · omega
    · rw [les_perm b, les_cons]; simp only; omega
  refine ⟨fun q hq => ?_, s - 1, rest, by omega, ?_, fun q hq hs => ?_, ?_⟩
  · rcases h4 with ⟨a, b⟩ | ⟨a, b⟩
    · have := hold q (b.mem_iff.mp hq); exact ⟨this.1, this.2.1⟩
    · rcases List.mem_cons.mp (b.mem_iff.mp hq) with rfl | hq
      · refine ⟨show 1 ≤ s - 1 by omega, ?_⟩
        have := hnew a
        show (p - 1 - 2 * les rest (s - 1) - 2 * (s - 1)) + 2 * les qs (s - 1) ≤ p - 1
        omega
      · have := hold q hq; exact ⟨this.1, this.2.1⟩
  · rcases h4 with ⟨a, b⟩ | ⟨a, b⟩
    · exact .inl ⟨by omega, b⟩
    · refine .inr ⟨by omega, ?_⟩
      have e : p - 1 - 2 * les qs (s - 1) = p - 1 - 2 * les rest (s - 1) - 2 * (s - 1) := by have := hnew a; omega
      rw [e]
      exact b
  · have hq' : q ∈ rest := by
      rcases h4 with ⟨a, b⟩ | ⟨a, b⟩
      · exact b.mem_iff.mp hq
      · rcases List.mem_cons.mp (b.mem_iff.mp hq) with rfl | hq
        · exact absurd hs (by show ¬ (s - 1 < s - 1); omega)
        · exact hq
    have := (hold q hq').2.2 (by omega)
    omega
  · have e : s - 1 + 1 = s := by omega
    rw [e]
    have e2 : p - 2 * les rest s - 2 * s = p - 2 * les ps s := by rw [les_perm h1, les_cons]; simp only; omega
    rw [e2]
    exact h1
theorem Add.tak {ps qs : Trs} {p : Int} (h : Add ps p qs) (b : Bd ps (p - 1)) : Tak qs p ps := by
  have hb := h.bd b
  obtain ⟨s, rest, h0, h1, h2, h3⟩ := h
  have hl : ∀ j, 0 ≤ j → les qs j = les ps j + if s < j then 1 else 0 := fun j hj => by
    rw [les_perm h3, les_cons]
    rcases h1 with ⟨a, b⟩ | ⟨a, b⟩
    · rw [les_perm b]; simp only; split <;> omega
    · rw [les_perm b, les_cons]; simp only; split <;> omega
  have e2 : p - 2 * les qs (s + 1) = p - 2 * les rest (s + 1) - 2 * (s + 1) := by rw [les_perm h3, les_cons]; simp only; omega
  refine ⟨s + 1, rest, by omega, by rw [e2]; exact h3, fun q hq => (hb q hq).2, fun q hq hs => ?_, ?_⟩
  · rcases List.mem_cons.mp (h3.mem_iff.mp hq) with rfl | hq
    · exact absurd hs (by show ¬ (s + 1 < s + 1); omega)
    · have hm : q ∈ ps := by
        rcases h1 with ⟨_, e⟩ | ⟨_, e⟩
        · exact e.mem_iff.mpr hq
        · exact e.mem_iff.mpr (List.mem_cons_of_mem _ hq)
      obtain ⟨b1, b2⟩ := b q hm
      have := hl q.1 (by omega)
      rw [if_neg (by omega)] at this
      omega
  · rcases h1 with ⟨a, e⟩ | ⟨a, e⟩
    · exact .inl ⟨by omega, e⟩
    · refine .inr ⟨by omega, ?_⟩
      have e3 : s + 1 - 1 = s := by omega
      rw [e3]
      have e4 : p - 1 - 2 * les rest s - 2 * s = p - 1 - 2 * les ps s := by rw [les_perm e, les_cons]; simp only; omega
      rw [e4]
      exact e
theorem Tak.uniq {ps ps' qs qs' : Trs} {p p' : Int} (h : Tak ps p qs) (h' : Tak ps' p' qs') (e : ps.Perm ps') : p = p' ∧ qs.Perm qs' := by
  obtain ⟨s, rest, h0, h1, h2, h3, h4⟩ := h
  obtain ⟨s', rest', h0', h1', h2', h3', h4'⟩ := h'
  have m1 : (s, p - 2 * les ps s) ∈ ps := h1.mem_iff.mpr List.mem_cons_self
  have m2 : (s', p' - 2 * les ps' s') ∈ ps' := h1'.mem_iff.mpr List.mem_cons_self
  have a1 := h2' _ (e.mem_iff.mp m1)
  have a2 := h2 _ (e.mem_iff.mpr m2)
  have l1 := les_perm e s
  have l2 := les_perm e s'
  simp only at a1 a2
  have hp : p = p' := by omega
  subst hp
  have b1 := h3' _ (e.mem_iff.mp m1)
  have b2 := h3 _ (e.mem_iff.mpr m2)
  simp only at b1 b2
  have hs : s = s' := by
    rcases Int.lt_trichotomy s s' with l | l | l
    · have := b1 l; omega
    · exact l
    · have := b2 l; omega
  subst hs
  rw [← l1] at h1'
  have hr : rest.Perm rest' := List.Perm.cons_inv ((h1.symm.trans e).trans h1')
  refine ⟨rfl, ?_⟩
  rcases h4 with ⟨a, b⟩ | ⟨a, b⟩ <;> rcases h4' with ⟨a', b'⟩ | ⟨a', b'⟩
  · exact b.trans (hr.trans b'.symm)
  · omega
  · omega
  · refine b.trans (List.Perm.trans ?_ b'.symm)
    rw [les_perm hr]
    exact hr.cons _
inductive Lst : List Int → Trs → Prop
  | nil : Lst [] []
  | snoc {r : List Int} {ps : Trs} {p : Int} {qs : Trs} : Lst r ps → (∀ x ∈ r, x < p) → Add ps p qs → Lst (r ++ [p]) qs
theorem Add.ne {ps qs : Trs} {p : Int} (h : Add ps p qs) : qs ≠ [] := by
  obtain ⟨s, rest, _, _, _, h3⟩ := h
  intro e
  rw [e] at h3
  exact absurd h3.symm.eq_nil (by simp)
theorem Lst.perm {r : List Int} {ps qs : Trs} (h : Lst r ps) (e : ps.Perm qs) : Lst r qs := by
  cases h with
  | nil => rw [e.symm.eq_nil]; exact .nil
  | snoc a b c => exact .snoc a b (c.perm (.refl _) e)
theorem Lst.inv {r : List Int} {p : Int} {qs : Trs} (h : Lst (r ++ [p]) qs) : ∃ ps, Lst r ps ∧ (∀ x ∈ r, x < p) ∧ Add ps p qs := by
  generalize e : r ++ [p] = t at h
  cases h with
  | nil => simp at e
  | snoc a b c =>
    obtain ⟨rfl, e2⟩ := List.append_inj' e rfl
    obtain rfl : p = _ := by simpa using e2
    exact ⟨_, a, b, c⟩
theorem Lst.nilr {qs : Trs} (h : Lst [] qs) : qs = [] := by
  generalize e : ([] : List Int) = t at h
  cases h with
  | nil => rfl
  | snoc a b c => simp at e
theorem Lst.bd {r : List Int} {ps : Trs} (h : Lst r ps) {n : Int} : (∀ x ∈ r, x ≤ n) → Bd ps n := by
  induction h generalizing n with
  | nil => intro _ q hq; cases hq
  | snoc a b c ih =>
    intro hn
    rename_i r ps p qs
    have hp : p ≤ n := hn p (by simp)
    have := ih (n := p - 1) fun x hx => by have := b x hx; omega
    exact (c.bd this).mono hp
theorem Lst.uniq {r : List Int} {ps qs : Trs} (h : Lst r ps) (h' : Lst r qs) : ps.Perm qs := by
  induction h generalizing qs with
  | nil => rw [h'.nilr]
  | snoc a b c ih =>
    obtain ⟨ps', a', b', c'⟩ := h'.inv
    exact (c.perm (ih a') (.refl _)).uniq c'
theorem Lst.row {r : List Int} {ps : Trs} (h : Lst r ps) {r' : List Int} {qs : Trs} (h' : Lst r' qs) (e : ps.Perm qs) : r = r' := by
  induction h generalizing r' qs with
  | nil =>
    cases h' with
    | nil => rfl
    | snoc a b c => exact absurd e.symm.eq_nil c.ne
  | snoc a b c ih =>
    cases h' with
    | nil => exact absurd e.eq_nil c.ne
    | snoc a' b' c' =>
      rename_i r ps p qs r' ps' p'
      have bd := a.bd (n := p - 1) fun x hx => by have := b x hx; omega
      have bd' := a'.bd (n := p' - 1) fun x hx => by have := b' x hx; omega
      obtain ⟨rfl, e2⟩ := (c.tak bd).uniq (c'.tak bd') e
      rw [ih a' e2]
theorem Lst.tak {r : List Int} {ps qs : Trs} {p : Int} (h : Lst r qs) (t : Tak ps p qs) (hp : ∀ q ∈ ps, 1 ≤ q.1) (hr : ∀ x ∈ r, x < p) : Lst (r ++ [p]) ps := .snoc h hr (t.add hp).2
noncomputable def siz (ps : Trs) : Int := (ps.map (·.1)).sum
theorem siz_perm {ps qs : Trs} (h : ps.Perm qs) : siz ps = siz qs := by
  unfold siz
  induction h with
  | nil => rfl
  | cons x _ ih => simp only [List.map_cons, List.sum_cons]; omega
  | swap x y l => simp only [List.map_cons, List.sum_cons]; omega
  | trans _ _ h1 h2 => exact h1.trans h2
theorem siz_cons (q : Int × Int) (ps : Trs) : siz (q :: ps) = q.1 + siz ps := by simp [siz]
theorem Add.sizx {ps qs : Trs} {p : Int} (h : Add ps p qs) : siz qs = siz ps + 1 := by
  obtain ⟨s, rest, h0, h1, h2, h3⟩ := h
  rw [siz_perm h3, siz_cons]
  rcases h1 with ⟨a, b⟩ | ⟨a, b⟩
  · rw [siz_perm b]; simp only; omega
  · rw [siz_perm b, siz_cons]; simp only; omega
theorem Lst.sizx {r : List Int} {ps : Trs} (h : Lst r ps) : siz ps = (r.length : Int) := by
  induction h with
  | nil => rfl
  | snoc a b c ih => rw [c.sizx, ih]; simp
theorem Lst.pos {r : List Int} {ps : Trs} (h : Lst r ps) : ∀ q ∈ ps, 1 ≤ q.1 := by
  obtain ⟨n, hn⟩ : ∃ n : Int, ∀ x ∈ r, x ≤ n := by
    clear h
    induction r with
    | nil => exact ⟨0, fun x hx => (nomatch hx)⟩
    | cons a r ih =>
      obtain ⟨n, hn⟩ := ih
      refine ⟨max a n, fun x hx => ?_⟩
      rcases List.mem_cons.mp hx with rfl | hx
      · omega
      · have := hn x hx; omega
  exact fun q hq => (h.bd hn q hq).1
end CW

set_option Elab.async false
set_option linter.all false
set_option maxRecDepth 100000
set_option maxHeartbeats 4000000
namespace CW
open PySem L2
end CW

set_option Elab.async false
set_option linter.all false
set_option maxRecDepth 100000
set_option maxHeartbeats 4000000
namespace L2
open PySem PySem.Spec PyProof.Rows
end L2

namespace L2
open PySem PySem.Spec PyProof.Rows
section
variable {X : Cx} {pins : List (Addr × Obj)} {σ : St} {inn : Scope} {js : List Nat} {cs ts : List Str} {nt lo : Nat} {elt tg iter t2 i2 : Expr} {ifs f2 : List Expr} {pos : Pos} {g g2 : TG} {tt tt2 : TT} {te : TE} {wi wi2 : TI}
end
end L2

set_option Elab.async false
set_option linter.all false
set_option maxRecDepth 100000
set_option maxHeartbeats 4000000
namespace L2
open PySem PySem.Spec PyProof.Rows
theorem pi_listK {X : Cx} {tg : Expr} (K : PySem.W.Frag) (h : X.K = K) {l : Expr} {tl : TE} (hl : PE X l tl) : PI X tg l (iList K tl) := h ▸ pi_list hl
noncomputable def tSeqO (t u : TS) : TS := fun D σ H => ∀ M : St → Hp → Prop, (∀ σ' H', u D σ' H' → M σ' H') → t { D with nx := M } σ H
theorem pss_consO {X : Cx} {st : Stmt} {rest : List Stmt} {t u : TS} (h1 : PS X st t) (h2 : PSs X rest u) : PSs X (st :: rest) (tSeqO t u) := fun pins s σ H D I h => pss_cons h1 h2 pins s σ H D I (h (u D) fun _ _ z => z)
end L2
namespace L2
open PySem
end L2

set_option Elab.async false
set_option linter.all false
set_option maxRecDepth 100000
set_option maxHeartbeats 1000000
namespace L2
open PySem PySem.Spec PyProof.Rows PySem.SeqAt PySem.MeetsSeq
open PySem.AutoSeq1 (wpAny_loadPart')
section
variable {X : Cx}
end
end L2

set_option Elab.async false
set_option linter.all false
set_option maxRecDepth 100000
set_option maxHeartbeats 4000000
namespace CW
open PySem L2
section
variable {P : Program} {w : World} {K : PySem.W.Frag} {mg : Str → Option Value} {base : Heap}
end
end CW
namespace CW
open PySem L2
end CW
namespace CW
open PySem L2
end CW
namespace CW
open PySem L2
theorem Lst.few {row : List Int} {qs : Trs} (h : Lst row qs) (hl : row.length ≤ 60) : qs.length ≤ 60 := by
  have h3 := len_le_sum h.pos
  have h4 : (szs qs).sum = siz qs := rfl
  have h5 := h.sizx
  omega
end CW

set_option Elab.async false
set_option linter.all false
set_option maxRecDepth 100000
set_option maxHeartbeats 1000000
namespace L2
open PySem PySem.Spec PyProof.Rows
section
variable {prog : Program} {w : World} {A : Around} {R : Result → Shared → Prop} {l it S : Addr} {its : List Value} {ns : List Int}
end
section
variable {X : Cx}
end
end L2

set_option Elab.async false
set_option linter.all false
set_option maxRecDepth 100000
set_option maxHeartbeats 4000000
namespace CW
open PySem L2
theorem Tak.pos {ps qs : Trs} {p : Int} (h : Tak ps p qs) (hp : ∀ q ∈ ps, 1 ≤ q.1) : ∀ q ∈ qs, 1 ≤ q.1 := fun q hq => ((h.add hp).1 q hq).1
theorem Tak.sizx {ps qs : Trs} {p : Int} (h : Tak ps p qs) (hp : ∀ q ∈ ps, 1 ≤ q.1) : siz ps = siz qs + 1 := (h.add hp).2.sizx
section
variable {P : Program} {w : World} {K : PySem.W.Frag} {mg : Str → Option Value} {base : Heap}
end
end CW
namespace CW
open PySem L2
end CW

set_option Elab.async false
set_option linter.all false
set_option maxRecDepth 100000
set_option maxHeartbeats 4000000
namespace CW
open PySem L2
end CW

set_option Elab.async false
set_option linter.all false
set_option maxHeartbeats 4000000
namespace CW
noncomputable def tr (s o : Int) (rest : Trs) : Trs := if s = 0 then rest else (s, o) :: rest
end CW

set_option Elab.async false
set_option linter.all false
set_option maxHeartbeats 4000000
namespace CW
end CW

set_option Elab.async false
set_option linter.all false
set_option maxRecDepth 100000
set_option maxHeartbeats 1000000
namespace L2
open PySem PySem.Spec PyProof.Rows
end L2

set_option Elab.async false
set_option linter.all false
set_option maxRecDepth 100000
set_option maxHeartbeats 4000000
namespace CW
open PySem L2
section
variable {P : Program} {w : World} {K : PySem.W.Frag} {mg : Str → Option Value} {base : Heap}
end
end CW
namespace CW
open PySem L2
noncomputable def Near (b : Int) (r : List Int) : Prop := ∀ x ∈ r, -b ≤ x ∧ x ≤ b
theorem Near.mono {b c : Int} {r : List Int} (h : Near b r) (e : b ≤ c) : Near c r := fun x hx => by have := h x hx; omega
section
variable {P : Program} {w : World} {K : PySem.W.Frag} {mg : Str → Option Value} {base : Heap}
end
end CW
namespace CW
open PySem L2
end CW

set_option Elab.async false
set_option linter.all false
set_option maxRecDepth 100000
set_option maxHeartbeats 4000000
namespace CW
open PySem L2
noncomputable def peelG (a : Int) : List Int → List Int
  | [] => []
  | [_] => []
  | x :: y :: r => if y = x + 1 then (x - 2 * a) :: peelG a (y :: r) else peelG (a + 1) (y :: r)
noncomputable def stG : List Int → Nat
  | [] => 0
  | [_] => 1
  | x :: y :: r => if y = x + 1 then stG (y :: r) else stG (y :: r) + 1
theorem peel_ge : ∀ (r : List Int) (a x : Int), Row (x :: r) → ∀ z ∈ peelG a (x :: r), x - 2 * a ≤ z
  | [], a, x, _, z, hz => by simp [peelG] at hz
  | y :: r, a, x, h, z, hz => by
    have h' := List.pairwise_cons.mp h
    have hxy := h'.1 y List.mem_cons_self
    unfold peelG at hz
    split at hz
    · rename_i e
      rcases List.mem_cons.mp hz with q | q
      · omega
      · have := peel_ge r a y h'.2 z q
        omega
    · have := peel_ge r (a + 1) y h'.2 z hz
      omega
end CW

set_option Elab.async false
set_option linter.all false
set_option maxRecDepth 100000
set_option maxHeartbeats 4000000
namespace CW
open PySem L2
noncomputable def endsG : List Int → List Int
  | [] => []
  | [x] => [x]
  | x :: y :: r => if y = x + 1 then endsG (y :: r) else x :: endsG (y :: r)
theorem runs_from : ∀ (r : List Int) (A : List (Int × Int)) (f z : Int), (r.foldl stepR (A ++ [(f, z)])).length = A.length + stG (z :: r) ∧ (r.foldl stepR (A ++ [(f, z)])).map (·.2) = A.map (·.2) ++ endsG (z :: r)
  | [], A, f, z => by
    refine ⟨?_, ?_⟩
    · show (A ++ [(f, z)]).length = A.length + 1
      simp
    · show (A ++ [(f, z)]).map (·.2) = A.map (·.2) ++ [z]
      simp
  | y :: r, A, f, z => by
    show ((r.foldl stepR (stepR (A ++ [(f, z)]) y)).length = _ ∧ _)
    rw [show List.foldl stepR (A ++ [(f, z)]) (y :: r) = r.foldl stepR (stepR (A ++ [(f, z)]) y) from rfl, stepR_snoc]
    by_cases hy : y = z + 1
    · rw [if_pos (show (f, z).2 = y - 1 by show z = y - 1; omega)]
      have e1 : stG (z :: y :: r) = stG (y :: r) := if_pos hy
      have e2 : endsG (z :: y :: r) = endsG (y :: r) := if_pos hy
      rw [e1, e2]
      exact runs_from r A f y
    · rw [if_neg (show ¬ (f, z).2 = y - 1 by show ¬ z = y - 1; omega)]
      have e1 : stG (z :: y :: r) = stG (y :: r) + 1 := if_neg hy
      have e2 : endsG (z :: y :: r) = z :: endsG (y :: r) := if_neg hy
      obtain ⟨k1, k2⟩ := runs_from r (A ++ [(f, z)]) y y
      rw [e1, e2, k1, k2]
      refine ⟨?_, ?_⟩
      · rw [List.length_append, List.length_singleton]; omega
      · simp
theorem runs_st (row : List Int) : (runsM row).length = stG row := by
  cases row with
  | nil => rfl
  | cons x r => exact (runs_from r [] x x).1.trans (by simp)
theorem runs_ends (row : List Int) : (runsM row).map (·.2) = endsG row := by
  cases row with
  | nil => rfl
  | cons x r => exact (runs_from r [] x x).2
theorem ends_ge : ∀ (r : List Int) (x : Int), Row (x :: r) → ∀ z ∈ endsG (x :: r), x ≤ z
  | [], x, _, z, hz => by rw [List.mem_singleton.mp hz]; exact Int.le_refl _
  | y :: r, x, h, z, hz => by
    have h' := List.pairwise_cons.mp h
    have hxy := h'.1 y List.mem_cons_self
    unfold endsG at hz
    split at hz
    · have := ends_ge r y h'.2 z hz
      omega
    · rcases List.mem_cons.mp hz with q | q
      · omega
      · have := ends_ge r y h'.2 z q
        omega
theorem peel_len : ∀ (row : List Int) (a : Int), (peelG a row).length + stG row = row.length
  | [], a => rfl
  | [x], a => rfl
  | x :: y :: r, a => by
    by_cases hy : y = x + 1
    · have e1 : stG (x :: y :: r) = stG (y :: r) := if_pos hy
      have e2 : peelG a (x :: y :: r) = (x - 2 * a) :: peelG a (y :: r) := if_pos hy
      have := peel_len (y :: r) a
      rw [e1, e2, List.length_cons, List.length_cons]
      omega
    · have e1 : stG (x :: y :: r) = stG (y :: r) + 1 := if_neg hy
      have e2 : peelG a (x :: y :: r) = peelG (a + 1) (y :: r) := if_neg hy
      have := peel_len (y :: r) (a + 1)
      rw [e1, e2, List.length_cons]
      omega
theorem peel_row : ∀ (row : List Int) (a : Int), Row row → Row (peelG a row)
  | [], a, _ => List.Pairwise.nil
  | [x], a, _ => List.Pairwise.nil
  | x :: y :: r, a, h => by
    have h' := List.pairwise_cons.mp h
    by_cases hy : y = x + 1
    · have e2 : peelG a (x :: y :: r) = (x - 2 * a) :: peelG a (y :: r) := if_pos hy
      rw [e2]
      refine List.pairwise_cons.mpr ⟨fun z hz => ?_, peel_row (y :: r) a h'.2⟩
      have := peel_ge r a y h'.2 z hz
      omega
    · have e2 : peelG a (x :: y :: r) = peelG (a + 1) (y :: r) := if_neg hy
      rw [e2]
      exact peel_row (y :: r) (a + 1) h'.2
end CW

set_option Elab.async false
set_option linter.all false
set_option maxRecDepth 100000
set_option maxHeartbeats 4000000
namespace CW
open PySem L2
noncomputable def peelN : Nat → List Int → List Int
  | 0, r => r
  | k + 1, r => peelG 0 (peelN k r)
theorem peelN_row {row : List Int} (h : Row row) : ∀ k, Row (peelN k row)
  | 0 => h
  | k + 1 => peel_row _ 0 (peelN_row h k)
end CW

set_option Elab.async false
set_option linter.all false
set_option maxRecDepth 100000
set_option maxHeartbeats 4000000
namespace CW
open PySem L2
theorem ends_ne : ∀ (r : List Int) (x : Int), ∃ z t, endsG (x :: r) = z :: t
  | [], x => ⟨x, [], rfl⟩
  | y :: r, x => by
    by_cases hy : y = x + 1
    · rw [show endsG (x :: y :: r) = endsG (y :: r) from if_pos hy]
      exact ends_ne r y
    · exact ⟨x, endsG (y :: r), if_neg hy⟩
theorem drop_at {α : Type} {l t : List α} {i : Nat} {x : α} (h : l.drop i = x :: t) : l[i]? = some x ∧ l.drop (i + 1) = t := by
  refine ⟨?_, ?_⟩
  · have := congrArg (fun z : List α => z[0]?) h
    simpa [List.getElem?_drop] using this
  · rw [← List.drop_drop, h]
    rfl
theorem pl_step {E row stays P : List Int} {i a : Nat} {x : Int} (hr : Row row) (hx : row[i]? = some x) (hE : E.drop a = endsG (row.drop i)) (hs : stays ++ peelG a (row.drop i) = P) :
    ∃ z, E[a]? = some z ∧ ((x = z ∧ E.drop (a + 1) = endsG (row.drop (i + 1)) ∧ stays ++ peelG ((a + 1 : Nat) : Int) (row.drop (i + 1)) = P) ∨ (x ≠ z ∧ E.drop a = endsG (row.drop (i + 1)) ∧ (stays ++ [x - 2 * (a : Int)]) ++ peelG a (row.drop (i + 1)) = P)) := by
  obtain ⟨hi, ex⟩ := List.getElem?_eq_some_iff.mp hx
  have hd : row.drop i = x :: row.drop (i + 1) := by rw [List.drop_eq_getElem_cons hi, ex]
  have hrd : Row (row.drop i) := List.Pairwise.sublist (List.drop_sublist i row) hr
  rw [hd] at hE hs hrd
  generalize row.drop (i + 1) = t at hE hs hrd ⊢
  cases t with
  | nil =>
    obtain ⟨k1, k2⟩ := drop_at (t := []) (x := x) hE
    exact ⟨x, k1, .inl ⟨rfl, k2, hs⟩⟩
  | cons y r =>
    have h' := List.pairwise_cons.mp hrd
    have hxy := h'.1 y List.mem_cons_self
    by_cases hy : y = x + 1
    · rw [show endsG (x :: y :: r) = endsG (y :: r) from if_pos hy] at hE
      rw [show peelG (a : Int) (x :: y :: r) = (x - 2 * (a : Int)) :: peelG a (y :: r) from if_pos hy] at hs
      obtain ⟨z, t, ez⟩ := ends_ne r y
      have hz := ends_ge r y h'.2 z (by rw [ez]; exact List.mem_cons_self)
      obtain ⟨k1, k2⟩ := drop_at (hE.trans ez)
      exact ⟨z, k1, .inr ⟨by omega, hE, by rw [List.append_assoc]; exact hs⟩⟩
    · rw [show endsG (x :: y :: r) = x :: endsG (y :: r) from if_neg hy] at hE
      rw [show peelG (a : Int) (x :: y :: r) = peelG ((a : Int) + 1) (y :: r) from if_neg hy] at hs
      obtain ⟨k1, k2⟩ := drop_at hE
      exact ⟨x, k1, .inl ⟨rfl, k2, by rw [show ((a + 1 : Nat) : Int) = (a : Int) + 1 by omega]; exact hs⟩⟩
theorem st_pos : ∀ (r : List Int) (x : Int), 1 ≤ stG (x :: r)
  | [], x => Nat.le_refl _
  | y :: r, x => by
    by_cases hy : y = x + 1
    · rw [show stG (x :: y :: r) = stG (y :: r) from if_pos hy]
      exact st_pos r y
    · rw [show stG (x :: y :: r) = stG (y :: r) + 1 from if_neg hy]
      omega
inductive spPeeled (vs : List V) (H : Hp) (Q : VK) (E_ : XK) : Prop
  | mk (a : Addr) (row : List Int) (h0_ : vs = [.ref a]) (h1_ : H a = some (.lst (row.map V.int))) (h2_ : Row row) (h3_ : row.length ≤ 60) (h4_ : RetL H Q (peelG 0 row)) : spPeeled vs H Q E_
inductive spRounds (vs : List V) (H : Hp) (Q : VK) (E_ : XK) : Prop
  | mk (a : Addr) (row : List Int) (h0_ : vs = [.ref a]) (h1_ : H a = some (.lst (row.map V.int))) (h2_ : Row row) (h3_ : row.length ≤ 60) (h4_ : ∀ n : Nat, peelN n row = [] → (∀ k, k < n → peelN k row ≠ []) → RetL H Q ((List.range n).map fun k => (stG (peelN k row) : Int))) : spRounds vs H Q E_
end CW

set_option Elab.async false
set_option linter.all false
set_option maxRecDepth 100000
namespace L2
open PySem PySem.Spec PyProof.Rows
section
variable {K : PySem.W.Frag} {x qual : Str} {st : Stmt} {f : Addr} {fd : FuncData} {p1 p2 p3 p4 : Str}
theorem Fun.binds1 (F : Fun K x qual st f fd) (h : ∀ (kV doc pm : Value) (an : Option Addr) (cdv ct u : Value), bindArgs (PySem.W.fnOf x qual (defArgs st) (defBody st) (defScope st) .none kV doc pm an cdv ct) ⟨[u], []⟩ = pure [(p1, u)]) : Binds K fd [p1] [] :=
  F.binds fun a b c d e g us hl => match us, hl with | [u], _ => h a b c d e g u
theorem Fun.binds2 (F : Fun K x qual st f fd) (h : ∀ (kV doc pm : Value) (an : Option Addr) (cdv ct u v : Value), bindArgs (PySem.W.fnOf x qual (defArgs st) (defBody st) (defScope st) .none kV doc pm an cdv ct) ⟨[u, v], []⟩ = pure [(p1, u), (p2, v)]) : Binds K fd [p1, p2] [] :=
  F.binds fun a b c d e g us hl => match us, hl with | [u, v], _ => h a b c d e g u v
end
end L2

set_option Elab.async false
set_option linter.all false
set_option maxRecDepth 100000
set_option maxHeartbeats 4000000
namespace L2
open PySem PySem.Spec PyProof.Rows
structure CompOkC (sc inn : Scope) (N : List Str) (js : List Nat) (cs : List Str) : Prop where
  kind : inn.kind = .function
  names : ∀ y ∈ inn.names, y.2 = .local → inn.names.lookup y.1 = some .local
  cells : ∀ y ∈ inn.names, y.2 = .cell → inn.names.lookup y.1 = some .cell
  frees : ∀ y ∈ inn.names, y.2 = .free → sc.names.lookup y.1 = some .cell ∨ sc.names.lookup y.1 = some .free
  slots : (js.map fun j => N[j]?) = cs.map some
  caps : ∀ x ∈ cs, inn.names.lookup x = some .free
noncomputable def compOkC (sc inn : Scope) (N : List Str) (js : List Nat) (cs : List Str) : Bool :=
  (inn.kind == .function) && inn.names.all (fun y => (y.2 != .cell || inn.names.lookup y.1 == some .cell) && (y.2 != .local || inn.names.lookup y.1 == some .local) && (y.2 != .free || (sc.names.lookup y.1 == some .cell || sc.names.lookup y.1 == some .free))) &&
  (js.map fun j => N[j]?) == cs.map some && cs.all (fun x => inn.names.lookup x == some .free)
theorem CompOkC.of {sc inn : Scope} {N : List Str} {js : List Nat} {cs : List Str} (h : compOkC sc inn N js cs = true) : CompOkC sc inn N js cs := by
  unfold compOkC at h
  simp only [Bool.and_eq_true] at h
  obtain ⟨⟨⟨h1, h2⟩, h3⟩, h4⟩ := h
  rw [List.all_eq_true] at h2 h4
  refine ⟨by simpa using h1, fun y hy e => ?_, fun y hy e => ?_, fun y hy e => ?_, by simpa using h3, fun x hx => by simpa using h4 x hx⟩
  · have := h2 y hy
    simp only [Bool.and_eq_true, e] at this
    simpa using this.1.2
  · have := h2 y hy
    simp only [Bool.and_eq_true, e] at this
    simpa using this.1.1
  · have := h2 y hy
    simp only [Bool.and_eq_true, e] at this
    simpa using this.2
noncomputable def isCel (inn : Scope) (x : Str) : Bool := match inn.names.lookup x with | some .cell => true | _ => false
theorem isCel_iff {inn : Scope} {x : Str} (h : isCel inn x = true) : inn.names.lookup x = some .cell := by
  unfold isCel at h
  split at h
  · assumption
  · cases h
noncomputable def cxInC (X : Cx) (inn : Scope) (N' : List Str) (s₀ : Shared) (H₀ : Hp) (ex : List Addr) : Cx :=
  { cxIn X inn N' s₀ H₀ ex with env := compEnvC inn (cellsFrom (s₀.heap.objs.size + 1) inn.names (closL inn X.env)) s₀.heap.objs.size X.env, fn := fun x => isCel inn x }
theorem cells_app : ∀ (names : List (Str × NameKind)) (n : Nat) (acc : List (Str × Addr)), cellsFrom n names acc = cellsFrom n names [] ++ acc
  | [], _, _ => rfl
  | (x, k) :: r, n, acc => by
    unfold cellsFrom
    split
    · rw [cells_app r (n + 1) ((x, n) :: acc), cells_app r (n + 1) [(x, n)], List.append_assoc]
      rfl
    · exact cells_app r n acc
theorem cells_mem {x : Str} {c : Addr} : ∀ (names : List (Str × NameKind)) (n : Nat) (acc : List (Str × Addr)), (x, c) ∈ cellsFrom n names acc → (x, NameKind.cell) ∈ names ∨ (x, c) ∈ acc
  | [], _, _, h => .inr h
  | (y, k) :: r, n, acc, h => by
    unfold cellsFrom at h
    split at h
    · rename_i hk
      rcases cells_mem r _ _ h with q | q
      · exact .inl (List.mem_cons_of_mem _ q)
      · rcases List.mem_cons.mp q with e | q
        · cases e
          have : k = .cell := by simpa using hk
          rw [this]
          exact .inl List.mem_cons_self
        · exact .inr q
    · rcases cells_mem r _ _ h with q | q
      · exact .inl (List.mem_cons_of_mem _ q)
      · exact .inr q
theorem own_ok {inn : Scope} (h : Heap) : (∀ x c, (x, c) ∈ cellsFrom (h.objs.size + 1) inn.names [] → (pushCells (h.push { cls := .type "dict", data := .dict #[] }) inn.names).IsCell c none) ∧ (∀ x c, (x, c) ∈ cellsFrom (h.objs.size + 1) inn.names [] → h.objs.size < c) ∧ (cellsFrom (h.objs.size + 1) inn.names []).Pairwise fun x y => x.2 ≠ y.2 := by
  have ok := cellsFrom_ok inn.names (h.push { cls := .type "dict", data := .dict #[] }) (h.objs.size + 1) [] ⟨fun _ _ hm => (nomatch hm), List.Pairwise.nil⟩ (by rw [Heap.size_push]; exact Nat.le_refl _)
  rw [Heap.size_push] at ok
  exact ⟨fun x c hm => (ok.empty x c hm).1, fun x c hm => (ok.empty x c hm).2, ok.apart⟩
theorem lookup_app {x : Str} : ∀ (a b : List (Str × Addr)), (a ++ b).lookup x = (a.lookup x).or (b.lookup x)
  | [], _ => rfl
  | (y, c) :: a, b => by
    rw [List.cons_append, List.lookup_cons, List.lookup_cons]
    cases x == y with
    | true => rfl
    | false => exact lookup_app a b
theorem cl_cases {inn : Scope} {n : Nat} {cl : List (Str × Addr)} {x : Str} {c : Addr} (h : (cellsFrom n inn.names cl).lookup x = some c) : (x, c) ∈ cellsFrom n inn.names [] ∨ cl.lookup x = some c := by
  rw [cells_app, lookup_app] at h
  cases e : (cellsFrom n inn.names []).lookup x with
  | none => rw [e] at h; exact .inr h
  | some d =>
    rw [e] at h
    cases h
    exact .inl (PySem.mem_of_lookup e)
theorem cl_free {inn : Scope} {n : Nat} {cl : List (Str × Addr)} {x : Str} {c : Addr} (hc : ∀ y ∈ inn.names, y.2 = .cell → inn.names.lookup y.1 = some .cell) (hx : inn.names.lookup x = some .free) (h : cl.lookup x = some c) : (cellsFrom n inn.names cl).lookup x = some c := by
  rw [cells_app, lookup_app]
  cases e : (cellsFrom n inn.names []).lookup x with
  | none => exact h
  | some d =>
    rcases cells_mem inn.names _ _ (PySem.mem_of_lookup e) with q | q
    · have := hc _ q rfl
      rw [hx] at this
      cases this
    · cases q
theorem relabel_mem {env : Env} : ∀ {names : List (Str × NameKind)} {x : Str}, ((names.map fun (n, k) => if (k == NameKind.free && env.scope.kind == .function && env.kindOf n == some .cell) then (n, NameKind.cell) else (n, k)).lookup x = some .cell ∨
    (names.map fun (n, k) => if (k == NameKind.free && env.scope.kind == .function && env.kindOf n == some .cell) then (n, NameKind.cell) else (n, k)).lookup x = some .free) → names.lookup x = some .cell ∨ names.lookup x = some .free
  | [], _, h => by simp at h
  | (n, k) :: r, x, h => by
    have ih := @relabel_mem env r x
    rw [List.map_cons] at h
    cases hx : x == n with
    | true =>
      simp only [List.lookup_cons, hx]
      by_cases hc : (k == NameKind.free && env.scope.kind == .function && env.kindOf n == some .cell) = true
      · have : k = .free := by simp only [Bool.and_eq_true] at hc; simpa using hc.1.1
        subst this
        exact .inr rfl
      · simp only [if_neg hc, List.lookup_cons, hx] at h
        exact h
    | false =>
      simp only [List.lookup_cons, hx]
      refine ih ?_
      by_cases hc : (k == NameKind.free && env.scope.kind == .function && env.kindOf n == some .cell) = true
      · simp only [if_pos hc, List.lookup_cons, hx] at h; exact h
      · simp only [if_neg hc, List.lookup_cons, hx] at h; exact h
section
variable {M : Model} {A : Around} {E : Value → Shared → Prop} {s : Shared}
theorem newEnvC {scope : Scope} {globals : Addr} {cl : List (Str × Addr)} {qual : Str} {func : Option Addr} {code : Value} {around : Env} {builtins : Addr} {Q : Env → Shared → Prop}
    (hQ : Q { scope := scope, locals := s.heap.objs.size, globals := globals, cells := cellsFrom (s.heap.objs.size + 1) scope.names cl, qual := qual, func := func, code := around.code, frame := around.frame, builtins := around.builtins } { s with heap := pushCells (s.heap.push { cls := .type "dict", data := .dict #[] }) scope.names }) :
    wpAny M A (newFunctionEnv scope globals cl [] qual func code (some around) builtins) Q E s := by
  simp only [newFunctionEnv, Option.isSome_some, if_true]
  refine wpAny_bind (wpAny_alloc ?_)
  refine wpAny_bind (wpAny_layCells _ (fun name kind cells => by cases hkc : kind == NameKind.cell <;> simp [hkc]) _ _ _ _ ?_)
  rw [show ({ s with heap := s.heap.push { cls := .type "dict", data := .dict #[] } } : Shared).heap.objs.size = s.heap.objs.size + 1 from Heap.size_push ..]
  refine wpAny_bind ?_
  rw [List.forIn_nil]
  exact wpAny_pure (wpAny_pure hQ)
end
section
variable {X : Cx} {pins : List (Addr × Obj)} {σ : St} {H H' : Hp} {s : Shared} {inn : Scope} {js : List Nat} {cs ts : List Str} {nt : Nat}
theorem cl_sub (I : Inv X pins σ H s) {x : Str} {c : Addr} (e : (cellsFrom (s.heap.objs.size + 1) inn.names (closL inn X.env)).lookup x = some c) : ((x, c) ∈ cellsFrom (s.heap.objs.size + 1) inn.names [] ∧ s.heap.objs.size < c) ∨ (X.env.cells.lookup x = some c ∧ c < s.heap.objs.size) := by
  rcases cl_cases e with q | q
  · exact .inl ⟨q, (own_ok s.heap).2.1 x c q⟩
  · obtain ⟨v, o, ho, _⟩ := I.cell x c (closL_sub q)
    exact .inr ⟨closL_sub q, Heap.lt_size ho⟩
theorem in_okC {ex : List Addr} (I : Inv X pins σ H s) (O : CompOkC X.env.scope inn X.N js cs) (hex : ∀ b ∈ ex, b < s.heap.objs.size ∧ b ≠ X.env.locals ∧ b ∉ X.fs ∧ (∀ x c, X.env.cells.lookup x = some c → c ≠ b) ∧ ∀ o, X.base.get? b ≠ some o) :
    (cxInC X inn (ts ++ cs) s H ex).Ok where
  mod := I.ok.mod
  kind := O.kind
  glob := I.ok.glob
  blt := I.ok.blt
  above := Nat.le_refl _
  inj := fun x y c h1 h2 => by
    rcases cl_sub I h1 with ⟨a, la⟩ | ⟨a, la⟩ <;> rcases cl_sub I h2 with ⟨b, lb⟩ | ⟨b, lb⟩
    · exact name_of_addr (own_ok s.heap).2.2 a b
    · exact absurd (Nat.lt_trans la lb) (Nat.lt_irrefl _)
    · exact absurd (Nat.lt_trans la lb) (Nat.lt_irrefl _)
    · exact I.ok.inj x y c a b
  has := fun x hx => by
    show ∃ c, (cellsFrom (s.heap.objs.size + 1) inn.names (closL inn X.env)).lookup x = some c
    rcases relabel_mem (env := X.env) hx with q | q
    · obtain ⟨c, ec⟩ := cell_has (n := s.heap.objs.size + 1) q
      exact ⟨c, by rw [cells_app, lookup_app, ec]; rfl⟩
    · obtain ⟨c, ec⟩ := closL_has (env := X.env) (fun y hy e => I.ok.has y.1 (O.frees y hy e)) (PySem.mem_of_lookup q)
      exact ⟨c, cl_free O.cells q ec⟩
  cab := fun x c h e => by
    have e' : (cellsFrom (s.heap.objs.size + 1) inn.names (closL inn X.env)).lookup x = some c := e
    obtain ⟨d, ed⟩ := cell_has (n := s.heap.objs.size + 1) (isCel_iff h)
    rw [cells_app, lookup_app, ed] at e'
    cases e'
    exact Nat.le_of_lt ((own_ok s.heap).2.1 x _ (PySem.mem_of_lookup ed))
  hd := I.ok.hd
  frames := I.ok.frames
  stk := .inl rfl
  exf := fun b hb => ⟨Nat.ne_of_lt (hex b hb).1, fun x c e => by
    rcases cl_sub I e with ⟨_, l⟩ | ⟨q, _⟩
    · exact Nat.ne_of_gt (Nat.lt_trans (hex b hb).1 l)
    · exact (hex b hb).2.2.2.1 x c q⟩
  bs := I.bs
  bsz := Nat.le_trans I.ok.bsz I.sz
  noex := fun b o e hb => (hex b hb).2.2.2.2 o e
  exfs := fun b hb hs => by
    rcases List.mem_cons.mp (I.stkSub b hs) with e | e
    · exact (hex b hb).2.1 e
    · exact (hex b hb).2.2.1 e
  funs := I.stack
  frf := I.stkFree
theorem in_invC {ex : List Addr} {h' : Heap} {tk : Nat} (hts : ts.length = nt) (I : Inv X pins σ H s) (O : CompOkC X.env.scope inn X.N js cs) (hex : ∀ b ∈ ex, b < s.heap.objs.size ∧ b ≠ X.env.locals ∧ b ∉ X.fs ∧ (∀ x c, X.env.cells.lookup x = some c → c ≠ b) ∧ ∀ o, X.base.get? b ≠ some o)
    (hn : ∃ m, h'.Ns s.heap.objs.size m) (hk : ∀ b o, s.heap.get? b = some o → h'.get? b = some o) (hcel : ∀ x c, (x, c) ∈ cellsFrom (s.heap.objs.size + 1) inn.names [] → h'.IsCell c none) :
    Inv (cxInC X inn (ts ++ cs) s H ex) [] (sIn nt js σ) H { s with heap := h', toks := tk } := by
  have ok : (cxInC X inn (ts ++ cs) s H ex).Ok := in_okC I O hex
  obtain ⟨m, hn⟩ := hn
  have cellK : ∀ c v, s.heap.IsCell c v → h'.IsCell c v := fun c v ⟨o, ho, hd⟩ => ⟨o, hk c o ho, hd⟩
  have hlen : js.length = cs.length := by have := congrArg List.length O.slots; simpa using this
  refine ⟨ok, rfl, I.bare, Un.kept hk, ⟨m, hn, fun i x v e1 e2 e3 => ?_⟩, fun x c e => ?_, I.hok.fresh (Nat.le_refl _), fun x c e => ?_, fun p hp => ?_, I.hok.kept hk, ?_⟩
  · obtain ⟨hi, j, hj, hv⟩ := sIn_get e2
    have e1' : (ts ++ cs)[i]? = some x := e1
    rw [List.getElem?_append_right (by omega), hts] at e1'
    have hN : X.N[j]? = some x := by
      have q : (js.map fun j => X.N[j]?)[i - nt]? = (cs.map some)[i - nt]? := by rw [O.slots]
      rw [List.getElem?_map, List.getElem?_map, hj, e1'] at q
      exact Option.some.inj q
    have hcap := O.caps x (List.mem_of_getElem? e1')
    have hmem : (x, NameKind.free) ∈ inn.names := PySem.mem_of_lookup hcap
    have hout := O.frees _ hmem rfl
    obtain ⟨mo, hno, hl⟩ := I.loc
    obtain ⟨u, r, l⟩ := hl j x v hN hv (.inr hout)
    refine ⟨u, r, .inr ?_⟩
    rcases l with ⟨l1, _⟩ | ⟨k, c, ec, z⟩
    · have l1' : X.env.scope.names.lookup x = some .local := l1
      rcases hout with q | q <;> (rw [q] at l1'; cases l1')
    · refine ⟨?_, ?_⟩
      · exact lookup_relabel_free (env := X.env) hcap
      · obtain ⟨c', ec'⟩ := closL_has (env := X.env) (fun y hy e => I.ok.has y.1 (O.frees y hy e)) hmem
        have := closL_sub ec'
        rw [ec] at this; cases this
        exact ⟨c, cl_free O.cells hcap ec', cellK _ _ z⟩
  · rcases cl_sub I e with ⟨q, _⟩ | ⟨q, _⟩
    · exact ⟨none, hcel x c q⟩
    · obtain ⟨v, z⟩ := I.cell x c q
      exact ⟨v, cellK _ _ z⟩
  · rcases cl_sub I e with ⟨_, l⟩ | ⟨q, _⟩
    · exact I.hok.fresh (Nat.le_of_lt l)
    · exact I.freeC x c q
  · exact absurd (show p ∈ ([] : List (Addr × Obj)) from hp) (by simp)
  · show (sIn nt js σ).length = (ts ++ cs).length
    unfold sIn
    simp [hts, hlen]
end
section
variable {X : Cx} {pins : List (Addr × Obj)} {σ : St} {inn : Scope} {js : List Nat} {cs ts : List Str} {nt : Nat} {elt tg iter : Expr} {ifs : List Expr} {pos : Pos} {g : TG} {tt : TT} {te : TE}
theorem comp_coreC {J : It} {fp : List Addr} {it : Addr} {tn : Nat → Heap → Prop} {H2 : Hp} {s2 : Shared} {E : Value → Shared → Prop} {Q : VK} {RR : Value → Addr → Result → Shared → Prop}
    (hcalm : X.calm = true) (O : CompOkC X.env.scope inn X.N js cs) (hts : ts.length = nt)
    (hg : ∀ s₀ H₀ ex, PG (cxInC X inn (ts ++ cs) s₀ H₀ ex) tg g) (hk : GK nt g) (ht : ∀ s₀ H₀ ex, PIf (cxInC X inn (ts ++ cs) s₀ H₀ ex) ifs tt) (he : ∀ s₀ H₀ ex, PE (cxInC X inn (ts ++ cs) s₀ H₀ ex) elt te)
    (I2 : Inv X pins σ H2 s2) (T : Turn X.prog X.w X.K tg J fp it tn) (st2 : tn 0 s2.heap) (f2 : ∀ b ∈ fp, FpOk X pins H2 b)
    (R : CompR J (sIn nt js σ) g tt te Q H2)
    (hRR : ∀ D C s' H', Inv X pins σ H' s' → (∃ m, s'.heap.Ns C m) → H' C = none → C ≠ X.env.locals → X.s₀.heap.objs.size ≤ C → (∀ x c, X.env.cells.lookup x = some c → c ≠ C) → (∀ p ∈ X.pn ++ pins, p.1 ≠ C) → Q (.ref D) H' → RR (.ref D) C (.ok .next) s') :
    wpAny (model X.prog X.w) X.A (newList []) (fun acc s₃ => wpAny (model X.prog X.w) X.A (newFunctionEnv inn X.env.globals (closL inn X.env) [] X.env.qual none .none (some X.env)) (fun cenv s₄ =>
      codeAny (model X.prog X.w) X.A (.compStart (.ListComp elt [⟨tg, iter, ifs, 0⟩] inn pos) 0 (.ref it) acc { cenv with scope := relabel inn X.env }) (RR acc cenv.locals) s₄) E s₃) E s2 := by
  refine wpAny_newObj_type (newEnvC ?_)
  dsimp only
  have hns₁ : (pushCells ((s2.heap.push { cls := .type "list", dict := none, data := .seq ([] : List Value).toArray }).push { cls := .type "dict", data := .dict #[] }) inn.names).Ns (s2.heap.push { cls := .type "list", dict := none, data := .seq ([] : List Value).toArray }).objs.size (fun _ => none) := (Heap.Ns.new _ (.type "dict")).keeps (pushCells_keeps _ _)
  have up₁ : ∀ b o, (s2.heap.push { cls := .type "list", dict := none, data := .seq ([] : List Value).toArray }).get? b = some o → (pushCells ((s2.heap.push { cls := .type "list", dict := none, data := .seq ([] : List Value).toArray }).push { cls := .type "dict", data := .dict #[] }) inn.names).get? b = some o := fun b o e => pushCells_keeps _ _ b o (Heap.get?_push_of_some _ e)
  have cel₁ : ∀ x c, (x, c) ∈ cellsFrom ((s2.heap.push { cls := .type "list", dict := none, data := .seq ([] : List Value).toArray }).objs.size + 1) inn.names [] → (pushCells ((s2.heap.push { cls := .type "list", dict := none, data := .seq ([] : List Value).toArray }).push { cls := .type "dict", data := .dict #[] }) inn.names).IsCell c none := fun x c hm => (own_ok (inn := inn) (s2.heap.push { cls := .type "list", dict := none, data := .seq ([] : List Value).toArray })).1 x c hm
  generalize pushCells ((s2.heap.push { cls := .type "list", dict := none, data := .seq ([] : List Value).toArray }).push { cls := .type "dict", data := .dict #[] }) inn.names = h₁ at hns₁ up₁ cel₁ ⊢
  generalize hD : s2.heap.objs.size = D
  have I3 : Inv X pins σ H2 { s2 with heap := s2.heap.push { cls := .type "list", dict := none, data := .seq ([] : List Value).toArray } } := I2.kept (t' := s2.toks) fun b o e => Heap.get?_push_of_some _ e
  generalize hs3 : ({ s2 with heap := s2.heap.push { cls := .type "list", dict := none, data := .seq ([] : List Value).toArray } } : Shared) = s3 at I3
  have e3 : s3.heap = s2.heap.push { cls := .type "list", dict := none, data := .seq ([] : List Value).toArray } := by rw [← hs3]
  have hD3 : s3.heap.get? D = some { cls := .type "list", dict := none, data := .seq ([] : List Value).toArray } := by rw [e3, ← hD]; exact Heap.get?_push_size _ rfl
  have hsz3 : s3.heap.objs.size = D + 1 := by rw [e3, Heap.size_push, hD]
  have e3' : (s2.heap.push { cls := .type "list", dict := none, data := .seq ([] : List Value).toArray }) = s3.heap := e3.symm
  rw [e3'] at hns₁ up₁ cel₁ ⊢
  have fH2D : H2 D = none := I2.hok.fresh (by rw [hD]; exact Nat.le_refl _)
  have up := up₁
  -- what lies in ex
  have fpo : ∀ b ∈ fp, b < s3.heap.objs.size ∧ b ≠ D := fun b hb => by
    obtain ⟨o, eo, _⟩ := T.obj 0 _ st2 b hb
    have h1 := Heap.lt_size eo
    rw [hD] at h1
    exact ⟨by rw [hsz3]; exact Nat.lt_succ_of_lt h1, Nat.ne_of_lt h1⟩
  have nb : ∀ b, X.s₀.heap.objs.size ≤ b → ∀ o, X.base.get? b ≠ some o := fun b hb o e => absurd (Nat.lt_of_lt_of_le (Heap.lt_size e) (Nat.le_trans I2.ok.bsz hb)) (Nat.lt_irrefl _)
  have dge : s2.heap.objs.size ≤ D := by rw [hD]; exact Nat.le_refl _
  have fD : FpOk X pins H2 D := I2.fpOk dge fH2D
  have hex : ∀ b ∈ D :: fp, b < s3.heap.objs.size ∧ b ≠ X.env.locals ∧ b ∉ X.fs ∧ (∀ x c, X.env.cells.lookup x = some c → c ≠ b) ∧ ∀ o, X.base.get? b ≠ some o := fun b hb => by
    rcases List.mem_cons.mp hb with rfl | hb
    · exact ⟨by rw [hsz3]; exact Nat.lt_succ_self _, fD.2.1, fD.2.2.1, fD.2.2.2.2.1, nb _ (Nat.le_trans I2.sz dge)⟩
    · obtain ⟨f0, f1, f2', f3, f4, f5⟩ := f2 b hb
      refine ⟨(fpo b hb).1, f1, f2', f4, fun o e => ?_⟩
      rcases f3 with z | z
      · exact I2.ok.noex b o e z
      · exact nb b z o e
  have hC : s3.heap.objs.size = s3.heap.objs.size := rfl
  generalize hXi : cxInC X inn (ts ++ cs) s3 H2 (D :: fp) = Xi
  have I4 : Inv Xi [] (sIn nt js σ) H2 { s3 with heap := h₁, toks := s3.toks } := by
    rw [← hXi]; exact in_invC hts I3 O hex ⟨_, hns₁⟩ up cel₁
  have xp : Xi.prog = X.prog := by rw [← hXi]; rfl
  have xw : Xi.w = X.w := by rw [← hXi]; rfl
  have xK : Xi.K = X.K := by rw [← hXi]; rfl
  have xA : Xi.A = X.A := by rw [← hXi]; rfl
  have xc : Xi.calm = true := by rw [← hXi]; exact hcalm
  have xe : Xi.env = compEnvC inn (cellsFrom (s3.heap.objs.size + 1) inn.names (closL inn X.env)) s3.heap.objs.size X.env := by rw [← hXi]; rfl
  have xx : Xi.xe = fun _ _ => False := by rw [← hXi]; rfl
  have xex : Xi.ex = D :: fp := by rw [← hXi]; rfl
  have xpn : Xi.pn = [] := by rw [← hXi]; rfl
  have xs0 : Xi.s₀ = s3 := by rw [← hXi]; rfl
  have xH0 : Xi.H₀ = H2 := by rw [← hXi]; rfl
  have xfs : Xi.fs = frs X.stack := by rw [← hXi]; rfl
  have hgX : PG Xi tg g := by rw [← hXi]; exact hg _ _ _
  have htX : PIf Xi ifs tt := by rw [← hXi]; exact ht _ _ _
  have heX : PE Xi elt te := by rw [← hXi]; exact he _ _ _
  have okX := I4.ok
  have xl : Xi.env.locals = s3.heap.objs.size := by rw [xe]; rfl
  have Dl : D ≠ Xi.env.locals := by rw [xl, hsz3]; exact Nat.ne_of_lt (Nat.lt_succ_self _)
  have stat : ∀ {H' : Hp} {pl : List (Addr × Obj)}, (∀ b ∈ fp, H' b = none) → (∀ p ∈ pl, p.1 = D) → ∀ b ∈ fp, FpOk Xi pl H' b := fun {H' pl} hn hpl b hb => by
    have hbx : b ∈ Xi.ex := by rw [xex]; exact List.mem_cons_of_mem _ hb
    refine ⟨hn b hb, (okX.exf b hbx).1, fun z => okX.exfs b hbx z, .inl hbx, (okX.exf b hbx).2, fun p hp => ?_⟩
    rw [xpn, List.nil_append] at hp
    rw [hpl p hp]
    exact Ne.symm (fpo b hb).2
  have DX : D ∈ Xi.ex := by rw [xex]; exact List.mem_cons_self
  obtain ⟨W, ⟨m0, w0⟩, turn⟩ := R
  have loop : codeAny (model X.prog X.w) X.A (.compLoop (.ListComp elt [⟨tg, iter, ifs, 0⟩] inn pos) 0 (.ref it) (.ref D) Xi.env) (RR (.ref D) s3.heap.objs.size) { s3 with heap := h₁, toks := s3.toks } := by
    refine codeAny_loop rfl (fun n s' => ∃ i ys H', Inv Xi [] (sIn nt js σ) H' s' ∧ tn i s'.heap ∧ (∀ b ∈ fp, H' b = none) ∧ H' D = none ∧ (∃ (its : List Value) (c : Nat), Vals ys its ∧ s'.heap.get? D = some { cls := .type "list", data := .seq its.toArray c }) ∧ W i n ys H') ?_ m0
      ⟨0, [], H2, I4, ?_, fun b hb => (f2 b hb).1, fH2D, ⟨[], 0, .nil, up D _ hD3⟩, w0⟩
    · rintro n s5 ⟨i, ys, H5, I5, st5, fr5, fD5, ⟨its, c, rv, eD⟩, w5⟩
      show wpAny _ X.A ((compTurn (.ListComp elt [⟨tg, iter, ifs, 0⟩] inn pos) 0 (.ref it) (.ref D) Xi.env).onRaise (fun x => do noteFrame x Xi.env; theTreesLotGoes x)) _ _ s5
      refine wpAny_noted ?_
      rw [compTurn_list]
      refine wpAny_bind (wpAny_standAt (wpAny_bind ?_))
      -- D is pinned
      have pinD : Inv Xi (pinsAt [D] s5.heap) (sIn nt js σ) H5 s5 := by
        have q := I5.pinned (fp := [D]) (fun b hb => ?_) (fun b hb => ?_)
        · simpa using q
        · have e : b = D := by simpa using hb
          subst e
          refine ⟨fD5, Dl, fun z => okX.exfs b DX z, .inl DX, (okX.exf b DX).2, fun p hp => ?_⟩
          rw [xpn, List.nil_append] at hp; cases hp
        · have e : b = D := by simpa using hb
          subst e
          exact ⟨_, eD, fun v z => by cases z⟩
      have plD : ∀ p ∈ pinsAt [D] s5.heap, p.1 = D := fun p hp => by simpa using (of_pinsAt hp).1
      have memD : (D, ({ cls := .type "list", data := .seq its.toArray c } : Obj)) ∈ pinsAt [D] s5.heap := mem_pinsAt (by simp) eD
      obtain ⟨hz, tn5⟩ := turn i n ys H5 w5
      rcases tn5 with ⟨stop, fin⟩ | ⟨go, N, hN, step⟩
      · have q := T.done Xi xp xw xK xc i _ s5 _ H5 (notedBy (model X.prog X.w) X.A Xi.env fun e s' => RR (.ref D) s3.heap.objs.size (.error e) s') pinD (stat fr5 plD) st5 stop
        rw [xA] at q
        refine wpAny_mono q (fun r s6 ⟨hr, I6⟩ => ?_) fun _ _ z => z
        subst hr
        refine wpAny_pure ?_
        have eD6 := (I6.pin (D, _) (List.mem_append_right _ memD)).1
        -- back to the def
        have un : Un (frs X.stack) (D :: fp) H2 H5 s3.heap s6.heap := by
          have z := I6.base
          rw [xfs, xex, xH0, xs0] at z
          exact z
        have os6 : s6.os = s3.os := by have z := I6.os; rw [xs0] at z; exact z
        have hok6 : HOk X.prog X.w H5 s6.heap := by have z := I6.hok; rw [xp, xw] at z; exact z
        have I7 : Inv X pins σ H5 s6 := I3.call' os6 un hok6 I6.bare fun b hb => by
          rcases List.mem_cons.mp hb with e | hb
          · rw [e]; exact ⟨.inr (Nat.le_trans I2.sz dge), fD.2.1, fD.2.2.2.2.1, fD.2.2.2.2.2⟩
          · obtain ⟨f0, f1, f2', f3, f4, f5⟩ := f2 b hb
            exact ⟨f3, f1, f4, f5⟩
        have I8 : Inv X pins σ (upd H5 D (.lst ys)) s6 := I7.track fD5 (Nat.le_trans I2.sz dge) fD.2.1 fD.2.2.2.2.1 fD.2.2.2.2.2 ⟨Nat.le_of_lt hz, its, c, rv, eD6⟩
        have Cge : s3.heap.objs.size ≤ s3.heap.objs.size := Nat.le_refl _
        have fC : FpOk X pins (upd H5 D (.lst ys)) s3.heap.objs.size := I3.fpOk Cge (by
          rw [upd_ne (by rw [← xl]; exact Ne.symm Dl)]
          have z := I6.free
          rw [xl] at z; exact z)
        obtain ⟨mm, hmm, _⟩ := I6.loc
        rw [xl] at hmm
        exact hRR D _ s6 _ I8 ⟨mm, hmm⟩ fC.1 fC.2.1 (Nat.le_trans I3.sz Cge) fC.2.2.2.2.1 fC.2.2.2.2.2 (fin D fD5)
      · have q := T.item Xi xp xw xK xc i _ s5 _ H5 (notedBy (model X.prog X.w) X.A Xi.env fun e s' => RR (.ref D) s3.heap.objs.size (.error e) s') pinD (stat fr5 plD) st5 go
        rw [xA] at q
        refine wpAny_mono q (fun r s6 ⟨u, hr, h6⟩ => ?_) fun _ _ z => z
        subst hr
        refine wpAny_bind (wpAny_mono h6 (fun _ s7 ⟨x, H7, I7, r7, y7, st7, fr7⟩ => ?_) fun _ _ z => z)
        have I7' := I7.pinned (fp := fp) (fun b hb => stat fr7 plD b hb) (T.obj _ _ st7)
        have q8 := hgX _ s7 _ H7 x u _ I7' r7 (hk x _ H7 _ (step x H7 y7))
        rw [xp, xw, xA, xx] at q8
        refine wpAny_bind (wpAny_mono q8 (fun _ s8 ⟨σ8, H8, I8, ⟨k8, l8⟩, q8⟩ => ?_) fun _ _ z => z.elim)
        have q9 := htX _ s8 σ8 H8 _ I8 q8
        rw [xp, xw, xA, xx] at q9
        refine wpAny_bind (wpAny_mono q9 (fun ok s9 ⟨H9, I9, q9⟩ => ?_) fun _ _ z => z.elim)
        have keepσ : ∀ (j : Nat) v, (sIn nt js σ)[j]? = some (some v) → σ8[j]? = some (some v) := fun j v e => by
          have hj := (sIn_get e).1
          rw [k8 j hj]; exact e
        -- what stays of the iterator behind the turn
        have ends : ∀ {H9 : Hp} {s9 : Shared} {ys' : List V}, Inv Xi (pinsAt [D] s5.heap ++ pinsAt fp s7.heap) σ8 H9 s9 → ∀ {h' : Heap} {its' : List Value} {c' : Nat}, (∀ b o, b ≠ D → s9.heap.get? b = some o → h'.get? b = some o) → Vals ys' its' → h'.get? D = some { cls := .type "list", data := .seq its'.toArray c' } → N ys' H9 →
            ∀ tk, ∃ m, m < n ∧ ∃ i ys H', Inv Xi [] (sIn nt js σ) H' { s9 with heap := h', toks := tk } ∧ tn i h' ∧ (∀ b ∈ fp, H' b = none) ∧ H' D = none ∧ (∃ (its : List Value) (c : Nat), Vals ys its ∧ h'.get? D = some { cls := .type "list", data := .seq its.toArray c }) ∧ W i m ys H' := fun {H9 s9 ys'} I9 {h' its' c'} kp rv' eD' n9 tk => by
          obtain ⟨m', hm, w9⟩ := hN ys' H9 n9
          have fD9 : H9 D = none := (I9.pin (D, _) (List.mem_append_right _ (List.mem_append_left _ memD))).2.1
          have fr9 : ∀ b ∈ fp, H9 b = none := fun b hb => by
            obtain ⟨o, e, d⟩ := T.obj _ _ st7 b hb
            exact (I9.pin (b, o) (List.mem_append_right _ (List.mem_append_right _ (mem_pinsAt hb e)))).2.1
          have I10 : Inv Xi [] σ8 H9 s9 := I9.pins_of fun p hp => by cases hp
          have I11 : Inv Xi [] σ8 H9 { s9 with heap := h', toks := tk } := I10.turned (it := D) kp fD9 Dl (.inl DX) (okX.exf D DX).2 (fun p hp => by rw [xpn] at hp; cases hp)
          refine ⟨m', hm, i + 1, ys', H9, I11.weak l8.symm keepσ, T.keep _ _ _ st7 fun b hb o e => kp b o (fpo b hb).2 (I9.pin (b, o) (List.mem_append_right _ (List.mem_append_right _ (mem_pinsAt hb e)))).1, fr9, fD9, ⟨its', c', rv', eD'⟩, w9⟩
        cases ok with
        | false =>
          rw [if_neg Bool.false_ne_true] at q9
          have eD9 := (I9.pin (D, _) (List.mem_append_right _ (List.mem_append_left _ memD))).1
          exact wpAny_pure ⟨rfl, ends I9 (h' := s9.heap) (fun _ _ _ e => e) rv eD9 q9 s9.toks⟩
        | true =>
          rw [if_pos rfl] at q9
          have q10 := heX _ s9 σ8 H9 _ I9 q9
          rw [xp, xw, xA, xx] at q10
          refine wpAny_bind (wpAny_bind (wpAny_mono q10 (fun v s10 ⟨y, H10, I10, r10, q10⟩ => ?_) fun _ _ z => z.elim))
          have eD10 := (I10.pin (D, _) (List.mem_append_right _ (List.mem_append_left _ memD))).1
          have hlen := rv.length
          refine wpAny_bind (wpAny_list_append_plain (items := its.toArray) ⟨c, eD10⟩ (fun h' hl hs => wpAny_pure (wpAny_pure ⟨rfl, ?_⟩)) (by rw [List.size_toArray]; omega))
          obtain ⟨c', e'⟩ := hl
          have e'' : h'.get? D = some { cls := .type "list", data := .seq (its ++ [v]).toArray c' } := by rw [e']; simp
          exact ends I10 (h' := h') (fun b o hb e => hs.extBut b o hb e) (rv.append (.cons r10 .nil)) e'' q10 s10.toks
    · exact T.keep 0 _ _ st2 fun b hb o e => up b o (by rw [e3]; exact Heap.get?_push_of_some _ e)
  have e4 : ({ s2 with heap := h₁ } : Shared) = { s3 with heap := h₁, toks := s3.toks } := by rw [← hs3]
  rw [e4]
  show codeAny _ _ (.compStart (.ListComp elt [⟨tg, iter, ifs, 0⟩] inn pos) 0 (.ref it) (.ref D) (compEnvC inn (cellsFrom (s3.heap.objs.size + 1) inn.names (closL inn X.env)) s3.heap.objs.size X.env)) (RR (.ref D) s3.heap.objs.size) _
  rw [← xe]
  refine codeAny_compStart_list loop ?_
  refine T.self X.A 0 _ _ _ ?_ loop
  exact T.keep 0 _ _ st2 fun b hb o e => up b o (by rw [e3]; exact Heap.get?_push_of_some _ e)
end
section
variable {X : Cx} {inn : Scope} {js : List Nat} {cs ts : List Str} {nt : Nat} {elt tg iter : Expr} {ifs : List Expr} {pos : Pos} {g : TG} {tt : TT} {te : TE} {wi : TI}
theorem pe_compC (ts cs : List Str) (js : List Nat) (hcalm : X.calm = true) (O : CompOkC X.env.scope inn X.N js cs) (hi : PI X tg iter wi)
    (hg : ∀ s₀ H₀ ex, PG (cxInC X inn (ts ++ cs) s₀ H₀ ex) tg g) (hk : GK ts.length g) (ht : ∀ s₀ H₀ ex, PIf (cxInC X inn (ts ++ cs) s₀ H₀ ex) ifs tt) (he : ∀ s₀ H₀ ex, PE (cxInC X inn (ts ++ cs) s₀ H₀ ex) elt te)
    (hs : ∀ x, foldedSetIterable iter X.env x = pure x := by intro _; rfl) : PE X (.ListComp elt [⟨tg, iter, ifs, 0⟩] inn pos) (tComp wi ts.length js g tt te) := by
  intro pins s σ H Q I h
  rw [eval_ListComp]
  refine wpAny_comprehension_free (use := none) rfl hs (closFor fun y hy e => I.ok.has y.1 (O.frees y hy e)) O.kind O.names (thn (hi pins s σ H _ I h) fun xv s1 h1 => thn h1 fun itv s2 h2 => ?_)
  obtain ⟨it, fp, tn, J, H2, e, I2, T, st2, f2, R⟩ := h2
  subst e
  refine comp_coreC (Q := Q) (RR := fun acc C => compPost (model X.prog X.w) X.A X.xe none (EP X pins σ Q) acc C) hcalm O rfl hg hk ht he I2 T st2 f2 R ?_
  intro D C s' H' I' ⟨m, hm⟩ c1 c2 c3 c4 c5 q
  refine ⟨m, hm, fun h' hsb => ?_⟩
  exact ⟨.ref D, H', I'.turned (it := C) (t' := s'.toks) (fun b o hb e => hsb.extBut b o hb e) c1 c2 (.inr c3) c4 c5, rfl, q⟩
end
end L2

set_option Elab.async false
set_option linter.all false
set_option maxRecDepth 100000
set_option maxHeartbeats 4000000
namespace CW
open PySem L2
inductive PlI (row : List Int) (i : Nat) (stays : List Int) : Prop
  | mk (ah : Nat) (h1_ : (endsG row).drop ah = endsG (row.drop i)) (h2_ : stays ++ peelG ah (row.drop i) = peelG 0 row) (h3_ : ∀ z ∈ (endsG row).take ah, ∀ y ∈ row.drop i, z < y) : PlI row i stays
theorem PlI.init (row : List Int) : PlI row 0 [] := ⟨0, rfl, rfl, fun z hz => by simp at hz⟩
theorem drop_cons_at {α : Type} {l : List α} {i : Nat} {x : α} (h : l[i]? = some x) : l.drop i = x :: l.drop (i + 1) := by
  obtain ⟨hi, ex⟩ := List.getElem?_eq_some_iff.mp h
  rw [List.drop_eq_getElem_cons hi, ex]
theorem PlI.step {row stays : List Int} {i : Nat} {x : Int} (hr : Row row) (hx : row[i]? = some x) (h : PlI row i stays) :
    (x ∈ endsG row ∧ PlI row (i + 1) stays) ∨ (x ∉ endsG row ∧ PlI row (i + 1) (stays ++ [x - 2 * (((endsG row).filter fun z => decide (z < x)).length : Int)])) := by
  obtain ⟨ah, h1, h2, h3⟩ := h
  have hd := drop_cons_at hx
  have hrd : Row (row.drop i) := List.Pairwise.sublist (List.drop_sublist i row) hr
  have hlt : ∀ y ∈ row.drop (i + 1), x < y := by
    rw [hd] at hrd
    exact (List.pairwise_cons.mp hrd).1
  have hxm : x ∈ row.drop i := by rw [hd]; exact List.mem_cons_self
  obtain ⟨q, hq, hs⟩ := pl_step hr hx h1 h2
  rcases hs with ⟨e, k1, k2⟩ | ⟨ne, k1, k2⟩
  · left
    refine ⟨by rw [e]; exact List.mem_of_getElem? hq, ah + 1, k1, k2, fun z hz y hy => ?_⟩
    rw [List.take_add_one, hq] at hz
    rcases List.mem_append.mp hz with h | h
    · exact h3 z h y (by rw [hd]; exact List.mem_cons_of_mem _ hy)
    · have : z = q := by simpa using h
      rw [this, ← e]
      exact hlt y hy
  · right
    have hge : ∀ z ∈ (endsG row).drop ah, x < z := by
      rw [k1]
      intro z hz
      cases ht : row.drop (i + 1) with
      | nil => rw [ht] at hz; cases hz
      | cons y r =>
        rw [ht] at hz hlt
        have hry : Row (y :: r) := by rw [← ht]; exact List.Pairwise.sublist (List.drop_sublist _ row) hr
        have := ends_ge r y hry z hz
        have := hlt y List.mem_cons_self
        omega
    have hsplit := List.take_append_drop ah (endsG row)
    have hal : ah ≤ (endsG row).length := Nat.le_of_lt (List.getElem?_eq_some_iff.mp hq).1
    have hcount : ((endsG row).filter fun z => decide (z < x)).length = ah := by
      rw [← hsplit, List.filter_append, List.length_append]
      have e1 : ((endsG row).take ah).filter (fun z => decide (z < x)) = (endsG row).take ah := List.filter_eq_self.mpr fun z hz => decide_eq_true (h3 z hz x hxm)
      have e2 : ((endsG row).drop ah).filter (fun z => decide (z < x)) = [] := List.filter_eq_nil_iff.mpr fun z hz => by
        have := hge z hz
        simp
        omega
      rw [e1, e2, List.length_take]
      simp
      omega
    rw [hcount]
    refine ⟨fun hm => ?_, ah, k1, k2, fun z hz y hy => h3 z hz y (by rw [hd]; exact List.mem_cons_of_mem _ hy)⟩
    rw [← hsplit] at hm
    rcases List.mem_append.mp hm with h | h
    · exact absurd (h3 x h x hxm) (Int.lt_irrefl _)
    · exact absurd (hge x h) (Int.lt_irrefl _)
theorem PlI.done {row stays : List Int} {i : Nat} (hi : row.length ≤ i) (h : PlI row i stays) : stays = peelG 0 row := by
  obtain ⟨ah, h1, h2, _⟩ := h
  rw [List.drop_eq_nil_of_le hi] at h2
  rw [← h2]
  exact (List.append_nil _).symm
theorem peelN_uniq {row : List Int} {n m : Nat} (h1 : peelN n row = []) (h2 : ∀ k, k < n → peelN k row ≠ []) (h3 : peelN m row = []) (h4 : ∀ k, k < m → peelN k row ≠ []) : n = m := by
  rcases Nat.lt_trichotomy n m with h | h | h
  · exact absurd h1 (h4 n h)
  · exact h
  · exact absurd h3 (h2 m h)
theorem depth_lists (a b : List Int) : (PyData.list [.list (a.map PyData.int), .list (b.map PyData.int)]).depth ≤ 3 := by
  simp [PyData.depth, PyData.depthAll, depth_ints]
theorem shaped_lists (a b : List Int) : SeqAt.shaped (.list [.list (a.map PyData.int), .list (b.map PyData.int)]) = true := by
  have h1 := depth_ints a
  have h2 := depth_ints b
  simp [SeqAt.shaped, PyData.canLay0, PyData.canLayAll0, canLay_ints, PyData.depth, PyData.depthAll, h1, h2]
theorem sml_lists {a b : List Int} (h : a.length ≤ 60) (h' : b.length ≤ 60) : sml (.list [.list (a.map PyData.int), .list (b.map PyData.int)]) = true := by
  have e := sml_ints (ns := a) (by omega)
  have e' := sml_ints (ns := b) (by omega)
  simp [sml, smlAll] at e e' ⊢
  exact ⟨e, e'⟩
theorem Den.lists {H : Hp} {p x y : Addr} {a b : List Int} (h : H p = some (.lst [.ref x, .ref y])) (hx : H x = some (.lst (a.map V.int))) (hy : H y = some (.lst (b.map V.int))) : Den H (.ref p) (.list [.list (a.map PyData.int), .list (b.map PyData.int)]) :=
  .lst h (.cons (Den.ints hx) (.cons (Den.ints hy) .nil))
end CW

set_option Elab.async false
set_option linter.all false
set_option maxRecDepth 100000
set_option maxHeartbeats 4000000
namespace CW
open PySem L2
noncomputable def top (i : Nat) : Stmt := PySem.Challenge.pw_creelway_k11_rows_peeled.main.body.getD i (.Pass ⟨0, 0, 0, 0⟩)
section
variable {P : Program} {w : World} {K : PySem.W.Frag} {mg : Str → Option Value} {base : Heap}
noncomputable abbrev s_look_row : Stmt := top 6
theorem sc_look_row : FnScope ["row", "at"] ["row"] (defScope s_look_row) := ⟨rfl, rfl, rfl, by decide +kernel, rfl, by decide +kernel, by decide +kernel⟩
theorem ok_look {f : Addr} {fd : FuncData} {tC : Tok} (F : Fun K "look_row" "look_row" s_look_row f fd) (B : Bt mg) (C : Cn mg tC) : FnOk P w K mg base CX0 1 f fd ["row"] spLook := by
  refine F.ok sc_look_row (fun vs H Q E h => ?_) (fun cdv A outer s H vs Q E hr h => ?_)
  · obtain ⟨a, r, rfl, _⟩ := h
    rfl
  · obtain ⟨a, row, rfl, ha, hrow, hlen, k⟩ := h
    refine ⟨_, (pss_cons (ps_if (pt_cmpR op_gt (pe_callB call_len_seq (by rfl) B.len PySem.boot_len (pa_cons (pv 0) pa_nil)) (pe_glob (v := .int 60) rfl C.MOST_STONES ⟨_, rfl⟩) (nomark _))
 (pss_one ps_never)
 pss_nil)
 (pss_one (ps_for PassesOwn.never rfl (pi_range2 rfl B.range (pa_cons pe_int (pa_cons (pe_callB call_len_seq (by rfl) B.len PySem.boot_len (pa_cons (pv 0) pa_nil)) pa_nil))) (pg_name (i := 1) sc_look_row.nd rfl (Or.inl rfl))
 (pss_one (ps_if (pt_cmpR op_le (pe_ix ix_list (pv 0) (pv 1) (fun _ _ => rfl)) (pe_ix ix_list (pv 0) (pe_op op_sub (pv 1) pe_int) (fun _ _ => rfl)) (nomark _))
 (pss_one ps_never)
 pss_nil))))), ?_⟩
    refine ⟨_, rfl, a, _, rfl, .inl (SqL.of ha), _, _, rfl, rfl, _, rfl, iteDF (by rw [List.length_map]; omega) ?_⟩
    refine ⟨_, rfl, a, _, rfl, .inl (SqL.of ha), _, _, rfl, ⟨by decide, by decide, by omega, by rw [List.length_map]; omega⟩, for_range (lo := 1) (fun i σ H2 => ∃ v, σ = [some (.ref a), v] ∧ H2 = H) ⟨none, rfl, rfl⟩ ?_ ?_⟩
    · rintro i σ H2 hi ⟨v, rfl, rfl⟩
      rw [List.length_map] at hi
      obtain ⟨x, _, hx, ex⟩ := at_mem (ns := row) (i := 1 + (i : Int)) (by omega) (by omega)
      obtain ⟨y, _, hy, ey⟩ := at_mem (ns := row) (i := 1 + (i : Int) - 1) (by omega) (by omega)
      refine ⟨_, rfl, _, rfl, a, _, _, _, rfl, rfl, SqL.of ha, ex, _, rfl, _, rfl, _, _, rfl, rfl, a, _, _, _, rfl, rfl, SqL.of ha, ey, _, _, rfl, rfl, _, rfl, iteDF ?_ ⟨_, rfl, rfl⟩⟩
      have := hrow.lt (show (1 + (i : Int) - 1).toNat < (1 + (i : Int)).toNat by omega) hy hx
      omega
    · rintro σ H2 ⟨v, rfl, rfl⟩
      exact k
noncomputable abbrev s_stretches : Stmt := top 7
theorem sc_stretches : FnScope ["row", "pairs", "place"] ["row"] (defScope s_stretches) := ⟨rfl, rfl, rfl, by decide +kernel, rfl, by decide +kernel, by decide +kernel⟩
theorem ok_stretches {f : Addr} {fd : FuncData} (F : Fun K "stretches" "stretches" s_stretches f fd) (B : Bt mg) (F_look_row : FnAt P w K mg base "look_row" 1 ["row"] spLook) : FnOk P w K mg base CX0 2 f fd ["row"] spStretches := by
  refine F.ok sc_stretches (fun vs H Q E h => ?_) (fun cdv A outer s H vs Q E hr h => ?_)
  · obtain ⟨a, r, rfl, _⟩ := h
    rfl
  · obtain ⟨a, row, rfl, ha, hrow, hlen, k⟩ := h
    refine ⟨_, (pss_cons (ps_expr (pe_fn F_look_row hr rfl (pa_cons (pv 0) pa_nil)))
 (pss_cons (ps_set (i := 1) sc_stretches.nd rfl (Or.inl rfl) (pe_lst pa_nil))
 (pss_cons (ps_for PassesOwn.never rfl (pi_list (pv 0)) (pg_name (i := 2) sc_stretches.nd rfl (Or.inl rfl))
 (pss_one (ps_if (PW.pt (pw_and (pt_truth (pv 1) (fun _ => rfl)) (pw_and1 (pt_cmpR op_eqI (pe_ix ix_tup (pe_ix ix_list (pv 1) (pe_un un_neg pe_int) (fun _ _ => rfl)) pe_int (fun _ _ => rfl)) (pe_op op_sub (pv 2) pe_int) (nomark _)))))
 (pss_one (ps_asg (pe_tup (pa_cons (pe_ix ix_tup (pe_ix ix_list (pv 1) (pe_un un_neg pe_int) (fun _ _ => rfl)) pe_int (fun _ _ => rfl)) (pa_cons (pv 2) pa_nil))) (pg_sub (pv 1) (pe_un un_neg pe_int) set_list)))
 (pss_one (ps_expr (pe_bm PySem.F.plainAttrs_list PySem.F.slot_list_append PySem.F.type_list_append mt_append (pv 1) (pa_cons (pe_tup (pa_cons (pv 2) (pa_cons (pv 2) pa_nil))) pa_nil)))))))
 (pss_one (ps_ret (pv 1)))))), ?_⟩
    refine ⟨_, rfl, a, row, rfl, ha, hrow, hlen, by decide, fun l hl => ?_⟩
    refine ⟨_, rfl, a, rfl, ⟨_, SqL.of (Same.upd hl _ _ ha)⟩, for_list (K := K) (a := a) (xs := row.map V.int) (fun i σ H2 => ∃ (us : List V) (v : Option V), σ = [some (.ref a), some (.ref l), v] ∧ Same H H2 ∧ H2 l = some (.lst us) ∧ Prs H2 us (runsM (row.take i)) ∧ us.length ≤ i)
      ⟨[], none, rfl, Same.upd hl, upd_same, .nil, Nat.le_refl _⟩ (fun i σ H2 _ ⟨us, v, _, sm, _⟩ => SqL.of (sm _ _ ha)) ?_ ?_⟩
    · rintro i x σ H2 hi ⟨us, v, rfl, sm, el, pr, hu⟩
      have hil : i < row.length := by
        have := (List.getElem?_eq_some_iff.mp hi).1
        simpa using this
      obtain ⟨z, rfl, hz⟩ := int_at hi
      rcases List.eq_nil_or_concat (runsM (row.take i)) with e | ⟨ps, q, e⟩
      · have eu : us = [] := by rw [e] at pr; cases pr; rfl
        refine ⟨_, rfl, false, .inl ⟨us, SqL.of el, by rw [eu]; rfl⟩, ?_⟩
        refine ⟨_, rfl, .inl ⟨rfl, _, SqL.of el⟩, _, rfl, _, rfl, (show 2 ≤ sizeLine by decide), fun t ht => ?_⟩
        have el' : (upd H2 t (.tup [.int z, .int z])) l = some (.lst us) := by rw [upd_ne (ne_of_none el ht)]; exact el
        refine ⟨l, us, _, rfl, rfl, el', line_of (by omega), us ++ [.ref t], _, rfl, Same.upd' hl (Same.upd' (sm.free ht) sm), upd_same, ?_, by simp; omega⟩
        rw [← runs_snoc hz, e, stepR_nil, eu]
        exact .cons ⟨t, rfl, by rw [upd_ne (Ne.symm (ne_of_none el ht)), upd_same]⟩ .nil
      · rw [List.concat_eq_append] at e
        have pr' := pr
        rw [e] at pr'
        obtain ⟨us', u, eu, pr1, t0, ru, ht0⟩ := Paired.split_last pr'
        subst eu ru
        by_cases hq : q.2 = z - 1
        · refine ⟨_, rfl, true, .inl ⟨_, SqL.of el, by simp⟩, _, rfl, _, rfl, l, _, _, _, rfl, rfl, SqL.of el, atI_last _ _, t0, _, _, _, rfl, rfl, SqT.of ht0, rfl, _, rfl, _, _, rfl, rfl, _, _, rfl, rfl, _, rfl, iteDT hq ?_⟩
          refine ⟨_, rfl, _, rfl, l, _, _, _, rfl, rfl, SqL.of el, atI_last _ _, t0, _, _, _, rfl, rfl, SqT.of ht0, rfl, _, rfl, (show 2 ≤ sizeLine by decide), fun t ht => ?_⟩
          have el' : (upd H2 t (.tup [.int q.1, .int z])) l = some (.lst (us' ++ [.ref t0])) := by rw [upd_ne (ne_of_none el ht)]; exact el
          refine ⟨_, rfl, _, rfl, l, _, _, _, rfl, rfl, el', ix_last _ _, ?_⟩
          rw [set_last]
          refine ⟨us' ++ [.ref t], _, rfl, Same.upd' hl (Same.upd' (sm.free ht) sm), upd_same, ?_, by simp at hu ⊢; omega⟩
          rw [← runs_snoc hz, e, stepR_snoc, if_pos hq]
          exact Paired.append' (Prs.mono (TupS.trans (TupS.new ht) (TupS.lst el')) pr1) (.cons ⟨t, rfl, by rw [upd_ne (Ne.symm (ne_of_none el ht)), upd_same]⟩ .nil)
        · refine ⟨_, rfl, true, .inl ⟨_, SqL.of el, by simp⟩, _, rfl, _, rfl, l, _, _, _, rfl, rfl, SqL.of el, atI_last _ _, t0, _, _, _, rfl, rfl, SqT.of ht0, rfl, _, rfl, _, _, rfl, rfl, _, _, rfl, rfl, _, rfl, iteDF hq ?_⟩
          refine ⟨_, rfl, .inl ⟨rfl, _, SqL.of el⟩, _, rfl, _, rfl, (show 2 ≤ sizeLine by decide), fun t ht => ?_⟩
          have el' : (upd H2 t (.tup [.int z, .int z])) l = some (.lst (us' ++ [.ref t0])) := by rw [upd_ne (ne_of_none el ht)]; exact el
          refine ⟨l, us' ++ [.ref t0], _, rfl, rfl, el', line_of (by omega), us' ++ [.ref t0] ++ [.ref t], _, rfl, Same.upd' hl (Same.upd' (sm.free ht) sm), upd_same, ?_, by simp at hu ⊢; omega⟩
          rw [← runs_snoc hz, e, stepR_snoc, if_neg hq, ← e]
          exact Paired.append' (Prs.mono (TupS.trans (TupS.new ht) (TupS.lst el')) pr) (.cons ⟨t, rfl, by rw [upd_ne (Ne.symm (ne_of_none el ht)), upd_same]⟩ .nil)
    · rintro σ H2 ⟨us, v, rfl, sm, el, pr, hu⟩
      rw [List.length_map, List.take_length] at pr
      exact ⟨_, rfl, k l us H2 hl sm el pr⟩
noncomputable abbrev s_peeled : Stmt := top 9
theorem sc_peeled : FnScope ["row", "lasts", "stays", "ahead", "place"] ["row"] (defScope s_peeled) := ⟨rfl, rfl, rfl, by decide +kernel, rfl, by decide +kernel, by decide +kernel⟩
theorem ok_peeled {f : Addr} {fd : FuncData} (F : Fun K "peeled" "peeled" s_peeled f fd) (B : Bt mg) (F_stretches : FnAt P w K mg base "stretches" 2 ["row"] spStretches) : FnOk P w K mg base CX0 3 f fd ["row"] spPeeled := by
  refine F.ok sc_peeled (fun vs H Q E h => ?_) (fun cdv A outer s H vs Q E hr h => ?_)
  · obtain ⟨a, r, rfl, _⟩ := h
    rfl
  · obtain ⟨a, row, rfl, ha, hrow, hlen, k⟩ := h
    refine ⟨_, (pss_cons (ps_setc (i := 1) ["first", "last"] [] [] rfl sc_peeled.nd rfl rfl (.of (show compOk (defScope s_peeled) _ ["row", "lasts", "stays", "ahead", "place"] [] [] = true by decide +kernel)) (pi_list (pe_fn F_stretches hr rfl (pa_cons (pv 0) pa_nil))) (fun _ _ _ => (pg_tupK (n := 2) K rfl rfl (pgs_cons (pg_name (i := 0) (show (["first", "last"] : List Str).Nodup by decide +kernel) rfl (Or.inl rfl)) (pgs_cons (pg_name (i := 1) (show (["first", "last"] : List Str).Nodup by decide +kernel) rfl (Or.inl rfl)) pgs_nil)))) (kg_tup (kgs_cons (by decide) (kgs_cons (by decide) kgs_nil))) (fun _ _ _ => pif_nil) (fun _ _ _ => (pv 1)) (by first | rfl | decide +kernel))
 (pss_cons (ps_set (i := 2) sc_peeled.nd rfl (Or.inl rfl) (pe_lst pa_nil))
 (pss_cons (ps_set (i := 3) sc_peeled.nd rfl (Or.inl rfl) pe_int)
 (pss_cons (ps_for PassesOwn.never rfl (pi_list (pv 0)) (pg_name (i := 4) sc_peeled.nd rfl (Or.inl rfl))
 (pss_one (ps_if (pt_cmpR op_eqI (pv 4) (pe_ix ix_list (pv 1) (pv 3) (fun _ _ => rfl)) (nomark _))
 (pss_one (ps_aug (i := 3) sc_peeled.nd rfl (Or.inl rfl) pe_int ip_add))
 (pss_one (ps_expr (pe_bm PySem.F.plainAttrs_list PySem.F.slot_list_append PySem.F.type_list_append mt_append (pv 2) (pa_cons (pe_op op_sub (pv 4) (pe_op op_mul pe_int (pv 3))) pa_nil)))))))
 (pss_one (ps_ret (pv 2))))))), ?_⟩
    refine ⟨_, rfl, a, row, rfl, ha, hrow, hlen, fun l us H1 hl g1 el pr => ?_⟩
    have e : us.length = (runsM row).length := pr.len
    have hrn := runsM_len row
    refine ⟨l, rfl, ⟨_, SqL.of el⟩, comp_list (K := K) (a := l) (xs := us) (fun j ys H2 => H2 = H1 ∧ ys = (((runsM row).take j).map (·.2)).map V.int) ⟨rfl, rfl⟩ ?_ ?_ ?_⟩
    · rintro j ys H2 hj ⟨rfl, rfl⟩
      exact ⟨SqL.of el, by rw [List.length_map, List.length_map, List.length_take]; exact line_of (by omega)⟩
    · rintro j x ys H2 hj ⟨rfl, rfl⟩
      obtain ⟨q, t2, hq, rfl, et2⟩ := paired_at pr hj
      exact ⟨t2, _, rfl, SqT.of et2, rfl, _, _, rfl, _, _, rfl, rfl, _, rfl, rfl, snoc_pairs (·.2) hq⟩
    rintro ys H2 ⟨rfl, rfl⟩ ll hll
    rw [e, List.take_length, runs_ends]
    have g2 := Same.upd (o := .lst ((endsG row).map V.int)) hll
    have ell : (upd H2 ll (.lst ((endsG row).map V.int))) ll = some (.lst ((endsG row).map V.int)) := upd_same
    generalize upd H2 ll (.lst ((endsG row).map V.int)) = H3 at g2 ell ⊢
    refine ⟨by decide, fun ls hls => ?_⟩
    have g3 := Same.upd (o := .lst []) hls
    have els : (upd H3 ls (.lst [])) ls = some (.lst (([] : List Int).map V.int)) := upd_same
    have nls : ls ≠ ll := fun z => by rw [z, ell] at hls; cases hls
    have hH3 : H3 ls = none := hls
    generalize upd H3 ls (.lst []) = H4 at g3 els ⊢
    have s13 := g1.trans g2
    have s4 := s13.trans g3
    refine ⟨_, rfl, a, rfl, ⟨_, SqL.of (s4 _ _ ha)⟩, for_list (K := K) (a := a) (xs := row.map V.int) (fun i σ H5 => ∃ (ah : Nat) (st : List Int) (v4 : Option V), σ = [some (.ref a), some (.ref ll), some (.ref ls), some (.int (ah : Int)), v4] ∧ Same H3 H5 ∧ H5 ls = some (.lst (st.map V.int)) ∧ (endsG row).drop ah = endsG (row.drop i) ∧ st ++ peelG ah (row.drop i) = peelG 0 row ∧ st.length ≤ i ∧ ah ≤ i)
      ⟨0, [], none, rfl, g3, els, rfl, rfl, Nat.le_refl _, Nat.le_refl _⟩ (fun i σ H5 _ ⟨_, _, _, _, sm, _⟩ => SqL.of ((s13.trans sm) _ _ ha)) ?_ ?_⟩
    · rintro i x σ H5 hi ⟨ah, st, v4, rfl, sm, els5, h1, h2, h3, h4⟩
      have hil : i < row.length := by
        have := (List.getElem?_eq_some_iff.mp hi).1
        simpa using this
      obtain ⟨z, rfl, hz⟩ := int_at hi
      obtain ⟨q, hq, hstep⟩ := pl_step hrow hz h1 h2
      have hat : atI ((endsG row).map V.int) (ah : Int) = some (V.int q) := atI_nat (by rw [List.getElem?_map, hq]; rfl)
      refine ⟨_, rfl, _, rfl, _, rfl, ll, _, _, _, rfl, rfl, SqL.of (sm _ _ ell), hat, _, _, rfl, rfl, _, rfl, iteD (fun c => ?_) (fun c => ?_)⟩
      · rcases hstep with ⟨_, k1, k2⟩ | ⟨ne, _⟩
        · exact ⟨_, rfl, _, _, rfl, rfl, ah + 1, st, _, rfl, sm, els5, k1, k2, by omega, by omega⟩
        · exact absurd c ne
      · rcases hstep with ⟨e, _⟩ | ⟨_, k1, k2⟩
        · exact absurd e c
        · refine ⟨_, rfl, .inl ⟨rfl, _, SqL.of els5⟩, _, rfl, _, rfl, _, _, rfl, rfl, .inl ⟨by decide, by decide⟩, _, _, rfl, rfl, ls, _, _, rfl, rfl, els5, by rw [List.length_map]; exact line_of (by omega), ?_⟩
          exact ⟨ah, st ++ [z - 2 * (ah : Int)], _, rfl, Same.upd' hH3 sm, by rw [upd_same, List.map_append]; rfl, k1, k2, by simp; omega, by omega⟩
    · rintro σ H5 ⟨ah, st, v4, rfl, sm, els5, h1, h2, h3, h4⟩
      rw [List.length_map, List.drop_length] at h2
      rw [show st ++ peelG (ah : Int) [] = st from List.append_nil st] at h2
      rw [h2] at els5
      exact ⟨_, rfl, k ls H5 (s13.free hH3) (s13.trans sm) els5⟩
noncomputable abbrev s_rounds : Stmt := top 10
theorem sc_rounds : FnScope ["row", "found", "rest"] ["row"] (defScope s_rounds) := ⟨rfl, rfl, rfl, by decide +kernel, rfl, by decide +kernel, by decide +kernel⟩
inductive rdW (H0 : Hp) (row : List Int) (a l : Addr) (m : Nat) (σ : St) (Hx : Hp) : Prop
  | mk (n : Nat) (rl : Addr) (h0_ : σ = [some (.ref a), some (.ref l), some (.ref rl)]) (h1_ : Same H0 Hx) (h2_ : Hx rl = some (.lst ((peelN n row).map V.int))) (h3_ : rl ≠ l) (h4_ : Hx l = some (.lst (((List.range n).map fun k => (stG (peelN k row) : Int)).map V.int))) (h5_ : ∀ k, k < n → peelN k row ≠ []) (h6_ : m = (peelN n row).length) (h7_ : m + n ≤ 60) : rdW H0 row a l m σ Hx
theorem ok_rounds {f : Addr} {fd : FuncData} (F : Fun K "rounds" "rounds" s_rounds f fd) (B : Bt mg) (F_stretches : FnAt P w K mg base "stretches" 2 ["row"] spStretches) (F_peeled : FnAt P w K mg base "peeled" 3 ["row"] spPeeled) : FnOk P w K mg base CX0 4 f fd ["row"] spRounds := by
  refine F.ok sc_rounds (fun vs H Q E h => ?_) (fun cdv A outer s H vs Q E hr h => ?_)
  · obtain ⟨a, r, rfl, _⟩ := h
    rfl
  · obtain ⟨a, row, rfl, ha, hrow, hlen, k⟩ := h
    refine ⟨_, (pss_cons (ps_set (i := 1) sc_rounds.nd rfl (Or.inl rfl) (pe_lst pa_nil))
 (pss_cons (ps_set (i := 2) sc_rounds.nd rfl (Or.inl rfl) (pv 0))
 (pss_cons (ps_while PassesOwn.never (pt_truth (pv 2) (fun _ => rfl))
 (pss_cons (ps_expr (pe_bm PySem.F.plainAttrs_list PySem.F.slot_list_append PySem.F.type_list_append mt_append (pv 1) (pa_cons (pe_callB call_len_seq (by rfl) B.len PySem.boot_len (pa_cons (pe_fn F_stretches hr rfl (pa_cons (pv 2) pa_nil)) pa_nil)) pa_nil)))
 (pss_one (ps_set (i := 2) sc_rounds.nd rfl (Or.inl rfl) (pe_fn F_peeled hr rfl (pa_cons (pv 2) pa_nil))))))
 (pss_one (ps_ret (pv 1)))))), ?_⟩
    refine ⟨by decide, fun l hl => ?_⟩
    have g1 := Same.upd (o := .lst []) hl
    have el : (upd H l (.lst [])) l = some (.lst []) := upd_same
    have nal : a ≠ l := fun e => by rw [e, hl] at ha; cases ha
    generalize upd H l (.lst []) = H1 at g1 el ⊢
    refine ⟨_, rfl, ?_⟩
    refine ⟨rdW H row a l, ⟨row.length, 0, a, rfl, g1, g1 _ _ ha, nal, el, fun k hk => absurd hk (Nat.not_lt_zero _), rfl, by omega⟩, ?_⟩
    rintro m σ H2 ⟨n, rl, rfl, sm, erl, nrl, el2, hne, rfl, hm⟩
    have hrn := peelN_row hrow n
    by_cases hz : peelN n row = []
    · refine ⟨_, rfl, false, .inl ⟨_, SqL.of erl, by rw [hz]; rfl⟩, ?_⟩
      exact ⟨_, rfl, k n hz hne l H2 hl sm el2⟩
    · refine ⟨_, rfl, true, .inl ⟨_, SqL.of erl, by cases e : peelN n row with | nil => exact absurd e hz | cons x r => rfl⟩, ?_⟩
      have hst : 1 ≤ stG (peelN n row) := by
        cases e : peelN n row with
        | nil => exact absurd e hz
        | cons x r => exact st_pos r x
      have hpl := peel_len (peelN n row) 0
      refine ⟨fun σ' H' => ∃ m', m' < (peelN n row).length ∧ rdW H row a l m' σ' H', fun σ' H' h => h, ?_⟩
      refine ⟨_, rfl, .inl ⟨rfl, _, SqL.of el2⟩, _, rfl, rl, _, rfl, erl, hrn, by omega, fun l2 us2 H3 hl2 g3 el3 pr3 => ?_⟩
      have el23 := g3 _ _ el2
      have hul : us2.length = stG (peelN n row) := by rw [pr3.len, runs_st]
      refine ⟨l2, _, rfl, .inl (SqL.of el3), l, _, _, rfl, rfl, el23, by rw [List.length_map, List.length_map, List.length_range]; exact line_of (by omega), ?_⟩
      have erl4 : (upd H3 l (.lst (((List.range n).map fun k => (stG (peelN k row) : Int)).map V.int ++ [V.int (us2.length : Int)]))) rl = some (.lst ((peelN n row).map V.int)) := by rw [upd_ne nrl]; exact g3 _ _ erl
      have el4 : (upd H3 l (.lst (((List.range n).map fun k => (stG (peelN k row) : Int)).map V.int ++ [V.int (us2.length : Int)]))) l = some (.lst (((List.range (n + 1)).map fun k => (stG (peelN k row) : Int)).map V.int)) := by
        rw [upd_same, hul, List.range_succ, List.map_append, List.map_append]
        rfl
      have s4 : Same H (upd H3 l (.lst (((List.range n).map fun k => (stG (peelN k row) : Int)).map V.int ++ [V.int (us2.length : Int)]))) := Same.upd' hl (sm.trans g3)
      generalize upd H3 l (.lst (((List.range n).map fun k => (stG (peelN k row) : Int)).map V.int ++ [V.int (us2.length : Int)])) = H4 at erl4 el4 s4 ⊢
      refine ⟨_, rfl, rl, _, rfl, erl4, hrn, by omega, fun l3 H5 hl3 g5 el5 => ?_⟩
      refine ⟨(peelG 0 (peelN n row)).length, by omega, n + 1, l3, rfl, s4.trans g5, el5, (fun e => by rw [e, el4] at hl3; cases hl3), g5 _ _ el4, fun j hj => ?_, rfl, by omega⟩
      by_cases e : j = n
      · rw [e]; exact hz
      · exact hne j (by omega)
noncomputable abbrev s_law_numbers : Stmt := top 12
theorem sc_law_numbers : FnScope ["_law_script", "_law_many", "_law_row_here", "_law_seed", "_law_cell", "_law_rest", "_law_k"] ["_law_script", "_law_many"] (defScope s_law_numbers) := ⟨rfl, rfl, rfl, by decide +kernel, rfl, by decide +kernel, by decide +kernel⟩
inductive I1_law_numbers (H : Hp) (a : Addr) (l : Addr) (p : Addr) (m : Nat) (ms : List Int) (i : Nat) (σ : St) (H2 : Hp) : Prop
  | mk (seed : Int) (xs : List Int) (v1 v2 v3 : Option V) (k0_ : σ = [some (.ref a), some (.int m), some (.ref l), some (.int seed), v1, v2, v3]) (k1_ : Same H H2) (k2_ : H2 p = some (.lst (ms.map V.int))) (k3_ : H2 l = some (.lst (xs.map V.int))) (k4_ : Nums xs) (k5_ : xs.length ≤ 61 * i) (k6_ : 0 ≤ seed) (k7_ : seed < 2147483629) : I1_law_numbers H a l p m ms i σ H2
inductive I2_law_numbers (H : Hp) (a : Addr) (l : Addr) (p : Addr) (m : Nat) (ms : List Int) (i : Nat) (seed : Int) (z : Int) (v3 : Option V) (σ : St) (H3 : Hp) : Prop
  | mk (ys : List Int) (k0_ : σ = [some (.ref a), some (.int m), some (.ref l), some (.int (sd1 seed z)), some (.int z), some (.int (rs1 z)), v3]) (k1_ : Same H H3) (k2_ : H3 p = some (.lst (ms.map V.int))) (k3_ : H3 l = some (.lst (ys.map V.int))) (k4_ : Nums ys) (k5_ : ys.length ≤ 61 * i + 1) : I2_law_numbers H a l p m ms i seed z v3 σ H3
inductive I3_law_numbers (H : Hp) (a : Addr) (l : Addr) (p : Addr) (m : Nat) (ms : List Int) (i : Nat) (seed : Int) (z : Int) (j : Nat) (σ : St) (H4 : Hp) : Prop
  | mk (r : Int) (ys : List Int) (v : Option V) (k0_ : σ = [some (.ref a), some (.int m), some (.ref l), some (.int (sd1 seed z)), some (.int z), some (.int r), v]) (k1_ : Same H H4) (k2_ : H4 p = some (.lst (ms.map V.int))) (k3_ : H4 l = some (.lst (ys.map V.int))) (k4_ : Nums ys) (k5_ : ys.length ≤ 61 * i + 1 + j) : I3_law_numbers H a l p m ms i seed z j σ H4
inductive I4_law_numbers (H : Hp) (a : Addr) (l : Addr) (m : Nat) (v1 : Option V) (v2 : Option V) (v3 : Option V) (σ : St) (H3 : Hp) : Prop
  | mk (seed : Int) (ys : List Int) (k0_ : σ = [some (.ref a), some (.int m), some (.ref l), some (.int seed), v1, v2, v3]) (k1_ : Same H H3) (k2_ : H3 l = some (.lst (ys.map V.int))) (k3_ : Nums ys) (k4_ : ys.length ≤ 5000) (k5_ : 0 ≤ seed) (k6_ : seed < 2147483629) : I4_law_numbers H a l m v1 v2 v3 σ H3
theorem ok_numbers {f : Addr} {fd : FuncData} (F : Fun K "_law_numbers" "_law_numbers" s_law_numbers f fd) (B : Bt mg) : FnOk P w K mg base CX0 1 f fd ["_law_script", "_law_many"] (spNumbers K) := by
  refine F.ok sc_law_numbers (fun vs H Q E h => ?_) (fun cdv A outer s H vs Q E hr h => ?_)
  · obtain ⟨a, sc, m, rfl, _⟩ := h
    rfl
  · obtain ⟨a, sc, m, rfl, hS, hlen, hm, k⟩ := h
    refine ⟨_, (pss_consO (ps_set (i := 2) sc_law_numbers.nd rfl (Or.inl rfl) (pe_lst pa_nil))
 (pss_consO (ps_set (i := 3) sc_law_numbers.nd rfl (Or.inl rfl) pe_int)
 (pss_consO (ps_for PassesOwn.never rfl (pi_list (pe_slice sl_list (pv 0) po_none (po_some pe_int))) (pg_name (i := 4) sc_law_numbers.nd rfl (Or.inl rfl))
 (pss_consO (ps_set (i := 3) sc_law_numbers.nd rfl (Or.inl rfl) (pe_op op_mod (pe_op op_add (pe_op op_add (pe_op op_mul (pv 3) pe_int) (pe_op op_mod (pv 4) pe_int)) pe_int) pe_int))
 (pss_consO (ps_set (i := 5) sc_law_numbers.nd rfl (Or.inl rfl) (pe_op op_sub (pv 4) (pe_op op_pow pe_int pe_int)))
 (pss_cut (ps_if (pt_cmpR op_lt (pv 5) pe_int (nomark _))
 (pss_one (ps_expr (pe_bm PySem.F.plainAttrs_list PySem.F.slot_list_append PySem.F.type_list_append mt_append (pv 2) (pa_cons (pe_op op_mod (pv 4) pe_int) pa_nil))))
 pss_nil)
 (pss_one (ps_for PassesOwn.never rfl (pi_range1 rfl B.range (pa_cons pe_int pa_nil)) (pg_name (i := 6) sc_law_numbers.nd rfl (Or.inl rfl))
 (pss_one (ps_if (pt_cmpR op_gt (pv 5) pe_int (nomark _))
 (pss_consO (ps_expr (pe_bm PySem.F.plainAttrs_list PySem.F.slot_list_append PySem.F.type_list_append mt_append (pv 2) (pa_cons (pe_op op_mod (pv 5) pe_int) pa_nil)))
 (pss_one (ps_set (i := 5) sc_law_numbers.nd rfl (Or.inl rfl) (pe_op op_fdiv (pv 5) pe_int))))
 pss_nil))))))))
 (pss_cons (ps_while PassesOwn.never (pt_cmpR op_lt (pe_callB call_len_seq (by rfl) B.len PySem.boot_len (pa_cons (pv 2) pa_nil)) (pv 1) (nomark _))
 (pss_consO (ps_set (i := 3) sc_law_numbers.nd rfl (Or.inl rfl) (pe_op op_mod (pe_op op_add (pe_op op_add (pe_op op_add (pe_op op_mul (pv 3) (pv 3)) (pe_op op_mul pe_int (pv 3))) (pe_op op_mul pe_int (pe_callB call_len_seq (by rfl) B.len PySem.boot_len (pa_cons (pv 2) pa_nil)))) pe_int) pe_int))
 (pss_one (ps_expr (pe_bm PySem.F.plainAttrs_list PySem.F.slot_list_append PySem.F.type_list_append mt_append (pv 2) (pa_cons (pe_op op_mod (pe_op op_fdiv (pv 3) pe_int) pe_int) pa_nil))))))
 (pss_one (ps_ret (pe_slice sl_list (pv 2) po_none (po_some (pv 1))))))))), ?_⟩
    refine fun M1 hM1 => ?_
    refine ⟨by decide, fun l hl => ?_⟩
    refine hM1 [some (.ref a), some (.int m), some (.ref l), none, none, none, none] _ ?_
    clear hM1 M1
    refine fun M1 hM1 => ?_
    refine hM1 [some (.ref a), some (.int m), some (.ref l), some (.int 59), none, none, none] _ ?_
    clear hM1 M1
    refine fun M1 hM1 => ?_
    refine ⟨_, rfl, _, rfl, a, sc.map V.int, rfl, (Same.upd hl).seq hS, fun p hp => ?_⟩
    obtain ⟨ms, ec, hml, hmm⟩ := cutV_ints sc none (some 63)
    rw [ec]
    have hpl : p ≠ l := fun e => by subst e; rw [upd_same] at hp; cases hp
    have hHp : H p = none := by rw [← hp, upd_ne hpl]
    refine ⟨p, rfl, ⟨_, SqL.of upd_same⟩, for_list (K := K) (a := p) (xs := ms.map V.int) (I1_law_numbers H a l p m ms) ?_ ?_ ?_ ?_⟩
    · exact ⟨59, [], none, none, none, rfl, Same.upd' hHp (Same.upd hl), upd_same, by rw [upd_ne (Ne.symm hpl), upd_same]; rfl, fun _ h => (by cases h), Nat.le_refl _, by decide, by decide⟩
    · rintro i σ H2 _ ⟨seed, xs, v1, v2, v3, _, _, e, _⟩
      exact SqL.of e
    · rintro i x σ H2 hi ⟨seed, xs, v1, v2, v3, rfl, sm, ep, el, nx, lx, s0, s1⟩
      have hil : i < ms.length := by
        have := (List.getElem?_eq_some_iff.mp hi).1
        simpa using this
      obtain ⟨z, rfl⟩ : ∃ z, x = V.int z := by
        rw [List.getElem?_map] at hi
        cases e : ms[i]? with
        | none => rw [e] at hi; cases hi
        | some z => rw [e] at hi; exact ⟨z, (Option.some.inj hi).symm⟩
      -- the seed
      clear hM1
      refine fun M2 hM2 => ?_
      refine ⟨_, rfl, _, _, rfl, rfl, .inr ⟨by decide, by decide⟩, _, rfl, _, _, rfl, rfl, (by show (0 : Int) < 999983; decide), _, _, rfl, rfl, _, _, rfl, rfl, _, _, rfl, rfl, (by show (0 : Int) < 2147483563; decide), ?_⟩
      have t0 : 0 ≤ sd1 seed z := Int.emod_nonneg _ (by decide)
      have t1 : sd1 seed z < 2147483563 := Int.emod_lt_of_pos _ (by decide)
      refine hM2 [some (.ref a), some (.int m), some (.ref l), some (.int (sd1 seed z)), some (.int z), v2, v3] _ ?_
      clear hM2 M2
      -- the rest
      refine fun M2 hM2 => ?_
      refine ⟨_, rfl, _, _, rfl, rfl, ⟨by decide, by decide, by decide⟩, _, _, rfl, rfl, ?_⟩
      refine hM2 [some (.ref a), some (.int m), some (.ref l), some (.int (sd1 seed z)), some (.int z), some (.int (rs1 z)), v3] _ ?_
      clear hM2 M2
      refine ⟨I2_law_numbers H a l p m ms i seed z v3, ?_, ?_⟩
      · refine ⟨_, rfl, _, _, rfl, rfl, _, rfl, iteD (fun _ => ?_) (fun _ => ⟨xs, rfl, sm, ep, el, nx, by omega⟩)⟩
        refine ⟨_, rfl, .inl ⟨rfl, _, SqL.of el⟩, _, rfl, _, _, rfl, rfl, (by show (0 : Int) < 9967; decide), l, _, _, rfl, rfl, el, (by rw [List.length_map]; exact line_of (by omega)), ?_⟩
        refine ⟨xs ++ [z % 9967], rfl, Same.upd' hl sm, by rw [upd_ne hpl]; exact ep, by rw [upd_same]; simp, ?_, by simp; omega⟩
        intro n hn
        rcases List.mem_append.mp hn with h | h
        · exact nx n h
        · rw [List.mem_singleton.mp h]
          exact ⟨Int.emod_nonneg _ (by decide), Int.emod_lt_of_pos _ (by decide)⟩
      · rintro σ H3 ⟨ys, rfl, sm3, ep3, el3, nx3, lx3⟩
        refine ⟨60, rfl, by decide, by decide, for_range (lo := 0) (n := 60) (I3_law_numbers H a l p m ms i seed z)
          ⟨rs1 z, ys, v3, rfl, sm3, ep3, el3, nx3, by omega⟩ ?_ ?_⟩
        · rintro j σ H4 hj ⟨r, ys, v, rfl, sm4, ep4, el4, nx4, lx4⟩
          refine ⟨_, rfl, _, _, rfl, rfl, _, rfl, iteD (fun hr0 => ?_) (fun _ => ⟨r, ys, _, rfl, sm4, ep4, el4, nx4, by omega⟩)⟩
          refine fun M2 hM2 => ?_
          refine ⟨_, rfl, .inl ⟨rfl, _, SqL.of el4⟩, _, rfl, _, _, rfl, rfl, (by show (0 : Int) < 1013; decide), l, _, _, rfl, rfl, el4, (by rw [List.length_map]; exact line_of (by omega)), ?_⟩
          refine hM2 [some (.ref a), some (.int m), some (.ref l), some (.int (sd1 seed z)), some (.int z), some (.int r), some (.int (0 + (j : Int)))] _ ?_
          clear hM2 M2
          refine ⟨_, rfl, _, _, rfl, rfl, ⟨by decide, by decide⟩, ?_⟩
          refine ⟨r / 1013, ys ++ [r % 1013], _, rfl, Same.upd' hl sm4, by rw [upd_ne hpl]; exact ep4, by rw [upd_same]; simp, ?_, by simp; omega⟩
          intro n hn
          rcases List.mem_append.mp hn with h | h
          · exact nx4 n h
          · rw [List.mem_singleton.mp h]
            have a1 := Int.emod_nonneg r (show (1013 : Int) ≠ 0 by decide)
            have a2 := Int.emod_lt_of_pos r (show (0 : Int) < 1013 by decide)
            exact ⟨a1, by omega⟩
        · rintro σ H4 ⟨r, ys, v, rfl, sm4, ep4, el4, nx4, lx4⟩
          exact ⟨sd1 seed z, ys, _, _, _, rfl, sm4, ep4, el4, nx4, by omega, t0, by omega⟩
    · rintro σ H2 ⟨seed, xs, v1, v2, v3, rfl, sm, ep, el, nx, lx, s0, s1⟩
      have lx' : xs.length ≤ 61 * 63 := by
        have : (ms.map V.int).length ≤ 63 := by rw [List.length_map]; omega
        omega
      refine hM1 [some (.ref a), some (.int m), some (.ref l), some (.int seed), v1, v2, v3] _ ?_
      clear hM1 M1
      -- while
      refine while_by (I4_law_numbers H a l m v1 v2 v3)
        (fun _ H3 => match H3 l with | some (.lst ys) => m - ys.length | _ => 0) ⟨seed, xs, rfl, sm, el, nx, by omega, s0, s1⟩ ?_ ?_
      · rintro σ H3 ⟨seed, ys, rfl, sm3, el3, nx3, lx3, q0, q1⟩
        refine ⟨_, rfl, l, _, rfl, .inl (SqL.of el3), _, rfl, _, _, rfl, rfl, _, rfl, iteD (fun hc => ?_) (fun hc => ?_)⟩
        · rw [List.length_map] at hc
          refine fun M1 hM1 => ?_
          refine ⟨_, rfl, _, rfl, _, _, rfl, rfl, .inl ⟨by omega, by omega⟩, _, rfl, _, _, rfl, rfl, .inl ⟨by decide, by decide⟩, _, _, rfl, rfl, _, rfl, l, _, rfl, .inl (SqL.of el3), _, _, rfl, rfl, .inl ⟨by decide, by decide⟩, _, _, rfl, rfl, _, _, rfl, rfl, _, _, rfl, rfl, (by show (0 : Int) < 2147483629; decide), ?_⟩
          refine hM1 [some (.ref a), some (.int m), some (.ref l), some (.int (sd2 seed ys)), v1, v2, v3] _ ?_
          clear hM1 M1
          have t0 : 0 ≤ sd2 seed ys := Int.emod_nonneg _ (by decide)
          have t1 : sd2 seed ys < 2147483629 := Int.emod_lt_of_pos _ (by decide)
          refine ⟨_, rfl, .inl ⟨rfl, _, SqL.of el3⟩, _, rfl, _, _, rfl, rfl, ⟨by decide, by decide⟩, _, _, rfl, rfl, (by show (0 : Int) < 9967; decide), l, _, _, rfl, rfl, el3, (by rw [List.length_map]; exact line_of (by omega)), ?_⟩
          refine ⟨⟨sd2 seed ys, ys ++ [sd2 seed ys / 1019 % 9967], rfl, Same.upd' hl sm3, by rw [upd_same, List.map_append]; rfl, ?_, by simp; omega, t0, t1⟩, ?_⟩
          · intro n hn
            rcases List.mem_append.mp hn with h | h
            · exact nx3 n h
            · rw [List.mem_singleton.mp h]
              exact ⟨Int.emod_nonneg _ (by decide), Int.emod_lt_of_pos _ (by decide)⟩
          · simp only [upd_same, el3, List.length_append, List.length_map, List.length_singleton]
            omega
        · rw [List.length_map] at hc
          refine ⟨_, rfl, _, rfl, _, rfl, l, _, rfl, SqL.of el3, fun p2 hp2 => ?_⟩
          rw [cut_to ys m (by omega)]
          exact k p2 (ys.take m) _ (by simp; omega) (fun n hn => nx3 n (List.mem_of_mem_take hn)) (sm3.free hp2) (Same.upd' (sm3.free hp2) sm3) upd_same
      · intro σ H3 Q1 Q2 hq h
        obtain ⟨x, e, p2, ys, e2, hq2, z, e3, i, j, e4, e5, b, e6, q⟩ := h
        exact ⟨x, e, p2, ys, e2, hq2, z, e3, i, j, e4, e5, b, e6, hq _ _ q⟩
noncomputable abbrev s_law_same : Stmt := top 13
theorem sc_law_same : FnScope ["_law_found", "_law_due"] ["_law_found", "_law_due"] (defScope s_law_same) := ⟨rfl, rfl, rfl, by decide +kernel, rfl, by decide +kernel, by decide +kernel⟩
theorem same_step {f : Addr} {fd : FuncData} {n k : Nat} {spR : Sp} (F : Fun K "_law_same" "_law_same" s_law_same f fd) (B : Bt mg) (F_law_same : FnAt P w K mg base "_law_same" k ["_law_found", "_law_due"] spR)
    (hsp : ∀ m, m + 1 = n → ∀ vs H Q E, spSame m vs H Q E → spR vs H Q E) : FnOk P w K mg base CX0 (k + 1) f fd ["_law_found", "_law_due"] (spSame n) := by
  refine F.ok sc_law_same (fun vs H Q E h => ?_) (fun cdv A outer s H vs Q E hr h => ?_)
  · obtain ⟨x, y, d, rfl, _⟩ := h
    rfl
  · obtain ⟨x, y, d, rfl, h1, h2, hdep, hsh, hsm, kk⟩ := h
    have hu := hr.units
    refine ⟨_, (pss_cons (ps_if (pt_cmpR op_isN (pv 1) pe_non (nomark _))
 (pss_one (ps_ret (pe_cmpR op_isN (pv 0) pe_non (nomark _))))
 pss_nil)
 (pss_cons (ps_if (pt_truth (pe_callB call_isiT (by rfl) B.isinstance boot_isinstance (pa_cons (pv 1) (pa_cons (pe_tup (pa_cons (pe_bltn (v := .ty "list") rfl B.list boot_list rfl) (pa_cons (pe_bltn (v := .ty "tuple") rfl B.tuple boot_tuple rfl) pa_nil))) pa_nil))) (fun _ => rfl))
 (pss_cons (ps_if (PW.pt (pw_or (pt_cmpR op_ne (pe_callB call_isi (by rfl) B.isinstance boot_isinstance (pa_cons (pv 0) (pa_cons (pe_bltn (v := .ty "list") rfl B.list boot_list rfl) pa_nil))) (pe_callB call_isi (by rfl) B.isinstance boot_isinstance (pa_cons (pv 1) (pa_cons (pe_bltn (v := .ty "list") rfl B.list boot_list rfl) pa_nil))) (nomark _)) (pw_or1 (pt_cmpR op_ne (pe_callB call_isi (by rfl) B.isinstance boot_isinstance (pa_cons (pv 0) (pa_cons (pe_bltn (v := .ty "tuple") rfl B.tuple boot_tuple rfl) pa_nil))) (pe_callB call_isi (by rfl) B.isinstance boot_isinstance (pa_cons (pv 1) (pa_cons (pe_bltn (v := .ty "tuple") rfl B.tuple boot_tuple rfl) pa_nil))) (nomark _)))))
 (pss_one (ps_ret pe_bl))
 pss_nil)
 (pss_one (ps_ret (pe_and (pe_cmpR op_eqI (pe_callB call_len_seq (by rfl) B.len PySem.boot_len (pa_cons (pv 0) pa_nil)) (pe_callB call_len_seq (by rfl) B.len PySem.boot_len (pa_cons (pv 1) pa_nil)) (nomark _)) (pe_one (pe_callB (call_all rfl) (by rfl) B.all boot_all (pa_cons (pe_comp ["_law_k"] ["_law_found", "_law_due"] [0, 1] rfl (.of (show compOk (defScope s_law_same) _ ["_law_found", "_law_due"] [0, 1] ["_law_found", "_law_due"] = true by decide +kernel)) (pi_range1 rfl B.range (pa_cons (pe_callB call_len_seq (by rfl) B.len PySem.boot_len (pa_cons (pv 1) pa_nil)) pa_nil)) (fun _ _ _ => (pg_name (i := 0) (show (["_law_k", "_law_found", "_law_due"] : List Str).Nodup by decide +kernel) rfl (Or.inl rfl))) (kg_name (by decide)) (fun _ _ _ => pif_nil) (fun _ _ _ => (pe_fn F_law_same hr rfl (pa_cons (pe_ix (ix_seqK K rfl) (pv 1) (pv 0) (fun _ _ => rfl)) (pa_cons (pe_ix (ix_seqK K rfl) (pv 2) (pv 0) (fun _ _ => rfl)) pa_nil)) (hj := Nat.le_refl _)))) pa_nil)))))))
 pss_nil)
 (pss_cons (ps_if (PW.pt (pw_or (pt_cmpR op_ne (pe_callB call_isi (by rfl) B.isinstance boot_isinstance (pa_cons (pv 0) (pa_cons (pe_bltn (v := .ty "bool") rfl B.bool boot_bool rfl) pa_nil))) (pe_callB call_isi (by rfl) B.isinstance boot_isinstance (pa_cons (pv 1) (pa_cons (pe_bltn (v := .ty "bool") rfl B.bool boot_bool rfl) pa_nil))) (nomark _)) (pw_or1 (pt_cmpR op_ne (pe_callB call_isi (by rfl) B.isinstance boot_isinstance (pa_cons (pv 0) (pa_cons (pe_bltn (v := .ty "str") rfl B.str boot_str rfl) pa_nil))) (pe_callB call_isi (by rfl) B.isinstance boot_isinstance (pa_cons (pv 1) (pa_cons (pe_bltn (v := .ty "str") rfl B.str boot_str rfl) pa_nil))) (nomark _)))))
 (pss_one (ps_ret pe_bl))
 pss_nil)
 (pss_one (ps_ret (pe_and (pe_cmpR op_eq (pe_callB call_isi (by rfl) B.isinstance boot_isinstance (pa_cons (pv 0) (pa_cons (pe_bltn (v := .ty "int") rfl B.int boot_int rfl) pa_nil))) (pe_callB call_isi (by rfl) B.isinstance boot_isinstance (pa_cons (pv 1) (pa_cons (pe_bltn (v := .ty "int") rfl B.int boot_int rfl) pa_nil))) (nomark _)) (pe_one (pe_cmpR (op_eqD hu) (pv 0) (pv 1) (nomark _))))))))), ?_⟩
    cases h1 with
    | non => simp [sml] at hsm
    | bl b => simp [sml] at hsm
    | int b =>
      cases h2
      refine ⟨_, rfl, rfl, _, rfl, iteDF (by intro h; cases h) ?_⟩
      refine ⟨_, rfl, (show 2 ≤ sizeLine by decide), fun tp htp => ⟨_, tp, ["list", "tuple"], .int b, false, rfl, upd_same, .int b, rfl, false, rfl, ?_⟩⟩
      refine ⟨_, rfl, _, "bool", .int b, false, rfl, .int b, rfl, _, rfl, _, "bool", .int b, false, rfl, .int b, rfl, rfl, _, rfl, ?_⟩
      refine ⟨_, rfl, _, "str", .int b, false, rfl, .int b, rfl, _, rfl, _, "str", .int b, false, rfl, .int b, rfl, rfl, _, rfl, ?_⟩
      refine ⟨_, rfl, _, "int", .int b, true, rfl, .int b, rfl, _, rfl, _, "int", .int b, true, rfl, .int b, rfl, rfl, _, rfl, ?_⟩
      refine ⟨_, rfl, _, rfl, _, _, .int b, .int b, hsh, hsh, ?_⟩
      rw [eqv_self hsh]
      exact kk _ (Same.upd htp)
    | str b => simp [sml] at hsm
    | @lst a1 us ds ea ta =>
      cases h2 with
      | @lst a2 ws _ eb tb =>
        have hlu := ta.length
        have hlw := tb.length
        have hsm' := hsm
        simp only [sml, Bool.and_eq_true, decide_eq_true_eq] at hsm'
        have hlen2 : ws.length ≤ 5000 := by omega
        have hln : (5000 : Nat) < sizeLine := by decide
        refine ⟨_, rfl, rfl, _, rfl, iteDF (by intro h; cases h) ?_⟩
        refine ⟨_, rfl, (show 2 ≤ sizeLine by decide), fun tp htp => ?_⟩
        have sm0 := Same.upd (o := .tup [V.ty "list", V.ty "tuple"]) htp
        refine ⟨_, tp, ["list", "tuple"], .list ds, true, rfl, upd_same, (Den.lst eb tb).mono sm0, rfl, true, rfl, ?_⟩
        generalize upd H tp (.tup [V.ty "list", V.ty "tuple"]) = H0 at sm0 ⊢
        have d1 := (Den.lst ea ta).mono sm0
        have d2 := (Den.lst eb tb).mono sm0
        refine ⟨_, rfl, _, "list", .list ds, true, rfl, d1, rfl, _, rfl, _, "list", .list ds, true, rfl, d2, rfl, rfl, _, rfl, ?_⟩
        refine ⟨_, rfl, _, "tuple", .list ds, false, rfl, d1, rfl, _, rfl, _, "tuple", .list ds, false, rfl, d2, rfl, rfl, _, rfl, ?_⟩
        refine ⟨_, rfl, a1, _, rfl, .inl (SqL.of (sm0 _ _ ea)), _, rfl, a2, _, rfl, .inl (SqL.of (sm0 _ _ eb)), _, _, rfl, rfl, _, rfl, iteDT (by omega) ?_⟩
        refine ⟨_, rfl, a2, _, rfl, .inl (SqL.of (sm0 _ _ eb)), _, rfl, by omega, by omega, comp_range (lo := 0) (fun i ys H2 => Same H0 H2 ∧ ys = List.replicate i (V.bl true)) ⟨Same.refl _, rfl⟩ ?_ ?_ ?_⟩
        · rintro i ys H2 hi ⟨sm, rfl⟩
          rw [List.length_replicate]
          omega
        · rintro i ys H2 hi ⟨sm, rfl⟩
          have hi' : i < ds.length := by omega
          obtain ⟨v1, e1, q1⟩ := ta.get (i := i) (d := ds[i]) (by simp [hi'])
          obtain ⟨v2, e2, q2⟩ := tb.get (i := i) (d := ds[i]) (by simp [hi'])
          have em : ds[i] ∈ ds := List.getElem_mem hi'
          have sm1 : Same H H2 := sm0.trans sm
          have ez : (0 : Int) + (i : Int) = (i : Int) := by omega
          refine ⟨_, rfl, _, rfl, .inl ⟨a1, _, _, _, rfl, rfl, SqL.of (sm1 _ _ ea), (by rw [ez]; exact atI_nat e1), _, rfl, _, rfl, .inl ⟨a2, _, _, _, rfl, rfl, SqL.of (sm1 _ _ eb), (by rw [ez]; exact atI_nat e2), ?_⟩⟩⟩
          have hd1 := depth_mem em
          have hdd : PyData.depthAll ds + 1 ≤ n := hdep
          refine hsp (n - 1) (by omega) _ _ _ _ ⟨v1, v2, ds[i], rfl, q1.mono sm1, q2.mono sm1, by omega, ?_, sml_mem em hsm'.2, fun H3 sm3 => ⟨sm.trans sm3, by rw [List.replicate_succ']⟩⟩
          have c1 : PyData.canLayAll0 ds = true := SeqAt.canLay_of_shaped hsh
          have c2 := SeqAt.depth_of_shaped hsh
          have c3 : PyData.depthAll ds + 1 ≤ 64 := c2
          simp only [SeqAt.shaped, canLay_mem em c1, Bool.true_and]
          exact decide_eq_true (by omega)
        · rintro ys H2 ⟨sm, rfl⟩ D hD
          refine ⟨D, List.replicate _ true, rfl, by rw [upd_same, List.map_replicate], ?_⟩
          have : ∀ k : Nat, (List.replicate k true).all id = true := fun k => by simp
          rw [this]
          exact kk _ ((sm0.trans sm).trans (Same.upd hD))
    | @tup a1 us ds ea ta =>
      cases h2 with
      | @tup a2 ws _ eb tb =>
        have hlu := ta.length
        have hlw := tb.length
        have hsm' := hsm
        simp only [sml, Bool.and_eq_true, decide_eq_true_eq] at hsm'
        have hlen2 : ws.length ≤ 5000 := by omega
        have hln : (5000 : Nat) < sizeLine := by decide
        refine ⟨_, rfl, rfl, _, rfl, iteDF (by intro h; cases h) ?_⟩
        refine ⟨_, rfl, (show 2 ≤ sizeLine by decide), fun tp htp => ?_⟩
        have sm0 := Same.upd (o := .tup [V.ty "list", V.ty "tuple"]) htp
        refine ⟨_, tp, ["list", "tuple"], .tuple ds, true, rfl, upd_same, (Den.tup eb tb).mono sm0, rfl, true, rfl, ?_⟩
        generalize upd H tp (.tup [V.ty "list", V.ty "tuple"]) = H0 at sm0 ⊢
        have d1 := (Den.tup ea ta).mono sm0
        have d2 := (Den.tup eb tb).mono sm0
        refine ⟨_, rfl, _, "list", .tuple ds, false, rfl, d1, rfl, _, rfl, _, "list", .tuple ds, false, rfl, d2, rfl, rfl, _, rfl, ?_⟩
        refine ⟨_, rfl, _, "tuple", .tuple ds, true, rfl, d1, rfl, _, rfl, _, "tuple", .tuple ds, true, rfl, d2, rfl, rfl, _, rfl, ?_⟩
        refine ⟨_, rfl, a1, _, rfl, .inr (SqT.of (sm0 _ _ ea)), _, rfl, a2, _, rfl, .inr (SqT.of (sm0 _ _ eb)), _, _, rfl, rfl, _, rfl, iteDT (by omega) ?_⟩
        refine ⟨_, rfl, a2, _, rfl, .inr (SqT.of (sm0 _ _ eb)), _, rfl, by omega, by omega, comp_range (lo := 0) (fun i ys H2 => Same H0 H2 ∧ ys = List.replicate i (V.bl true)) ⟨Same.refl _, rfl⟩ ?_ ?_ ?_⟩
        · rintro i ys H2 hi ⟨sm, rfl⟩
          rw [List.length_replicate]
          omega
        · rintro i ys H2 hi ⟨sm, rfl⟩
          have hi' : i < ds.length := by omega
          obtain ⟨v1, e1, q1⟩ := ta.get (i := i) (d := ds[i]) (by simp [hi'])
          obtain ⟨v2, e2, q2⟩ := tb.get (i := i) (d := ds[i]) (by simp [hi'])
          have em : ds[i] ∈ ds := List.getElem_mem hi'
          have sm1 : Same H H2 := sm0.trans sm
          have ez : (0 : Int) + (i : Int) = (i : Int) := by omega
          refine ⟨_, rfl, _, rfl, .inr (.inl ⟨a1, _, _, _, rfl, rfl, SqT.of (sm1 _ _ ea), (by rw [ez]; exact atI_nat e1), _, rfl, _, rfl, .inr (.inl ⟨a2, _, _, _, rfl, rfl, SqT.of (sm1 _ _ eb), (by rw [ez]; exact atI_nat e2), ?_⟩)⟩)⟩
          have hd1 := depth_mem em
          have hdd : PyData.depthAll ds + 1 ≤ n := hdep
          refine hsp (n - 1) (by omega) _ _ _ _ ⟨v1, v2, ds[i], rfl, q1.mono sm1, q2.mono sm1, by omega, ?_, sml_mem em hsm'.2, fun H3 sm3 => ⟨sm.trans sm3, by rw [List.replicate_succ']⟩⟩
          have c1 : PyData.canLayAll0 ds = true := SeqAt.canLay_of_shaped hsh
          have c2 := SeqAt.depth_of_shaped hsh
          have c3 : PyData.depthAll ds + 1 ≤ 64 := c2
          simp only [SeqAt.shaped, canLay_mem em c1, Bool.true_and]
          exact decide_eq_true (by omega)
        · rintro ys H2 ⟨sm, rfl⟩ D hD
          refine ⟨D, List.replicate _ true, rfl, by rw [upd_same, List.map_replicate], ?_⟩
          have : ∀ k : Nat, (List.replicate k true).all id = true := fun k => by simp
          rw [this]
          exact kk _ ((sm0.trans sm).trans (Same.upd hD))
theorem ok_same {f : Addr} {fd : FuncData} (F : Fun K "_law_same" "_law_same" s_law_same f fd) (B : Bt mg) (hmg : mg "_law_same" = some (.ref f)) (hb : Binds K fd ["_law_found", "_law_due"] []) :
    ∀ n, FnOk P w K mg base CX0 (n + 1) f fd ["_law_found", "_law_due"] (spSame n) := by
  intro n
  induction n with
  | zero =>
    refine same_step (k := 0) (spR := fun _ _ _ _ => False) F B ⟨f, fd, ⟨fun _ _ _ _ h => h.elim, fun _ _ _ _ _ _ _ _ _ _ _ _ _ h => h.elim⟩, hmg, F.kp, hb⟩ fun m hm => ?_
    omega
  | succ n ih =>
    refine same_step F B ⟨f, fd, ih, hmg, F.kp, hb⟩ fun m hm vs H Q E h => ?_
    obtain rfl : m = n := by omega
    exact h
noncomputable abbrev s_law_row : Stmt := top 14
theorem sc_law_row : FnScope ["_law_d", "_law_most", "_law_place", "_law_row_here", "_law_k", "_law_step"] ["_law_d", "_law_most"] (defScope s_law_row) := ⟨rfl, rfl, rfl, by decide +kernel, rfl, by decide +kernel, by decide +kernel⟩
inductive I1_law_row (H : Hp) (a : Addr) (l : Addr) (m : Nat) (i : Nat) (σ : St) (H2 : Hp) : Prop
  | mk (place : Int) (row : List Int) (v1 v2 : Option V) (k0_ : σ = [some (.ref a), some (.int m), some (.int place), some (.ref l), v1, v2]) (k1_ : Same H H2) (k2_ : H2 l = some (.lst (row.map V.int))) (k3_ : Row row) (k4_ : row.length = i) (k5_ : -15 ≤ place) (k6_ : place ≤ 15 + 12 * i) (k7_ : ∀ x ∈ row, -15 ≤ x ∧ x ≤ place) : I1_law_row H a l m i σ H2
theorem ok_row {f : Addr} {fd : FuncData} (F : Fun K "_law_row" "_law_row" s_law_row f fd) (B : Bt mg) : FnOk P w K mg base CX0 1 f fd ["_law_d", "_law_most"] spRow := by
  refine F.ok sc_law_row (fun vs H Q E h => ?_) (fun cdv A outer s H vs Q E hr h => ?_)
  · obtain ⟨a, ns, m, rfl, _⟩ := h
    rfl
  · obtain ⟨a, ns, m, rfl, ha, hns, hlen, hm, k⟩ := h
    refine ⟨_, (pss_cons (ps_set (i := 2) sc_law_row.nd rfl (Or.inl rfl) (pe_op op_sub (pe_op op_mod (pe_ix ix_list (pv 0) pe_int (fun _ _ => rfl)) pe_int) pe_int))
 (pss_cons (ps_set (i := 3) sc_law_row.nd rfl (Or.inl rfl) (pe_lst pa_nil))
 (pss_cons (ps_for PassesOwn.never rfl (pi_range1 rfl B.range (pa_cons (pe_op op_mod (pe_ix ix_list (pv 0) pe_int (fun _ _ => rfl)) (pe_op op_add (pv 1) pe_int)) pa_nil)) (pg_name (i := 4) sc_law_row.nd rfl (Or.inl rfl))
 (pss_cons (ps_set (i := 5) sc_law_row.nd rfl (Or.inl rfl) (pe_ix ix_list (pv 0) (pe_op op_add pe_int (pv 4)) (fun _ _ => rfl)))
 (pss_cons (ps_set (i := 2) sc_law_row.nd rfl (Or.inl rfl) (pe_op op_add (pe_op op_add (pv 2) pe_int) (pe_cut (pe_ifExp (pt_cmpR op_eqI (pe_op op_mod (pv 5) pe_int) pe_int (nomark _)) pe_int (pe_op op_mod (pe_op op_fdiv (pv 5) pe_int) (pe_ix ix_list (pe_lst (pa_cons pe_int (pa_cons pe_int (pa_cons pe_int (pa_cons pe_int pa_nil))))) (pe_op op_mod (pe_ix ix_list (pv 0) pe_int (fun _ _ => rfl)) pe_int) (fun _ _ => rfl)))))))
 (pss_one (ps_expr (pe_bm PySem.F.plainAttrs_list PySem.F.slot_list_append PySem.F.type_list_append mt_append (pv 3) (pa_cons (pv 2) pa_nil)))))))
 (pss_one (ps_ret (pv 3)))))), ?_⟩
    obtain ⟨n0, m0, _, e0⟩ := at_mem (ns := ns) (i := 0) (by omega) (by omega)
    obtain ⟨n1, m1, _, e1⟩ := at_mem (ns := ns) (i := 1) (by omega) (by omega)
    obtain ⟨n2, m2, _, e2⟩ := at_mem (ns := ns) (i := 2) (by omega) (by omega)
    have p1 : (0 : Int) < (m : Int) + 1 := by omega
    have q1 := Int.emod_nonneg n1 (show ((m : Int) + 1) ≠ 0 by omega)
    have q2 := Int.emod_lt_of_pos n1 p1
    have r1 := Int.emod_nonneg n0 (show (31 : Int) ≠ 0 by decide)
    have r2 := Int.emod_lt_of_pos n0 (show (0 : Int) < 31 by decide)
    refine ⟨_, rfl, a, _, _, _, rfl, rfl, SqL.of ha, e0, _, _, rfl, rfl, (by show (0 : Int) < 31; decide), _, _, rfl, rfl, by decide, fun l hl => ?_⟩
    have ha' := Same.upd (o := .lst []) hl _ _ ha
    refine ⟨_, rfl, a, _, _, _, rfl, rfl, SqL.of ha', e1, _, rfl, _, _, rfl, rfl, _, _, rfl, rfl, p1, _, rfl, by omega, by omega,
      for_range (lo := 0) (n := (n1 % ((m : Int) + 1)).toNat) (I1_law_row H a l m) ⟨_, [], none, none, rfl, Same.upd hl, upd_same, List.Pairwise.nil, rfl, by omega, by omega, fun x hx => by cases hx⟩ ?_ ?_⟩
    · rintro i σ H2 hi ⟨place, row, v1, v2, rfl, sm, el, hrow, hrl, h1, h2, hx⟩
      obtain ⟨st, ms, _, es⟩ := at_mem (ns := ns) (i := 3 + (0 + (i : Int))) (by omega) (by omega)
      refine ⟨_, rfl, _, rfl, _, _, rfl, rfl, a, _, _, _, rfl, rfl, SqL.of (sm _ _ ha), es, ?_⟩
      refine ⟨_, rfl, _, _, rfl, rfl, fun v H3 => ∃ d : Int, v = .int d ∧ 0 ≤ d ∧ d ≤ 11 ∧ (H3 = H2 ∨ ∃ p xs, H2 p = none ∧ H3 = upd H2 p (.lst xs)), ?_, ?_⟩
      · refine ⟨_, rfl, _, _, rfl, rfl, (by show (0 : Int) < 3; decide), _, _, rfl, rfl, _, rfl, iteD (fun _ => ⟨0, rfl, by decide, by decide, .inl rfl⟩) (fun _ => ?_)⟩
        refine ⟨_, rfl, _, _, rfl, rfl, ⟨by decide, by decide⟩, (by show 4 ≤ sizeLine; decide), fun p hp => ?_⟩
        obtain ⟨w', mw, _, ew⟩ := at_mem (ns := [2, 3, 5, 12]) (i := n2 % 4) (Int.emod_nonneg _ (by decide)) (Int.emod_lt_of_pos _ (by decide))
        refine ⟨_, rfl, a, _, _, _, rfl, rfl, SqL.of ((Same.upd hp) _ _ (sm _ _ ha)), e2, _, _, rfl, rfl, (by show (0 : Int) < 4; decide), p, _, _, _, rfl, rfl, SqL.of upd_same, ew, _, _, rfl, rfl, ?_, _, rfl, ?_, ?_, .inr ⟨p, _, hp, rfl⟩⟩
        · simp at mw; omega
        · exact Int.emod_nonneg _ (by simp at mw; omega)
        · have := Int.emod_lt_of_pos (st / 3) (show (0 : Int) < w' by simp at mw; omega)
          simp at mw
          show st / 3 % w' ≤ 11
          omega
      · rintro v H3 ⟨d, rfl, d0, d1, hH3⟩
        have sm3 : Same H H3 := by
          rcases hH3 with e | ⟨p, xs, hp, e⟩
          · rw [e]; exact sm
          · rw [e]; exact Same.upd' (sm.free hp) sm
        have el3 : H3 l = some (.lst (row.map V.int)) := by
          rcases hH3 with e | ⟨p, xs, hp, e⟩
          · rw [e]; exact el
          · rw [e, upd_ne (ne_of_none el hp)]; exact el
        refine ⟨_, _, rfl, rfl, _, rfl, .inl ⟨rfl, _, SqL.of el3⟩, _, rfl, l, _, _, rfl, rfl, el3, (by rw [List.length_map]; exact line_of (by omega)), ?_⟩
        refine ⟨place + 1 + d, row ++ [place + 1 + d], _, _, rfl, Same.upd' hl sm3, by rw [upd_same, List.map_append]; rfl, row_snoc hrow fun y hy => ?_, by simp [hrl], by omega, by omega, fun x hx' => ?_⟩
        · have := hx y hy; omega
        · rcases List.mem_append.mp hx' with h | h
          · have := hx x h; omega
          · rw [List.mem_singleton.mp h]; omega
    · rintro σ H2 ⟨place, row, v1, v2, rfl, sm, el, hrow, hrl, h1, h2, hx⟩
      exact ⟨_, rfl, k row hrow (by omega) (fun x h => by have := hx x h; omega) l H2 hl sm el⟩
noncomputable abbrev s_law_long_row : Stmt := top 15
theorem sc_law_long_row : FnScope ["_law_d", "_law_most", "_law_row_here", "_law_cut", "_law_by"] ["_law_d", "_law_most"] (defScope s_law_long_row) := ⟨rfl, rfl, rfl, by decide +kernel, rfl, by decide +kernel, by decide +kernel⟩
theorem ok_long {f : Addr} {fd : FuncData} (F : Fun K "_law_long_row" "_law_long_row" s_law_long_row f fd) (B : Bt mg) (F_law_row : FnAt P w K mg base "_law_row" 1 ["_law_d", "_law_most"] spRow) : FnOk P w K mg base CX0 2 f fd ["_law_d", "_law_most"] spLong := by
  refine F.ok sc_law_long_row (fun vs H Q E h => ?_) (fun cdv A outer s H vs Q E hr h => ?_)
  · obtain ⟨a, ns, m, rfl, _⟩ := h
    rfl
  · obtain ⟨a, ns, m, rfl, ha, hns, hlen, hm, k⟩ := h
    refine ⟨_, (pss_cons (ps_set (i := 2) sc_law_long_row.nd rfl (Or.inl rfl) (pe_fn F_law_row hr rfl (pa_cons (pv 0) (pa_cons (pv 1) pa_nil))))
 (pss_cons (ps_set (i := 3) sc_law_long_row.nd rfl (Or.inl rfl) (pe_op op_mod (pe_op op_fdiv (pe_ix ix_list (pv 0) pe_int (fun _ _ => rfl)) pe_int) (pe_op op_add (pe_callB call_len_seq (by rfl) B.len PySem.boot_len (pa_cons (pv 2) pa_nil)) pe_int)))
 (pss_cons (ps_set (i := 4) sc_law_long_row.nd rfl (Or.inr rfl) (pe_ix ix_list (pe_lst (pa_cons pe_int (pa_cons (pe_op op_pow pe_int pe_int) (pa_cons (pe_op op_pow pe_int pe_int) (pa_cons (pe_op op_pow pe_int pe_int) pa_nil))))) (pe_op op_mod (pe_op op_fdiv (pe_ix ix_list (pv 0) pe_int (fun _ _ => rfl)) pe_int) pe_int) (fun _ _ => rfl)))
 (pss_one (ps_ret (pe_op op_cat (pe_slice sl_list (pv 2) po_none (po_some (pv 3))) (pe_comp ["_law_place"] ["_law_by"] [4] rfl (.of (show compOk (defScope s_law_long_row) _ ["_law_d", "_law_most", "_law_row_here", "_law_cut", "_law_by"] [4] ["_law_by"] = true by decide +kernel)) (pi_list (pe_slice sl_list (pv 2) (po_some (pv 3)) po_none)) (fun _ _ _ => (pg_name (i := 0) (show (["_law_place", "_law_by"] : List Str).Nodup by decide +kernel) rfl (Or.inl rfl))) (kg_name (by decide)) (fun _ _ _ => pif_nil) (fun _ _ _ => (pe_op op_add (pv 0) (pv 1)))))))))), ?_⟩
    obtain ⟨n2, m2, _, e2⟩ := at_mem (ns := ns) (i := 2) (by omega) (by omega)
    refine ⟨_, rfl, _, rfl, a, ns, m, rfl, ha, hns, hlen, hm, fun row hrow hrl hrb l H1 hl sm el => ?_⟩
    have p1 : (0 : Int) < (row.length : Int) + 1 := by omega
    refine ⟨_, rfl, a, _, _, _, rfl, rfl, SqL.of (sm _ _ ha), e2, _, _, rfl, rfl, ⟨by decide, by decide⟩, _, rfl, l, _, rfl, .inl (SqL.of el), _, _, rfl, rfl, _, _, rfl, rfl, (by rw [List.length_map]; exact p1), ?_⟩
    have c0 : 0 ≤ n2 / 4 % ((row.length : Int) + 1) := Int.emod_nonneg _ (by omega)
    have c1 : n2 / 4 % ((row.length : Int) + 1) < (row.length : Int) + 1 := Int.emod_lt_of_pos _ p1
    obtain ⟨c, hc⟩ : ∃ c : Nat, n2 / 4 % (((row.map V.int).length : Int) + 1) = (c : Int) := ⟨(n2 / 4 % (((row.map V.int).length : Int) + 1)).toNat, by rw [List.length_map]; omega⟩
    have hcl : c ≤ row.length := by rw [List.length_map] at hc; omega
    refine ⟨_, _, rfl, rfl, ⟨by decide, by decide, by decide⟩, _, _, rfl, rfl, ⟨by decide, by decide, by decide⟩, _, _, rfl, rfl, ⟨by decide, by decide, by decide⟩, (show 4 ≤ sizeLine by decide), fun p hp => ?_⟩
    obtain ⟨b, mb, _, eb⟩ := at_mem (ns := [0, 10 ^ (3 : Int).toNat, 10 ^ (12 : Int).toNat, 10 ^ (40 : Int).toNat]) (i := n2 / 64 % 4) (Int.emod_nonneg _ (by decide)) (Int.emod_lt_of_pos _ (by decide))
    have hb : 0 ≤ b := by
      simp only [List.mem_cons, List.mem_nil_iff, or_false] at mb
      rcases mb with h | h | h | h <;> rw [h] <;> decide
    have smp := Same.upd (o := .lst [V.int 0, V.int (10 ^ (3 : Int).toNat), V.int (10 ^ (12 : Int).toNat), V.int (10 ^ (40 : Int).toNat)]) hp
    refine ⟨_, rfl, a, _, _, _, rfl, rfl, SqL.of (smp _ _ (sm _ _ ha)), e2, _, _, rfl, rfl, ⟨by decide, by decide⟩, _, _, rfl, rfl, (by show (0 : Int) < 4; decide), p, _, _, _, rfl, rfl, SqL.of upd_same, eb, ?_⟩
    -- the two parts
    have el2 := smp _ _ el
    have sm2 : Same H (upd H1 p (.lst [V.int 0, V.int (10 ^ (3 : Int).toNat), V.int (10 ^ (12 : Int).toNat), V.int (10 ^ (40 : Int).toNat)])) := sm.trans smp
    generalize upd H1 p (.lst [V.int 0, V.int (10 ^ (3 : Int).toNat), V.int (10 ^ (12 : Int).toNat), V.int (10 ^ (40 : Int).toNat)]) = H2 at el2 sm2 ⊢
    refine ⟨_, rfl, _, rfl, _, rfl, l, _, rfl, SqL.of el2, fun p1 hp1 => ?_⟩
    have ec1 : cutV (row.map V.int) none (some (n2 / 4 % (((row.map V.int).length : Int) + 1))) = (row.take c).map V.int := by rw [hc]; exact cut_to row c hcl
    rw [show cutV (row.map V.int) none (some ((fun i j => i % j) (n2 / 4) (((row.map V.int).length : Int) + 1))) = (row.take c).map V.int from ec1]
    have el3 := Same.upd (o := .lst ((row.take c).map V.int)) hp1 _ _ el2
    have sm3 : Same H (upd H2 p1 (.lst ((row.take c).map V.int))) := sm2.trans (Same.upd hp1)
    have ep1 : (upd H2 p1 (.lst ((row.take c).map V.int))) p1 = some (.lst ((row.take c).map V.int)) := upd_same
    generalize upd H2 p1 (.lst ((row.take c).map V.int)) = H3 at el3 sm3 ep1 ⊢
    refine ⟨_, rfl, _, rfl, _, rfl, l, _, rfl, SqL.of el3, fun p2 hp2 => ?_⟩
    have ec2 : cutV (row.map V.int) (some (n2 / 4 % (((row.map V.int).length : Int) + 1))) none = (row.drop c).map V.int := by rw [hc]; exact cut_from row c hcl
    rw [show cutV (row.map V.int) (some ((fun i j => i % j) (n2 / 4) (((row.map V.int).length : Int) + 1))) none = (row.drop c).map V.int from ec2]
    have sm4 := Same.upd (o := .lst ((row.drop c).map V.int)) hp2
    have ep2 : (upd H3 p2 (.lst ((row.drop c).map V.int))) p2 = some (.lst ((row.drop c).map V.int)) := upd_same
    generalize upd H3 p2 (.lst ((row.drop c).map V.int)) = H4 at sm4 ep2 ⊢
    have hdl : (row.drop c).length ≤ 60 := by simp; omega
    refine ⟨p2, rfl, ⟨_, SqL.of ep2⟩, comp_list (xs := (row.drop c).map V.int) (fun i ys H5 => H5 = H4 ∧ ys = (((row.drop c).take i).map (fun z => z + b)).map V.int) ⟨rfl, rfl⟩ ?_ ?_ ?_⟩
    · rintro i ys H5 hi ⟨rfl, rfl⟩
      exact ⟨SqL.of ep2, take_len _ _ (by rw [List.length_map] at hi; omega) _⟩
    · rintro i x ys H5 hi ⟨rfl, rfl⟩
      obtain ⟨z, rfl, hz⟩ := int_at hi
      exact ⟨_, rfl, _, rfl, _, _, rfl, rfl, rfl, snoc_map _ hz⟩
    · rintro ys H5 ⟨rfl, rfl⟩ D hD
      rw [List.length_map, List.take_length]
      have smD := Same.upd (o := .lst (((row.drop c).map (fun z => z + b)).map V.int)) hD
      refine ⟨p1, D, _, _, rfl, rfl, smD _ _ (sm4 _ _ ep1), upd_same, ?_, fun q hq => ?_⟩
      · simp only [List.length_map, List.length_take, List.length_drop]
        exact line_le (by omega)
      · rw [← List.map_append]
        have smH := (sm3.trans sm4).trans smD
        refine k _ (row_long (c := c) hrow hb) ?_ q _ (smH.free hq) (Same.upd' (smH.free hq) smH) upd_same
        simp only [List.length_append, List.length_map, List.length_take, List.length_drop]
        omega
noncomputable abbrev s_law_runs : Stmt := top 16
theorem sc_law_runs : FnScope ["_law_row_here", "_law_found", "_law_place"] ["_law_row_here"] (defScope s_law_runs) := ⟨rfl, rfl, rfl, by decide +kernel, rfl, by decide +kernel, by decide +kernel⟩
theorem ok_runs {f : Addr} {fd : FuncData} (F : Fun K "_law_runs" "_law_runs" s_law_runs f fd) (B : Bt mg) : FnOk P w K mg base CX0 1 f fd ["_law_row_here"] spRuns := by
  refine F.ok sc_law_runs (fun vs H Q E h => ?_) (fun cdv A outer s H vs Q E hr h => ?_)
  · obtain ⟨a, r, rfl, _⟩ := h
    rfl
  · obtain ⟨a, row, rfl, ha, hlen, k⟩ := h
    have hu := hr.units
    refine ⟨_, (pss_cons (ps_set (i := 1) sc_law_runs.nd rfl (Or.inl rfl) (pe_lst pa_nil))
 (pss_cons (ps_for PassesOwn.never rfl (pi_list (pv 0)) (pg_name (i := 2) sc_law_runs.nd rfl (Or.inl rfl))
 (pss_one (ps_if (PW.pt (pw_and (pt_cmpR (op_neD hu) (pv 1) (pe_lst pa_nil) (nomark _)) (pw_and1 (pt_cmpR op_eqI (pe_ix ix_tup (pe_ix ix_list (pv 1) (pe_un un_neg pe_int) (fun _ _ => rfl)) pe_int (fun _ _ => rfl)) (pe_op op_sub (pv 2) pe_int) (nomark _)))))
 (pss_one (ps_asg (pe_tup (pa_cons (pe_ix ix_tup (pe_ix ix_list (pv 1) (pe_un un_neg pe_int) (fun _ _ => rfl)) pe_int (fun _ _ => rfl)) (pa_cons (pv 2) pa_nil))) (pg_sub (pv 1) (pe_un un_neg pe_int) set_list)))
 (pss_one (ps_expr (pe_bm PySem.F.plainAttrs_list PySem.F.slot_list_append PySem.F.type_list_append mt_append (pv 1) (pa_cons (pe_tup (pa_cons (pv 2) (pa_cons (pv 2) pa_nil))) pa_nil)))))))
 (pss_one (ps_ret (pv 1))))), ?_⟩
    refine ⟨by decide, fun l hl => ?_⟩
    refine ⟨_, rfl, a, rfl, ⟨_, SqL.of (Same.upd hl _ _ ha)⟩, for_list (K := K) (a := a) (xs := row.map V.int) (fun i σ H2 => ∃ (us : List V) (v : Option V), σ = [some (.ref a), some (.ref l), v] ∧ Same H H2 ∧ H2 l = some (.lst us) ∧ Prs H2 us (runsM (row.take i)) ∧ us.length ≤ i)
      ⟨[], none, rfl, Same.upd hl, upd_same, .nil, Nat.le_refl _⟩ (fun i σ H2 _ ⟨us, v, _, sm, _⟩ => SqL.of (sm _ _ ha)) ?_ ?_⟩
    · rintro i x σ H1 hi ⟨us, v, rfl, sm1, el1, pr1, hul⟩
      have hil : i < row.length := by
        have := (List.getElem?_eq_some_iff.mp hi).1
        simpa using this
      obtain ⟨z, rfl, hz⟩ := int_at hi
      -- _law_found != []
      refine ⟨_, rfl, by decide, fun p0 hp0 => ?_⟩
      have sm : Same H (upd H1 p0 (.lst [])) := Same.upd' (sm1.free hp0) sm1
      have el : (upd H1 p0 (.lst [])) l = some (.lst us) := by rw [upd_ne (ne_of_none el1 hp0)]; exact el1
      have pr : Prs (upd H1 p0 (.lst [])) us (runsM (row.take i)) := Prs.mono (TupS.new hp0) pr1
      have e0 : (upd H1 p0 (.lst [])) p0 = some (.lst []) := upd_same
      generalize upd H1 p0 (.lst []) = H2 at sm el pr e0
      refine ⟨_, _, .lst el pr.dens, .lst e0 .nil, shaped_pairs _, rfl, _, rfl, ?_⟩
      rcases List.eq_nil_or_concat (runsM (row.take i)) with e | ⟨ps, q, e⟩
      · have eu : us = [] := by rw [e] at pr; cases pr; rfl
        rw [e]
        refine ⟨_, rfl, .inl ⟨rfl, _, SqL.of el⟩, _, rfl, _, rfl, (show 2 ≤ sizeLine by decide), fun t ht => ?_⟩
        have el' : (upd H2 t (.tup [.int z, .int z])) l = some (.lst us) := by rw [upd_ne (ne_of_none el ht)]; exact el
        refine ⟨l, us, _, rfl, rfl, el', line_of (by omega), us ++ [.ref t], _, rfl, Same.upd' hl (Same.upd' (sm.free ht) sm), upd_same, ?_, by simp; omega⟩
        rw [← runs_snoc hz, e, stepR_nil, eu]
        exact .cons ⟨t, rfl, by rw [upd_ne (Ne.symm (ne_of_none el ht)), upd_same]⟩ .nil
      · rw [List.concat_eq_append] at e
        have pr' := pr
        rw [e] at pr'
        obtain ⟨us', u, eu, pr1', t0, ru, ht0⟩ := Paired.split_last pr'
        subst eu ru
        have ne : PyData.eqv (.list ((runsM (row.take i)).map pD)) (.list []) = false := by
          rw [e]
          cases ps <;> rfl
        rw [ne]
        by_cases hq : q.2 = z - 1
        · refine ⟨_, rfl, _, rfl, l, _, _, _, rfl, rfl, SqL.of el, atI_last _ _, t0, _, _, _, rfl, rfl, SqT.of ht0, rfl, _, rfl, _, _, rfl, rfl, _, _, rfl, rfl, _, rfl, iteDT hq ?_⟩
          refine ⟨_, rfl, _, rfl, l, _, _, _, rfl, rfl, SqL.of el, atI_last _ _, t0, _, _, _, rfl, rfl, SqT.of ht0, rfl, _, rfl, (show 2 ≤ sizeLine by decide), fun t ht => ?_⟩
          have el' : (upd H2 t (.tup [.int q.1, .int z])) l = some (.lst (us' ++ [.ref t0])) := by rw [upd_ne (ne_of_none el ht)]; exact el
          refine ⟨_, rfl, _, rfl, l, _, _, _, rfl, rfl, el', ix_last _ _, ?_⟩
          rw [set_last]
          refine ⟨us' ++ [.ref t], _, rfl, Same.upd' hl (Same.upd' (sm.free ht) sm), upd_same, ?_, by simp at hul ⊢; omega⟩
          rw [← runs_snoc hz, e, stepR_snoc, if_pos hq]
          exact Paired.append' (Prs.mono (TupS.trans (TupS.new ht) (TupS.lst el')) pr1') (.cons ⟨t, rfl, by rw [upd_ne (Ne.symm (ne_of_none el ht)), upd_same]⟩ .nil)
        · refine ⟨_, rfl, _, rfl, l, _, _, _, rfl, rfl, SqL.of el, atI_last _ _, t0, _, _, _, rfl, rfl, SqT.of ht0, rfl, _, rfl, _, _, rfl, rfl, _, _, rfl, rfl, _, rfl, iteDF hq ?_⟩
          refine ⟨_, rfl, .inl ⟨rfl, _, SqL.of el⟩, _, rfl, _, rfl, (show 2 ≤ sizeLine by decide), fun t ht => ?_⟩
          have el' : (upd H2 t (.tup [.int z, .int z])) l = some (.lst (us' ++ [.ref t0])) := by rw [upd_ne (ne_of_none el ht)]; exact el
          refine ⟨l, us' ++ [.ref t0], _, rfl, rfl, el', line_of (by omega), us' ++ [.ref t0] ++ [.ref t], _, rfl, Same.upd' hl (Same.upd' (sm.free ht) sm), upd_same, ?_, by simp at hul ⊢; omega⟩
          rw [← runs_snoc hz, e, stepR_snoc, if_neg hq, ← e]
          exact Paired.append' (Prs.mono (TupS.trans (TupS.new ht) (TupS.lst el')) pr) (.cons ⟨t, rfl, by rw [upd_ne (Ne.symm (ne_of_none el ht)), upd_same]⟩ .nil)
    · rintro σ H2 ⟨us, v, rfl, sm, el, pr, hu⟩
      rw [List.length_map, List.take_length] at pr
      exact ⟨_, rfl, k l us H2 hl sm el pr⟩
noncomputable abbrev s_law_peel : Stmt := top 17
theorem sc_law_peel : FnScope ["_law_row_here", "_law_lasts"] ["_law_row_here"] (defScope s_law_peel) := ⟨rfl, rfl, rfl, by decide +kernel, rfl, by decide +kernel, by decide +kernel⟩
theorem ok_law_peel {f : Addr} {fd : FuncData} (F : Fun K "_law_peel" "_law_peel" s_law_peel f fd) (B : Bt mg) (F_law_runs : FnAt P w K mg base "_law_runs" 1 ["_law_row_here"] spRuns) : FnOk P w K mg base CX0 2 f fd ["_law_row_here"] spPeeled := by
  refine F.ok sc_law_peel (fun vs H Q E h => ?_) (fun cdv A outer s H vs Q E hr h => ?_)
  · obtain ⟨a, r, rfl, _⟩ := h
    rfl
  · obtain ⟨a, row, rfl, ha, hrow, hlen, k⟩ := h
    refine ⟨_, (pss_cons (ps_set (i := 1) sc_law_peel.nd rfl (Or.inr rfl) (pe_comp ["_law_first", "_law_last"] [] [] rfl (.of (show compOk (defScope s_law_peel) _ ["_law_row_here", "_law_lasts"] [] [] = true by decide +kernel)) (pi_list (pe_fn F_law_runs hr rfl (pa_cons (pv 0) pa_nil))) (fun _ _ _ => (pg_tupK (n := 2) K rfl rfl (pgs_cons (pg_name (i := 0) (show (["_law_first", "_law_last"] : List Str).Nodup by decide +kernel) rfl (Or.inl rfl)) (pgs_cons (pg_name (i := 1) (show (["_law_first", "_law_last"] : List Str).Nodup by decide +kernel) rfl (Or.inl rfl)) pgs_nil)))) (kg_tup (kgs_cons (by decide) (kgs_cons (by decide) kgs_nil))) (fun _ _ _ => pif_nil) (fun _ _ _ => (pv 1))))
 (pss_one (ps_ret (pe_compC ["_law_place"] ["_law_lasts"] [1] rfl (.of (show compOkC (defScope s_law_peel) _ ["_law_row_here", "_law_lasts"] [1] ["_law_lasts"] = true by decide +kernel)) (pi_list (pv 0)) (fun _ _ _ => (pg_name (i := 0) (show (["_law_place", "_law_lasts"] : List Str).Nodup by decide +kernel) rfl (Or.inr rfl))) (kg_name (by decide)) (fun _ _ _ => pif_one (pt_cmpR (op_notIn_seqK K rfl) (pv 0) (pv 1) (by with_unfolding_all rfl))) (fun _ _ _ => (pe_op op_sub (pv 0) (pe_op op_mul pe_int (pe_callB (call_len_seqK K rfl) (by rfl) B.len PySem.boot_len (pa_cons (pe_comp ["_law_last"] ["_law_place"] [0] rfl (.of (by rfl)) (pi_listK K rfl (pv 1)) (fun _ _ _ => (pg_name (i := 0) (show (["_law_last", "_law_place"] : List Str).Nodup by decide +kernel) rfl (Or.inl rfl))) (kg_name (by decide)) (fun _ _ _ => pif_one (pt_cmpR op_lt (pv 0) (pv 1) (nomark _))) (fun _ _ _ => (pv 0))) pa_nil))))))))), ?_⟩
    refine ⟨_, rfl, a, row, rfl, ha, hlen, fun l us H1 hl g1 el pr => ?_⟩
    have e : us.length = (runsM row).length := pr.len
    have hrn := runsM_len row
    refine ⟨l, rfl, ⟨_, SqL.of el⟩, comp_list (K := K) (a := l) (xs := us) (fun j ys H2 => H2 = H1 ∧ ys = (((runsM row).take j).map (·.2)).map V.int) ⟨rfl, rfl⟩ ?_ ?_ ?_⟩
    · rintro j ys H2 hj ⟨rfl, rfl⟩
      exact ⟨SqL.of el, by rw [List.length_map, List.length_map, List.length_take]; exact line_of (by omega)⟩
    · rintro j x ys H2 hj ⟨rfl, rfl⟩
      obtain ⟨q, t2, hq, rfl, et2⟩ := paired_at pr hj
      exact ⟨t2, _, rfl, SqT.of et2, rfl, _, _, rfl, _, _, rfl, rfl, _, rfl, rfl, snoc_pairs (·.2) hq⟩
    rintro ys H2 ⟨rfl, rfl⟩ ll hll
    rw [e, List.take_length, runs_ends]
    have hel : (endsG row).length ≤ 60 := by rw [← runs_ends, List.length_map]; omega
    have hlm : ((endsG row).map V.int).length = (endsG row).length := List.length_map _
    have g2 := Same.upd (o := .lst ((endsG row).map V.int)) hll
    have ell : (upd H2 ll (.lst ((endsG row).map V.int))) ll = some (.lst ((endsG row).map V.int)) := upd_same
    generalize upd H2 ll (.lst ((endsG row).map V.int)) = H3 at g2 ell ⊢
    have s13 := g1.trans g2
    have ha3 := s13 _ _ ha
    refine ⟨_, rfl, a, rfl, ⟨_, SqL.of ha3⟩, comp_list (K := K) (a := a) (xs := row.map V.int) (fun i ys H4 => ∃ stays : List Int, ys = stays.map V.int ∧ Same H3 H4 ∧ PlI row i stays ∧ stays.length ≤ i) ⟨[], rfl, Same.refl _, PlI.init row, Nat.le_refl _⟩ ?_ ?_ ?_⟩
    · rintro i ys H4 hi ⟨stays, rfl, sm, _, hs⟩
      rw [List.length_map] at hi
      exact ⟨SqL.of (sm _ _ ha3), by rw [List.length_map]; exact line_of (by omega)⟩
    · rintro i x ys H4 hi ⟨stays, rfl, sm, hp, hs⟩
      obtain ⟨z, rfl, hz⟩ := int_at hi
      have ell4 := sm _ _ ell
      refine ⟨_, rfl, _, rfl, ll, _, rfl, .inl (SqL.of ell4), rfl, flat_ints _, _, rfl, ?_⟩
      rw [show (if true = true then !inV (V.int z) ((endsG row).map V.int) else inV (V.int z) ((endsG row).map V.int)) = !decide (z ∈ endsG row) by rw [if_pos rfl, inV_ints]]
      rcases hp.step hrow hz with ⟨hq, hp'⟩ | ⟨hq, hp'⟩
      · rw [decide_eq_true hq]
        exact ⟨stays, rfl, sm, hp', by omega⟩
      · rw [decide_eq_false hq]
        refine ⟨_, rfl, _, rfl, ll, rfl, ⟨_, SqL.of ell4⟩, comp_list (K := K) (a := ll) (xs := (endsG row).map V.int) (fun j zs H5 => H5 = H4 ∧ zs = (((endsG row).take j).filter fun y => decide (y < z)).map V.int) ⟨rfl, rfl⟩ ?_ ?_ ?_⟩
        · rintro j zs H5 hj ⟨rfl, rfl⟩
          refine ⟨SqL.of ell4, ?_⟩
          rw [List.length_map]
          have h1 := List.length_filter_le (fun y => decide (y < z)) ((endsG row).take j)
          exact line_of (by rw [List.length_take] at h1; omega)
        · rintro j y zs H5 hj ⟨rfl, rfl⟩
          obtain ⟨y, rfl, hy⟩ := int_at hj
          have sn := filter_snoc (fun y => decide (y < z)) hy
          refine ⟨_, rfl, _, rfl, _, _, rfl, rfl, _, rfl, iteD (fun c => ?_) (fun c => ?_)⟩
          · rw [if_pos (decide_eq_true c)] at sn
            exact ⟨_, rfl, rfl, sn.symm⟩
          · rw [if_neg (by simpa using c), List.append_nil] at sn
            exact ⟨rfl, sn.symm⟩
        rintro zs H5 ⟨rfl, rfl⟩ D hD
        refine ⟨D, _, rfl, .inl (SqL.of upd_same), _, _, rfl, rfl, .inl ⟨by decide, by decide⟩, _, _, rfl, rfl, stays ++ [z - 2 * (((endsG row).filter fun y => decide (y < z)).length : Int)], ?_, sm.trans (Same.upd hD), hp', by simp; omega⟩
        rw [List.map_append, List.length_map, hlm, List.take_length]
        rfl
    rintro ys H4 ⟨stays, rfl, sm, hp, hs⟩ D hD
    rw [hp.done (by rw [List.length_map]; exact Nat.le_refl _)]
    have s14 := s13.trans sm
    exact k D _ (s14.free hD) (s14.trans (Same.upd hD)) upd_same
end
end CW

set_option Elab.async false
set_option linter.all false
set_option maxRecDepth 100000
set_option maxHeartbeats 4000000
namespace CW
open PySem L2
section
variable {P : Program} {w : World} {K : PySem.W.Frag} {mg : Str → Option Value} {base : Heap}
noncomputable abbrev s_law : Stmt := top 18
theorem sc_law : FnScope ["_law_script", "_law_numbers_here", "_law_row_here", "_law_handed", "_law_due", "_law_rest", "_law_turn", "_law_found"] ["_law_script"] (defScope s_law) := ⟨rfl, rfl, rfl, by decide +kernel, rfl, by decide +kernel, by decide +kernel⟩
inductive pkW (H0 : Hp) (row : List Int) (a l1 lr lh ld : Addr) (m : Nat) (σ : St) (Hx : Hp) : Prop
  | mk (n : Nat) (rl : Addr) (h0_ : σ = [some (.ref a), some (.ref l1), some (.ref lr), some (.ref lh), some (.ref ld), some (.ref rl), none, none]) (h1_ : Same H0 Hx) (h2_ : Hx rl = some (.lst ((peelN n row).map V.int))) (h3_ : rl ≠ ld) (h4_ : Hx ld = some (.lst (((List.range n).map fun k => (stG (peelN k row) : Int)).map V.int))) (h5_ : ∀ k, k < n → peelN k row ≠ []) (h6_ : m = (peelN n row).length) (h7_ : m + n ≤ 60) : pkW H0 row a l1 lr lh ld m σ Hx
theorem ok_law {f : Addr} {fd : FuncData} (F : Fun K "law" "law" s_law f fd) (B : Bt mg) (F_law_numbers : FnAt P w K mg base "_law_numbers" 1 ["_law_script", "_law_many"] (spNumbers K)) (F_law_long_row : FnAt P w K mg base "_law_long_row" 2 ["_law_d", "_law_most"] spLong)
    (F_law_runs : FnAt P w K mg base "_law_runs" 1 ["_law_row_here"] spRuns) (F_law_peel : FnAt P w K mg base "_law_peel" 2 ["_law_row_here"] spPeeled) (F_peeled : FnAt P w K mg base "peeled" 3 ["row"] spPeeled) (F_rounds : FnAt P w K mg base "rounds" 4 ["row"] spRounds)
    (F_law_same : FnAt P w K mg base "_law_same" 4 ["_law_found", "_law_due"] (spSame 3)) :
    FnOk P w K mg base CX0 5 f fd ["_law_script"] (spLaw K) := by
  refine F.ok sc_law (fun vs H Q E h => ?_) (fun cdv A outer s H vs Q E hr h => ?_)
  · obtain ⟨a, ns, rfl, _⟩ := h
    rfl
  · obtain ⟨a, sc, rfl, hS, hlen, kk⟩ := h
    have hu := hr.units
    refine ⟨_, (pss_cons (ps_set (i := 1) sc_law.nd rfl (Or.inl rfl) (pe_fn F_law_numbers hr rfl (pa_cons (pv 0) (pa_cons pe_int pa_nil))))
 (pss_cons (ps_set (i := 2) sc_law.nd rfl (Or.inl rfl) (pe_fn F_law_long_row hr rfl (pa_cons (pe_slice sl_list (pv 1) (po_some pe_int) po_none) (pa_cons (pe_ix ix_list (pe_lst (pa_cons pe_int (pa_cons pe_int (pa_cons pe_int pa_nil)))) (pe_op op_mod (pe_ix ix_list (pv 1) pe_int (fun _ _ => rfl)) pe_int) (fun _ _ => rfl)) pa_nil))))
 (pss_cons (ps_set (i := 3) sc_law.nd rfl (Or.inl rfl) (pe_callTy call_list_of (by rfl) B.list boot_list (pa_cons (pv 2) pa_nil)))
 (pss_cons (ps_set (i := 4) sc_law.nd rfl (Or.inl rfl) (pe_lst pa_nil))
 (pss_cons (ps_set (i := 5) sc_law.nd rfl (Or.inl rfl) (pe_callTy call_list_of (by rfl) B.list boot_list (pa_cons (pv 2) pa_nil)))
 (pss_cons (ps_while PassesOwn.never (pt_cmpR (op_neD hu) (pv 5) (pe_lst pa_nil) (nomark _))
 (pss_cons (ps_expr (pe_bm PySem.F.plainAttrs_list PySem.F.slot_list_append PySem.F.type_list_append mt_append (pv 4) (pa_cons (pe_callB call_len_seq (by rfl) B.len PySem.boot_len (pa_cons (pe_fn F_law_runs hr rfl (pa_cons (pv 5) pa_nil)) pa_nil)) pa_nil)))
 (pss_one (ps_set (i := 5) sc_law.nd rfl (Or.inl rfl) (pe_fn F_law_peel hr rfl (pa_cons (pv 5) pa_nil))))))
 (pss_cons (ps_for PassesOwn.never rfl (pi_range1 rfl B.range (pa_cons pe_int pa_nil)) (pg_name (i := 6) sc_law.nd rfl (Or.inl rfl))
 (pss_cons (ps_set (i := 7) sc_law.nd rfl (Or.inl rfl) (pe_lst (pa_cons (pe_fn F_peeled hr rfl (pa_cons (pv 3) pa_nil)) (pa_cons (pe_fn F_rounds hr rfl (pa_cons (pv 3) pa_nil)) pa_nil))))
 (pss_cons (ps_if (PW.pt (pw_or (pt_not (pt_truth (pe_fn F_law_same hr rfl (pa_cons (pv 7) (pa_cons (pe_lst (pa_cons (pe_fn F_law_peel hr rfl (pa_cons (pv 2) pa_nil)) (pa_cons (pv 4) pa_nil))) pa_nil))) (fun _ => rfl))) (pw_or1 (pt_cmpR (op_neD hu) (pv 3) (pv 2) (nomark _)))))
 (pss_one (ps_ret pe_bl))
 pss_nil)
 (pss_cons (ps_expr (pe_bm PySem.F.plainAttrs_list PySem.F.slot_list_append PySem.F.type_list_append mt_append (pe_ix ix_list (pv 7) pe_int (fun _ _ => rfl)) (pa_cons pe_int pa_nil)))
 (pss_one (ps_expr (pe_bm PySem.F.plainAttrs_list PySem.F.slot_list_append PySem.F.type_list_append mt_append (pe_ix ix_list (pv 7) pe_int (fun _ _ => rfl)) (pa_cons pe_int pa_nil))))))))
 (pss_one (ps_ret pe_bl))))))))), ?_⟩
    refine ⟨_, rfl, a, sc, 80, rfl, hS, hlen, by decide, fun l1 nums H1 hnl hnums hl1 sm1 el1 => ?_⟩
    obtain ⟨n0, m0, _, e0⟩ := at_mem (ns := nums) (i := 0) (by omega) (by omega)
    refine ⟨_, rfl, _, rfl, l1, _, rfl, SqL.of el1, fun p1 hp1 => ?_⟩
    have ec : cutV (nums.map V.int) (some 3) none = (nums.drop 3).map V.int := cut_from nums 3 (by omega)
    rw [ec]
    have sp1 := Same.upd (o := .lst ((nums.drop 3).map V.int)) hp1
    have ep1 : (upd H1 p1 (.lst ((nums.drop 3).map V.int))) p1 = some (.lst ((nums.drop 3).map V.int)) := upd_same
    generalize upd H1 p1 (.lst ((nums.drop 3).map V.int)) = H2 at sp1 ep1 ⊢
    refine ⟨(show 3 ≤ sizeLine by decide), fun p2 hp2 => ?_⟩
    have sp2 := Same.upd (o := .lst [V.int 5, V.int 12, V.int 60]) hp2
    have ep2 : (upd H2 p2 (.lst [V.int 5, V.int 12, V.int 60])) p2 = some (.lst ([5, 12, 60].map V.int)) := upd_same
    generalize upd H2 p2 (.lst [V.int 5, V.int 12, V.int 60]) = H3 at sp2 ep2 ⊢
    obtain ⟨mm, hmm, _, em⟩ := at_mem (ns := [5, 12, 60]) (i := n0 % 3) (Int.emod_nonneg _ (by decide)) (Int.emod_lt_of_pos _ (by decide))
    obtain ⟨m, rfl, hm⟩ : ∃ m : Nat, mm = (m : Int) ∧ m ≤ 60 := ⟨mm.toNat, by simp at hmm; omega, by simp at hmm; omega⟩
    have s13 := sp1.trans sp2
    refine ⟨_, rfl, l1, _, _, _, rfl, rfl, SqL.of (s13 _ _ el1), e0, _, _, rfl, rfl, (by show (0 : Int) < 3; decide), p2, _, _, _, rfl, rfl, SqL.of ep2, em, ?_⟩
    refine ⟨p1, nums.drop 3, m, rfl, sp2 _ _ ep1, fun n hn => hnums n (List.mem_of_mem_drop hn), by simp; omega, by omega, fun row hrow hrl lr H4 hlr sm4 elr => ?_⟩
    have hrl60 : row.length ≤ 60 := by omega
    refine ⟨_, rfl, lr, _, rfl, .inl (SqL.of elr), fun lh hlh => ?_⟩
    have g5 := Same.upd (o := .lst (row.map V.int)) hlh
    have elh : (upd H4 lh (.lst (row.map V.int))) lh = some (.lst (row.map V.int)) := upd_same
    generalize upd H4 lh (.lst (row.map V.int)) = H5 at g5 elh ⊢
    have elr5 := g5 _ _ elr
    clear g5 elr ep1 ep2 s13 sp1 sp2 hlr hlh hp1 hp2 sm4
    refine ⟨by decide, fun ld hld => ?_⟩
    have g6 := Same.upd (o := .lst []) hld
    have eld : (upd H5 ld (.lst [])) ld = some (.lst []) := upd_same
    generalize upd H5 ld (.lst []) = H6 at g6 eld ⊢
    refine ⟨_, rfl, lr, _, rfl, .inl (SqL.of (g6 _ _ elr5)), fun rl0 hrl0 => ?_⟩
    have g7 := Same.upd (o := .lst (row.map V.int)) hrl0
    have erl0 : (upd H6 rl0 (.lst (row.map V.int))) rl0 = some (.lst (row.map V.int)) := upd_same
    generalize upd H6 rl0 (.lst (row.map V.int)) = H7 at g7 erl0 ⊢
    refine ⟨pkW H5 row a l1 lr lh ld, ⟨row.length, 0, rl0, rfl, g6.trans g7, erl0, (fun e => by rw [e, eld] at hrl0; cases hrl0), g7 _ _ eld, fun k hk => absurd hk (Nat.not_lt_zero _), rfl, by omega⟩, ?_⟩
    clear g6 g7 eld erl0 hrl0
    rintro m σ H8 ⟨n, rl, rfl, sm, erl, nrl, eld, hne, rfl, hm⟩
    have hrn := peelN_row hrow n
    refine ⟨_, rfl, by decide, fun z0 hz0 => ?_⟩
    have g9 := Same.upd (o := .lst []) hz0
    have ez0 : (upd H8 z0 (.lst [])) z0 = some (.lst (([] : List Int).map V.int)) := upd_same
    generalize upd H8 z0 (.lst []) = H9 at g9 ez0 ⊢
    have sm9 := sm.trans g9
    have erl9 := g9 _ _ erl
    have eld9 := g9 _ _ eld
    refine ⟨_, _, Den.ints erl9, Den.ints ez0, shaped_ints _, shaped_ints [], _, rfl, ?_⟩
    clear g9 ez0 erl eld sm hz0
    by_cases hz : peelN n row = []
    · rw [hz]
      show (if (!PyData.eqv (.list []) (.list [])) = true then _ else _)
      rw [if_neg (by decide)]
      have elh9 := sm9 _ _ elh
      have elr9 := sm9 _ _ elr5
      have hn60 : ((List.range n).map fun k => (stG (peelN k row) : Int)).length ≤ 60 := by rw [List.length_map, List.length_range]; omega
      have hp60 : (peelG 0 row).length ≤ 60 := by have := peel_len row 0; omega
      generalize hD : ((List.range n).map fun k => (stG (peelN k row) : Int)) = due at eld9 hn60
      have hshr := shaped_ints row
      refine ⟨_, rfl, by decide, by decide, for_range (lo := 0) (n := 2) (fun i σ Hx => ∃ v6 v7 : Option V, σ = [some (.ref a), some (.ref l1), some (.ref lr), some (.ref lh), some (.ref ld), some (.ref rl), v6, v7] ∧ Same H9 Hx) ⟨none, none, rfl, Same.refl _⟩ ?_ ?_⟩
      · rintro i σ Hx hi ⟨v6, v7, rfl, sx⟩
        refine ⟨_, rfl, lh, row, rfl, sx _ _ elh9, hrow, hrl60, fun x1 H10 hx1 g10 ex1 => ?_⟩
        have s10 := sx.trans g10
        refine ⟨_, rfl, lh, row, rfl, s10 _ _ elh9, hrow, hrl60, fun n' hn' hne' x2 H11 hx2 g11 ex2 => ?_⟩
        rw [peelN_uniq hn' hne' hz hne, hD] at ex2
        have s11 := s10.trans g11
        refine ⟨(show 2 ≤ sizeLine by decide), fun p hp => ?_⟩
        have g12 := Same.upd (o := .lst [V.ref x1, V.ref x2]) hp
        have ep : (upd H11 p (.lst [V.ref x1, V.ref x2])) p = some (.lst [V.ref x1, V.ref x2]) := upd_same
        generalize upd H11 p (.lst [V.ref x1, V.ref x2]) = H12 at g12 ep ⊢
        have s12 := s11.trans g12
        refine ⟨_, rfl, _, rfl, lr, row, rfl, s12 _ _ elr9, hrow, hrl60, fun x3 H13 hx3 g13 ex3 => ?_⟩
        have s13 := s12.trans g13
        refine ⟨_, rfl, (show 2 ≤ sizeLine by decide), fun q hq => ?_⟩
        have g14 := Same.upd (o := .lst [V.ref x3, V.ref ld]) hq
        have eq : (upd H13 q (.lst [V.ref x3, V.ref ld])) q = some (.lst [V.ref x3, V.ref ld]) := upd_same
        generalize upd H13 q (.lst [V.ref x3, V.ref ld]) = H14 at g14 eq ⊢
        have s14 := s13.trans g14
        have s1114 := (g12.trans g13).trans g14
        have ep14 := (g13.trans g14) _ _ ep
        have ex114 := (g11.trans s1114) _ _ ex1
        have ex214 := s1114 _ _ ex2
        refine ⟨_, _, _, rfl, Den.lists ep14 ex114 ex214, Den.lists eq (g14 _ _ ex3) (s14 _ _ eld9), depth_lists _ _, shaped_lists _ _, sml_lists hp60 hn60, fun H15 g15 => ⟨true, rfl, ?_⟩⟩
        have s15 := s14.trans g15
        refine ⟨_, rfl, _, rfl, _, _, Den.ints (s15 _ _ elh9), Den.ints (s15 _ _ elr9), hshr, hshr, _, rfl, ?_⟩
        rw [eqv_self hshr]
        have ep15 := g15 _ _ ep14
        have ex115 := g15 _ _ ex114
        have ex215 := g15 _ _ ex214
        have f1 : H9 x1 = none := sx.free hx1
        have f2 : H9 x2 = none := s10.free hx2
        have n12 : x1 ≠ x2 := fun e => by rw [← e, ex1] at hx2; cases hx2
        have np1 : p ≠ x1 := fun e => by rw [e, g11 _ _ ex1] at hp; cases hp
        refine ⟨_, rfl, p, _, 0, _, rfl, rfl, SqL.of ep15, rfl, .inl ⟨rfl, _, SqL.of ex115⟩, x1, _, _, rfl, rfl, ex115, by rw [List.length_map]; exact line_of (by omega), ?_⟩
        have ex216 : (upd H15 x1 (.lst ((peelG 0 row).map V.int ++ [V.int 1]))) x2 = some (.lst (due.map V.int)) := by rw [upd_ne (Ne.symm n12)]; exact ex215
        have ep16 : (upd H15 x1 (.lst ((peelG 0 row).map V.int ++ [V.int 1]))) p = some (.lst [V.ref x1, V.ref x2]) := by rw [upd_ne np1]; exact ep15
        have s16 : Same H9 (upd H15 x1 (.lst ((peelG 0 row).map V.int ++ [V.int 1]))) := Same.upd' f1 s15
        generalize upd H15 x1 (.lst ((peelG 0 row).map V.int ++ [V.int 1])) = H16 at ex216 ep16 s16 ⊢
        refine ⟨_, rfl, p, _, 1, _, rfl, rfl, SqL.of ep16, rfl, .inl ⟨rfl, _, SqL.of ex216⟩, x2, _, _, rfl, rfl, ex216, by rw [List.length_map]; exact line_of (by omega), ?_⟩
        exact ⟨_, _, rfl, Same.upd' f2 s16⟩
      · rintro σ Hx ⟨v6, v7, rfl, sx⟩
        exact kk _
    · have hne' : (!PyData.eqv (.list ((peelN n row).map PyData.int)) (.list (([] : List Int).map PyData.int))) = true := by
        cases e : peelN n row with
        | nil => exact absurd e hz
        | cons x r => rfl
      rw [hne']
      show (if true = true then _ else _)
      rw [if_pos rfl]
      have hst : 1 ≤ stG (peelN n row) := by
        cases e : peelN n row with
        | nil => exact absurd e hz
        | cons x r => exact st_pos r x
      have hpl := peel_len (peelN n row) 0
      refine ⟨fun σ' H' => ∃ m', m' < (peelN n row).length ∧ pkW H5 row a l1 lr lh ld m' σ' H', fun σ' H' h => h, ?_⟩
      refine ⟨_, rfl, .inl ⟨rfl, _, SqL.of eld9⟩, _, rfl, rl, _, rfl, erl9, by omega, fun l2 us2 H10 hl2 g10 el2 pr2 => ?_⟩
      have eld10 := g10 _ _ eld9
      have hul : us2.length = stG (peelN n row) := by rw [pr2.len, runs_st]
      refine ⟨l2, _, rfl, .inl (SqL.of el2), ld, _, _, rfl, rfl, eld10, by rw [List.length_map, List.length_map, List.length_range]; exact line_of (by omega), ?_⟩
      have erl11 : (upd H10 ld (.lst (((List.range n).map fun k => (stG (peelN k row) : Int)).map V.int ++ [V.int (us2.length : Int)]))) rl = some (.lst ((peelN n row).map V.int)) := by rw [upd_ne nrl]; exact g10 _ _ erl9
      have eld11 : (upd H10 ld (.lst (((List.range n).map fun k => (stG (peelN k row) : Int)).map V.int ++ [V.int (us2.length : Int)]))) ld = some (.lst (((List.range (n + 1)).map fun k => (stG (peelN k row) : Int)).map V.int)) := by
        rw [upd_same, hul, List.range_succ, List.map_append, List.map_append]
        rfl
      have s11 : Same H5 (upd H10 ld (.lst (((List.range n).map fun k => (stG (peelN k row) : Int)).map V.int ++ [V.int (us2.length : Int)]))) := Same.upd' hld (sm9.trans g10)
      generalize upd H10 ld (.lst (((List.range n).map fun k => (stG (peelN k row) : Int)).map V.int ++ [V.int (us2.length : Int)])) = H11 at erl11 eld11 s11 ⊢
      refine ⟨_, rfl, rl, _, rfl, erl11, hrn, by omega, fun l3 H12 hl3 g12 el12 => ?_⟩
      refine ⟨(peelG 0 (peelN n row)).length, by omega, n + 1, l3, rfl, s11.trans g12, el12, (fun e => by rw [e, eld11] at hl3; cases hl3), g12 _ _ eld11, fun j hj => ?_, rfl, by omega⟩
      by_cases e : j = n
      · rw [e]; exact hz
      · exact hne j (by omega)
end
end CW

set_option Elab.async false
set_option linter.all false
set_option maxRecDepth 100000
set_option maxHeartbeats 4000000
namespace CW
open PySem L2
theorem all_mk {l : PySem.W.OpenLaw} {w : World} {K : PySem.W.Frag} {h : Heap} {mg : Str → Option Value} {fa : Addr} (X : K.In h) (G : h.Ns mainGlobals mg) (hfa : mg "law" = some (.ref fa))
    {f0 : Addr} {od0 an0 : Option Addr} {sl0 : Array (Option Value)} {oc0 kV0 dc0 pm0 cd0 ct0 : Value}
    {f1 : Addr} {od1 an1 : Option Addr} {sl1 : Array (Option Value)} {oc1 kV1 dc1 pm1 cd1 ct1 : Value}
    {f2 : Addr} {od2 an2 : Option Addr} {sl2 : Array (Option Value)} {oc2 kV2 dc2 pm2 cd2 ct2 : Value}
    {f3 : Addr} {od3 an3 : Option Addr} {sl3 : Array (Option Value)} {oc3 kV3 dc3 pm3 cd3 ct3 : Value}
    {f4 : Addr} {od4 an4 : Option Addr} {sl4 : Array (Option Value)} {oc4 kV4 dc4 pm4 cd4 ct4 : Value}
    {f5 : Addr} {od5 an5 : Option Addr} {sl5 : Array (Option Value)} {oc5 kV5 dc5 pm5 cd5 ct5 : Value}
    {f6 : Addr} {od6 an6 : Option Addr} {sl6 : Array (Option Value)} {oc6 kV6 dc6 pm6 cd6 ct6 : Value}
    {f7 : Addr} {od7 an7 : Option Addr} {sl7 : Array (Option Value)} {oc7 kV7 dc7 pm7 cd7 ct7 : Value}
    {f8 : Addr} {od8 an8 : Option Addr} {sl8 : Array (Option Value)} {oc8 kV8 dc8 pm8 cd8 ct8 : Value}
    {f9 : Addr} {od9 an9 : Option Addr} {sl9 : Array (Option Value)} {oc9 kV9 dc9 pm9 cd9 ct9 : Value}
    {f10 : Addr} {od10 an10 : Option Addr} {sl10 : Array (Option Value)} {oc10 kV10 dc10 pm10 cd10 ct10 : Value}
    {t_MOST_STONES : Tok}
    (a0 : PySem.W.nsIn K mainGlobals "look_row" = some (some (.ref f0))) (l0 : K.lookup f0 = some ⟨oc0, od0, .func (PySem.W.fnOf "look_row" "look_row" (defArgs s_look_row) (defBody s_look_row) (defScope s_look_row) .none kV0 dc0 pm0 an0 cd0 ct0), sl0⟩) (c0 : PySem.W.codeIn K cd0 "look_row" = true) (k0 : PySem.W.keepIn K (.ref f0) = true)
    (a1 : PySem.W.nsIn K mainGlobals "stretches" = some (some (.ref f1))) (l1 : K.lookup f1 = some ⟨oc1, od1, .func (PySem.W.fnOf "stretches" "stretches" (defArgs s_stretches) (defBody s_stretches) (defScope s_stretches) .none kV1 dc1 pm1 an1 cd1 ct1), sl1⟩) (c1 : PySem.W.codeIn K cd1 "stretches" = true) (k1 : PySem.W.keepIn K (.ref f1) = true)
    (a2 : PySem.W.nsIn K mainGlobals "peeled" = some (some (.ref f2))) (l2 : K.lookup f2 = some ⟨oc2, od2, .func (PySem.W.fnOf "peeled" "peeled" (defArgs s_peeled) (defBody s_peeled) (defScope s_peeled) .none kV2 dc2 pm2 an2 cd2 ct2), sl2⟩) (c2 : PySem.W.codeIn K cd2 "peeled" = true) (k2 : PySem.W.keepIn K (.ref f2) = true)
    (a3 : PySem.W.nsIn K mainGlobals "rounds" = some (some (.ref f3))) (l3 : K.lookup f3 = some ⟨oc3, od3, .func (PySem.W.fnOf "rounds" "rounds" (defArgs s_rounds) (defBody s_rounds) (defScope s_rounds) .none kV3 dc3 pm3 an3 cd3 ct3), sl3⟩) (c3 : PySem.W.codeIn K cd3 "rounds" = true) (k3 : PySem.W.keepIn K (.ref f3) = true)
    (a4 : PySem.W.nsIn K mainGlobals "_law_numbers" = some (some (.ref f4))) (l4 : K.lookup f4 = some ⟨oc4, od4, .func (PySem.W.fnOf "_law_numbers" "_law_numbers" (defArgs s_law_numbers) (defBody s_law_numbers) (defScope s_law_numbers) .none kV4 dc4 pm4 an4 cd4 ct4), sl4⟩) (c4 : PySem.W.codeIn K cd4 "_law_numbers" = true) (k4 : PySem.W.keepIn K (.ref f4) = true)
    (a5 : PySem.W.nsIn K mainGlobals "_law_same" = some (some (.ref f5))) (l5 : K.lookup f5 = some ⟨oc5, od5, .func (PySem.W.fnOf "_law_same" "_law_same" (defArgs s_law_same) (defBody s_law_same) (defScope s_law_same) .none kV5 dc5 pm5 an5 cd5 ct5), sl5⟩) (c5 : PySem.W.codeIn K cd5 "_law_same" = true) (k5 : PySem.W.keepIn K (.ref f5) = true)
    (a6 : PySem.W.nsIn K mainGlobals "_law_row" = some (some (.ref f6))) (l6 : K.lookup f6 = some ⟨oc6, od6, .func (PySem.W.fnOf "_law_row" "_law_row" (defArgs s_law_row) (defBody s_law_row) (defScope s_law_row) .none kV6 dc6 pm6 an6 cd6 ct6), sl6⟩) (c6 : PySem.W.codeIn K cd6 "_law_row" = true) (k6 : PySem.W.keepIn K (.ref f6) = true)
    (a7 : PySem.W.nsIn K mainGlobals "_law_long_row" = some (some (.ref f7))) (l7 : K.lookup f7 = some ⟨oc7, od7, .func (PySem.W.fnOf "_law_long_row" "_law_long_row" (defArgs s_law_long_row) (defBody s_law_long_row) (defScope s_law_long_row) .none kV7 dc7 pm7 an7 cd7 ct7), sl7⟩) (c7 : PySem.W.codeIn K cd7 "_law_long_row" = true) (k7 : PySem.W.keepIn K (.ref f7) = true)
    (a8 : PySem.W.nsIn K mainGlobals "_law_runs" = some (some (.ref f8))) (l8 : K.lookup f8 = some ⟨oc8, od8, .func (PySem.W.fnOf "_law_runs" "_law_runs" (defArgs s_law_runs) (defBody s_law_runs) (defScope s_law_runs) .none kV8 dc8 pm8 an8 cd8 ct8), sl8⟩) (c8 : PySem.W.codeIn K cd8 "_law_runs" = true) (k8 : PySem.W.keepIn K (.ref f8) = true)
    (a9 : PySem.W.nsIn K mainGlobals "_law_peel" = some (some (.ref f9))) (l9 : K.lookup f9 = some ⟨oc9, od9, .func (PySem.W.fnOf "_law_peel" "_law_peel" (defArgs s_law_peel) (defBody s_law_peel) (defScope s_law_peel) .none kV9 dc9 pm9 an9 cd9 ct9), sl9⟩) (c9 : PySem.W.codeIn K cd9 "_law_peel" = true) (k9 : PySem.W.keepIn K (.ref f9) = true)
    (a10 : PySem.W.nsIn K mainGlobals "law" = some (some (.ref f10))) (l10 : K.lookup f10 = some ⟨oc10, od10, .func (PySem.W.fnOf "law" "law" (defArgs s_law) (defBody s_law) (defScope s_law) .none kV10 dc10 pm10 an10 cd10 ct10), sl10⟩) (c10 : PySem.W.codeIn K cd10 "law" = true) (k10 : PySem.W.keepIn K (.ref f10) = true)
    (z_len : PySem.W.nsIn K mainGlobals "len" = some none)
    (z_range : PySem.W.nsIn K mainGlobals "range" = some none)
    (z_list : PySem.W.nsIn K mainGlobals "list" = some none)
    (z_tuple : PySem.W.nsIn K mainGlobals "tuple" = some none)
    (z_bool : PySem.W.nsIn K mainGlobals "bool" = some none)
    (z_str : PySem.W.nsIn K mainGlobals "str" = some none)
    (z_int : PySem.W.nsIn K mainGlobals "int" = some none)
    (z_isinstance : PySem.W.nsIn K mainGlobals "isinstance" = some none)
    (z_all : PySem.W.nsIn K mainGlobals "all" = some none)
    (z_sorted : PySem.W.nsIn K mainGlobals "sorted" = some none)
    (z_max : PySem.W.nsIn K mainGlobals "max" = some none)
    (z_min : PySem.W.nsIn K mainGlobals "min" = some none)
    (z_set : PySem.W.nsIn K mainGlobals "set" = some none)
    (z_reversed : PySem.W.nsIn K mainGlobals "reversed" = some none)
    (z_sum : PySem.W.nsIn K mainGlobals "sum" = some none)
    (z_enumerate : PySem.W.nsIn K mainGlobals "enumerate" = some none)
    (z_zip : PySem.W.nsIn K mainGlobals "zip" = some none)
    (z_any : PySem.W.nsIn K mainGlobals "any" = some none)
    (z_abs : PySem.W.nsIn K mainGlobals "abs" = some none)
    (y_MOST_STONES : PySem.W.nsIn K mainGlobals "MOST_STONES" = some (some (.int 60 t_MOST_STONES))) :
    ∃ fd : FuncData, (∀ (s : Shared) (v : Value), BindsTo s fd ⟨[v], []⟩ [("_law_script", v)]) ∧ ∀ base : Heap, K.In base → base.Ns mainGlobals mg → FnOk l.prog w K mg base CX0 5 fa fd ["_law_script"] (spLaw K) := by
  have e := hfa.symm.trans (PySem.W.mg_of X G a10)
  cases e
  have B : Bt mg := ⟨PySem.W.mg_none_of X G z_len, PySem.W.mg_none_of X G z_range, PySem.W.mg_none_of X G z_list, PySem.W.mg_none_of X G z_tuple, PySem.W.mg_none_of X G z_bool, PySem.W.mg_none_of X G z_str, PySem.W.mg_none_of X G z_int, PySem.W.mg_none_of X G z_isinstance, PySem.W.mg_none_of X G z_all, PySem.W.mg_none_of X G z_sorted, PySem.W.mg_none_of X G z_max, PySem.W.mg_none_of X G z_min, PySem.W.mg_none_of X G z_set, PySem.W.mg_none_of X G z_reversed, PySem.W.mg_none_of X G z_sum, PySem.W.mg_none_of X G z_enumerate, PySem.W.mg_none_of X G z_zip, PySem.W.mg_none_of X G z_any, PySem.W.mg_none_of X G z_abs⟩
  have C : Cn mg t_MOST_STONES := ⟨PySem.W.mg_of X G y_MOST_STONES⟩
  have F0 := fun_mk (st := s_look_row) l0 c0 k0
  have b0 := F0.binds1 (p1 := "row") fun _ _ _ _ _ _ _ => rfl
  have m0 := PySem.W.mg_of X G a0
  have F1 := fun_mk (st := s_stretches) l1 c1 k1
  have b1 := F1.binds1 (p1 := "row") fun _ _ _ _ _ _ _ => rfl
  have m1 := PySem.W.mg_of X G a1
  have F2 := fun_mk (st := s_peeled) l2 c2 k2
  have b2 := F2.binds1 (p1 := "row") fun _ _ _ _ _ _ _ => rfl
  have m2 := PySem.W.mg_of X G a2
  have F3 := fun_mk (st := s_rounds) l3 c3 k3
  have b3 := F3.binds1 (p1 := "row") fun _ _ _ _ _ _ _ => rfl
  have m3 := PySem.W.mg_of X G a3
  have F4 := fun_mk (st := s_law_numbers) l4 c4 k4
  have b4 := F4.binds2 (p1 := "_law_script") (p2 := "_law_many") fun _ _ _ _ _ _ _ _ => rfl
  have m4 := PySem.W.mg_of X G a4
  have F5 := fun_mk (st := s_law_same) l5 c5 k5
  have b5 := F5.binds2 (p1 := "_law_found") (p2 := "_law_due") fun _ _ _ _ _ _ _ _ => rfl
  have m5 := PySem.W.mg_of X G a5
  have F6 := fun_mk (st := s_law_row) l6 c6 k6
  have b6 := F6.binds2 (p1 := "_law_d") (p2 := "_law_most") fun _ _ _ _ _ _ _ _ => rfl
  have m6 := PySem.W.mg_of X G a6
  have F7 := fun_mk (st := s_law_long_row) l7 c7 k7
  have b7 := F7.binds2 (p1 := "_law_d") (p2 := "_law_most") fun _ _ _ _ _ _ _ _ => rfl
  have m7 := PySem.W.mg_of X G a7
  have F8 := fun_mk (st := s_law_runs) l8 c8 k8
  have b8 := F8.binds1 (p1 := "_law_row_here") fun _ _ _ _ _ _ _ => rfl
  have m8 := PySem.W.mg_of X G a8
  have F9 := fun_mk (st := s_law_peel) l9 c9 k9
  have b9 := F9.binds1 (p1 := "_law_row_here") fun _ _ _ _ _ _ _ => rfl
  have m9 := PySem.W.mg_of X G a9
  have F10 := fun_mk (st := s_law) l10 c10 k10
  have b10 := F10.binds1 (p1 := "_law_script") fun _ _ _ _ _ _ _ => rfl
  have m10 := PySem.W.mg_of X G a10
  refine ⟨PySem.W.fnOf "law" "law" (defArgs s_law) (defBody s_law) (defScope s_law) .none kV10 dc10 pm10 an10 cd10 ct10, fun s v => .of_eq rfl, fun base _ _ => ?_⟩
  have A_look_row : FnAt l.prog w K mg base "look_row" 1 ["row"] spLook := ⟨f0, _, ok_look F0 B C, m0, k0, b0⟩
  have A_stretches : FnAt l.prog w K mg base "stretches" 2 ["row"] spStretches := ⟨f1, _, ok_stretches F1 B A_look_row, m1, k1, b1⟩
  have A_peeled : FnAt l.prog w K mg base "peeled" 3 ["row"] spPeeled := ⟨f2, _, ok_peeled F2 B A_stretches, m2, k2, b2⟩
  have A_rounds : FnAt l.prog w K mg base "rounds" 4 ["row"] spRounds := ⟨f3, _, ok_rounds F3 B A_stretches A_peeled, m3, k3, b3⟩
  have A_law_numbers : FnAt l.prog w K mg base "_law_numbers" 1 ["_law_script", "_law_many"] (spNumbers K) := ⟨f4, _, ok_numbers F4 B, m4, k4, b4⟩
  have A_law_same : FnAt l.prog w K mg base "_law_same" 4 ["_law_found", "_law_due"] (spSame 3) := ⟨f5, _, ok_same F5 B m5 b5 3, m5, k5, b5⟩
  have A_law_row : FnAt l.prog w K mg base "_law_row" 1 ["_law_d", "_law_most"] spRow := ⟨f6, _, ok_row F6 B, m6, k6, b6⟩
  have A_law_long_row : FnAt l.prog w K mg base "_law_long_row" 2 ["_law_d", "_law_most"] spLong := ⟨f7, _, ok_long F7 B A_law_row, m7, k7, b7⟩
  have A_law_runs : FnAt l.prog w K mg base "_law_runs" 1 ["_law_row_here"] spRuns := ⟨f8, _, ok_runs F8 B, m8, k8, b8⟩
  have A_law_peel : FnAt l.prog w K mg base "_law_peel" 2 ["_law_row_here"] spPeeled := ⟨f9, _, ok_law_peel F9 B A_law_runs, m9, k9, b9⟩
  exact ok_law F10 B A_law_numbers A_law_long_row A_law_runs A_law_peel A_peeled A_rounds A_law_same
theorem walk {l : PySem.W.OpenLaw} {q : Program} {loose : List Str} {XP : (Str → Option Value) → Heap → Prop} {YP : World → Heap → Prop} {d : DefRec} {K : Params → PySem.W.Frag} (hn : l.most = some 63) (hdf : d.params.defaults = [])
    (hY : ∀ (w : World) (h : Heap), YP w h → (K w.params).In h)
    (F : ∀ (w : World) (mg : Str → Option Value) (fa : Addr) (h : Heap), (K w.params).In h → h.Ns mainGlobals mg → mg d.name = some (.ref fa) →
      ∃ fd : FuncData, (∀ (s : Shared) (u : Value), BindsTo s fd ⟨[u], []⟩ [("_law_script", u)]) ∧ ∀ base : Heap, (K w.params).In base → base.Ns mainGlobals mg → FnOk l.prog w (K w.params) mg base CX0 5 fa fd ["_law_script"] (spLaw (K w.params))) :
    PySem.W.WalkO q loose XP YP l.row.toRowW d [] (fun f vs => PySem.call f vs) :=
  L2.walk_of (n := 63) (k := 5) (x := "_law_script") (CX := fun _ => CX0) (sp := fun w => spLaw (K w.params)) hn (by decide) hdf ⟨rfl, by decide, by decide⟩ hY F (fun _ _ a ns hl _ hS => ⟨a, ns, rfl, hS, hl, fun _ => rfl⟩) fun _ _ _ _ _ z => z
end CW
open PySem PySem.W PyProof.Rows
set_option maxRecDepth 100000 in
set_option maxHeartbeats 0 in
theorem PySem.Challenge.cw_creelway_k11_rows_peeled_holds : PySem.Challenge.rw_creelway_k11_rows_peeled.Holds := by
  w_on; o_law; k_head; (case hw => w_witness2)
  k_fill
  refine CW.walk (l := PySem.Challenge.rw_creelway_k11_rows_peeled) rfl rfl (fun w h Y => PySem.W.kIn_of Y) ?F
  case F =>
    intro w mg fa h KX G hmg
    refine' CW.all_mk KX G hmg ?a0 ?l0 ?c0 ?k0 ?a1 ?l1 ?c1 ?k1 ?a2 ?l2 ?c2 ?k2 ?a3 ?l3 ?c3 ?k3 ?a4 ?l4 ?c4 ?k4 ?a5 ?l5 ?c5 ?k5 ?a6 ?l6 ?c6 ?k6 ?a7 ?l7 ?c7 ?k7 ?a8 ?l8 ?c8 ?k8 ?a9 ?l9 ?c9 ?k9 ?a10 ?l10 ?c10 ?k10 ?z_len ?z_range ?z_list ?z_tuple ?z_bool ?z_str ?z_int ?z_isinstance ?z_all ?z_sorted ?z_max ?z_min ?z_set ?z_reversed ?z_sum ?z_enumerate ?z_zip ?z_any ?z_abs ?y_MOST_STONES
    (case a0 => k_is)
    (case l0 => k_is)
    (case c0 => k_is)
    (case k0 => k_is)
    (case a1 => k_is)
    (case l1 => k_is)
    (case c1 => k_is)
    (case k1 => k_is)
    (case a2 => k_is)
    (case l2 => k_is)
    (case c2 => k_is)
    (case k2 => k_is)
    (case a3 => k_is)
    (case l3 => k_is)
    (case c3 => k_is)
    (case k3 => k_is)
    (case a4 => k_is)
    (case l4 => k_is)
    (case c4 => k_is)
    (case k4 => k_is)
    (case a5 => k_is)
    (case l5 => k_is)
    (case c5 => k_is)
    (case k5 => k_is)
    (case a6 => k_is)
    (case l6 => k_is)
    (case c6 => k_is)
    (case k6 => k_is)
    (case a7 => k_is)
    (case l7 => k_is)
    (case c7 => k_is)
    (case k7 => k_is)
    (case a8 => k_is)
    (case l8 => k_is)
    (case c8 => k_is)
    (case k8 => k_is)
    (case a9 => k_is)
    (case l9 => k_is)
    (case c9 => k_is)
    (case k9 => k_is)
    (case a10 => k_is)
    (case l10 => k_is)
    (case c10 => k_is)
    (case k10 => k_is)
    (case z_len => k_is)
    (case z_range => k_is)
    (case z_list => k_is)
    (case z_tuple => k_is)
    (case z_bool => k_is)
    (case z_str => k_is)
    (case z_int => k_is)
    (case z_isinstance => k_is)
    (case z_all => k_is)
    (case z_sorted => k_is)
    (case z_max => k_is)
    (case z_min => k_is)
    (case z_set => k_is)
    (case z_reversed => k_is)
    (case z_sum => k_is)
    (case z_enumerate => k_is)
    (case z_zip => k_is)
    (case z_any => k_is)
    (case z_abs => k_is)
    (case y_MOST_STONES => k_is)
