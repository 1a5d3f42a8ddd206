import PyProof.Rows.All
import Wide.All
import OpenK.AllK
import Wide.FinOn
import Lean
import PyProof.EqAt
import PyProof.EqKinds
import PyProof.TupleCall
import PySem.Challenge.RW_creelway_k15_whole_tails_become_heads
set_option Elab.async false
set_option linter.all false
set_option maxRecDepth 100000
namespace L2
open PySem PySem.Spec PyProof.Rows
noncomputable abbrev Key:=Sum Int Str
noncomputable def keyIs:Key→Value→Bool
 | .inl k,v=>Value.isInt k v
 | .inr x,v=>Value.isStrOf x v
noncomputable def keyH (w:World):Key→Int
 | .inl k=>hashInt k
 | .inr x=>hashStr w x
theorem keyIs_shape:∀ {k:Key} {v:Value},keyIs k v=true→(∃ i t,k=Sum.inl i∧v=Value.int i t)∨(∃ x t,k=Sum.inr x∧v=Value.str x t)
 | .inl i,v,h=>by
  obtain⟨t,e⟩:=Value.isInt_shape (k:=i) (v:=v) h
  exact .inl ⟨i,t,rfl,e⟩
 | .inr x,v,h=>by
  obtain⟨t,e⟩:=Value.isStrOf_shape (x:=x) (v:=v) h
  exact .inr ⟨x,t,rfl,e⟩
theorem key_ll (a b:Int):decide ((Sum.inl a:Key)=Sum.inl b)=(a == b):=by
 by_cases e:a=b
 ·subst e;simp
 ·have h:¬ (Sum.inl a:Key)=Sum.inl b:=fun q=>e (Sum.inl.inj q)
  rw[decide_eq_false h]
  exact(beq_eq_false_iff_ne.mpr e).symm
theorem key_rr (a b:Str):decide ((Sum.inr a:Key)=Sum.inr b)=decide (a=b):=by
 by_cases e:a=b
 ·subst e;simp
 ·have h:¬ (Sum.inr a:Key)=Sum.inr b:=fun q=>e (Sum.inr.inj q)
  rw[decide_eq_false h,decide_eq_false e]
theorem key_lr (a:Int) (b:Str):decide ((Sum.inl a:Key)=Sum.inr b)=false:=decide_eq_false (fun q=>nomatch q)
theorem key_rl (a:Str) (b:Int):decide ((Sum.inr a:Key)=Sum.inl b)=false:=decide_eq_false (fun q=>nomatch q)
noncomputable def mixKind (prog:Program) (w:World):PySem.KeyKind prog w Key where
 is:=keyIs
 hash:=keyH w
 inj:=fun v a b ha hb=>by
  rcases keyIs_shape ha with ⟨i,t,rfl,rfl⟩ | ⟨x,t,rfl,rfl⟩
  ·rcases keyIs_shape hb with ⟨j,u,rfl,e⟩ | ⟨y,u,rfl,e⟩
   ·injection e with e1 _;rw[e1]
   ·exact nomatch e
  ·rcases keyIs_shape hb with ⟨j,u,rfl,e⟩ | ⟨y,u,rfl,e⟩
   ·exact nomatch e
   ·injection e with e1 _;rw[e1]
 byValue:=fun k v h=>by
  rcases keyIs_shape h with ⟨i,t,rfl,rfl⟩ | ⟨x,t,rfl,rfl⟩ <;> rfl
 pyHash:=fun hv h=>by
  rcases keyIs_shape hv with ⟨i,t,rfl,rfl⟩ | ⟨x,t,rfl,rfl⟩
  ·exact wpAny_pyHash_int h
  ·exact wpAny_pyHash_str h
 eqBool:=fun hu hv h=>by
  rcases keyIs_shape hu with ⟨i,t,rfl,rfl⟩ | ⟨x,t,rfl,rfl⟩
  ·rcases keyIs_shape hv with ⟨j,u,rfl,rfl⟩ | ⟨y,u,rfl,rfl⟩
   ·rw[key_ll]at h;exact wpAny_eqBool_int h
   ·rw[key_lr]at h;exact SeqAt.EqAt.int_str i t y u _ _ _ _ h
  ·rcases keyIs_shape hv with ⟨j,u,rfl,rfl⟩ | ⟨y,u,rfl,rfl⟩
   ·rw[key_rl]at h;exact SeqAt.EqAt.str_int x t j u _ _ _ _ h
   ·rw[key_rr]at h;exact wpAny_eqBool_str h
 «strs»:=fun k x t v h=>by
  rcases keyIs_shape h with ⟨i,u,rfl,e⟩ | ⟨y,u,rfl,e⟩
  ·exact nomatch e
  ·injection e with e1 _
   subst e1
   cases v <;> rfl
end L2
namespace L2
open PySem PySem.Spec PyProof.Rows
inductive V where
 | non | bl (b:Bool) | int (i:Int) | str (x:Str) | byt (b:Array UInt8) | flt (b:UInt64) | ref (a:Addr) | ty (n:String)
 deriving DecidableEq
noncomputable def RelV:V→Value→Prop
 | .non,u=>u=Value.none
 | .bl b,u=>u=Value.bool b
 | .int i,u=>∃ t,u=Value.int i t
 | .str x,u=>∃ t,u=Value.str x t
 | .byt b,u=>∃ t,u=Value.bytes b t
 | .flt b,u=>∃ t,u=Value.float b t
 | .ref a,u=>u=Value.ref a
 | .ty n,u=>u=Value.type n
noncomputable abbrev Vals:List V→List Value→Prop:=Paired RelV
theorem Vals.length {xs:List V} {us:List Value} (r:Vals xs us):xs.length=us.length:=Paired.length r
theorem Vals.get:∀ {xs:List V} {us:List Value} {i:Nat} {x:V},Vals xs us→xs[i]?=some x→∃ u,us[i]?=some u∧RelV x u
 | _,_,_,_,.nil,e=>by simp at e
 | _,_,0,_,.cons r _,e=>by simp at e;subst e;exact⟨_,rfl,r⟩
 | _,_,i+1,x,.cons _ t,e=>by
  obtain⟨u,h1,h2⟩:=Vals.get (i:=i) (x:=x) t (by simpa using e)
  exact⟨u,by simpa using h1,h2⟩
theorem Vals.set {x:V} {u:Value} (r:RelV x u):∀ {xs:List V} {us:List Value} (i:Nat),Vals xs us→Vals (xs.set i x) (us.set i u)
 | _,_,_,.nil=>.nil
 | _,_,0,.cons _ t=>.cons r t
 | _,_,i+1,.cons q t=>.cons q (Vals.set r i t)
theorem Vals.append:∀ {xs ys:List V} {us ws:List Value},Vals xs us→Vals ys ws→Vals (xs++ys) (us++ws)
 | _,_,_,_,.nil,s=>s
 | _,_,_,_,.cons r t,s=>.cons r (Vals.append t s)
theorem Vals.take:∀ {xs:List V} {us:List Value} (n:Nat),Vals xs us→Vals (xs.take n) (us.take n)
 | _,_,0,_=>.nil
 | _,_,_+1,.nil=>.nil
 | _,_,n+1,.cons r t=>.cons r (Vals.take n t)
theorem Vals.drop:∀ {xs:List V} {us:List Value} (n:Nat),Vals xs us→Vals (xs.drop n) (us.drop n)
 | _,_,0,r=>r
 | _,_,_+1,.nil=>.nil
 | _,_,n+1,.cons _ t=>Vals.drop n t
noncomputable def RelO:Option V→Option Value→Prop
 | some v,some u=>RelV v u
 | none,none=>True
 | _,_=>False
noncomputable def KV {κ:Type}:List (κ×V)→List (κ×Value)→Prop:=Paired fun(p:κ×V) (q:κ×Value)=>p.1=q.1∧RelV p.2 q.2
noncomputable def kV:Key→V
 | .inl i=>.int i
 | .inr x=>.str x
inductive HO where
 | lst (xs:List V)
 | tup (xs:List V)
 | dK (kvs:List (Key×V)) | dT (kvs:List (List Key×V))
 | set (S:Int→Bool) (n:Nat)
 | ins (C dx:Addr) (fs:List (Str×V))
 | own (x:Addr)
 | xd (fs:List (Str×V))
 | met (f x:Addr)
 | rng (lo hi:Int)
 | frz (o:Obj) (u:HO)
 | tbl (ps:Array Value)
 | ext (φ:Heap→Prop)
noncomputable abbrev Hp:=Addr→Option HO
noncomputable def upd (H:Hp) (a:Addr) (o:HO):Hp:=fun b=>if b=a then some o else H b
theorem upd_same {H:Hp} {a:Addr} {o:HO}:upd H a o a=some o:=by unfold upd;rw[if_pos rfl]
theorem upd_ne {H:Hp} {a b:Addr} {o:HO} (h:b≠a):upd H a o b=H b:=by unfold upd;rw[if_neg h]
theorem ne_of {H:Hp} {a b:Addr} {o u:HO} (h:H a=some o) (h':H b=some u) (d:o≠u):a≠b:=by
 intro e;subst e;rw[h]at h';exact d (Option.some.inj h')
theorem ne_of_none {H:Hp} {a b:Addr} {o:HO} (h:H a=some o) (h':H b=none):a≠b:=by
 intro e;subst e;rw[h]at h';cases h'
section
variable (P:Program) (w:World)
noncomputable def ObjOk (H:Hp) (h:Heap) (a:Addr):HO→Prop
 | .lst xs=>xs.length≤sizeLine∧∃ (its:List Value) (n:Nat),Vals xs its∧h.get? a=some { cls:=.type "list",data:=.seq its.toArray n }
 | .tup xs=>xs.length≤sizeLine∧∃ its:List Value,Vals xs its∧IsTup h a its.toArray
 | .dK kvs=>kvs.length≤sizeLine∧(a == sysModules)=false∧∃ vs,KV kvs vs∧h.DictOf (mixKind P w) a vs
 | .dT kvs=>kvs.length≤sizeLine∧(a == sysModules)=false∧∃ xs:List (List Key×Addr×Value),
  Paired (fun(p:List Key×V) (q:List Key×Addr×Value)=>p.1=q.1∧H q.2.1=some (.tup (p.1.map kV))∧RelV p.2 q.2.2) kvs xs ∧
  ∃ o es ep,h.get? a=some o∧o.ExactDict∧o.data=.dict es ep∧es.toList=xs.map (entryOfKey (tupleKind (mixKind P w)))∧(xs.map (·.1)).Nodup
 | .set S n=>h.SetOf (intKind P w) a S n
 | .ins C dx fs=>H dx=some (.own a)∧fs.length≤1000∧dx≠a∧h.get? a=some (PySem.W.instObj C dx) ∧
  ∃ mA,h.Ns1 dx mA∧(∀ f,RelO (fs.lookup f) (mA f))∧PySem.Within mA (fs.map (·.1))
 | .own _=>∃ o,h.get? a=some o
 | .xd fs=>∃ mA,h.Ns1 a mA∧∀ f,RelO (fs.lookup f) (mA f)
 | .rng lo hi=>∃ t u v,h.get? a=some { cls:=.type "range",data:=.fields #[.int lo t,.int hi u,.int 1 v] }
 | .frz o u=>h.get? a=some o∧ObjOk H h a u
 | .tbl ps=>h.get? a=some { cls:=.none,data:=.fields ps }
 | .met f x=>h.get? a=some (PySem.W.methodObj (.ref f) (.ref x))
 | .ext φ=>φ h∧(∃ o,h.get? a=some o)∧∀ h1 h2:Heap,φ h1→(∀ o,h1.get? a=some o→h2.get? a=some o)→φ h2
noncomputable def HOk (H:Hp) (h:Heap):Prop:=∀ a o,H a=some o→ObjOk P w H h a o
end
section
variable {P:Program} {w:World} {H H':Hp} {h h':Heap} {a:Addr} {o:HO}
theorem ObjOk.lt (x:ObjOk P w H h a o):a<h.objs.size:=by
 cases o with
 | lst xs=>obtain⟨_,_,_,_,e⟩:=x;exact Heap.lt_size e
 | tup xs=>obtain⟨_,_,_,p⟩:=x;exact p.lt
 | dK kvs=>obtain⟨_,_,_,_,o,_,_,e,_⟩:=x;exact Heap.lt_size e
 | dT kvs=>obtain⟨_,_,_,_,o,_,_,e,_⟩:=x;exact Heap.lt_size e
 | set S n=>obtain⟨o,_,_,_,e,_⟩:=x;exact Heap.lt_size e
 | ins C dx fs=>obtain⟨_,_,_,e,_⟩:=x;exact Heap.lt_size e
 | own y=>obtain⟨_,e⟩:=x;exact Heap.lt_size e
 | xd fs=>obtain⟨_,⟨_,_,_,e,_⟩,_⟩:=x;exact Heap.lt_size e
 | rng lo hi=>obtain⟨_,_,_,e⟩:=x;exact Heap.lt_size e
 | frz ob u=>obtain⟨e,_⟩:=x;exact Heap.lt_size e
 | tbl ps=>exact Heap.lt_size (show h.get? a=some _ from x)
 | met f y=>exact Heap.lt_size (show h.get? a=some _ from x)
 | ext φ=>obtain⟨_,⟨_,e⟩,_⟩:=x;exact Heap.lt_size e
theorem Paired.mapP {α β:Type} {F G:α→β→Prop}:∀ {l₁:List α} {l₂:List β},Paired F l₁ l₂→(∀ a b,F a b→G a b)→Paired G l₁ l₂
 | _,_,.nil,_=>.nil
 | _,_,.cons r t,f=>.cons (f _ _ r) (Paired.mapP t f)
theorem ObjOk.stay (x:ObjOk P w H h a o) (k:∀ b u,(b=a∨H b=some (.own a))→h.get? b=some u→h'.get? b=some u)
 (ho:∀ b,H b=some (.own a)→H' b=some (.own a)) (ht:∀ b xs,H b=some (.tup xs)→H' b=some (.tup xs)):ObjOk P w H' h' a o:=by
 induction o with
 | lst xs=>obtain⟨z,its,n,r,e⟩:=x;exact⟨z,its,n,r,k _ _ (.inl rfl) e⟩
 | tup xs=>obtain⟨z,its,r,ob,e,c⟩:=x;exact⟨z,its,r,ob,k _ _ (.inl rfl) e,c⟩
 | dK kvs=>obtain⟨z,y,vs,r,ob,es,ep,e,c⟩:=x;exact⟨z,y,vs,r,ob,es,ep,k _ _ (.inl rfl) e,c⟩
 | dT kvs =>
  obtain⟨z,y,xs,r,ob,es,ep,e,c⟩:=x
  exact⟨z,y,xs,Paired.mapP r fun p q z=>⟨z.1,ht _ _ z.2.1,z.2.2⟩,ob,es,ep,k _ _ (.inl rfl) e,c⟩
 | set S n=>obtain⟨ob,es,ep,t,e,c⟩:=x;exact⟨ob,es,ep,t,k _ _ (.inl rfl) e,c⟩
 | ins C dx fs =>
  obtain⟨d,z,ne,e,mA,⟨od,es,ep,e2,c⟩,r⟩:=x
  exact⟨ho _ d,z,ne,k _ _ (.inl rfl) e,mA,⟨od,es,ep,k _ _ (.inr d) e2,c⟩,r⟩
 | own y=>obtain⟨ob,e⟩:=x;exact⟨ob,k _ _ (.inl rfl) e⟩
 | xd fs=>obtain⟨mA,⟨od,es,ep,e,c⟩,r⟩:=x;exact⟨mA,⟨od,es,ep,k _ _ (.inl rfl) e,c⟩,r⟩
 | rng lo hi=>obtain⟨t,u,v,e⟩:=x;exact⟨t,u,v,k _ _ (.inl rfl) e⟩
 | frz ob u ih=>obtain⟨e,q⟩:=x;exact⟨k _ _ (.inl rfl) e,ih q⟩
 | tbl ps =>
  have e:h.get? a=some { cls:=.none,data:=.fields ps }:=x
  show h'.get? a=some { cls:=.none,data:=.fields ps }
  exact k a _ (.inl rfl) e
 | met f y =>
  have e:h.get? a=some (PySem.W.methodObj (.ref f) (.ref y)):=x
  show h'.get? a=some (PySem.W.methodObj (.ref f) (.ref y))
  exact k a _ (.inl rfl) e
 | ext φ=>obtain⟨p,⟨o,e⟩,st⟩:=x;exact⟨st _ _ p fun o q=>k _ _ (.inl rfl) q,⟨o,k _ _ (.inl rfl) e⟩,st⟩
theorem HOk.lt (x:HOk P w H h) (e:H a=some o):a<h.objs.size:=(x a o e).lt
theorem HOk.fresh (x:HOk P w H h) (e:h.objs.size≤a):H a=none:=by
 cases q:H a with
 | none=>rfl
 | some u=>exact absurd (Nat.lt_of_lt_of_le (x.lt q) e) (Nat.lt_irrefl _)
theorem HOk.kept (x:HOk P w H h) (k:∀ b u,h.get? b=some u→h'.get? b=some u):HOk P w H h':=fun a o e =>
 (x a o e).stay (fun b u _ q=>k b u q) (fun _ q=>q) fun _ _ q=>q
theorem HOk.laid (x:HOk P w H h) (k:∀ b u,h.get? b=some u→h'.get? b=some u) (hp:h.objs.size≤a) (new:ObjOk P w (upd H a o) h' a o):HOk P w (upd H a o) h':=fun b u e=>by
 have hn:=x.fresh hp
 by_cases hb:b=a
 ·subst hb;rw[upd_same]at e;cases e;exact new
 ·rw[upd_ne hb]at e
  exact(x b u e).stay (fun c v _ q=>k c v q) (fun c q=>by rw[upd_ne (ne_of_none q hn)];exact q) fun c xs q=>by rw[upd_ne (ne_of_none q hn)];exact q
end
noncomputable def Rd (H:Hp) (a:Addr) (u:HO):Prop:=H a=some u∨∃ o,H a=some (.frz o u)
theorem Rd.ok {P:Program} {w:World} {H:Hp} {h:Heap} {a:Addr} {u:HO} (r:Rd H a u) (x:HOk P w H h):ObjOk P w H h a u:=by
 rcases r with r | ⟨o,r⟩
 ·exact x a u r
 ·obtain⟨_,q⟩:=x a _ r
  exact q
noncomputable def Mut:Option HO→Prop
 | some (.lst _)=>True
 | some (.dK _)=>True
 | some (.dT _)=>True
 | some (.set _ _)=>True
 | some (.ins _ _ _)=>True
 | some (.ext _)=>True
 | _=>False
section
variable {P:Program} {w:World} {H:Hp} {h h':Heap} {x e:Addr} {o':HO}
theorem HOk.write (ok:HOk P w H h) (mu:Mut (H x)) (he:e=x∨H e=some (.own x)) (k:∀ b u,b≠e→h.get? b=some u→h'.get? b=some u) (heo:∃ u,h'.get? e=some u)
 (new:ObjOk P w (upd H x o') h' x o'):HOk P w (upd H x o') h':=fun b u q=>by
 have nown:∀ c y,H c=some (.own y)→c≠x:=fun c y r z=>by subst z;rw[r]at mu;exact mu
 have ntup:∀ c xs,H c=some (.tup xs)→c≠x:=fun c xs r z=>by subst z;rw[r]at mu;exact mu
 by_cases hb:b=x
 ·subst hb;rw[upd_same]at q;cases q;exact new
 ·rw[upd_ne hb]at q
  by_cases hbe:b=e
  ·have q':H b=some (.own x):=by
    rcases he with z | z
    ·exact absurd (hbe.trans z) hb
    ·rw[hbe];exact z
   rw[q]at q';cases q'
   obtain⟨v,hv⟩:=heo
   exact⟨v,by rw[hbe];exact hv⟩
  ·refine(ok b u q).stay (fun c v hc r=>k c v ?_ r) (fun c r=>by rw[upd_ne (nown c b r)];exact r) fun c xs r=>by rw[upd_ne (ntup c xs r)];exact r
   rcases hc with rfl | hc
   ·exact hbe
   ·rintro rfl
    rcases he with z | z
    ·exact nown c b hc z
    ·rw[hc]at z;cases z;exact hb rfl
end
structure Un (fs ex:List Addr) (H H':Hp) (h h':Heap):Prop where
 keep:∀ b o,h.get? b=some o→H b=none→b∉fs→b∉ex→h'.get? b=some o
 slot:∀ b o,h.get? b=some o→H b=none→b∈fs→b∉ex→∃ sl,h'.get? b=some { o with slots:=sl }
 free:∀ b o,h.get? b=some o→H b=none→b∉ex→H' b=none
 there:∀ b o,h.get? b=some o→b∉ex→∃ o',h'.get? b=some o'
 tups:∀ b xs,H b=some (.tup xs)→H' b=some (.tup xs)
 frzs:∀ b o u,H b=some (.frz o u)→H' b=some (.frz o u)
 tbls:∀ b ps,H b=some (.tbl ps)→∃ more,H' b=some (.tbl (ps++more))
section
variable {fs fs' ex ex':List Addr} {H H1 H2:Hp} {h h1 h2 h':Heap} {a x e:Addr} {o:HO}
theorem Un.any (u:Un fs ex H H1 h h1) {b:Addr} {ob:Obj} (q:h.get? b=some ob) (n:H b=none) (hx:b∉ex):∃ sl,h1.get? b=some { ob with slots:=sl }:=by
 by_cases hb:b∈fs
 ·exact u.slot b ob q n hb hx
 ·exact⟨ob.slots,u.keep b ob q n hb hx⟩
theorem Un.trans (a:Un fs ex H H1 h h1) (b:Un fs ex H1 H2 h1 h2):Un fs ex H H2 h h2 where
 keep:=fun c ob q n hc hx=>b.keep c ob (a.keep c ob q n hc hx) (a.free c ob q n hx) hc hx
 slot:=fun c ob q n hc hx=>by
  obtain⟨sl,e1⟩:=a.slot c ob q n hc hx
  obtain⟨sl',e2⟩:=b.slot c _ e1 (a.free c ob q n hx) hc hx
  exact⟨sl',e2⟩
 free:=fun c ob q n hx=>by
  obtain⟨o',e1⟩:=a.there c ob q hx
  exact b.free c o' e1 (a.free c ob q n hx) hx
 there:=fun c ob q hx=>by
  obtain⟨o',e1⟩:=a.there c ob q hx
  exact b.there c o' e1 hx
 tups:=fun c xs q=>b.tups c xs (a.tups c xs q)
 frzs:=fun c ob xs q=>b.frzs c ob xs (a.frzs c ob xs q)
 tbls:=fun c ps q=>by
  obtain⟨m1,e1⟩:=a.tbls c ps q
  obtain⟨m2,e2⟩:=b.tbls c _ e1
  exact⟨m1++m2,by rw[e2,Array.append_assoc]⟩
theorem Un.kept (k:∀ b u,h.get? b=some u→h'.get? b=some u):Un fs ex H H h h' :=
 ⟨fun b ob q _ _ _=>k b ob q,fun b ob q _ _ _=>⟨ob.slots,k b ob q⟩,fun _ _ _ n _=>n,fun b ob q _=>⟨ob,k b ob q⟩,fun _ _ q=>q,fun _ _ _ q=>q,fun _ ps q=>⟨#[],by rw[q];simp⟩⟩
theorem Un.refl:Un fs ex H H h h:=Un.kept fun _ _ q=>q
theorem Un.laid (k:∀ b u,h.get? b=some u→h'.get? b=some u) (hp:h.objs.size≤a) (hn:H a=none):Un fs ex H (upd H a o) h h' where
 keep:=fun b u q _ _ _=>k b u q
 slot:=fun b u q _ _ _=>⟨u.slots,k b u q⟩
 free:=fun b u q n _=>by rw[upd_ne (Nat.ne_of_lt (Nat.lt_of_lt_of_le (Heap.lt_size q) hp))];exact n
 there:=fun b u q _=>⟨u,k b u q⟩
 tups:=fun b xs q=>by rw[upd_ne (ne_of_none q hn)];exact q
 frzs:=fun b u xs q=>by rw[upd_ne (ne_of_none q hn)];exact q
 tbls:=fun b ps q=>⟨#[],by rw[upd_ne (ne_of_none q hn),q];simp⟩
theorem Un.write (mu:Mut (H x)) (he:e=x∨H e=some (.own x)) (k:∀ b u,b≠e→h.get? b=some u→h'.get? b=some u) (heo:∃ u,h'.get? e=some u):Un fs ex H (upd H x o) h h':=by
 have hx:∀ b,H b=none→b≠x:=fun b n z=>by subst z;rw[n]at mu;exact mu
 have hb:∀ b,H b=none→b≠e:=fun b n z=>by
  subst z
  rcases he with r | r
  ·exact hx b n r
  ·rw[n]at r;cases r
 have hm:∀ b u,H b=some u→¬ Mut (some u)→b≠x:=fun b u q nm z=>by subst z;rw[q]at mu;exact nm mu
 refine⟨fun b u q n _ _=>k b u (hb b n) q,fun b u q n _ _=>⟨u.slots,k b u (hb b n) q⟩,fun b u q n _=>by rw[upd_ne (hx b n)];exact n,fun b u q _=>?_,
  fun b xs q=>by rw[upd_ne (hm b _ q fun z=>z)];exact q,fun b u xs q=>by rw[upd_ne (hm b _ q fun z=>z)];exact q,fun b ps q=>⟨#[],by rw[upd_ne (hm b _ q fun z=>z),q];simp⟩⟩
 by_cases hbe:b=e
 ·subst hbe;exact heo
 ·exact⟨u,k b u hbe q⟩
theorem Un.mono (u:Un fs ex H H1 h h1) (hs:∀ b∈fs,b∈fs') (hx:∀ b∈ex,b∈ex'):Un fs' ex' H H1 h h1 :=
 ⟨fun b ob q n hb he=>u.keep b ob q n (fun z=>hb (hs b z)) fun z=>he (hx b z),fun _ _ q n _ he=>u.any q n fun z=>he (hx _ z),fun b ob q n he=>u.free b ob q n fun z=>he (hx b z),fun b ob q he=>u.there b ob q fun z=>he (hx b z),u.tups,u.frzs,u.tbls⟩
end
noncomputable def trk (h:Heap) (H:Hp):List Addr:=(List.range h.objs.size).filter fun a=>(H a).isSome
noncomputable def hidT (h:Heap) (H:Hp):Heap:=PySem.W.hideAll h (trk h H)
theorem hidT_size (h:Heap) (H:Hp):(hidT h H).objs.size=h.objs.size:=PySem.W.hideAll_size _ _
theorem hidT_get {h:Heap} {H:Hp} {b:Addr} {o:Obj} (e:h.get? b=some o) (n:H b=none):(hidT h H).get? b=some o :=
 PySem.W.hideAll_get _ e fun hm=>by
  have q:(H b).isSome=true:=(List.mem_filter.mp hm).2
  rw[n]at q;simp at q
theorem of_hidT {h:Heap} {H:Hp} {b:Addr} {o:Obj} (e:(hidT h H).get? b=some o):h.get? b=some o∧H b=none:=by
 have e':h.get? b=some o:=PySem.W.of_hideAll (trk h H) e
 refine⟨e',?_⟩
 cases q:H b with
 | none=>rfl
 | some x =>
  have hm:b∈trk h H:=List.mem_filter.mpr ⟨List.mem_range.mpr (Heap.lt_size e'),by simp[q]⟩
  have z:(hidT h H).get? b=none:=PySem.W.hideAll_none (trk h H) hm
  rw[z]at e;cases e
noncomputable def allNews (g h:Heap) (L:Addr):List (Addr×Obj):=(List.range h.objs.size).filterMap fun a=>if a=L∨(g.get? a).isSome=true then none else (h.get? a).map fun o=>(a,o)
noncomputable def rest (g h:Heap) (L d:Addr):List (Addr×Obj):=(allNews g h L).filter fun p=>decide (p.1≠d)
end L2
namespace L2
open PySem PySem.Spec PyProof.Rows
structure Mod (K:PySem.W.Frag) (mg:Str→Option Value) (base:Heap):Prop where
 kin:K.In base
 glob:base.Ns mainGlobals mg
 blt:∃ mb,base.Ns builtinsNs mb∧∀ x:Str,x≠"__name__"→mb x=bootBuiltins x
 nolimit:base.NoLimit
structure Cx where
 prog:Program
 w:World
 K:PySem.W.Frag
 mg:Str→Option Value
 base:Heap
 A:Around
 N:List Str
 s₀:Shared
 H₀:Hp
 env:Env
 outer:List Env
 stack:List Env
 ex:List Addr
 fn:Str→Bool
 calm:Bool
 pn:List (Addr×Obj)
 xe:Value→Shared→Prop
noncomputable def frs (l:List Env):List Addr:=l.filterMap (·.frame)
noncomputable abbrev Cx.fs (X:Cx):List Addr:=frs X.outer
noncomputable def Vis (sc:Scope) (x:Str):Prop:=sc.names.lookup x=some .local∨sc.names.lookup x=some .cell∨sc.names.lookup x=some .free
noncomputable def Loc (sc:Scope) (x:Str):Prop:=sc.names.lookup x=some .local∨sc.names.lookup x=some .cell
noncomputable def Look (env:Env) (h:Heap) (m:Str→Option Value) (x:Str) (u:Value):Prop :=
 (env.kindOf x=some .local∧m x=some u)∨((env.kindOf x=some .cell∨env.kindOf x=some .free)∧∃ c,env.cells.lookup x=some c∧h.IsCell c (some u))
structure Cx.Ok (X:Cx):Prop where
 mod:Mod X.K X.mg X.base
 kind:X.env.scope.kind=.function
 glob:X.env.globals=mainGlobals
 blt:X.env.builtins=builtinsNs
 above:X.s₀.heap.objs.size≤X.env.locals
 inj:∀ x y c,X.env.cells.lookup x=some c→X.env.cells.lookup y=some c→x=y
 has:∀ x,(X.env.kindOf x=some .cell∨X.env.kindOf x=some .free)→∃ c,X.env.cells.lookup x=some c
 cab:∀ x c,X.fn x=true→X.env.cells.lookup x=some c→X.s₀.heap.objs.size≤c
 hd:X.calm=true→X.A.handled=none
 frames:X.A.frames=some X.stack
 stk:X.stack=X.outer∨(X.stack=X.env :: X.outer∧X.env.frame=some X.env.locals)
 exf:∀ b∈X.ex,b≠X.env.locals∧∀ x c,X.env.cells.lookup x=some c→c≠b
 bs:∀ b o,X.base.get? b=some o→X.s₀.heap.get? b=some o∧X.H₀ b=none
 bsz:X.base.objs.size≤X.s₀.heap.objs.size
 noex:∀ b o,X.base.get? b=some o→b∉X.ex
 exfs:∀ b∈X.ex,b∉X.fs
 funs:X.s₀.heap.FunFrames X.base X.outer
 frf:∀ b∈X.fs,X.H₀ b=none
structure Inv (X:Cx) (pins:List (Addr×Obj)) (σ:List (Option V)) (H:Hp) (s:Shared):Prop where
 ok:X.Ok
 os:s.os=X.s₀.os
 bare:AllBare s.gens
 base:Un X.fs X.ex X.H₀ H X.s₀.heap s.heap
 loc:∃ m,s.heap.Ns X.env.locals m∧∀ (i:Nat) (x:Str) (v:V),X.N[i]?=some x→σ[i]?=some (some v)→Vis X.env.scope x→∃ u,RelV v u∧Look X.env s.heap m x u
 cell:∀ x c,X.env.cells.lookup x=some c→∃ v,s.heap.IsCell c v
 free:H X.env.locals=none
 freeC:∀ x c,X.env.cells.lookup x=some c→H c=none
 pin:∀ p∈X.pn++pins,s.heap.get? p.1=some p.2∧H p.1=none∧p.1≠X.env.locals∧p.1∉X.fs∧∀ v,p.2.data≠.cell v
 hok:HOk X.prog X.w H s.heap
 len:σ.length=X.N.length
section
variable {X:Cx} {pins:List (Addr×Obj)} {σ:List (Option V)} {H H':Hp} {s:Shared} {h':Heap}
theorem Cx.Ok.nofr (ok:X.Ok) {b:Addr} {o:Obj} (e:X.base.get? b=some o):b∉X.fs:=fun hb=>by
 have:=(ok.funs.mem hb).1
 rw[e]at this;cases this
theorem Inv.bs (I:Inv X pins σ H s):∀ b o,X.base.get? b=some o→s.heap.get? b=some o∧H b=none:=fun b o e =>
 ⟨I.base.keep b o (I.ok.bs b o e).1 (I.ok.bs b o e).2 (I.ok.nofr e) (I.ok.noex b o e),I.base.free b o (I.ok.bs b o e).1 (I.ok.bs b o e).2 (I.ok.noex b o e)⟩
theorem Inv.bk (I:Inv X pins σ H s):∀ b o,X.base.get? b=some o→s.heap.get? b=some o:=fun b o e=>(I.bs b o e).1
theorem Inv.mod (I:Inv X pins σ H s):Mod X.K X.mg X.base:=I.ok.mod
theorem Inv.kIn (I:Inv X pins σ H s):X.K.In s.heap:=I.ok.mod.kin.keeps I.bk
theorem Inv.nolimit (I:Inv X pins σ H s):s.heap.NoLimit:=I.ok.mod.nolimit.keeps I.bk
theorem Inv.fr (I:Inv X pins σ H s):∃ m,Fr X.base X.env.locals s.heap m :=
 let ⟨m,hn,_⟩:=I.loc
 ⟨m,hn,I.bk,Nat.le_trans I.ok.bsz I.ok.above⟩
theorem Inv.lt (I:Inv X pins σ H s):X.env.locals<s.heap.objs.size:=let ⟨_,hn,_⟩:=I.loc;hn.lt
theorem Inv.sz (I:Inv X pins σ H s):X.s₀.heap.objs.size≤s.heap.objs.size:=Nat.le_trans I.ok.above (Nat.le_of_lt I.lt)
theorem Inv.nofs (I:Inv X pins σ H s) {a:Addr} (h:s.heap.objs.size≤a):a∉X.fs:=fun hb=>by
 obtain⟨_,o,ho,_⟩:=I.ok.funs.mem hb
 exact absurd (Nat.lt_of_lt_of_le (Heap.lt_size ho) (Nat.le_trans I.sz h)) (Nat.lt_irrefl _)
theorem Inv.cne (I:Inv X pins σ H s):∀ x c,X.env.cells.lookup x=some c→c≠X.env.locals:=fun x c e z=>by
 obtain⟨v,o,ho,hd⟩:=I.cell x c e
 obtain⟨m,⟨o',es,ep,ho',hd',_⟩,_⟩:=I.loc
 rw[z,ho']at ho;cases ho;rw[hd']at hd;cases hd
theorem Inv.funs (I:Inv X pins σ H s):s.heap.FunFrames X.base X.outer:=by
 have all:∀ (l:List Env),(∀ b∈frs l,b∈X.fs)→X.s₀.heap.FunFrames X.base l→s.heap.FunFrames X.base l:=by
  intro l
  induction l with
  | nil=>intro _ _;trivial
  | cons env r ih =>
   intro hs hl
   obtain⟨hk,⟨L,o,hf,hn,ho,hd⟩,hr⟩:=hl
   have hL:L∈X.fs:=hs L (by unfold frs;rw[List.filterMap_cons,hf];exact List.mem_cons_self)
   obtain⟨sl,e⟩:=I.base.slot L o ho (I.ok.frf L hL) hL fun z=>I.ok.exfs L z hL
   exact⟨hk,⟨L,_,hf,hn,e,hd⟩,ih (fun b hb=>hs b (by unfold frs;rw[List.filterMap_cons,hf];exact List.mem_cons_of_mem _ hb)) hr⟩
 exact all X.outer (fun _ hb=>hb) I.ok.funs
theorem Inv.stack (I:Inv X pins σ H s):s.heap.FunFrames X.base X.stack:=by
 rcases I.ok.stk with e | ⟨e,hf⟩
 ·rw[e];exact I.funs
 ·rw[e]
  obtain⟨m,hn,_⟩:=I.loc
  refine .cons (by rw[I.ok.kind];decide) hf hn ?_ I.funs
  exact Heap.get?_none_of_le (Nat.le_trans I.ok.bsz I.ok.above)
theorem Inv.stkSub (I:Inv X pins σ H s):∀ b∈frs X.stack,b∈X.env.locals :: X.fs:=fun b hb=>by
 rcases I.ok.stk with e | ⟨e,hf⟩
 ·rw[e]at hb;exact List.mem_cons_of_mem _ hb
 ·rw[e]at hb
  unfold frs at hb
  rw[List.filterMap_cons,hf]at hb
  exact hb
theorem Inv.stkFree (I:Inv X pins σ H s):∀ b∈frs X.stack,H b=none:=fun b hb=>by
 rcases List.mem_cons.mp (I.stkSub b hb)with e | hb
 ·rw[e];exact I.free
 ·obtain⟨_,o,ho,_⟩:=I.ok.funs.mem hb
  exact I.base.free b o ho (I.ok.frf b hb) fun z=>I.ok.exfs b z hb
theorem Inv.step {g':Array GenState} {t':Nat} {d':Drawn} {ch:List Addr} (I:Inv X pins σ H s)
 (hch:∀ b∈ch,(b∈X.ex∨X.s₀.heap.objs.size≤b)∧b≠X.env.locals∧(∀ x c,X.env.cells.lookup x=some c→c≠b)∧∀ p∈X.pn++pins,p.1≠b)
 (keep:∀ b o,b≠X.env.locals→b∉X.fs→b∉ch→s.heap.get? b=some o→H b=none→h'.get? b=some o)
 (slot:∀ b o,b≠X.env.locals→b∈X.fs→b∉ch→s.heap.get? b=some o→H b=none→∃ sl,h'.get? b=some { o with slots:=sl }) (free:∀ b o,b∉ch→s.heap.get? b=some o→H b=none→H' b=none)
 (there:∀ b o,b∉ch→s.heap.get? b=some o→∃ o',h'.get? b=some o')
 (tups:∀ b xs,H b=some (.tup xs)→H' b=some (.tup xs)) (frzs:∀ b o u,H b=some (.frz o u)→H' b=some (.frz o u)) (tbls:∀ b ps,H b=some (.tbl ps)→∃ more,H' b=some (.tbl (ps++more)))
 (ns:∀ m,s.heap.Ns X.env.locals m→h'.Ns X.env.locals m) (hok:HOk X.prog X.w H' h') (hg:AllBare g') :
 Inv X pins σ H' { s with heap:=h',gens:=g',drawn:=d',toks:=t' }:=by
 have neL:∀ b o,X.s₀.heap.get? b=some o→b≠X.env.locals:=fun b o e=>Nat.ne_of_lt (Nat.lt_of_lt_of_le (Heap.lt_size e) I.ok.above)
 have neC:∀ b o,X.s₀.heap.get? b=some o→b∉X.ex→b∉ch:=fun b o e hx hb=>by
  rcases (hch b hb).1 with z | z
  ·exact hx z
  ·exact absurd (Nat.lt_of_lt_of_le (Heap.lt_size e) z) (Nat.lt_irrefl _)
 have cellK:∀ x c,X.env.cells.lookup x=some c→∀ v,s.heap.IsCell c v→h'.IsCell c v:=fun x c e v ⟨o,ho,hd⟩=>by
  have nch:c∉ch:=fun z=>(hch c z).2.2.1 x c e rfl
  by_cases hc:c∈X.fs
  ·obtain⟨sl,q⟩:=slot c o (I.cne x c e) hc nch ho (I.freeC x c e)
   exact⟨_,q,hd⟩
  ·exact⟨o,keep c o (I.cne x c e) hc nch ho (I.freeC x c e),hd⟩
 refine⟨I.ok,I.os,hg,⟨fun b o e n hb hx=>?_,fun b o e n hb hx=>?_,fun b o e n hx=>?_,fun b o e hx=>?_,fun b xs e=>tups b xs (I.base.tups b xs e),fun b o xs e=>frzs b o xs (I.base.frzs b o xs e),fun b ps e=>?_⟩,?_,fun x c e=>?_,?_,fun x c e=>?_,fun p hp=>?_,hok,I.len⟩
 ·exact keep b o (neL b o e) hb (neC b o e hx) (I.base.keep b o e n hb hx) (I.base.free b o e n hx)
 ·obtain⟨sl,e1⟩:=I.base.slot b o e n hb hx
  obtain⟨sl',e2⟩:=slot b _ (neL b o e) hb (neC b o e hx) e1 (I.base.free b o e n hx)
  exact⟨sl',e2⟩
 ·obtain⟨o',e1⟩:=I.base.there b o e hx
  exact free b o' (neC b o e hx) e1 (I.base.free b o e n hx)
 ·obtain⟨o',e1⟩:=I.base.there b o e hx
  exact there b o' (neC b o e hx) e1
 ·obtain⟨m1,e1⟩:=I.base.tbls b ps e
  obtain⟨m2,e2⟩:=tbls b _ e1
  exact⟨m1++m2,by rw[e2,Array.append_assoc]⟩
 ·obtain⟨m,hn,hl⟩:=I.loc
  refine⟨m,ns m hn,fun i x v e1 e2 e3=>?_⟩
  obtain⟨u,r,l⟩:=hl i x v e1 e2 e3
  refine⟨u,r,?_⟩
  rcases l with l | ⟨k,c,e,z⟩
  ·exact .inl l
  ·exact .inr ⟨k,c,e,cellK x c e _ z⟩
 ·obtain⟨v,z⟩:=I.cell x c e
  exact⟨v,cellK x c e v z⟩
 ·obtain⟨m,⟨o,_,_,ho,_⟩,_⟩:=I.loc
  exact free _ o (fun z=>(hch _ z).2.1 rfl) ho I.free
 ·obtain⟨v,o,ho,hd⟩:=I.cell x c e
  exact free c o (fun z=>(hch c z).2.2.1 x c e rfl) ho (I.freeC x c e)
 ·obtain⟨e,n,ne,nf,d⟩:=I.pin p hp
  have nch:p.1∉ch:=fun z=>(hch p.1 z).2.2.2 p hp rfl
  exact⟨keep p.1 p.2 ne nf nch e n,free p.1 p.2 nch e n,ne,nf,d⟩
theorem Inv.un {t':Nat} (I:Inv X pins σ H s) (u:Un X.fs [] H H' s.heap h') (hok:HOk X.prog X.w H' h'):Inv X pins σ H' { s with heap:=h',toks:=t' }:=by
 obtain⟨m,⟨o,es,ep,ho,r⟩,_⟩:=id I.loc
 obtain⟨sl,hL⟩:=u.any ho I.free (by simp)
 exact I.step (g':=s.gens) (d':=s.drawn) (ch:=[]) (fun _ z=>nomatch z) (fun b o _ hb _ e n=>u.keep b o e n hb (by simp)) (fun b o _ hb _ e n=>u.slot b o e n hb (by simp)) (fun b o _ e n=>u.free b o e n (by simp)) (fun b o _ e=>u.there b o e (by simp)) u.tups u.frzs u.tbls (fun m' hm=>by
  obtain⟨o',es',ep',ho',r'⟩:=hm
  rw[ho]at ho';cases ho'
  exact⟨_,es',ep',hL,r'⟩) hok I.bare
theorem Inv.call {g':Array GenState} {t':Nat} {d':Drawn} {ch:List Addr} (I:Inv X pins σ H s) (u:Un (frs X.stack) ch H H' s.heap h') (hok:HOk X.prog X.w H' h') (hg:AllBare g')
 (hch:∀ b∈ch,(b∈X.ex∨X.s₀.heap.objs.size≤b)∧b≠X.env.locals∧(∀ x c,X.env.cells.lookup x=some c→c≠b)∧∀ p∈X.pn++pins,p.1≠b) :
 Inv X pins σ H' { s with heap:=h',gens:=g',drawn:=d',toks:=t' }:=by
 obtain⟨m,⟨o,es,ep,ho,r⟩,_⟩:=id I.loc
 obtain⟨sl,hL⟩:=u.any ho I.free fun z=>(hch _ z).2.1 rfl
 exact I.step (ch:=ch) hch (fun b o hL hb hc e n=>u.keep b o e n (fun z=>(List.mem_cons.mp (I.stkSub b z)).elim hL hb) hc) (fun b o _ _ hc e n=>u.any e n hc) (fun b o hc e n=>u.free b o e n hc) (fun b o hc e=>u.there b o e hc) u.tups u.frzs u.tbls (fun m' hm=>by
  obtain⟨o',es',ep',ho',r'⟩:=hm
  rw[ho]at ho';cases ho'
  exact⟨_,es',ep',hL,r'⟩) hok hg
theorem Inv.turned {t':Nat} {it:Addr} (I:Inv X pins σ H s) (k:∀ b o,b≠it→s.heap.get? b=some o→h'.get? b=some o) (hn:H it=none) (hL:it≠X.env.locals)
 (h1:it∈X.ex∨X.s₀.heap.objs.size≤it) (h2:∀ x c,X.env.cells.lookup x=some c→c≠it) (h3:∀ p∈X.pn++pins,p.1≠it):Inv X pins σ H { s with heap:=h',toks:=t' }:=by
 have nit:∀ b u,H b=some u→b≠it:=fun b u e z=>by rw[z,hn]at e;cases e
 refine I.step (g':=s.gens) (d':=s.drawn) (ch:=[it]) (fun b hb=>?_) (fun b o _ _ hc e _=>k b o (fun z=>hc (by simp[z])) e) (fun b o _ _ hc e _=>⟨o.slots,k b o (fun z=>hc (by simp[z])) e⟩) (fun _ _ _ _ n=>n)
  (fun b o hc e=>⟨o,k b o (fun z=>hc (by simp[z])) e⟩) (fun _ _ e=>e) (fun _ _ _ e=>e) (fun b ps e=>⟨#[],by rw[e];simp⟩) (fun m hm=>?_) (fun b u e=>?_) I.bare
 ·have e:b=it:=by simpa using hb
  subst e
  exact⟨h1,hL,h2,h3⟩
 ·obtain⟨o,es,ep,ho,r⟩:=hm
  exact⟨o,es,ep,k _ o (Ne.symm hL) ho,r⟩
 ·refine(I.hok b u e).stay (fun c v hc q=>k c v ?_ q) (fun _ q=>q) fun _ _ q=>q
  rcases hc with z | z
  ·rw[z];exact nit b u e
  ·exact nit c _ z
theorem Inv.tok (I:Inv X pins σ H s) (t:Nat):Inv X pins σ H { s with toks:=t }:=I.un (h':=s.heap) (t':=t) Un.refl I.hok
theorem Inv.kept {t':Nat} (I:Inv X pins σ H s) (k:∀ b u,s.heap.get? b=some u→h'.get? b=some u):Inv X pins σ H { s with heap:=h',toks:=t' }:=I.un (Un.kept k) (I.hok.kept k)
theorem Inv.laid {a:Addr} {o:HO} {t':Nat} (I:Inv X pins σ H s) (k:∀ b u,s.heap.get? b=some u→h'.get? b=some u) (hp:s.heap.objs.size≤a) (new:ObjOk X.prog X.w (upd H a o) h' a o) :
 Inv X pins σ (upd H a o) { s with heap:=h',toks:=t' }:=I.un (Un.laid k hp (I.hok.fresh hp)) (I.hok.laid k hp new)
theorem Inv.write {x e:Addr} {o:HO} {t':Nat} (I:Inv X pins σ H s) (mu:Mut (H x)) (he:e=x∨H e=some (.own x)) (k:∀ b u,b≠e→s.heap.get? b=some u→h'.get? b=some u) (heo:∃ u,h'.get? e=some u)
 (new:ObjOk X.prog X.w (upd H x o) h' x o):Inv X pins σ (upd H x o) { s with heap:=h',toks:=t' }:=I.un (Un.write mu he k heo) (I.hok.write mu he k heo new)
theorem Inv.weak {σ':List (Option V)} (I:Inv X pins σ H s) (hl:σ'.length=σ.length) (w:∀ (i:Nat) v,σ'[i]?=some (some v)→σ[i]?=some (some v)):Inv X pins σ' H s :=
 ⟨I.ok,I.os,I.bare,I.base,let ⟨m,hn,hl'⟩:=I.loc;⟨m,hn,fun i x v e1 e2 e3=>hl' i x v e1 (w i v e2) e3⟩,I.cell,I.free,I.freeC,I.pin,I.hok,hl.trans I.len⟩
theorem Inv.pins_of {pins':List (Addr×Obj)} (I:Inv X pins σ H s) (h:∀ p∈pins',s.heap.get? p.1=some p.2∧H p.1=none∧p.1≠X.env.locals∧p.1∉X.fs∧∀ v,p.2.data≠.cell v):Inv X pins' σ H s :=
 ⟨I.ok,I.os,I.bare,I.base,I.loc,I.cell,I.free,I.freeC,fun p hp=>(List.mem_append.mp hp).elim (fun z=>I.pin p (List.mem_append_left _ z)) (h p),I.hok,I.len⟩
theorem nodup_ix {N:List Str} (hN:N.Nodup) {i j:Nat} {x:Str} (a:N[i]?=some x) (b:N[j]?=some x):i=j:=by
 obtain⟨h1,e1⟩:=List.getElem?_eq_some_iff.mp a
 obtain⟨h2,e2⟩:=List.getElem?_eq_some_iff.mp b
 exact(List.getElem_inj hN).mp (e1.trans e2.symm)
theorem store_ok2 {M:Model} {A:Around} {E:Value→Shared→Prop} {i:Nat} {x:Str} {v:V} {u:Value} {Q:Unit→Shared→Prop} (I:Inv X pins σ H s) (hN:X.N.Nodup) (hi:X.N[i]?=some x) (hx:Loc X.env.scope x) (r:RelV v u)
 (h:∀ s',Inv X pins (σ.set i (some v)) H s'→(∃ a,Heap.SameBut a s.heap s'.heap∧(a=X.env.locals∨X.env.cells.lookup x=some a))→Q () s') (hf:X.fn x=true∨X.env.scope.names.lookup x=some .local:=by first | exact .inl rfl | exact .inr rfl | assumption):wpAny M A (storeName X.env x u) Q E s:=by
 obtain⟨m,hn,hl⟩:=id I.loc
 have hcls:(X.env.scope.kind == .class || (X.env.scope.kind == .module && X.env.locals != X.env.globals))=false:=by rw[I.ok.kind];rfl
 have hiσ:i<σ.length:=by rw[I.len];exact(List.getElem?_eq_some_iff.mp hi).1
 have cne:=I.cne
 have tracked:∀ {a:Addr} {h':Heap},(∃ o,s.heap.get? a=some o∧H a=none)→Heap.SameBut a s.heap h'→HOk X.prog X.w H h':=fun {a h'} ha hs b ob e=>by
  obtain⟨_,_,hfree⟩:=ha
  refine(I.hok b ob e).stay (fun c w' hc q=>(hs.2 c ?_).trans q) (fun _ q=>q) fun _ _ q=>q
  rintro rfl
  rcases hc with rfl | hc
  ·rw[hfree]at e;cases e
  ·rw[hfree]at hc;cases hc
 rcases hx with hk | hk
 ·refine wpAny_storeName_local hk hn (fun h' hn' hs=>?_) hcls
  obtain⟨oL,_,_,hoL,_⟩:=id hn
  refine h _ ⟨I.ok,I.os,I.bare,⟨fun b o e n hb hx=>?_,fun b o e n hb hx=>?_,I.base.free,fun b o e hx=>?_,I.base.tups,I.base.frzs,I.base.tbls⟩,⟨_,hn',fun j y v' e1 e2 e3=>?_⟩,fun y c e=>?_,I.free,I.freeC,fun p hp=>?_,tracked ⟨oL,hoL,I.free⟩ hs,by simpa using I.len⟩ ⟨_,hs,.inl rfl⟩
  ·exact(hs.2 b (Nat.ne_of_lt (Nat.lt_of_lt_of_le (Heap.lt_size e) I.ok.above))).trans (I.base.keep b o e n hb hx)
  ·obtain⟨sl,e1⟩:=I.base.slot b o e n hb hx
   exact⟨sl,(hs.2 b (Nat.ne_of_lt (Nat.lt_of_lt_of_le (Heap.lt_size e) I.ok.above))).trans e1⟩
  ·obtain⟨o',e1⟩:=I.base.there b o e hx
   exact⟨o',(hs.2 b (Nat.ne_of_lt (Nat.lt_of_lt_of_le (Heap.lt_size e) I.ok.above))).trans e1⟩
  ·by_cases hj:j=i
   ·subst hj
    rw[hi]at e1;cases e1
    rw[List.getElem?_set_self hiσ]at e2
    cases e2
    exact⟨u,r,.inl ⟨hk,by simp⟩⟩
   ·rw[List.getElem?_set_ne (Ne.symm hj)]at e2
    obtain⟨u',r',q⟩:=hl j y v' e1 e2 e3
    refine⟨u',r',?_⟩
    rcases q with ⟨k,e⟩ | ⟨k,c,e,z⟩
    ·refine .inl ⟨k,?_⟩
     have:y≠x:=fun e=>hj (nodup_ix hN e1 (e ▸ hi))
     simp[this,e]
    ·exact .inr ⟨k,c,e,z.sameBut hs (cne y c e)⟩
  ·obtain⟨w',z⟩:=I.cell y c e
   exact⟨w',z.sameBut hs (cne y c e)⟩
  ·obtain⟨e,n,ne,nf,d⟩:=I.pin p hp
   exact⟨(hs.2 p.1 ne).trans e,n,ne,nf,d⟩
 ·have hfn:X.fn x=true:=by
   rcases hf with z | z
   ·exact z
   ·rw[z]at hk;cases hk
  obtain⟨c,hc⟩:=I.ok.has x (.inl hk)
  obtain⟨w',z⟩:=I.cell x c hc
  refine wpAny_storeName_cell I.ok.kind hk hc z (fun h' hc' hs=>?_)
  obtain⟨oc,hoc,hocd⟩:=id z
  refine h { s with heap:=h' } ⟨I.ok,I.os,I.bare,⟨fun b o e n hb hx=>?_,fun b o e n hb hx=>?_,I.base.free,fun b o e hx=>?_,I.base.tups,I.base.frzs,I.base.tbls⟩,⟨m,hn.sameBut hs (Ne.symm (cne x c hc)),fun j y v' e1 e2 e3=>?_⟩,fun y c' e=>?_,I.free,I.freeC,fun p hp=>?_,tracked ⟨oc,hoc,I.freeC x c hc⟩ hs,by simpa using I.len⟩ ⟨c,hs,.inr hc⟩
  ·exact(hs.2 b (Nat.ne_of_lt (Nat.lt_of_lt_of_le (Heap.lt_size e) (I.ok.cab x c hfn hc)))).trans (I.base.keep b o e n hb hx)
  ·obtain⟨sl,e1⟩:=I.base.slot b o e n hb hx
   exact⟨sl,(hs.2 b (Nat.ne_of_lt (Nat.lt_of_lt_of_le (Heap.lt_size e) (I.ok.cab x c hfn hc)))).trans e1⟩
  ·obtain⟨o',e1⟩:=I.base.there b o e hx
   exact⟨o',(hs.2 b (Nat.ne_of_lt (Nat.lt_of_lt_of_le (Heap.lt_size e) (I.ok.cab x c hfn hc)))).trans e1⟩
  ·by_cases hj:j=i
   ·subst hj
    rw[hi]at e1;cases e1
    rw[List.getElem?_set_self hiσ]at e2
    cases e2
    exact⟨u,r,.inr ⟨.inl hk,c,hc,hc'⟩⟩
   ·rw[List.getElem?_set_ne (Ne.symm hj)]at e2
    obtain⟨u',r',q⟩:=hl j y v' e1 e2 e3
    refine⟨u',r',?_⟩
    rcases q with q | ⟨k,c',e,z'⟩
    ·exact .inl q
    ·refine .inr ⟨k,c',e,z'.sameBut hs ?_⟩
     rintro rfl
     exact hj (nodup_ix hN e1 (I.ok.inj _ _ _ e hc ▸ hi))
  ·by_cases hcc:c'=c
   ·subst hcc;exact⟨_,hc'⟩
   ·obtain⟨w2,z2⟩:=I.cell y c' e
    exact⟨w2,z2.sameBut hs hcc⟩
  ·obtain⟨e,n,ne,nf,d⟩:=I.pin p hp
   refine⟨(hs.2 p.1 ?_).trans e,n,ne,nf,d⟩
   intro q
   rw[q,hoc]at e
   have q':oc=p.2:=Option.some.inj e
   exact d w' (by rw[← q'];exact hocd)
theorem store_ok {M:Model} {A:Around} {E:Value→Shared→Prop} {i:Nat} {x:Str} {v:V} {u:Value} {Q:Unit→Shared→Prop} (I:Inv X pins σ H s) (hN:X.N.Nodup) (hi:X.N[i]?=some x) (hx:Loc X.env.scope x) (r:RelV v u)
 (h:∀ s',Inv X pins (σ.set i (some v)) H s'→Q () s') (hf:X.fn x=true∨X.env.scope.names.lookup x=some .local:=by first | exact .inl rfl | exact .inr rfl | assumption):wpAny M A (storeName X.env x u) Q E s :=
 store_ok2 I hN hi hx r (fun s' I' _=>h s' I') hf
theorem Inv.call' {s':Shared} {ch:List Addr} (I:Inv X pins σ H s) (ho:s'.os=s.os) (u:Un (frs X.stack) ch H H' s.heap s'.heap) (hok:HOk X.prog X.w H' s'.heap) (hg:AllBare s'.gens)
 (hch:∀ b∈ch,(b∈X.ex∨X.s₀.heap.objs.size≤b)∧b≠X.env.locals∧(∀ x c,X.env.cells.lookup x=some c→c≠b)∧∀ p∈X.pn++pins,p.1≠b):Inv X pins σ H' s':=by
 obtain⟨h',g',d',t',o'⟩:=s'
 have e:o'=s.os:=ho
 subst e
 exact I.call (g':=g') (t':=t') (d':=d') u hok hg hch
end
noncomputable abbrev XK:=Value→Option Addr→Hp→Prop
noncomputable abbrev St:=List (Option V)
noncomputable abbrev VK:=V→Hp→Prop
noncomputable abbrev TE:=St→Hp→VK→Prop
noncomputable abbrev TT:=St→Hp→(Bool→Hp→Prop)→Prop
noncomputable abbrev TA:=St→Hp→(List V→Hp→Prop)→Prop
structure Ends where
 nx:St→Hp→Prop
 rt:VK
 bk:St→Hp→Prop:=fun _ _=>False
 ct:St→Hp→Prop:=fun _ _=>False
noncomputable abbrev TS:=Ends→St→Hp→Prop
noncomputable def EP (X:Cx) (pins:List (Addr×Obj)) (σ:St) (Q:VK) (u:Value) (s':Shared):Prop:=∃ v H',Inv X pins σ H' s'∧RelV v u∧Q v H'
noncomputable def TP (X:Cx) (pins:List (Addr×Obj)) (σ:St) (Q:Bool→Hp→Prop) (b:Bool) (s':Shared):Prop:=∃ H',Inv X pins σ H' s'∧Q b H'
noncomputable def AP (X:Cx) (pins:List (Addr×Obj)) (σ:St) (Q:List V→Hp→Prop) (us:List Value) (s':Shared):Prop:=∃ vs H',Inv X pins σ H' s'∧Vals vs us∧Q vs H'
noncomputable def SP (X:Cx) (pins:List (Addr×Obj)) (D:Ends) (f:Flow) (s':Shared):Prop :=
 match f with
 | .next=>∃ σ' H',Inv X pins σ' H' s'∧D.nx σ' H'
 | .brk=>∃ σ' H',Inv X pins σ' H' s'∧D.bk σ' H'
 | .cont=>∃ σ' H',Inv X pins σ' H' s'∧D.ct σ' H'
 | .ret u=>∃ v σ' H',Inv X pins σ' H' s'∧RelV v u∧D.rt v H'
noncomputable def PE (X:Cx) (e:Expr) (t:TE):Prop :=
 ∀ (pins:List (Addr×Obj)) (s:Shared) (σ:St) (H:Hp) (Q:VK),Inv X pins σ H s→t σ H Q→wpAny (model X.prog X.w) X.A (eval e X.env) (EP X pins σ Q) X.xe s
noncomputable def PT (X:Cx) (e:Expr) (t:TT):Prop :=
 ∀ (pins:List (Addr×Obj)) (s:Shared) (σ:St) (H:Hp) (Q:Bool→Hp→Prop),Inv X pins σ H s→t σ H Q→wpAny (model X.prog X.w) X.A (isTrue e X.env (eval e X.env)) (TP X pins σ Q) X.xe s
noncomputable def PW (X:Cx) (e:Expr) (t:TT):Prop :=
 ∀ (whole:Sem Value) (pins:List (Addr×Obj)) (s:Shared) (σ:St) (H:Hp) (Q:Bool→Hp→Prop),Inv X pins σ H s→t σ H Q→wpAny (model X.prog X.w) X.A (isTrue e X.env whole) (TP X pins σ Q) X.xe s
theorem PW.pt {X:Cx} {e:Expr} {t:TT} (h:PW X e t):PT X e t:=h _
noncomputable def PA (X:Cx) (es:List Expr) (t:TA):Prop :=
 ∀ (pos:Pos) (pins:List (Addr×Obj)) (s:Shared) (σ:St) (H:Hp) (Q:List V→Hp→Prop),Inv X pins σ H s→t σ H Q→wpAny (model X.prog X.w) X.A (spliced (backTo pos (starEach es X.env))) (AP X pins σ Q) X.xe s
noncomputable def PS (X:Cx) (st:Stmt) (t:TS):Prop :=
 ∀ (pins:List (Addr×Obj)) (s:Shared) (σ:St) (H:Hp) (D:Ends),Inv X pins σ H s→t D σ H→wpAny (model X.prog X.w) X.A (exec st X.env) (SP X pins D) X.xe s
noncomputable def PSs (X:Cx) (st:List Stmt) (t:TS):Prop :=
 ∀ (pins:List (Addr×Obj)) (s:Shared) (σ:St) (H:Hp) (D:Ends),Inv X pins σ H s→t D σ H→wpAny (model X.prog X.w) X.A (execs st X.env) (SP X pins D) X.xe s
theorem thn {α:Type} {t:Sem α} {Q Q':α→Shared→Prop} {M:Model} {A:Around} {E:Value→Shared→Prop} {s:Shared} (h:wpAny M A t Q E s) (hQ:∀ a s,Q a s→Q' a s):wpAny M A t Q' E s:=wpAny_mono h hQ fun _ _ x=>x
end L2
namespace L2
open PySem PySem.Spec PyProof.Rows
section
variable {X:Cx}
noncomputable def tVar (i:Nat):TE:=fun σ H Q=>∃ v,σ[i]?=some (some v)∧Q v H
noncomputable def tC (v:V):TE:=fun _ H Q=>Q v H
theorem pe_var {i:Nat} {x:Str} {pos:Pos} (hN:X.N[i]?=some x) (hv:Vis X.env.scope x) (hd:(x == ("__debug__":Str))=false:=by decide) (hcd:(x == ("__classdict__":Str))=false:=by decide):PE X (.Name x pos) (tVar i):=by
 intro pins s σ H Q I h
 obtain⟨v,e,h⟩:=h
 obtain⟨m,hn,hl⟩:=I.loc
 obtain⟨u,r,l⟩:=hl i x v hN e hv
 have fin:EP X pins σ Q u s:=⟨v,H,I,r,h⟩
 rcases l with ⟨hk,hm⟩ | ⟨hk,c,hc,hcell⟩
 ·exact wpAny_Name (wpAny_loadName_local I.ok.kind hk hn hm fin) hd
 ·rcases hk with hk | hk
  ·exact wpAny_Name (wpAny_loadName_cell I.ok.kind hk hc hcell fin) hd
  ·exact wpAny_Name (wpAny_loadName_free I.ok.kind hk hc hcell fin hcd) hd
theorem pe_int {i j pos}:PE X (.Constant (.int i) j pos) (tC (.int i)):=fun _ _ _ H _ I h=>wpAny_Constant_int ⟨.int i,H,I.tok _,⟨_,rfl⟩,h⟩
theorem pe_bl {b j pos}:PE X (.Constant (.bool b) j pos) (tC (.bl b)):=fun _ _ _ H _ I h=>Constant_bool ⟨.bl b,H,I,rfl,h⟩
noncomputable def Gl (X:Cx) (x:Str):Prop:=X.env.kindOf x=some .globalImplicit
theorem ld_glob {E:Value→Shared→Prop} {pins:List (Addr×Obj)} {s:Shared} {σ:St} {H:Hp} {x:Str} {u:Value} {pos:Pos} {Q:Value→Shared→Prop} (I:Inv X pins σ H s) (hg:Gl X x) (hm:X.mg x=some u) (h:Q u s)
 (hd:(x == ("__debug__":Str))=false:=by decide):wpAny (model X.prog X.w) X.A (eval (.Name x pos) X.env) Q E s :=
 Calls.Name_function_global I.ok.kind hg (Calls.loadGlobal_global (by rw[I.ok.glob];exact I.mod.glob.keeps I.bk) hm h) hd
theorem ld_blt {E:Value→Shared→Prop} {pins:List (Addr×Obj)} {s:Shared} {σ:St} {H:Hp} {x:Str} {u:Value} {pos:Pos} {Q:Value→Shared→Prop} (I:Inv X pins σ H s) (hg:Gl X x) (hm:X.mg x=none) (hv:bootBuiltins x=some u) (h:Q u s)
 (hn:x≠"__name__":=by decide) (hd:(x == ("__debug__":Str))=false:=by decide):wpAny (model X.prog X.w) X.A (eval (.Name x pos) X.env) Q E s:=by
 obtain⟨mb,h1,h2⟩:=I.mod.blt
 exact Calls.Name_function_global I.ok.kind hg (Calls.loadGlobal_builtin (by rw[I.ok.glob];exact I.mod.glob.keeps I.bk) hm (by rw[I.ok.blt];exact h1.keeps I.bk) ((h2 x hn).trans hv) h) hd
theorem pe_glob {x:Str} {v:V} {u:Value} {pos:Pos} (hg:Gl X x) (hm:X.mg x=some u) (r:RelV v u) (hd:(x == ("__debug__":Str))=false:=by decide):PE X (.Name x pos) (tC v) :=
 fun _ _ _ H _ I h=>ld_glob I hg hm ⟨v,H,I,r,h⟩ hd
variable {a b:Expr} {ta tb:TE} {pos:Pos}
variable {tA tB':TT} {rest:List Expr}
noncomputable def tAnd (t u:TT):TT:=fun σ H Q=>t σ H fun c H1=>if c=true then u σ H1 Q else Q false H1
theorem pw_and1 (ha:PT X a tA):PW X (.BoolOp .And [a] pos) tA:=by
 intro wh pins s σ H Q I h
 refine isTrue_and (thn (ha pins s σ H Q I h) fun c s1 e=>?_)
 cases c with
 | true=>exact isTrue_and_nil e
 | false=>exact e
theorem pw_and (ha:PT X a tA) (hb:PW X (.BoolOp .And (b :: rest) pos) tB'):PW X (.BoolOp .And (a :: b :: rest) pos) (tAnd tA tB'):=by
 intro wh pins s σ H Q I h
 refine isTrue_and (thn (ha pins s σ H _ I h) fun c s1 ⟨H1,I1,q1⟩=>?_)
 cases c with
 | true=>exact hb wh pins s1 σ H1 Q I1 q1
 | false=>exact⟨H1,I1,q1⟩
noncomputable def tIf (t:TT) (ta tb:TE):TE:=fun σ H Q=>t σ H fun c H1=>if c=true then ta σ H1 Q else tb σ H1 Q
theorem pe_ifExp {c:Expr} (hc:PT X c tA) (ha:PE X a ta) (hb:PE X b tb):PE X (.IfExp c a b pos) (tIf tA ta tb):=by
 intro pins s σ H Q I h
 refine wpAny_IfExp (thn (hc pins s σ H _ I h) fun d s1 ⟨H1,I1,q1⟩=>?_)
 cases d with
 | true=>exact ha pins s1 σ H1 Q I1 q1
 | false=>exact hb pins s1 σ H1 Q I1 q1
end
end L2
namespace L2
open PySem PySem.Spec PyProof.Rows
noncomputable def SqL (K:PySem.W.Frag) (H:Hp) (a:Addr) (xs:List V):Prop :=
 Rd H a (.lst xs) ∨
  ∃ (o:Obj) (its:Array Value) (n:Nat),K.lookup a=some o∧o.cls=.type "list"∧o.dict=none∧o.data=.seq its n∧its.size≤sizeLine∧Vals xs its.toList
noncomputable def SqT (K:PySem.W.Frag) (H:Hp) (a:Addr) (xs:List V):Prop :=
 Rd H a (.tup xs) ∨
  ∃ (o:Obj) (its:Array Value) (n:Nat),K.lookup a=some o∧o.cls=.type "tuple"∧o.data=.seq its n∧its.size≤sizeLine∧Vals xs its.toList
noncomputable def absV:Value→Option V
 | .none=>some .non
 | .bool b=>some (.bl b)
 | .int i _=>some (.int i)
 | .str x _=>some (.str x)
 | .bytes b _=>some (.byt b)
 | .float b _=>some (.flt b)
 | .ref a=>some (.ref a)
 | .type n=>some (.ty n)
 | _=>none
theorem RelV.abs {x:V} {u:Value} (r:RelV x u):absV u=some x:=by
 cases x with
 | non=>cases r;rfl
 | bl _=>cases r;rfl
 | int _=>obtain⟨t,rfl⟩:=r;rfl
 | str _=>obtain⟨t,rfl⟩:=r;rfl
 | byt _=>obtain⟨t,rfl⟩:=r;rfl
 | flt _=>obtain⟨t,rfl⟩:=r;rfl
 | ref _=>cases r;rfl
 | ty _=>cases r;rfl
theorem RelV.inj {x y:V} {u:Value} (r:RelV x u) (q:RelV y u):x=y:=Option.some.inj (r.abs.symm.trans q.abs)
theorem Vals.inj:∀ {xs ys:List V} {us:List Value},Vals xs us→Vals ys us→xs=ys
 | _,_,_,.nil,.nil=>rfl
 | _,_,_,.cons r t,.cons r' t'=>by rw[r.inj r',Vals.inj t t']
section
variable {X:Cx} {pins:List (Addr×Obj)} {σ:St} {H:Hp} {s:Shared} {a:Addr} {xs ys:List V}
theorem SqL.of {K:PySem.W.Frag} (h:H a=some (.lst xs)):SqL K H a xs:=.inl (.inl h)
theorem SqT.of {K:PySem.W.Frag} (h:H a=some (.tup xs)):SqT K H a xs:=.inl (.inl h)
theorem Inv.list (I:Inv X pins σ H s) (h:SqL X.K H a xs):∃ its:List Value,Vals xs its∧PlainL s.heap a its.toArray∧xs.length≤sizeLine:=by
 rcases h with h | ⟨o,its,n,hk,hc,hd,hs,hz,r⟩
 ·obtain⟨z,its,n,r,e⟩:=h.ok I.hok
  exact⟨its,r,⟨_,n,e,rfl,rfl,rfl⟩,z⟩
 ·refine⟨its.toList,r,⟨o,n,I.kIn a o hk,hc,hd,by simpa using hs⟩,?_⟩
  have e:=r.length
  simp only[Array.length_toList]at e
  omega
theorem Inv.tuple (I:Inv X pins σ H s) (h:SqT X.K H a xs):∃ its:List Value,Vals xs its∧IsTup s.heap a its.toArray∧xs.length≤sizeLine:=by
 rcases h with h | ⟨o,its,n,hk,hc,hs,hz,r⟩
 ·obtain⟨z,its,r,p⟩:=h.ok I.hok
  exact⟨its,r,p,z⟩
 ·refine⟨its.toList,r,⟨o,I.kIn a o hk,hc,n,by simpa using hs⟩,?_⟩
  have e:=r.length
  simp only[Array.length_toList]at e
  omega
theorem Inv.list_inj (I:Inv X pins σ H s) (h:SqL X.K H a xs) (h':SqL X.K H a ys):xs=ys:=by
 obtain⟨its,r,⟨o,n,e,_,_,d⟩,_⟩:=I.list h
 obtain⟨its',r',⟨o',n',e',_,_,d'⟩,_⟩:=I.list h'
 rw[e]at e';cases e'
 rw[d]at d'
 injection d' with d1 _
 have:its=its':=by simpa using congrArg Array.toList d1
 subst this
 exact r.inj r'
end
noncomputable abbrev Cx.wish (X:Cx) (E:Value→Shared→Prop):Cx:={ X with xe:=E }
noncomputable abbrev Cx.nox (X:Cx):Cx:=X.wish fun _ _=>False
theorem Cx.Ok.wish {X:Cx} (ok:X.Ok) (E:Value→Shared→Prop):(X.wish E).Ok :=
 ⟨ok.mod,ok.kind,ok.glob,ok.blt,ok.above,ok.inj,ok.has,ok.cab,ok.hd,ok.frames,ok.stk,ok.exf,ok.bs,ok.bsz,ok.noex,ok.exfs,ok.funs,ok.frf⟩
theorem Cx.Ok.unwish {X:Cx} {E:Value→Shared→Prop} (ok:(X.wish E).Ok):X.Ok :=
 ⟨ok.mod,ok.kind,ok.glob,ok.blt,ok.above,ok.inj,ok.has,ok.cab,ok.hd,ok.frames,ok.stk,ok.exf,ok.bs,ok.bsz,ok.noex,ok.exfs,ok.funs,ok.frf⟩
section
variable {X:Cx} {pins:List (Addr×Obj)} {σ:St} {H:Hp} {s:Shared} {E:Value→Shared→Prop}
theorem Inv.wish (I:Inv X pins σ H s) (E:Value→Shared→Prop):Inv (X.wish E) pins σ H s:=⟨I.ok.wish E,I.os,I.bare,I.base,I.loc,I.cell,I.free,I.freeC,I.pin,I.hok,I.len⟩
theorem Inv.unwish (I:Inv (X.wish E) pins σ H s):Inv X pins σ H s:=⟨I.ok.unwish,I.os,I.bare,I.base,I.loc,I.cell,I.free,I.freeC,I.pin,I.hok,I.len⟩
theorem SP.unwish {D:Ends} {f:Flow} {s':Shared} (h:SP (X.wish E) pins D f s'):SP X pins D f s':=by
 cases f with
 | next=>obtain⟨σ',H',I,q⟩:=h;exact⟨σ',H',I.unwish,q⟩
 | brk=>obtain⟨σ',H',I,q⟩:=h;exact⟨σ',H',I.unwish,q⟩
 | cont=>obtain⟨σ',H',I,q⟩:=h;exact⟨σ',H',I.unwish,q⟩
 | ret u=>obtain⟨v,σ',H',I,r,q⟩:=h;exact⟨v,σ',H',I.unwish,r,q⟩
theorem PE.nox {e:Expr} {t:TE} (h:PE X.nox e t):PE X e t:=fun pins s σ H Q I hw =>
 wpAny_mono (h pins s σ H Q (I.wish _) hw) (fun _ _ ⟨v,H',I',r,q⟩=>⟨v,H',I'.unwish,r,q⟩) fun _ _ z=>False.elim z
theorem PT.nox {e:Expr} {t:TT} (h:PT X.nox e t):PT X e t:=fun pins s σ H Q I hw =>
 wpAny_mono (h pins s σ H Q (I.wish _) hw) (fun _ _ ⟨H',I',q⟩=>⟨H',I'.unwish,q⟩) fun _ _ z=>False.elim z
theorem PSs.nox {st:List Stmt} {t:TS} (h:PSs X.nox st t):PSs X st t:=fun pins s σ H D I hw =>
 wpAny_mono (h pins s σ H D (I.wish _) hw) (fun _ _ q=>q.unwish) fun _ _ z=>False.elim z
end
section
variable {X:Cx} {st:Stmt} {rest:List Stmt} {t u:TS} {e:Expr} {te:TE} {pos:Pos}
noncomputable def tNext:TS:=fun D σ H=>D.nx σ H
noncomputable def tSeq (t u:TS):TS:=fun D σ H=>t { D with nx:=u D } σ H
theorem pss_nil:PSs X [] tNext:=fun _ _ σ H _ I h=>wpAny_execs_nil ⟨σ,H,I,h⟩
theorem pss_cons (h1:PS X st t) (h2:PSs X rest u):PSs X (st :: rest) (tSeq t u):=by
 intro pins s σ H D I h
 refine wpAny_execs_cons (thn (h1 pins s σ H { D with nx:=u D } I h) fun f s1 q=>?_)
 cases f with
 | next =>
  obtain⟨σ',H',I',q⟩:=q
  exact h2 pins s1 σ' H' D I' q
 | ret v=>exact q
 | brk=>exact q
 | cont=>exact q
theorem pss_one (h1:PS X st t):PSs X [st] t:=by
 intro pins s σ H D I h
 refine wpAny_execs_cons (thn (h1 pins s σ H D I h) fun f s1 q=>?_)
 cases f with
 | next=>exact wpAny_execs_nil q
 | ret v=>exact q
 | brk=>exact q
 | cont=>exact q
theorem Inv.quiet {pins:List (Addr×Obj)} {σ:St} {H:Hp} {s:Shared} (I:Inv X pins σ H s):interactive X.env=false:=by simp[interactive,I.ok.kind]
noncomputable def tDrop (te:TE):TS:=fun D σ H=>te σ H fun _ H1=>D.nx σ H1
theorem ps_expr (he:PE X e te) (hs:swapsWith e none pos.line X.env=pure false:=by rfl):PS X (.Expr e pos) (tDrop te):=by
 intro pins s σ H D I h
 exact wpAny_Expr_any (thn (he pins s σ H _ I h) fun v s1 ⟨x,H1,I1,r1,q1⟩=>⟨σ,H1,I1,q1⟩) I.quiet hs
noncomputable def tRet (te:TE):TS:=fun D σ H=>te σ H D.rt
theorem ps_ret (he:PE X e te):PS X (.Return (some e) pos) (tRet te):=by
 intro pins s σ H D I h
 exact wpAny_Return_some (thn (he pins s σ H _ I h) fun v s1 ⟨x,H1,I1,r1,q1⟩=>⟨x,σ,H1,I1,r1,q1⟩)
noncomputable def tIfS (c:TT) (t u:TS):TS:=fun D σ H=>c σ H fun b H1=>if b=true then t D σ H1 else u D σ H1
theorem ps_if {c:Expr} {a b:List Stmt} {tc:TT} (hc:PT X c tc) (ha:PSs X a t) (hb:PSs X b u):PS X (.If c a b pos) (tIfS tc t u):=by
 intro pins s σ H D I h
 refine wpAny_If (thn (hc pins s σ H _ I h) fun d s1 ⟨H1,I1,q1⟩=>?_)
 cases d with
 | true=>exact ha pins s1 σ H1 D I1 q1
 | false=>exact hb pins s1 σ H1 D I1 q1
noncomputable def tNever:TS:=fun _ _ _=>False
theorem ps_never:PS X st tNever:=fun _ _ _ _ _ _ h=>h.elim
end
noncomputable abbrev TG:=V→St→Hp→(St→Hp→Prop)→Prop
noncomputable abbrev TGs:=List V→St→Hp→(St→Hp→Prop)→Prop
noncomputable def PG (X:Cx) (target:Expr) (t:TG):Prop :=
 ∀ (pins:List (Addr×Obj)) (s:Shared) (σ:St) (H:Hp) (v:V) (u:Value) (Q:St→Hp→Prop),Inv X pins σ H s→RelV v u→t v σ H Q →
  wpAny (model X.prog X.w) X.A (assign target X.env u) (fun _ s'=>∃ σ' H',Inv X pins σ' H' s'∧Q σ' H') X.xe s
noncomputable def PGs (X:Cx) (ts:List Expr) (t:TGs):Prop :=
 ∀ (pins:List (Addr×Obj)) (s:Shared) (σ:St) (H:Hp) (vs:List V) (us:List Value) (Q:St→Hp→Prop),Inv X pins σ H s→Vals vs us→t vs σ H Q →
  wpAny (model X.prog X.w) X.A (assignInOrder ((assignEach ts X.env).map (·.2)) us) (fun _ s'=>∃ σ' H',Inv X pins σ' H' s'∧Q σ' H') X.xe s
noncomputable abbrev TSet:=V→V→V→Hp→(Hp→Prop)→Prop
noncomputable def PSet (X:Cx) (t:TSet):Prop :=
 ∀ (pins:List (Addr×Obj)) (s:Shared) (σ:St) (H:Hp) (o i v:V) (ov iv u:Value) (Q:Hp→Prop),Inv X pins σ H s→RelV o ov→RelV i iv→RelV v u→t o i v H Q →
  wpAny (model X.prog X.w) X.A (setItem ov iv u) (fun _ s'=>∃ H',Inv X pins σ H' s'∧Q H') X.xe s
noncomputable abbrev TIp:=V→V→Hp→VK→Prop
noncomputable def PIp (X:Cx) (op:Operator) (t:TIp):Prop :=
 ∀ (pins:List (Addr×Obj)) (s:Shared) (σ:St) (H:Hp) (x y:V) (v u:Value) (Q:VK),Inv X pins σ H s→RelV x v→RelV y u→t x y H Q →
  wpAny (model X.prog X.w) X.A (inplaceOp op v u) (EP X pins σ Q) X.xe s
section
variable {X:Cx} {pos:Pos}
noncomputable def gName (i:Nat):TG:=fun v σ H Q=>Q (σ.set i (some v)) H
theorem pg_name {i:Nat} {x:Str} (hN:X.N.Nodup) (hi:X.N[i]?=some x) (hx:Loc X.env.scope x) (hf:X.fn x=true∨X.env.scope.names.lookup x=some .local:=by first | exact .inl rfl | exact .inr rfl | assumption):PG X (.Name x pos) (gName i):=by
 intro pins s σ H v u Q I r h
 exact wpAny_assign_Name (store_ok I hN hi hx r (fun s' I'=>⟨_,H,I',h⟩) hf)
noncomputable def gNil:TGs:=fun vs σ H Q=>vs=[]∧Q σ H
noncomputable def gCons (t:TG) (u:TGs):TGs:=fun vs σ H Q=>∃ v r,vs=v :: r∧t v σ H fun σ' H'=>u r σ' H' Q
theorem pgs_nil:PGs X [] gNil:=by
 intro pins s σ H vs us Q I r h
 obtain⟨e,h⟩:=h
 subst e
 cases r
 exact assignInOrder_nil ⟨σ,H,I,h⟩
theorem pgs_cons {e:Expr} {es:List Expr} {t:TG} {u:TGs} (h1:PG X e t) (h2:PGs X es u)
 (hs:(assignEach (e :: es) X.env).map (·.2)=assign e X.env :: (assignEach es X.env).map (·.2):=by rfl):PGs X (e :: es) (gCons t u):=by
 intro pins s σ H vs us Q I r h
 obtain⟨v,vr,e1,h⟩:=h
 subst e1
 cases r with
 | cons r rr =>
  rw[hs]
  refine assignInOrder_cons (thn (h1 pins s σ H _ _ _ I r h) fun _ s1 ⟨σ1,H1,I1,q1⟩=>?_)
  exact h2 pins s1 σ1 H1 _ _ Q I1 rr q1
noncomputable def gTup (K:PySem.W.Frag) (n:Nat) (t:TGs):TG:=fun v σ H Q=>∃ a xs,v=.ref a∧SqT K H a xs∧xs.length=n∧t xs σ H Q
theorem pg_tup {es:List Expr} {k:Nat} {t:TGs} {n:Nat} (hc:X.calm=true) (h:PGs X es t)
 (hn:(assignEach es X.env).length=n:=by rfl) (hst:(assignEach es X.env).findIdx? (·.1)=none:=by rfl):PG X (.Tuple es k pos) (gTup X.K n t):=by
 intro pins s σ H v u Q I r hw
 obtain⟨a,xs,e1,hq,hl,hw⟩:=hw
 subst e1
 cases r
 obtain⟨its,rv,ht,hz⟩:=I.tuple hq
 refine assign_Tuple_tuple (I.ok.hd hc) ht (by simp[hn,← hl,rv.length]) hst fun h' hx=>?_
 have I1:Inv X pins σ H { s with heap:=h' }:=I.kept (t':=s.toks) fun b o e=>hx b o (Nat.ne_of_lt (Heap.lt_size e)) e
 exact h pins _ σ H xs _ Q I1 (by simpa using rv) hw
noncomputable def gSub (to ti:TE) (t:TSet):TG:=fun v σ H Q=>to σ H fun o H1=>ti σ H1 fun i H2=>t o i v H2 fun H3=>Q σ H3
theorem pg_sub {o i:Expr} {to ti:TE} {t:TSet} (ho:PE X o to) (hi:PE X i ti) (hs:PSet X t)
 (ha:∀ v,assign (.Subscript o i pos) X.env v=(do
  let ov ← holding [v] (eval o X.env)
  let iv ← holding [v,ov] (eval i X.env)
  standAt pos
  holding [v,ov,iv] (setItem ov iv v)
  release [v,ov,iv] []):=by intro _;rfl):PG X (.Subscript o i pos) (gSub to ti t):=by
 intro pins s σ H v u Q I r h
 rw[ha]
 refine wpAny_bind (wpAny_holding (thn (ho pins s σ H _ I h) fun ov s1 ⟨x,H1,I1,r1,q1⟩=>?_))
 refine wpAny_bind (wpAny_holding (thn (hi pins s1 σ H1 _ I1 q1) fun iv s2 ⟨y,H2,I2,r2,q2⟩=>?_))
 refine wpAny_bind (wpAny_standAt (wpAny_bind (wpAny_holding (thn (hs pins s2 σ H2 x y v ov iv u _ I2 r1 r2 r q2) fun _ s3 ⟨H3,I3,q3⟩=>?_))))
 exact wpAny_release ⟨σ,H3,I3,q3⟩
noncomputable def tAsg (te:TE) (g:TG):TS:=fun D σ H=>te σ H fun x H1=>g x σ H1 D.nx
theorem ps_asg {tg e:Expr} {te:TE} {g:TG} (he:PE X e te) (hg:PG X tg g) (hs:swapsWithSole [tg] e pos.line X.env=pure false:=by rfl) (hw:swappedStores [tg] e X.env=pure none:=by rfl)
 (h1:(assignEach [tg] X.env).map (·.2)=[assign tg X.env]:=by rfl):PS X (.Assign [tg] e pos) (tAsg te g):=by
 intro pins s σ H D I h
 refine wpAny_Assign_stores (thn (he pins s σ H _ I h) fun v s1 ⟨x,H1,I1,r1,q1⟩=>?_) hs hw
 rw[h1]
 exact thn (hg pins s1 σ H1 x v _ I1 r1 q1) fun _ s2 q=>q
theorem ps_set {i:Nat} {x:Str} {e:Expr} {te:TE} {pos':Pos} (hN:X.N.Nodup) (hi:X.N[i]?=some x) (hx:Loc X.env.scope x) (he:PE X e te) (hs:swapsWith e (some (.Name x pos')) pos.line X.env=pure false:=by rfl) (hf:X.fn x=true∨X.env.scope.names.lookup x=some .local:=by first | exact .inl rfl | exact .inr rfl | assumption) :
 PS X (.Assign [.Name x pos'] e pos) (tAsg te (gName i)):=by
 intro pins s σ H D I h
 refine wpAny_Assign_Name (thn (he pins s σ H _ I h) fun v s1 ⟨y,H1,I1,r1,q1⟩=>?_) hs
 exact store_ok I1 hN hi hx r1 (fun s2 I2=>⟨_,H1,I2,q1⟩) hf
noncomputable def tAug (i:Nat) (te:TE) (ti:TIp):TS:=fun D σ H=>∃ x,σ[i]?=some (some x)∧te σ H fun y H1=>ti x y H1 fun z H2=>D.nx (σ.set i (some z)) H2
theorem ps_aug {i:Nat} {x:Str} {e:Expr} {te:TE} {op:Operator} {ti:TIp} {pos':Pos} (hN:X.N.Nodup) (hi:X.N[i]?=some x) (hx:Loc X.env.scope x) (he:PE X e te) (ho:PIp X op ti) (hf:X.fn x=true∨X.env.scope.names.lookup x=some .local:=by first | exact .inl rfl | exact .inr rfl | assumption) :
 PS X (.AugAssign (.Name x pos') op e pos) (tAug i te ti):=by
 intro pins s σ H D I h
 obtain⟨v,e1,h⟩:=h
 obtain⟨m,hn,hl⟩:=I.loc
 have vis:Vis X.env.scope x:=by rcases hx with k | k;exact .inl k;exact .inr (.inl k)
 obtain⟨u,r,l⟩:=hl i x v hi e1 vis
 refine wpAny_AugAssign_Name ?_
 have go:wpAny (model X.prog X.w) X.A (eval e X.env) (fun w s₂=>wpAny (model X.prog X.w) X.A (inplaceOp op u w) (fun r s₃=>wpAny (model X.prog X.w) X.A (storeName X.env x r) (fun _=>SP X pins D .next) X.xe s₃) X.xe s₂) X.xe s:=by
  refine thn (he pins s σ H _ I h) fun w s1 ⟨y,H1,I1,r1,q1⟩=>?_
  refine thn (ho pins s1 σ H1 v y u w _ I1 r r1 q1) fun z s2 ⟨zv,H2,I2,r2,q2⟩=>?_
  exact store_ok I2 hN hi hx r2 (fun s3 I3=>⟨_,H2,I3,q2⟩) hf
 rcases l with ⟨hk,hm⟩ | ⟨hk,c,hc,hcell⟩
 ·exact wpAny_loadName_local I.ok.kind hk hn hm go
 ·rcases hk with hk | hk
  ·exact wpAny_loadName_cell I.ok.kind hk hc hcell go
  ·rcases hx with k | k
   ·have:X.env.scope.names.lookup x=some .free:=hk
    rw[k]at this;cases this
   ·have:X.env.scope.names.lookup x=some .free:=hk
    rw[k]at this;cases this
noncomputable def ipI (f:Int→Int→Int):TIp:=fun x y H Q=>∃ i j,x=.int i∧y=.int j∧Q (.int (f i j)) H
theorem ip_add:PIp X .Add (ipI fun i j=>i+j):=by
 intro pins s σ H x y v u Q I r1 r2 h
 obtain⟨i,j,e1,e2,q⟩:=h
 subst e1;subst e2
 obtain⟨t,rfl⟩:=r1
 obtain⟨t',rfl⟩:=r2
 exact iadd_int ⟨.int _,H,I.tok _,⟨_,rfl⟩,q⟩
theorem ip_sub:PIp X .Sub (ipI fun i j=>i - j):=by
 intro pins s σ H x y v u Q I r1 r2 h
 obtain⟨i,j,e1,e2,q⟩:=h
 subst e1;subst e2
 obtain⟨t,rfl⟩:=r1
 obtain⟨t',rfl⟩:=r2
 exact isub_int ⟨.int _,H,I.tok _,⟨_,rfl⟩,q⟩
end
section
variable {X:Cx} {pos:Pos}
noncomputable def tWhile (c:TT) (tb:TS):TS:=fun D σ H=>∃ W:Nat→St→Hp→Prop,(∃ m,W m σ H)∧∀ m σ H,W m σ H →
 c σ H fun b H1=>if b=true then ∃ N:St→Hp→Prop,(∀ σ' H',N σ' H'→∃ m',m'<m∧W m' σ' H')∧tb { D with nx:=N,ct:=N,bk:=D.nx } σ H1 else D.nx σ H1
theorem ps_while {c:Expr} {body:List Stmt} {tc:TT} {tb:TS} (hp:PassesOwn (model X.prog X.w) X.A X.env X.xe) (hc:PT X c tc) (hb:PSs X body tb):PS X (.While c body [] pos) (tWhile tc tb):=by
 intro pins s σ H D I h
 obtain⟨W,⟨m0,w0⟩,turn⟩:=h
 refine wpAny_While (codeAny_whileLoop (fun n s'=>∃ σ' H',Inv X pins σ' H' s'∧W n σ' H') ?_ m0 ⟨σ,H,I,w0⟩)
 rintro n s1 ⟨σ1,H1,I1,w1⟩
 refine wpAny_passesOwn hp (thn (hc pins s1 σ1 H1 _ I1 (turn n σ1 H1 w1)) fun b s2 ⟨H2,I2,q2⟩=>?_)
 cases b with
 | true =>
  obtain⟨N,hN,q2⟩:=q2
  rw[if_pos rfl]
  refine wpAny_passesOwn hp (thn (hb pins s2 σ1 H2 _ I2 q2) fun f s3 q3=>?_)
  cases f with
  | next =>
   obtain⟨σ3,H3,I3,n3⟩:=q3
   obtain⟨m',hm,w3⟩:=hN σ3 H3 n3
   exact⟨m',hm,σ3,H3,I3,w3⟩
  | cont =>
   obtain⟨σ3,H3,I3,n3⟩:=q3
   obtain⟨m',hm,w3⟩:=hN σ3 H3 n3
   exact⟨m',hm,σ3,H3,I3,w3⟩
  | brk=>exact q3
  | ret v=>exact q3
 | false =>
  rw[if_neg Bool.false_ne_true]
  exact wpAny_execs_nil ⟨σ1,H2,I2,q2⟩
end
structure It where
 go:Nat→Hp→Prop
 yld:Nat→Hp→V→Hp→Prop
 stop:Nat→Hp→Prop
noncomputable def FpOk (X:Cx) (pins:List (Addr×Obj)) (H:Hp) (b:Addr):Prop :=
 H b=none∧b≠X.env.locals∧b∉X.fs∧(b∈X.ex∨X.s₀.heap.objs.size≤b)∧(∀ x c,X.env.cells.lookup x=some c→c≠b)∧∀ p∈X.pn++pins,p.1≠b
theorem Inv.fpOk {X:Cx} {pins:List (Addr×Obj)} {σ:St} {H H':Hp} {s:Shared} {b:Addr} (I:Inv X pins σ H s) (hb:s.heap.objs.size≤b) (hn:H' b=none):FpOk X pins H' b:=by
 refine⟨hn,Nat.ne_of_gt (Nat.lt_of_lt_of_le I.lt hb),I.nofs hb,.inr (Nat.le_trans I.sz hb),fun x c e z=>?_,fun p hp z=>?_⟩
 ·obtain⟨v,q⟩:=I.cell x c e
  exact absurd (Nat.lt_of_lt_of_le q.lt (by rw[z];exact hb)) (Nat.lt_irrefl _)
 ·exact absurd (Nat.lt_of_lt_of_le (Heap.lt_size (I.pin p hp).1) (by rw[z];exact hb)) (Nat.lt_irrefl _)
structure Turn (P:Program) (w:World) (K:PySem.W.Frag) (tg:Expr) (J:It) (fp:List Addr) (it:Addr) (tn:Nat→Heap→Prop):Prop where
 mem:it∈fp
 obj:∀ i h,tn i h→∀ b∈fp,∃ o,h.get? b=some o∧∀ v,o.data≠.cell v
 keep:∀ i h h',tn i h→(∀ b∈fp,∀ o,h.get? b=some o→h'.get? b=some o)→tn i h'
 item:∀ (X:Cx),X.prog=P→X.w=w→X.K=K→X.calm=true→∀ (i:Nat) (pins:List (Addr×Obj)) (s:Shared) (σ:St) (H:Hp) (E:Value→Shared→Prop),Inv X pins σ H s→(∀ b∈fp,FpOk X pins H b)→tn i s.heap→J.go i H →
  wpAny (model P w) X.A (pyNext (.ref it)) (fun r s1=>∃ u,r=some u ∧
   wpAny (model P w) X.A (letOwnedTupleGo tg (.ref it) u) (fun _ s2=>∃ x H',Inv X pins σ H' s2∧RelV x u∧J.yld i H x H'∧tn (i+1) s2.heap∧∀ b∈fp,H' b=none) E s1) E s
 done:∀ (X:Cx),X.prog=P→X.w=w→X.K=K→X.calm=true→∀ (i:Nat) (pins:List (Addr×Obj)) (s:Shared) (σ:St) (H:Hp) (E:Value→Shared→Prop),Inv X pins σ H s→(∀ b∈fp,FpOk X pins H b)→tn i s.heap→J.stop i H →
  wpAny (model P w) X.A (pyNext (.ref it)) (fun r s1=>r=none∧Inv X pins σ H s1) E s
 self:∀ (A:Around) (i:Nat) (s:Shared) (Q:Value→Shared→Prop) (E:Value→Shared→Prop),tn i s.heap→Q (.ref it) s→wpAny (model P w) A (pyIter (.ref it)) Q E s
noncomputable abbrev TI:=St→Hp→(It→Hp→Prop)→Prop
noncomputable def PIE (X:Cx) (pins:List (Addr×Obj)) (σ:St) (tg:Expr) (R:It→Hp→Prop) (itv:Value) (s2:Shared):Prop :=
 ∃ (it:Addr) (fp:List Addr) (tn:Nat→Heap→Prop) (J:It) (H':Hp),itv=.ref it∧Inv X pins σ H' s2∧Turn X.prog X.w X.K tg J fp it tn∧tn 0 s2.heap∧(∀ b∈fp,FpOk X pins H' b)∧R J H'
noncomputable def PI (X:Cx) (tg iter:Expr) (wi:TI):Prop :=
 ∀ (pins:List (Addr×Obj)) (s:Shared) (σ:St) (H:Hp) (R:It→Hp→Prop),Inv X pins σ H s→wi σ H R →
  wpAny (model X.prog X.w) X.A (eval iter X.env) (fun v s1=>wpAny (model X.prog X.w) X.A (pyIter v) (PIE X pins σ tg R) X.xe s1) X.xe s
theorem go_of {M:Model} {A:Around} {E:Value→Shared→Prop} {s:Shared} {tg:Expr} {it:Addr} {u:Value} {o:Obj} {n:String} {vs:Array Value} {Q:Unit→Shared→Prop} (ho:s.heap.get? it=some o) (hc:o.cls=.type n) (hd:o.data=.fields vs)
 (hn:["enumerate","zip","dict_itemiterator","dict_reverseitemiterator","odict_iterator","itertools.zip_longest","itertools.pairwise"].contains n=false) (hQ:Q () s):wpAny M A (letOwnedTupleGo tg (.ref it) u) Q E s:=by
 unfold letOwnedTupleGo
 cases tg <;> first
  | exact wpAny_pure hQ
  | (cases u <;> first
   | exact wpAny_pure hQ
   | (refine wpAny_bind (wpAny_load ho ?_)
      rw[hc,hd]
      show wpAny M A (if (["enumerate","zip","dict_itemiterator","dict_reverseitemiterator","odict_iterator","itertools.zip_longest","itertools.pairwise"].contains n && vs[0]? == some (rawInt _))=true then _ else _) Q E s
      rw[if_neg (by intro h;rw[hn,Bool.false_and]at h;cases h)]
      exact wpAny_pure hQ))
noncomputable def Itl (K:PySem.W.Frag) (a:Addr):It :=
 ⟨fun i H=>∃ xs x,SqL K H a xs∧xs[i]?=some x,fun i H x H'=>H'=H∧∀ xs,SqL K H a xs→xs[i]?=some x,fun i H=>∃ xs,SqL K H a xs∧xs.length≤i⟩
noncomputable def Itr (lo:Int) (n:Nat):It:=⟨fun i _=>i<n,fun i H x H'=>H'=H∧x=.int (lo+i),fun i _=>n≤i⟩
theorem turn_list {P:Program} {w:World} {K:PySem.W.Frag} {tg:Expr} (a it:Addr):Turn P w K tg (Itl K a) [it] it (fun i h=>h.IsListIter it a i) where
 mem:=by simp
 obj:=fun i h st b hb=>by
  have e:b=it:=by simpa using hb
  subst e
  obtain⟨o,e,c,d⟩:=st
  exact⟨o,e,fun v z=>by rw[d]at z;cases z⟩
 keep:=fun i h h' st k=>st.at fun o e=>k it (by simp) o e
 item:=by
  intro X hP hw hK hc i pins s σ H E I hf st hg
  subst hP hw hK
  obtain⟨xs,x,hq,hx⟩:=hg
  obtain⟨its,rv,p,hz⟩:=I.list hq
  obtain⟨u,hu,ru⟩:=rv.get hx
  obtain⟨f0,f1,f2,f3,f4,f5⟩:=hf it (by simp)
  refine wpAny_pyNext_list_item st p.isList (x:=u) (by simpa using hu) fun h' st' sb=>?_
  have I1:Inv X pins σ H { s with heap:=h' }:=I.turned (t':=s.toks) (fun b o hb e=>(sb.2 b hb).trans e) f0 f1 f3 f4 f5
  obtain⟨o,e,c,d⟩:=id st'
  exact⟨u,rfl,go_of (s:={ s with heap:=h' }) e c d (by decide) ⟨x,H,I1,ru,⟨rfl,fun ys hy=>by rw[I.list_inj hy hq];exact hx⟩,st',fun b hb=>(hf b hb).1⟩⟩
 done:=by
  intro X hP hw hK hc i pins s σ H E I hf st hg
  subst hP hw hK
  obtain⟨xs,hq,hx⟩:=hg
  obtain⟨its,rv,p,hz⟩:=I.list hq
  obtain⟨f0,f1,f2,f3,f4,f5⟩:=hf it (by simp)
  have hl:=rv.length
  exact wpAny_pyNext_list_end (I.ok.hd hc) st p.isList (by simp;omega) fun h' eb=>⟨rfl,I.turned (t':=s.toks) (fun b o hb e=>eb b o hb e) f0 f1 f3 f4 f5⟩
 self:=fun _ _ _ _ _ st h=>wpAny_pyIter_listiter st h
theorem turn_range {P:Program} {w:World} {K:PySem.W.Frag} {tg:Expr} (it:Addr) (lo:Int) (n:Nat):Turn P w K tg (Itr lo n) [it] it (fun i h=>IsRangeIter h it (lo+(i:Nat) * 1) ((n:Int) - (i:Nat)) 1) where
 mem:=by simp
 obj:=fun i h st b hb=>by
  have e:b=it:=by simpa using hb
  subst e
  exact⟨_,st,fun v z=>by
   have z':Data.fields _=Data.cell v:=z
   cases z'⟩
 keep:=fun i h h' st k=>k it (by simp) _ st
 item:=by
  intro X hP hw hK hc i pins s σ H E I hf st hg
  subst hP hw hK
  obtain⟨f0,f1,f2,f3,f4,f5⟩:=hf it (by simp)
  have W:=Walks.range (prog:=X.prog) (w:=X.w) (I.ok.hd hc) it lo 1 n
  refine W.item i s _ _ hg st fun v h' tk hv st' kk=>?_
  obtain⟨t,rfl⟩:=hv
  have I1:Inv X pins σ H { s with heap:=h',toks:=tk }:=I.turned (fun b o hb e=>kk b o (by simpa using hb) e) f0 f1 f3 f4 f5
  refine⟨_,rfl,go_of (s:={ s with heap:=h',toks:=tk }) (n:="range_iterator") st' rfl rfl (by decide) ⟨.int (lo+i),H,I1,⟨t,?_⟩,⟨rfl,rfl⟩,st',fun b hb=>(hf b hb).1⟩⟩
  rw[Int.mul_one]
 done:=by
  intro X hP hw hK hc i pins s σ H E I hf st hg
  subst hP hw hK
  obtain⟨f0,f1,f2,f3,f4,f5⟩:=hf it (by simp)
  exact wpAny_pyNext_range_end (I.ok.hd hc) st (by have:n≤i:=hg;omega) fun h' eb=>⟨rfl,I.turned (t':=s.toks) (fun b o hb e=>eb b o hb e) f0 f1 f3 f4 f5⟩
 self:=fun _ _ _ _ _ st h=>wpAny_pyIter_rangeiter st h
end L2
namespace L2
open PySem PySem.Spec PyProof.Rows
section
variable {X:Cx} {tg:Expr}
noncomputable def iList (K:PySem.W.Frag) (tl:TE):TI:=fun σ H R=>tl σ H fun x H1=>∃ a,x=.ref a∧(∃ xs,SqL K H1 a xs)∧R (Itl K a) H1
theorem pi_list {l:Expr} {tl:TE} (hl:PE X l tl):PI X tg l (iList X.K tl):=by
 intro pins s σ H R I h
 refine thn (hl pins s σ H _ I h) fun v s1 ⟨x,H1,I1,r1,q1⟩=>?_
 obtain⟨a,e,⟨xs,hq⟩,q⟩:=q1
 subst e
 cases r1
 obtain⟨its,rv,p,hz⟩:=I1.list hq
 refine wpAny_pyIter_list p.isList ?_
 refine⟨s1.heap.objs.size,[s1.heap.objs.size],_,_,H1,rfl,I1.kept (t':=s1.toks) fun b o e=>Heap.get?_push_of_some _ e,turn_list a _,⟨_,Heap.get?_push_size _ rfl,rfl,rfl⟩,fun b hb=>?_,q⟩
 have e:b=s1.heap.objs.size:=by simpa using hb
 subst e
 exact I1.fpOk (Nat.le_refl _) (I1.hok.fresh (Nat.le_refl _))
theorem range_it {pins:List (Addr×Obj)} {σ:St} {H:Hp} {s:Shared} {R:It→Hp→Prop} {E:Value→Shared→Prop} {lo hi:Int} {t u v:Tok} {tk:Nat} (I:Inv X pins σ H s) (h1:-(2 ^ 62)≤lo) (h2:lo<2 ^ 62) (h3:-(2 ^ 62)≤hi) (h4:hi<2 ^ 62)
 (q:R (Itr lo (hi - lo).toNat) H):wpAny (model X.prog X.w) X.A (pyIter (.ref s.heap.objs.size)) (PIE X pins σ tg R) E { s with heap:=s.heap.push { cls:=.type "range",data:=.fields #[.int lo t,.int hi u,.int 1 v] },toks:=tk }:=by
 refine wpAny_pyIter_range (IsRange.new ..) (small_one h1 h2 h3 h4) ?_
 have I1:Inv X pins σ H { s with heap:=s.heap.push { cls:=.type "range",data:=.fields #[.int lo t,.int hi u,.int 1 v] },toks:=tk }:=I.kept fun b o e=>Heap.get?_push_of_some _ e
 refine⟨(s.heap.push { cls:=.type "range",data:=.fields #[.int lo t,.int hi u,.int 1 v] }).objs.size,[(s.heap.push { cls:=.type "range",data:=.fields #[.int lo t,.int hi u,.int 1 v] }).objs.size],_,_,H,rfl,
  I1.kept (t':=tk) fun b o e=>Heap.get?_push_of_some _ e,turn_range _ lo (hi - lo).toNat,?_,fun b hb=>?_,q⟩
 ·have e1:lo+((0:Nat):Int) * 1=lo:=by simp
  have e2:(((hi - lo).toNat:Nat):Int) - ((0:Nat):Int)=Builtin.Range.rangeSize lo hi 1:=by rw[rangeSize_one];split <;> omega
  show IsRangeIter _ _ (lo+((0:Nat):Int) * 1) ((((hi - lo).toNat:Nat):Int) - ((0:Nat):Int)) 1
  rw[e1,e2]
  exact Heap.get?_push_size _ rfl
 ·have e:b=(s.heap.push { cls:=.type "range",data:=.fields #[.int lo t,.int hi u,.int 1 v] }).objs.size:=by simpa using hb
  subst e
  exact I1.fpOk (Nat.le_refl _) (I1.hok.fresh (Nat.le_refl _))
noncomputable def iRng1 (ta:TA):TI:=fun σ H R=>ta σ H fun vs H1=>∃ j:Int,vs=[.int j]∧-(2 ^ 62)≤j∧j<2 ^ 62∧R (Itr 0 j.toNat) H1
noncomputable def iRng2 (ta:TA):TI:=fun σ H R=>ta σ H fun vs H1=>∃ i j:Int,vs=[.int i,.int j]∧(-(2 ^ 62)≤i∧i<2 ^ 62∧-(2 ^ 62)≤j∧j<2 ^ 62)∧R (Itr i (j - i).toNat) H1
theorem pi_range1 {a:Expr} {ta:TA} {p pos:Pos} (hg:Gl X "range") (hm:X.mg "range"=none) (ha:PA X [a] ta) (hs:starEach [a] X.env=[(false,eval a X.env)]:=by rfl):PI X tg (.Call (.Name "range" p) [a] [] pos) (iRng1 ta):=by
 intro pins s σ H R I h
 refine Call_ (ld_blt I hg hm boot_range (PyProof.Rows.callWith_type1 (thn (ha pos pins s σ H _ I h) fun us s1 ⟨vs,H1,I1,r1,q1⟩=>?_) hs rfl))
 obtain⟨j,e,q1,q2,q⟩:=q1
 subst e
 cases r1 with
 | cons r rr =>
  cases rr
  obtain⟨t,rfl⟩:=r
  exact call_range_1 (range_it I1 (by omega) (by omega) q1 q2 (by simpa using q))
theorem pi_range2 {a b:Expr} {ta:TA} {p pos:Pos} (hg:Gl X "range") (hm:X.mg "range"=none) (ha:PA X [a,b] ta) (hs:starEach [a,b] X.env=[(false,eval a X.env),(false,eval b X.env)]:=by rfl) (hs2:starEach [b] X.env=[(false,eval b X.env)]:=by rfl) :
 PI X tg (.Call (.Name "range" p) [a,b] [] pos) (iRng2 ta):=by
 intro pins s σ H R I h
 refine Call_ (ld_blt I hg hm boot_range (PyProof.Rows.callWith_type1 (thn (ha pos pins s σ H _ I h) fun us s1 ⟨vs,H1,I1,r1,q1⟩=>?_) (by rw[hs,hs2]) (by rw[hs2];rfl)))
 obtain⟨i,j,e,⟨q1,q2,q3,q4⟩,q⟩:=q1
 subst e
 cases r1 with
 | cons r rr =>
  cases rr with
  | cons r' rr =>
   cases rr
   obtain⟨t,rfl⟩:=r
   obtain⟨t',rfl⟩:=r'
   exact call_range_2 (range_it I1 q1 q2 q3 q4 q)
noncomputable def tFor (wi:TI) (g:TG) (tb:TS):TS:=fun D σ H=>wi σ H fun J H1=>∃ W:Nat→Nat→St→Hp→Prop,(∃ m,W 0 m σ H1)∧∀ i m σ H,W i m σ H →
 (J.stop i H∧D.nx σ H)∨(J.go i H∧∃ N:St→Hp→Prop,(∀ σ' H',N σ' H'→∃ m',m'<m∧W (i+1) m' σ' H')∧∀ x H',J.yld i H x H'→g x σ H' fun σ2 H2=>tb { D with nx:=N,ct:=N,bk:=D.nx } σ2 H2)
noncomputable def pinsAt (fp:List Addr) (h:Heap):List (Addr×Obj):=fp.filterMap fun b=>(h.get? b).map fun o=>(b,o)
theorem mem_pinsAt {fp:List Addr} {h:Heap} {b:Addr} {o:Obj} (hb:b∈fp) (e:h.get? b=some o):(b,o)∈pinsAt fp h:=List.mem_filterMap.mpr ⟨b,hb,by rw[e];rfl⟩
theorem of_pinsAt {fp:List Addr} {h:Heap} {p:Addr×Obj} (hp:p∈pinsAt fp h):p.1∈fp∧h.get? p.1=some p.2:=by
 obtain⟨b,hb,e⟩:=List.mem_filterMap.mp hp
 cases q:h.get? b with
 | none=>rw[q]at e;cases e
 | some o =>
  rw[q]at e
  have e':(b,o)=p:=Option.some.inj e
  subst e'
  exact⟨hb,q⟩
theorem Inv.pinned {pins:List (Addr×Obj)} {σ:St} {H:Hp} {s:Shared} {fp:List Addr} (I:Inv X pins σ H s) (hf:∀ b∈fp,FpOk X pins H b) (ho:∀ b∈fp,∃ o,s.heap.get? b=some o∧∀ v,o.data≠.cell v):Inv X (pins++pinsAt fp s.heap) σ H s :=
 I.pins_of fun p hp=>(List.mem_append.mp hp).elim (fun z=>I.pin p (List.mem_append_right _ z)) fun z=>by
  obtain⟨hb,e⟩:=of_pinsAt z
  obtain⟨f0,f1,f2,_⟩:=hf p.1 hb
  obtain⟨o,e',d⟩:=ho p.1 hb
  rw[e]at e';cases e'
  exact⟨e,f0,f1,f2,d⟩
theorem Inv.unpinned {pins pl:List (Addr×Obj)} {σ:St} {H:Hp} {s:Shared} (I:Inv X (pins++pl) σ H s):Inv X pins σ H s:=I.pins_of fun p hp=>I.pin p (List.mem_append_right _ (List.mem_append_left _ hp))
theorem ps_for {iter:Expr} {body:List Stmt} {wi:TI} {g:TG} {tb:TS} {pos:Pos} (hp:PassesOwn (model X.prog X.w) X.A X.env X.xe) (hc:X.calm=true) (hi:PI X tg iter wi) (hg:PG X tg g) (hb:PSs X body tb)
 (hs:∀ x,foldedSetIterable iter X.env x=pure x:=by intro _;rfl):PS X (.For tg iter body [] pos) (tFor wi g tb):=by
 intro pins s σ H D I h
 refine wpAny_For (thn (hi pins s σ H _ I h) fun v s1 h1=>thn h1 fun itv s2 h2=>?_) hs
 obtain⟨it,fp,tn,J,H2,e,I2,T,st2,f2,W,⟨m0,w0⟩,turn⟩:=h2
 subst e
 have stat:∀ {H':Hp},(∀ b∈fp,H' b=none)→∀ b∈fp,FpOk X pins H' b:=fun hn b hb=>⟨hn b hb,(f2 b hb).2⟩
 refine codeAny_forLoop_any (fun n s'=>∃ i σ' H',Inv X pins σ' H' s'∧tn i s'.heap∧(∀ b∈fp,H' b=none)∧W i n σ' H') ?_ m0 ⟨0,σ,H2,I2,st2,fun b hb=>(f2 b hb).1,w0⟩
 rintro n s3 ⟨i,σ3,H3,I3,st3,fr3,w3⟩
 rcases turn i n σ3 H3 w3 with ⟨stop,qn⟩ | ⟨go,N,hN,step⟩
 ·refine wpAny_passesOwn hp (thn (T.done X rfl rfl rfl hc i pins s3 σ3 H3 X.xe I3 (stat fr3) st3 stop) fun r s4 ⟨hr,I4⟩=>?_)
  subst hr
  exact wpAny_execs_nil ⟨σ3,H3,I4,qn⟩
 ·refine wpAny_passesOwn hp (thn (T.item X rfl rfl rfl hc i pins s3 σ3 H3 X.xe I3 (stat fr3) st3 go) fun r s4 ⟨u,hr,h4⟩=>?_)
  subst hr
  refine wpAny_passesOwn hp (thn h4 fun _ s5 ⟨x,H5,I5,r5,y5,st5,fr5⟩=>?_)
  have I5':=I5.pinned (stat fr5) (T.obj _ _ st5)
  refine wpAny_passesOwn hp (thn (hg _ s5 σ3 H5 x u _ I5' r5 (step x H5 y5)) fun _ s6 ⟨σ6,H6,I6,q6⟩=>?_)
  refine wpAny_passesOwn hp (thn (hb _ s6 σ6 H6 _ I6 q6) fun f s7 q7=>?_)
  have again:∀ {σ7:St} {H7:Hp},Inv X (pins++pinsAt fp s5.heap) σ7 H7 s7→N σ7 H7→∃ m,m<n∧∃ i σ' H',Inv X pins σ' H' s7∧tn i s7.heap∧(∀ b∈fp,H' b=none)∧W i m σ' H':=fun {σ7 H7} I7 n7=>by
   obtain⟨m',hm,w7⟩:=hN σ7 H7 n7
   refine⟨m',hm,i+1,σ7,H7,I7.unpinned,T.keep _ _ _ st5 fun b hb o e=>(I7.pin (b,o) (List.mem_append_right _ (List.mem_append_right _ (mem_pinsAt hb e)))).1,fun b hb=>?_,w7⟩
   obtain⟨o,e,d⟩:=T.obj _ _ st5 b hb
   exact(I7.pin (b,o) (List.mem_append_right _ (List.mem_append_right _ (mem_pinsAt hb e)))).2.1
  cases f with
  | next=>obtain⟨σ7,H7,I7,n7⟩:=q7;exact again I7 n7
  | cont=>obtain⟨σ7,H7,I7,n7⟩:=q7;exact again I7 n7
  | brk=>obtain⟨σ7,H7,I7,q7⟩:=q7;exact⟨σ7,H7,I7.unpinned,q7⟩
  | ret v=>obtain⟨x7,σ7,H7,I7,r7,q7⟩:=q7;exact⟨x7,σ7,H7,I7.unpinned,r7,q7⟩
end
theorem for_list {K:PySem.W.Frag} {a:Addr} {xs:List V} {g:TG} {tb:TS} {D:Ends} {σ:St} {H:Hp} (Pv:Nat→St→Hp→Prop) (h0:Pv 0 σ H) (hl:∀ i σ H,i≤xs.length→Pv i σ H→SqL K H a xs)
 (hs:∀ i x σ H,xs[i]?=some x→Pv i σ H→g x σ H fun σ2 H2=>tb { D with nx:=Pv (i+1),ct:=Pv (i+1),bk:=D.nx } σ2 H2) (hd:∀ σ H,Pv xs.length σ H→D.nx σ H) :
 ∃ W:Nat→Nat→St→Hp→Prop,(∃ m,W 0 m σ H)∧∀ i m σ H,W i m σ H →
  ((Itl K a).stop i H∧D.nx σ H)∨((Itl K a).go i H∧∃ N:St→Hp→Prop,(∀ σ' H',N σ' H'→∃ m',m'<m∧W (i+1) m' σ' H')∧∀ x H',(Itl K a).yld i H x H'→g x σ H' fun σ2 H2=>tb { D with nx:=N,ct:=N,bk:=D.nx } σ2 H2):=by
 refine⟨fun i m σ H=>m=xs.length - i∧i≤xs.length∧Pv i σ H,⟨xs.length,by simp,Nat.zero_le _,h0⟩,?_⟩
 rintro i m σ H ⟨rfl,hi,p⟩
 have q:=hl i σ H hi p
 by_cases hlt:i<xs.length
 ·refine .inr ⟨⟨xs,xs[i],q,by simp[hlt]⟩,Pv (i+1),fun σ' H' p'=>⟨xs.length - (i+1),by omega,rfl,hlt,p'⟩,fun x H' y=>?_⟩
  obtain⟨e,y⟩:=y
  subst e
  exact hs i x σ _ (y xs q) p
 ·have e:i=xs.length:=by omega
  subst e
  exact .inl ⟨⟨xs,q,Nat.le_refl _⟩,hd σ H p⟩
theorem for_range {lo:Int} {n:Nat} {g:TG} {tb:TS} {D:Ends} {σ:St} {H:Hp} (Pv:Nat→St→Hp→Prop) (h0:Pv 0 σ H)
 (hs:∀ i σ H,i<n→Pv i σ H→g (.int (lo+i)) σ H fun σ2 H2=>tb { D with nx:=Pv (i+1),ct:=Pv (i+1),bk:=D.nx } σ2 H2) (hd:∀ σ H,Pv n σ H→D.nx σ H) :
 ∃ W:Nat→Nat→St→Hp→Prop,(∃ m,W 0 m σ H)∧∀ i m σ H,W i m σ H →
  ((Itr lo n).stop i H∧D.nx σ H)∨((Itr lo n).go i H∧∃ N:St→Hp→Prop,(∀ σ' H',N σ' H'→∃ m',m'<m∧W (i+1) m' σ' H')∧∀ x H',(Itr lo n).yld i H x H'→g x σ H' fun σ2 H2=>tb { D with nx:=N,ct:=N,bk:=D.nx } σ2 H2):=by
 refine⟨fun i m σ H=>m=n - i∧i≤n∧Pv i σ H,⟨n,by simp,Nat.zero_le _,h0⟩,?_⟩
 rintro i m σ H ⟨rfl,hi,p⟩
 by_cases hlt:i<n
 ·refine .inr ⟨hlt,Pv (i+1),fun σ' H' p'=>⟨n - (i+1),by omega,rfl,hlt,p'⟩,fun x H' y=>?_⟩
  obtain⟨e,y⟩:=y
  subst e y
  exact hs i σ _ hlt p
 ·have e:i=n:=by omega
  subst e
  exact .inl ⟨Nat.le_refl _,hd σ H p⟩
theorem while_by {c:TT} {tb:TS} {D:Ends} {σ:St} {H:Hp} (Pv:St→Hp→Prop) (μ:St→Hp→Nat) (h0:Pv σ H)
 (hs:∀ σ H,Pv σ H→c σ H fun b H1=>if b=true then tb { D with nx:=fun σ' H'=>Pv σ' H'∧μ σ' H'<μ σ H,ct:=fun σ' H'=>Pv σ' H'∧μ σ' H'<μ σ H,bk:=D.nx } σ H1 else D.nx σ H1)
 (mono:∀ σ H Q Q',(∀ b H1,Q b H1→Q' b H1)→c σ H Q→c σ H Q'):tWhile c tb D σ H:=by
 refine⟨fun m σ H=>m=μ σ H∧Pv σ H,⟨_,rfl,h0⟩,?_⟩
 rintro m σ H ⟨rfl,p⟩
 refine mono σ H _ _ (fun b H1 q=>?_) (hs σ H p)
 cases b with
 | true=>exact⟨_,fun σ' H' ⟨p',l⟩=>⟨_,l,rfl,p'⟩,q⟩
 | false=>exact q
end L2
namespace L2
open PySem PySem.Spec PyProof.Rows
noncomputable abbrev R2:=V→V→Hp→VK→Prop
noncomputable def OpR (X:Cx) (f:Value→Value→Sem Value) (r:R2):Prop :=
 ∀ (pins:List (Addr×Obj)) (s:Shared) (σ:St) (H:Hp) (x y:V) (v u:Value) (Q:VK),Inv X pins σ H s→RelV x v→RelV y u→r x y H Q →
  wpAny (model X.prog X.w) X.A (f v u) (EP X pins σ Q) X.xe s
noncomputable def UnR (X:Cx) (f:Value→Sem Value) (r:V→Hp→VK→Prop):Prop :=
 ∀ (pins:List (Addr×Obj)) (s:Shared) (σ:St) (H:Hp) (x:V) (v:Value) (Q:VK),Inv X pins σ H s→RelV x v→r x H Q →
  wpAny (model X.prog X.w) X.A (f v) (EP X pins σ Q) X.xe s
noncomputable def CallR (X:Cx) (f:Value) (r:List V→Hp→VK→Prop):Prop :=
 ∀ (pins:List (Addr×Obj)) (s:Shared) (σ:St) (H:Hp) (xs:List V) (us:List Value) (Q:VK),Inv X pins σ H s→Vals xs us→r xs H Q →
  wpAny (model X.prog X.w) X.A (call f us) (EP X pins σ Q) X.xe s
noncomputable def TruR (X:Cx) (r:V→Hp→(Bool→Hp→Prop)→Prop):Prop :=
 ∀ (pins:List (Addr×Obj)) (s:Shared) (σ:St) (H:Hp) (x:V) (v:Value) (Q:Bool→Hp→Prop),Inv X pins σ H s→RelV x v→r x H Q →
  wpAny (model X.prog X.w) X.A (truthy v) (TP X pins σ Q) X.xe s
noncomputable def tOp (r:R2) (ta tb:TE):TE:=fun σ H Q=>ta σ H fun x H1=>tb σ H1 fun y H2=>r x y H2 Q
noncomputable def tUn (r:V→Hp→VK→Prop) (ta:TE):TE:=fun σ H Q=>ta σ H fun x H1=>r x H1 Q
noncomputable def rI (C:Int→Int→Prop) (g:Int→Int→V):R2:=fun x y H Q=>∃ i j,x=.int i∧y=.int j∧C i j∧Q (g i j) H
noncomputable def rI0 (g:Int→Int→V):R2:=fun x y H Q=>∃ i j,x=.int i∧y=.int j∧Q (g i j) H
noncomputable def rU (g:Int→V):V→Hp→VK→Prop:=fun x H Q=>∃ i,x=.int i∧Q (g i) H
section
variable {X:Cx} {a b c:Expr} {ta tb tc:TE} {pos:Pos}
theorem binT (ha:PE X a ta) (hb:PE X b tb) {pins:List (Addr×Obj)} {s:Shared} {σ:St} {H:Hp} {R:V→V→Hp→Prop} (I:Inv X pins σ H s)
 (h:ta σ H fun x H1=>tb σ H1 fun y H2=>R x y H2) {Q:Value→Shared→Prop} {f:Value→Value→Sem Value}
 (hf:∀ v u s2 x y H2,Inv X pins σ H2 s2→RelV x v→RelV y u→R x y H2→wpAny (model X.prog X.w) X.A (f v u) Q X.xe s2) :
 wpAny (model X.prog X.w) X.A (eval a X.env) (fun v s₁=>wpAny (model X.prog X.w) X.A (eval b X.env) (fun u s₂=>wpAny (model X.prog X.w) X.A (f v u) Q X.xe s₂) X.xe s₁) X.xe s:=by
 refine thn (ha pins s σ H _ I h) fun v s1 ⟨x,H1,I1,r1,q1⟩=>?_
 refine thn (hb pins s1 σ H1 _ I1 q1) fun u s2 ⟨y,H2,I2,r2,q2⟩=>?_
 exact hf v u s2 x y H2 I2 r1 r2 q2
theorem pe_op {op:Operator} {r:R2} (ho:OpR X (binaryOp op) r) (ha:PE X a ta) (hb:PE X b tb):PE X (.BinOp a op b pos) (tOp r ta tb):=by
 intro pins s σ H Q I h
 exact wpAny_BinOp (binT ha hb I h fun v u s2 x y H2 I2 rx ry q=>ho pins s2 σ H2 x y v u Q I2 rx ry q)
theorem pe_un {op:UnaryOp} {r:V→Hp→VK→Prop} (ho:UnR X (unaryOp op) r) (ha:PE X a ta):PE X (.UnaryOp op a pos) (tUn r ta):=by
 intro pins s σ H Q I h
 exact UnaryOp_ (thn (ha pins s σ H _ I h) fun v s1 ⟨x,H1,I1,r1,q1⟩=>ho pins s1 σ H1 x v Q I1 r1 q1)
theorem opI {f:Value→Value→Sem Value} {C:Int→Int→Prop} {g:Int→Int→Int}
 (rule:∀ (i j:Int) (t u:Tok) (s:Shared) (Q:Value→Shared→Prop) (E:Value→Shared→Prop),C i j→Q (.int (g i j) s.toks) { s with toks:=s.toks+1 }→wpAny (model X.prog X.w) X.A (f (.int i t) (.int j u)) Q E s) :
 OpR X f (rI C fun i j=>.int (g i j)):=by
 intro pins s σ H x y v u Q I rx ry h
 obtain⟨i,j,rfl,rfl,hc,q⟩:=h
 obtain⟨t,rfl⟩:=rx
 obtain⟨t',rfl⟩:=ry
 exact rule i j t t' s _ _ hc ⟨.int (g i j),H,I.tok _,⟨_,rfl⟩,q⟩
theorem opI0 {f:Value→Value→Sem Value} {g:Int→Int→Int}
 (rule:∀ (i j:Int) (t u:Tok) (s:Shared) (Q:Value→Shared→Prop) (E:Value→Shared→Prop),Q (.int (g i j) s.toks) { s with toks:=s.toks+1 }→wpAny (model X.prog X.w) X.A (f (.int i t) (.int j u)) Q E s) :
 OpR X f (rI0 fun i j=>.int (g i j)):=by
 intro pins s σ H x y v u Q I rx ry h
 obtain⟨i,j,rfl,rfl,q⟩:=h
 obtain⟨t,rfl⟩:=rx
 obtain⟨t',rfl⟩:=ry
 exact rule i j t t' s _ _ ⟨.int (g i j),H,I.tok _,⟨_,rfl⟩,q⟩
theorem opB0 {f:Value→Value→Sem Value} {g:Int→Int→Bool}
 (rule:∀ (i j:Int) (t u:Tok) (s:Shared) (Q:Value→Shared→Prop) (E:Value→Shared→Prop),Q (.bool (g i j)) s→wpAny (model X.prog X.w) X.A (f (.int i t) (.int j u)) Q E s) :
 OpR X f (rI0 fun i j=>.bl (g i j)):=by
 intro pins s σ H x y v u Q I rx ry h
 obtain⟨i,j,rfl,rfl,q⟩:=h
 obtain⟨t,rfl⟩:=rx
 obtain⟨t',rfl⟩:=ry
 exact rule i j t t' s _ _ ⟨.bl (g i j),H,I,rfl,q⟩
noncomputable def CDiv (i j:Int):Prop:=0<j∧j<1073741824
noncomputable def CPow (i j:Int):Prop:=0≤j∧j≤1000000∧i.natAbs<2 ^ 64
noncomputable def CMul (i j:Int):Prop:=(-(2 ^ 64)<i∧i<2 ^ 64)∨(-(2 ^ 64)<j∧j<2 ^ 64)
theorem CMul.ok {i j:Int} (h:CMul i j):IntMulOk i j:=by
 rcases h with ⟨h1,h2⟩ | ⟨h1,h2⟩
 ·exact .of_left (intBits_le_64 h1 h2)
 ·exact .of_right (intBits_le_64 h1 h2)
theorem op_add:OpR X (binaryOp .Add) (rI0 fun i j=>.int (i+j)):=opI0 fun _ _ _ _ _ _ _ q=>add_int q
theorem op_sub:OpR X (binaryOp .Sub) (rI0 fun i j=>.int (i - j)):=opI0 fun _ _ _ _ _ _ _ q=>sub_int q
theorem op_mul:OpR X (binaryOp .Mult) (rI CMul fun i j=>.int (i * j)):=opI fun _ _ _ _ _ _ _ hc q=>mul_int q hc.ok
theorem op_fdiv:OpR X (binaryOp .FloorDiv) (rI CDiv fun i j=>.int (i / j)):=opI fun i j _ _ _ _ _ hc q=>by
 have h1:(0:Int)<j:=hc.1
 have h2:j<1073741824:=hc.2
 exact floordiv_int (by omega) (by rw[Int.fdiv_eq_ediv_of_nonneg i (by omega)];exact q) (.inl (PyProof.noPylong_small (by omega)))
theorem op_mod:OpR X (binaryOp .Mod) (rI (fun _ j=>0<j) fun i j=>.int (i % j)):=opI fun i j _ _ _ _ _ hc q=>by
 have h1:(0:Int)<j:=hc
 exact mod_int' (by omega) (by rw[Int.fmod_eq_emod_of_nonneg i (by omega)];exact q)
theorem op_pow:OpR X (binaryOp .Pow) (rI CPow fun i j=>.int (i ^ j.toNat)):=opI fun _ _ _ _ _ _ _ hc q=>pow_int_small hc.1 hc.2.1 hc.2.2 q
theorem unI {f:Value→Sem Value} {g:Int→Int}
 (rule:∀ (i:Int) (t:Tok) (s:Shared) (Q:Value→Shared→Prop) (E:Value→Shared→Prop),Q (.int (g i) s.toks) { s with toks:=s.toks+1 }→wpAny (model X.prog X.w) X.A (f (.int i t)) Q E s) :
 UnR X f (rU fun i=>.int (g i)):=by
 intro pins s σ H x v Q I rx h
 obtain⟨i,rfl,q⟩:=h
 obtain⟨t,rfl⟩:=rx
 exact rule i t s _ _ ⟨.int (g i),H,I.tok _,⟨_,rfl⟩,q⟩
theorem un_neg:UnR X (unaryOp .USub) (rU fun i=>.int (-i)):=unI fun _ _ _ _ _ q=>neg_int q
end
section
variable {X:Cx} {a b c:Expr} {ta tb tc:TE} {pos:Pos}
theorem op_lt:OpR X (compareOp .Lt) (rI0 fun i j=>.bl (decide (i<j))):=opB0 fun _ _ _ _ _ _ _ q=>lt_int q
theorem op_le:OpR X (compareOp .LtE) (rI0 fun i j=>.bl (decide (i≤j))):=opB0 fun _ _ _ _ _ _ _ q=>le_int q
theorem op_gt:OpR X (compareOp .Gt) (rI0 fun i j=>.bl (decide (j<i))):=opB0 fun _ _ _ _ _ _ _ q=>gt_int q
theorem nomark (b:Expr) {op:CmpOp} (h:op≠.In:=by decide) (h2:op≠.NotIn:=by decide):behindInMarks op b=false:=by
 have e1:(op == CmpOp.In)=false:=by cases op <;> first | rfl | exact absurd rfl h
 have e2:(op == CmpOp.NotIn)=false:=by cases op <;> first | rfl | exact absurd rfl h2
 cases b <;> simp[behindInMarks,e1,e2]
noncomputable def tTest (t:TE):TT:=fun σ H Q=>t σ H fun x H'=>∃ k,x=.bl k∧Q k H'
theorem pt_cmpR {op:CmpOp} {r:R2} (ho:OpR X (compareOp op) r) (ha:PE X a ta) (hb:PE X b tb) (hm:behindInMarks op b=false):PT X (.Compare a [op] [b] pos) (tTest (tOp r ta tb)):=by
 intro pins s σ H Q I h
 refine wpAny_isTrue_Compare1 (thn (ha pins s σ H _ I h) fun v s1 ⟨x,H1,I1,r1,q1⟩=>thn (hb pins s1 σ H1 _ I1 q1) fun u s2 ⟨y,H2,I2,r2,q2⟩ =>
  thn (ho pins s2 σ H2 x y v u _ I2 r1 r2 q2) fun c s3 ⟨z,H3,I3,r3,k,e,q3⟩=>?_) hm
 subst e
 cases r3
 exact wpAny_truthy_bool ⟨H3,I3,q3⟩
noncomputable def TruV (K:PySem.W.Frag) (x:V) (H:Hp) (k:Bool):Prop :=
 match x with
 | .non=>k=false
 | .bl b=>k=b
 | .int i=>k=(i != 0)
 | .str y=>y.length≤sizeLine∧k=((y.length:Int) != 0)
 | .byt y=>y.size≤sizeLine∧k=((y.size:Int) != 0)
 | .ref p=>(∃ xs,SqL K H p xs∧k=!xs.isEmpty)∨(∃ xs,SqT K H p xs∧k=!xs.isEmpty)∨∃ kvs,H p=some (.dK kvs)∧k=!kvs.isEmpty
 | _=>False
theorem isEmpty_kv {κ:Type} {kvs:List (κ×V)} {vs:List (κ×Value)} (r:KV kvs vs):(!vs.isEmpty)=!kvs.isEmpty:=by
 cases r <;> rfl
theorem isEmpty_of {xs:List V} {its:List Value} (r:Vals xs its):(!its.toArray.isEmpty)=!xs.isEmpty:=by
 cases r <;> simp
theorem line63:(sizeLine:Nat)<2 ^ 63:=by rw[sizeLine_eq];decide
theorem tru_ok:TruR X (fun x H Q=>∃ k,TruV X.K x H k∧Q k H):=by
 intro pins s σ H x v Q I rx h
 obtain⟨k,e,q⟩:=h
 have hl:=line63
 have hs:sizeLine=16777216:=sizeLine_eq
 cases x with
 | non =>
  cases rx
  have e':k=false:=e
  subst e'
  exact truthy_none ⟨H,I,q⟩
 | bl b =>
  cases rx
  have e':k=b:=e
  subst e'
  exact wpAny_truthy_bool ⟨H,I,q⟩
 | int i =>
  obtain⟨t,rfl⟩:=rx
  have e':k=(i != 0):=e
  subst e'
  exact PySem.P.truthy_int ⟨H,I,q⟩
 | str y =>
  obtain⟨t,rfl⟩:=rx
  obtain⟨hy,e'⟩:y.length≤sizeLine∧k=((y.length:Int) != 0):=e
  subst e'
  exact PySem.P.truthy_str (by omega) ⟨H,I.tok _,q⟩
 | byt y =>
  obtain⟨t,rfl⟩:=rx
  obtain⟨hy,e'⟩:y.size≤sizeLine∧k=((y.size:Int) != 0):=e
  subst e'
  exact PySem.W.truthy_bytes (by omega) ⟨H,I.tok _,q⟩
 | ref p =>
  cases rx
  have e':(∃ xs,SqL X.K H p xs∧k=!xs.isEmpty)∨(∃ xs,SqT X.K H p xs∧k=!xs.isEmpty)∨∃ kvs,H p=some (.dK kvs)∧k=!kvs.isEmpty:=e
  rcases e' with ⟨xs,hx,e'⟩ | ⟨xs,hx,e'⟩ | ⟨kvs,hx,e'⟩
  ·subst e'
   obtain⟨its,r,pl,hz⟩:=I.list hx
   have hlen:=r.length
   exact wpAny_truthy_list pl.isList (by simp only[List.size_toArray];omega) ⟨H,I.tok _,by rw[isEmpty_of r];exact q⟩
  ·subst e'
   obtain⟨its,r,pl,hz⟩:=I.tuple hx
   have hlen:=r.length
   exact truthy_tuple pl (by simp only[List.size_toArray];omega) ⟨H,I.tok _,by rw[isEmpty_of r];exact q⟩
  ·subst e'
   obtain⟨hz,hS,vs,r,m⟩:kvs.length≤sizeLine∧(p == sysModules)=false∧∃ vs,KV kvs vs∧s.heap.DictOf (mixKind X.prog X.w) p vs:=I.hok p _ hx
   have hlen:kvs.length=vs.length:=Paired.length r
   exact wpAny_truthy_dict hS m (by omega) ⟨H,I.tok _,by rw[isEmpty_kv r];exact q⟩
 | _=>exact(show False from e).elim
theorem pt_truth (ha:PE X a ta) (he:∀ whole,isTrue a X.env whole=(do let v ← whole;standAt a.pos;holding [v] (truthy v))) :
 PT X a (fun σ H Q=>ta σ H fun x H'=>∃ k,TruV X.K x H' k∧Q k H'):=by
 intro pins s σ H Q I h
 exact isTrue_plain (thn (ha pins s σ H _ I h) fun v s1 ⟨x,H1,I1,r1,q1⟩=>tru_ok pins s1 σ H1 x v Q I1 r1 q1) (he _)
theorem vals1 {x:V} {us:List Value} (r:Vals [x] us):∃ u,us=[u]∧RelV x u:=by
 cases r with
 | cons r1 r2=>cases r2;exact⟨_,rfl,r1⟩
theorem vals2 {x y:V} {us:List Value} (r:Vals [x,y] us):∃ u w',us=[u,w']∧RelV x u∧RelV y w':=by
 cases r with
 | cons r1 r2 =>
  cases r2 with
  | cons r3 r4=>cases r4;exact⟨_,_,rfl,r1,r3⟩
theorem call_max2 (hc:X.calm=true):CallR X (.builtin "max") (fun xs H Q=>∃ i j,xs=[.int i,.int j]∧Q (.int (if j > i then j else i)) H):=by
 intro pins s σ H xs us Q I r h
 obtain⟨i,j,rfl,q⟩:=h
 obtain⟨u,w',rfl,⟨t,rfl⟩,⟨t',rfl⟩⟩:=vals2 r
 refine max_two_ints (I.ok.hd hc) fun h' tk k=>⟨_,H,I.kept k,?_,q⟩
 by_cases hj:j > i
 ·rw[if_pos hj,if_pos hj];exact⟨_,rfl⟩
 ·rw[if_neg hj,if_neg hj];exact⟨_,rfl⟩
theorem call_min2 (hc:X.calm=true):CallR X (.builtin "min") (fun xs H Q=>∃ i j,xs=[.int i,.int j]∧Q (.int (if j<i then j else i)) H):=by
 intro pins s σ H xs us Q I r h
 obtain⟨i,j,rfl,q⟩:=h
 obtain⟨u,w',rfl,⟨t,rfl⟩,⟨t',rfl⟩⟩:=vals2 r
 refine min_two_ints (I.ok.hd hc) fun h' tk k=>⟨_,H,I.kept k,?_,q⟩
 by_cases hj:j<i
 ·rw[if_pos hj,if_pos hj];exact⟨_,rfl⟩
 ·rw[if_neg hj,if_neg hj];exact⟨_,rfl⟩
end
end L2
namespace L2
open PySem PySem.Spec PyProof.Rows
section
variable {prog:Program} {w:World} {A:Around} {E:Value→Shared→Prop} {s:Shared} {K:PySem.W.Frag} {x dx C f:Addr} {mA:Str→Option Value} {name:Str} {v:Value}
end
section
variable {P:Program} {w:World} {H H':Hp} {h h':Heap} {a C dx:Addr} {fs fs':List (Str×V)}
end
structure Cls (K:PySem.W.Frag) (C:Addr):Prop where
 pg:PySem.W.plainGet K C Str.empty=true
 hd:PySem.W.hasDictIn K C=true
 po:PySem.W.plainOver K C=true
 sa:PySem.W.findIn K (.ref C) "__setattr__"=some (some (.builtin "object.__setattr__"))
section
variable {X:Cx} {pins:List (Addr×Obj)} {σ:St} {H:Hp} {s:Shared} {a C dx:Addr} {fs:List (Str×V)} {f:Str} {v:V} {A:Around} {E:Value→Shared→Prop}
theorem Inv.made (I:Inv X pins σ H s):Inv X pins σ (upd (upd H s.heap.objs.size (.own (s.heap.objs.size+1))) (s.heap.objs.size+1) (.ins C s.heap.objs.size []))
 { s with heap:=(s.heap.push PySem.W.emptyDict).push (PySem.W.instObj C s.heap.objs.size) }:=by
 have e1:(s.heap.push PySem.W.emptyDict).get? s.heap.objs.size=some PySem.W.emptyDict:=Heap.get?_push_size s.heap rfl
 have e2:((s.heap.push PySem.W.emptyDict).push (PySem.W.instObj C s.heap.objs.size)).get? (s.heap.objs.size+1)=some (PySem.W.instObj C s.heap.objs.size):=by
  have:=Heap.get?_push_size (s.heap.push PySem.W.emptyDict) (o:=PySem.W.instObj C s.heap.objs.size) rfl
  rwa [Heap.size_push]at this
 have e3:(s.heap.push PySem.W.emptyDict).Ns s.heap.objs.size (fun _=>none):=⟨PySem.W.emptyDict,#[],_,e1,rfl,(fun e he=>absurd he (by simp)),fun _=>rfl⟩
 have I1:=I.laid (a:=s.heap.objs.size) (o:=.own (s.heap.objs.size+1)) (h':=s.heap.push PySem.W.emptyDict) (t':=s.toks) (fun b u q=>Heap.get?_push_of_some _ q) (Nat.le_refl _) ⟨_,e1⟩
 refine I1.laid (a:=s.heap.objs.size+1) (o:=.ins C s.heap.objs.size []) (t':=s.toks) (fun b u q=>Heap.get?_push_of_some _ q) (Nat.le_of_eq (Heap.size_push _ _)) ?_
 have ne:s.heap.objs.size≠s.heap.objs.size+1:=Nat.ne_of_lt (Nat.lt_succ_self _)
 refine⟨by rw[upd_ne ne,upd_same],Nat.zero_le _,ne,e2,fun _=>none,(Heap.Ns1.of_empty e3).at fun o q=>Heap.get?_push_of_some _ q,fun _=>True.intro,fun y hy=>absurd rfl hy⟩
end
section
variable {X:Cx} {o e value:Expr} {f:Str} {pos pos' tpos:Pos} {ta tv:TE}
end
section
variable {X:Cx} {pins:List (Addr×Obj)} {σ:St} {H:Hp} {s:Shared} {A:Around} {E:Value→Shared→Prop} {Q:Value→Shared→Prop} {c:Value} {b:Bool}
inductive TyOf (K:PySem.W.Frag) (H:Hp):V→Value→Prop where
 | non:TyOf K H .non (.type "NoneType")
 | bl (x:Bool):TyOf K H (.bl x) (.type "bool")
 | int (i:Int):TyOf K H (.int i) (.type "int")
 | str (x:Str):TyOf K H (.str x) (.type "str")
 | flt (x:UInt64):TyOf K H (.flt x) (.type "float")
 | lst {a:Addr} {xs:List V} (e:H a=some (.lst xs)):TyOf K H (.ref a) (.type "list")
 | frz {a:Addr} {o:Obj} {xs:List V} (e:H a=some (.frz o (.lst xs))):TyOf K H (.ref a) (.type "list")
 | tup {a:Addr} {xs:List V} (e:H a=some (.tup xs)):TyOf K H (.ref a) (.type "tuple")
 | dK {a:Addr} {kvs:List (Key×V)} (e:H a=some (.dK kvs)):TyOf K H (.ref a) (.type "dict")
 | dT {a:Addr} {kvs:List (List Key×V)} (e:H a=some (.dT kvs)):TyOf K H (.ref a) (.type "dict")
 | ins {a C dx:Addr} {fs:List (Str×V)} (e:H a=some (.ins C dx fs)) (cl:Cls K C) (ha:PySem.W.findIn K (.ref C) "__class__"=some (some (.builtin "object.__class__")))
  (hn:PySem.W.specialIn K (.builtin "object.__class__") "__get__"=some (some (.builtin "getset_descriptor.__get__"))) (htk:PySem.W.takesIn K (.builtin "object.__class__")=some true)
  (hm:PySem.W.mroIn K C (.type "object")=some true):TyOf K H (.ref a) (.ref C)
end
end L2
namespace L2
open PySem PySem.Spec PyProof.Rows
structure Room (k:Nat) (A:Around):Prop where
 hd:A.handled=none
 dp:A.depth+3 * k+5<recursionLimit
 un:A.units+16 * k+200<cLine
theorem Room.mono {j k:Nat} {A:Around} (r:Room k A) (h:j≤k):Room j A:=⟨r.hd,by have:=r.dp;omega,by have:=r.un;omega⟩
theorem Room.deeper {k:Nat} {A:Around} (r:Room (k+1) A) (env:Env):Room k (A.deeper env) :=
 ⟨r.hd,by have:=r.dp;show A.depth+1+3 * k+5<_;omega,by have:=r.un;show A.units+3+16 * k+200<_;omega⟩
theorem Room.in1 {k:Nat} {A:Around} (r:Room (k+1) A):Room k A.in1 :=
 ⟨r.hd,by have:=r.dp;show A.depth+3 * k+5<_;omega,by have:=r.un;show A.units+1+16 * k+200<_;omega⟩
theorem Room.depth {k:Nat} {A:Around} (r:Room k A):A.depth<recursionLimit:=by have:=r.dp;omega
theorem Room.units {k:Nat} {A:Around} (r:Room k A):A.units+64<cLine:=by have:=r.un;omega
noncomputable def tNil:TA:=fun _ H Q=>Q [] H
noncomputable def tCons (ta:TE) (tr:TA):TA:=fun σ H Q=>ta σ H fun x H1=>tr σ H1 fun xs H2=>Q (x :: xs) H2
section
variable {X:Cx} {e:Expr} {es:List Expr} {te:TE} {t:TA} {pos:Pos}
theorem pa_nil:PA X [] tNil:=fun _ _ _ _ H Q I h=>Calls.spliced_nil ⟨[],H,I,.nil,h⟩
theorem pa_cons (ha:PE X e te) (hr:PA X es t) (hs:starEach (e :: es) X.env=(false,eval e X.env) :: starEach es X.env:=by rfl):PA X (e :: es) (tCons te t):=by
 intro pos pins s σ H Q I h
 rw[hs]
 show wpAny _ _ (spliced ((false,eval e X.env) :: backTo pos (starEach es X.env))) _ _ s
 refine Calls.spliced_cons (thn (ha pins s σ H _ I h) fun u s1 ⟨x,H1,I1,r1,q1⟩=>?_)
 exact thn (hr pos pins s1 σ H1 _ I1 q1) fun us s2 ⟨xs,H2,I2,r2,q2⟩=>⟨x :: xs,H2,I2,.cons r1 r2,q2⟩
noncomputable def tTup (t:TA):TE:=fun σ H Q=>t σ H fun xs H1=>xs.length≤sizeLine∧∀ p,H1 p=none→Q (.ref p) (upd H1 p (.tup xs))
noncomputable def tLst (t:TA):TE:=fun σ H Q=>t σ H fun xs H1=>xs.length≤sizeLine∧∀ p,H1 p=none→Q (.ref p) (upd H1 p (.lst xs))
theorem pe_tup {x1} (h:PA X es t):PE X (.Tuple es x1 pos) (tTup t):=by
 intro pins s σ H Q I hq
 refine wpAny_Tuple_spliced (thn (h pos pins s σ H _ I hq) fun us s1 ⟨xs,H1,I1,r,z,q⟩=>⟨by rw[← r.length];exact z,?_⟩)
 have hf:H1 s1.heap.objs.size=none:=I1.hok.fresh (Nat.le_refl _)
 refine⟨.ref s1.heap.objs.size,upd H1 s1.heap.objs.size (.tup xs),I1.laid (t':=s1.toks) (fun b u e=>Heap.get?_push_of_some _ e) (Nat.le_refl _) ?_,rfl,q _ hf⟩
 exact⟨z,us,r,⟨_,Heap.get?_push_size _ rfl,rfl,_,rfl⟩⟩
theorem pe_lst (h:PA X es t):PE X (.List es pos) (tLst t):=by
 intro pins s σ H Q I hq
 refine wpAny_List_spliced (thn (h pos pins s σ H _ I hq) fun us s1 ⟨xs,H1,I1,r,z,q⟩=>⟨by rw[← r.length];exact z,?_⟩)
 have hf:H1 s1.heap.objs.size=none:=I1.hok.fresh (Nat.le_refl _)
 refine⟨.ref s1.heap.objs.size,upd H1 s1.heap.objs.size (.lst xs),I1.laid (t':=s1.toks) (fun b u e=>Heap.get?_push_of_some _ e) (Nat.le_refl _) ?_,rfl,q _ hf⟩
 exact⟨z,us,0,r,Heap.get?_push_size _ rfl⟩
end
noncomputable abbrev Sp:=List V→Hp→VK→XK→Prop
noncomputable abbrev CXT:=List Env→Hp→Shared→XK→Value→Shared→Prop
structure Env0 (P:Program) (w:World) (K:PySem.W.Frag) (mg:Str→Option Value) (base:Heap) (A:Around) (outer:List Env) (s:Shared) (H:Hp):Prop where
 frames:A.frames=some outer
 mod:Mod K mg base
 bs:∀ b o,base.get? b=some o→s.heap.get? b=some o∧H b=none
 bsz:base.objs.size≤s.heap.objs.size
 funs:s.heap.FunFrames base outer
 frf:∀ b∈frs outer,H b=none
 hok:HOk P w H s.heap
 bare:AllBare s.gens
noncomputable def CE (outer:List Env) (P:Program) (w:World) (H:Hp) (s:Shared) (Q:VK) (u:Value) (s':Shared):Prop :=
 ∃ v H',s'.os=s.os∧AllBare s'.gens∧Un (frs outer) [] H H' s.heap s'.heap∧HOk P w H' s'.heap∧RelV v u∧Q v H'
noncomputable def CR (CX:CXT) (outer:List Env) (P:Program) (w:World) (H:Hp) (s:Shared) (Q:VK) (E:XK) (r:Result) (s':Shared):Prop :=
 match r with
 | .ok (.ret u)=>CE outer P w H s Q u s'
 | .ok _=>False
 | .error e=>CX outer H s E e s'
structure FnOk (P:Program) (w:World) (K:PySem.W.Frag) (mg:Str→Option Value) (base:Heap) (CX:CXT) (k:Nat) (f:Addr) (fd:FuncData) (ps:List Str) (sp:Sp):Prop where
 len:∀ vs H Q E,sp vs H Q E→vs.length=ps.length
 run:∀ (A:Around) (outer:List Env) (s:Shared) (H:Hp) (args:Args) (us:List Value) (vs:List V) (Q:VK) (E:XK),Room k A→Env0 P w K mg base A outer s H→BindsTo s fd args (ps.zip us)→Vals vs us→sp vs H Q E →
  codeAny (model P w) A (.call (.ref f) args) (CR CX outer P w H s Q E) s
theorem FnOk.mono {P:Program} {w:World} {K:PySem.W.Frag} {mg:Str→Option Value} {base:Heap} {CX:CXT} {j k:Nat} {f:Addr} {fd:FuncData} {ps:List Str} {sp:Sp} (F:FnOk P w K mg base CX j f fd ps sp) (h:j≤k) :
 FnOk P w K mg base CX k f fd ps sp:=⟨F.len,fun A outer s H args us vs Q E hr=>F.run A outer s H args us vs Q E (hr.mono h)⟩
theorem FnOk.imp {P:Program} {w:World} {K:PySem.W.Frag} {mg:Str→Option Value} {base:Heap} {CX:CXT} {k:Nat} {f:Addr} {fd:FuncData} {ps:List Str} {sp sp':Sp} (F:FnOk P w K mg base CX k f fd ps sp)
 (h:∀ vs H Q E,sp' vs H Q E→sp vs H Q E):FnOk P w K mg base CX k f fd ps sp' :=
 ⟨fun vs H Q E q=>F.len vs H Q E (h _ _ _ _ q),fun A outer s H args us vs Q E hr he hb hv hs=>F.run A outer s H args us vs Q E hr he hb hv (h _ _ _ _ hs)⟩
theorem Env0.in1 {P:Program} {w:World} {K:PySem.W.Frag} {mg:Str→Option Value} {base:Heap} {A:Around} {outer:List Env} {s:Shared} {H:Hp} (e:Env0 P w K mg base A outer s H) :
 Env0 P w K mg base A.in1 outer s H:=⟨e.frames,e.mod,e.bs,e.bsz,e.funs,e.frf,e.hok,e.bare⟩
section
variable {X:Cx} {pins:List (Addr×Obj)} {σ:St} {H:Hp} {s s':Shared}
theorem Inv.env0 (I:Inv X pins σ H s):Env0 X.prog X.w X.K X.mg X.base X.A X.stack s H :=
 ⟨I.ok.frames,I.ok.mod,I.bs,Nat.le_trans I.ok.bsz I.sz,I.stack,I.stkFree,I.hok,I.bare⟩
theorem Inv.after {Q:VK} {u:Value} (I:Inv X pins σ H s) (h:CE X.stack X.prog X.w H s Q u s'):EP X pins σ Q u s':=by
 obtain⟨v,H',os,bare,un,hok,r,q⟩:=h
 obtain⟨hh,g,d,t,os'⟩:=s'
 obtain rfl:os'=s.os:=os
 exact⟨v,H',I.call (h':=hh) (g':=g) (d':=d) (t':=t) (ch:=[]) un hok bare (fun b z=>absurd z (by simp)),r,q⟩
end
noncomputable def tCall (sp:Sp) (dvs:List V) (E:XK) (t:TA):TE:=fun σ H Q=>t σ H fun vs H1=>sp (vs++dvs) H1 Q E
noncomputable def Binds (K:PySem.W.Frag) (fd:FuncData) (ps:List Str) (ds:List Value):Prop :=
 ∀ (s:Shared) (us:List Value),K.In s.heap→(us++ds).length=ps.length→BindsTo s fd ⟨us,[]⟩ (ps.zip (us++ds))
theorem Binds.all {K:PySem.W.Frag} {fd:FuncData} {ps:List Str} (h:∀ us:List Value,us.length=ps.length→bindArgs fd ⟨us,[]⟩=pure (ps.zip us)):Binds K fd ps []:=fun s us _ hl=>by
 rw[List.append_nil]at hl ⊢
 exact .of_eq (h us hl)
noncomputable def Passes (CX:CXT) (X:Cx) (E:XK):Prop:=∀ (pins:List (Addr×Obj)) (σ:St) (H:Hp) (s:Shared) (e:Value) (s':Shared),Inv X pins σ H s→CX X.stack H s E e s'→X.xe e s'
section
variable {X:Cx} {CX:CXT} {k:Nat} {f C:Addr} {fd:FuncData} {ps:List Str} {sp:Sp} {dvs:List V} {ds:List Value} {E:XK} {x m:Str} {p pos apos:Pos} {e o:Expr} {es:List Expr} {ta:TE} {t:TA}
theorem run_fn {pins:List (Addr×Obj)} {σ:St} {H:Hp} {s:Shared} {Q:VK} {us:List Value} {vs:List V} (F:FnOk X.prog X.w X.K X.mg X.base CX k f fd ps sp) (hr:Room k X.A) (hb:Binds X.K fd ps ds) (hd:Vals dvs ds) (hx:Passes CX X E)
 (I:Inv X pins σ H s) (r:Vals vs us) (h:sp (vs++dvs) H Q E):wpAny (model X.prog X.w) X.A (call (.ref f) us) (EP X pins σ Q) X.xe s:=by
 have r2:Vals (vs++dvs) (us++ds):=r.append hd
 have hl:(us++ds).length=ps.length:=by rw[← r2.length];exact F.len _ _ _ _ h
 refine wpAny_call (codeAny_mono (F.run X.A X.stack s H ⟨us,[]⟩ (us++ds) (vs++dvs) Q E hr I.env0 (hb s us I.kIn hl) r2 h) fun r s' hq=>?_)
 cases r with
 | error e=>exact hx pins σ H s e s' I hq
 | ok fl =>
  cases fl with
  | ret u=>exact I.after hq
  | next=>exact False.elim hq
  | brk=>exact False.elim hq
  | cont=>exact False.elim hq
theorem pe_call (F:FnOk X.prog X.w X.K X.mg X.base CX k f fd ps sp) (hr:Room k X.A) (hg:Gl X x) (hm:X.mg x=some (.ref f)) (hk:PySem.W.keepIn X.K (.ref f)=true) (hb:Binds X.K fd ps ds) (hd:Vals dvs ds) (hx:Passes CX X E)
 (ha:PA X (e :: es) t) (hdb:(x == ("__debug__":Str))=false:=by decide) (he:starEach (e :: es) X.env=(false,eval e X.env) :: starEach es X.env:=by rfl) (hpl:(backTo pos (starEach es X.env)).any (·.1)=false:=by rfl) :
 PE X (.Call (.Name x p) (e :: es) [] pos) (tCall sp dvs E t):=by
 intro pins s σ H Q I h
 refine wpAny_Call_Name_kw (ld_glob I hg hm ?_ hdb)
 refine PySem.W.callWith_K (h₀:=X.base) I.ok.mod.kin hk (thn (ha pos pins s σ H _ I h) fun us s1 ⟨vs,H1,I1,r,q⟩=>⟨I1.kIn,?_⟩) he hpl
 exact run_fn F hr hb hd hx I1 r q
end
noncomputable def PK (X:Cx) (kws:List Keyword) (t:TA):Prop :=
 ∀ (pos:Pos) (pins:List (Addr×Obj)) (s:Shared) (σ:St) (H:Hp) (Q:List V→Hp→Prop),Inv X pins σ H s→t σ H Q→wpAny (model X.prog X.w) X.A (evalAll ((backToKw pos (keywordEach kws X.env)).map (·.2))) (AP X pins σ Q) X.xe s
section
variable {X:Cx} {CX:CXT} {k:Nat} {f C:Addr} {fd:FuncData} {ps ks:List Str} {sp:Sp} {E:XK} {x m:Str} {p pos apos kpos:Pos} {e o:Expr} {es:List Expr} {kws:List Keyword} {te ta:TE} {t tk:TA} {nm:Option Str}
theorem pk_nil:PK X [] tNil:=fun _ _ _ _ H Q I h=>wpAny_evalAll_nil ⟨[],H,I,.nil,h⟩
theorem pk_cons (ha:PE X e te) (hr:PK X kws t):PK X (⟨nm,e,kpos⟩ :: kws) (tCons te t):=by
 intro pos pins s σ H Q I h
 show wpAny _ _ (evalAll ((do let v ← eval e X.env;standAt pos;pure v) :: (backToKw pos (keywordEach kws X.env)).map (·.2))) _ _ s
 refine wpAny_evalAll_cons (wpAny_bind (thn (ha pins s σ H _ I h) fun u s1 ⟨x,H1,I1,r1,q1⟩=>wpAny_bind (wpAny_standAt (wpAny_pure ?_))))
 exact thn (hr pos pins s1 σ H1 _ I1 q1) fun us s2 ⟨xs,H2,I2,r2,q2⟩=>⟨x :: xs,H2,I2,.cons r1 r2,q2⟩
variable {g:List Value→List Value→List Value} {gV:List V→List V→List V}
end
structure FnScope (N P:List Str) (sc:Scope):Prop where
 kind:sc.kind=.function
 co:sc.isCoroutine=false
 gen:sc.isGenerator=false
 nd:N.Nodup
 pre:N.take P.length=P
 par:∀ x∈P,sc.names.lookup x=some .local∨sc.names.lookup x=some .cell
 nofree:∀ y∈sc.names,y.2≠.free
theorem bindL_out {kindOf:Str→Option NameKind} {x:Str}:∀ {binds:List (Str×Value)} {m:Str→Option Value},(∀ v,(x,v)∉binds)→bindL kindOf binds m x=m x
 | [],_,_=>rfl
 | (n,v) :: r,m,h=>by
  unfold bindL
  rw[bindL_out fun w hw=>h w (List.mem_cons_of_mem _ hw)]
  split
  ·have:x≠n:=by rintro rfl;exact h v List.mem_cons_self
   simp[this]
  ·rfl
theorem bindC_out {kindOf:Str→Option NameKind} {x:Str}:∀ {binds:List (Str×Value)} {m:Str→Option Value},(∀ v,(x,v)∉binds)→bindC kindOf binds m x=m x
 | [],_,_=>rfl
 | (n,v) :: r,m,h=>by
  unfold bindC
  rw[bindC_out fun w hw=>h w (List.mem_cons_of_mem _ hw)]
  split
  ·rfl
  ·have:x≠n:=by rintro rfl;exact h v List.mem_cons_self
   simp[this]
theorem bindL_get {kindOf:Str→Option NameKind} {x:Str} {v:Value}:∀ {P:List Str} {vs:List Value} {i:Nat} {m:Str→Option Value},P.Nodup→P[i]?=some x→vs[i]?=some v→kindOf x=some .local →
 bindL kindOf (P.zip vs) m x=some v
 | [],_,_,_,_,h,_,_=>by simp at h
 | _ :: _,[],_,_,_,_,h,_=>by simp at h
 | p :: P,w :: vs,0,m,nd,h1,h2,hk=>by
  simp at h1 h2;subst h1;subst h2
  show bindL kindOf ((p,w) :: P.zip vs) m p=_
  unfold bindL
  rw[bindL_out fun v hv=>(List.nodup_cons.mp nd).1 (List.of_mem_zip hv).1,if_pos hk]
  simp
 | p :: P,w :: vs,i+1,m,nd,h1,h2,hk=>by
  show bindL kindOf ((p,w) :: P.zip vs) m x=_
  unfold bindL
  exact bindL_get (i:=i) (List.nodup_cons.mp nd).2 (by simpa using h1) (by simpa using h2) hk
theorem bindC_get {kindOf:Str→Option NameKind} {x:Str} {v:Value}:∀ {P:List Str} {vs:List Value} {i:Nat} {m:Str→Option Value},P.Nodup→P[i]?=some x→vs[i]?=some v→kindOf x≠some .local →
 bindC kindOf (P.zip vs) m x=some v
 | [],_,_,_,_,h,_,_=>by simp at h
 | _ :: _,[],_,_,_,_,h,_=>by simp at h
 | p :: P,w :: vs,0,m,nd,h1,h2,hk=>by
  simp at h1 h2;subst h1;subst h2
  show bindC kindOf ((p,w) :: P.zip vs) m p=_
  unfold bindC
  rw[bindC_out fun v hv=>(List.nodup_cons.mp nd).1 (List.of_mem_zip hv).1,if_neg hk]
  simp
 | p :: P,w :: vs,i+1,m,nd,h1,h2,hk=>by
  show bindC kindOf ((p,w) :: P.zip vs) m x=_
  unfold bindC
  exact bindC_get (i:=i) (List.nodup_cons.mp nd).2 (by simpa using h1) (by simpa using h2) hk
noncomputable def start (N:List Str) (vs:List V):St:=vs.map some++List.replicate (N.length - vs.length) none
noncomputable def cxOf (CX:CXT) (P:Program) (w:World) (K:PySem.W.Frag) (mg:Str→Option Value) (base:Heap) (N:List Str) (qual:Str) (scope:Scope) (f:Addr) (cd:Value) (A:Around) (outer:List Env) (s:Shared) (H:Hp) (E:XK):Cx where
 prog:=P
 w:=w
 K:=K
 mg:=mg
 base:=base
 A:=A.deeper (envOfC qual scope s.heap.objs.size f cd)
 N:=N
 s₀:=s
 H₀:=H
 env:=envOfC qual scope s.heap.objs.size f cd
 outer:=outer
 stack:=envOfC qual scope s.heap.objs.size f cd :: outer
 ex:=[]
 calm:=true
 fn:=fun _=>true
 pn:=[]
 xe:=fun e s'=>wpAny (model P w) (A.deeper (envOfC qual scope s.heap.objs.size f cd)) (leaving (envOfC qual scope s.heap.objs.size f cd) e) (fun _ s''=>CX outer H s E e s'') (fun e' s''=>CX outer H s E e' s'') s'
theorem cell_has {sc:Scope} {n:Nat} {x:Str} (h:sc.names.lookup x=some .cell):∃ c,(cellsFrom n sc.names []).lookup x=some c:=by
 have q:=PySem.W.cellsFrom_some sc.names n [] (.inl h)
 exact Option.isSome_iff_exists.mp q
theorem inv_start {CX:CXT} {P:Program} {w:World} {K:PySem.W.Frag} {mg:Str→Option Value} {base:Heap} {N ps:List Str} {qual:Str} {scope:Scope} {f:Addr} {cd:Value} {A:Around} {outer:List Env} {s s1:Shared} {H:Hp} {E:XK} {us:List Value} {vs:List V}
 (S:FnScope N ps scope) (hd:A.handled=none) (e0:Env0 P w K mg base A outer s H) (hl:vs.length=ps.length) (r:Vals vs us)
 (x:InCallC s s.heap.objs.size (bindL (envOfC qual scope s.heap.objs.size f cd).kindOf (ps.zip us) fun _=>none) (cellsFrom (s.heap.objs.size+1) scope.names []) (bindC (envOfC qual scope s.heap.objs.size f cd).kindOf (ps.zip us) fun _=>none) s1) :
 Inv (cxOf CX P w K mg base N qual scope f cd A outer s H E) [] (start N vs) H s1:=by
 have hpl:ps.length≤N.length:=by have:=congrArg List.length S.pre;rw[List.length_take]at this;omega
 obtain⟨h1,tk,rfl,hk⟩:=x.done
 have noA:∀ b:Addr,b∉(cxOf CX P w K mg base N qual scope f cd A outer s H E).ex:=fun b z=>absurd (show b∈([]:List Addr) from z) (by simp)
 refine⟨⟨e0.mod,S.kind,rfl,rfl,Nat.le_refl _,fun y z c h1 h2=>?_,fun y hy=>?_,fun y c _ h=>?_,fun _=>hd,Around.frames_deeper e0.frames,.inr ⟨rfl,rfl⟩,fun b z=>absurd z (noA b),e0.bs,e0.bsz,fun b _ _=>noA b,fun b z=>absurd z (noA b),e0.funs,e0.frf⟩,
  rfl,e0.bare,Un.kept hk,⟨_,x.toInCall.ns,fun i y v h1 h2 h3=>?_⟩,fun y c h=>⟨_,x.cell y c h⟩,e0.hok.fresh (Nat.le_refl _),fun y c h=>?_,fun p hp=>absurd (show p∈([]:List (Addr×Obj)) from hp) (by simp),e0.hok.kept hk,?_⟩
 ·exact name_of_addr x.apart (PySem.mem_of_lookup h1) (PySem.mem_of_lookup h2)
 ·have hy:scope.names.lookup y=some .cell∨scope.names.lookup y=some .free:=hy
  rcases hy with hy | hy
  ·exact cell_has hy
  ·exact absurd rfl (S.nofree _ (PySem.mem_of_lookup hy))
 ·exact Nat.le_of_lt (x.above y c (PySem.mem_of_lookup h))
 ·have hi:i<vs.length:=by
   unfold start at h2
   by_cases hi:i<vs.length
   ·exact hi
   ·rw[List.getElem?_append_right (by simpa using hi)]at h2
    rw[List.getElem?_replicate]at h2
    split at h2 <;> cases h2
  have ha:vs[i]?=some v:=by
   unfold start at h2
   rw[List.getElem?_append_left (by simpa using hi),List.getElem?_map]at h2
   cases e:vs[i]? with
   | none=>rw[e]at h2;cases h2
   | some a=>rw[e]at h2;cases h2;rfl
  obtain⟨u,hu,rv⟩:=r.get ha
  have hp:ps[i]?=some y:=by
   rw[← S.pre,List.getElem?_take_of_lt (by omega)];exact h1
  have ndP:ps.Nodup:=by rw[← S.pre];exact S.nd.sublist (List.take_sublist _ _)
  refine⟨u,rv,?_⟩
  rcases S.par y (List.mem_of_getElem? hp)with k | k
  ·exact .inl ⟨k,bindL_get ndP hp hu k⟩
  ·obtain⟨c,e⟩:=cell_has (n:=s.heap.objs.size+1) k
   refine .inr ⟨.inl k,c,e,?_⟩
   have q:=x.cell y c e
   rw[bindC_get ndP hp hu (by show scope.names.lookup y≠_;rw[k];decide)]at q
   exact q
 ·exact e0.hok.fresh (Nat.le_of_lt (x.above y c (PySem.mem_of_lookup h)))
 ·unfold start
  show _=N.length
  rw[List.length_append,List.length_map,List.length_replicate]
  omega
theorem fn_of {CX:CXT} {P:Program} {w:World} {K:PySem.W.Frag} {mg:Str→Option Value} {base:Heap} {k:Nat} {f:Addr} {name qual:Str} {params:Arguments} {body:List Stmt} {scope:Scope} {dV kV doc pm cdv ct oc:Value} {an od:Option Addr}
 {osl:Array (Option Value)} {N ps:List Str} {sp:Sp} (lk:K.lookup f=some ⟨oc,od,.func (PySem.W.fnOf name qual params body scope dV kV doc pm an cdv ct),osl⟩) (hcd:PySem.W.codeIn K cdv qual=true) (S:FnScope N ps scope)
 (len:∀ vs H Q E,sp vs H Q E→vs.length=ps.length)
 (hbody:∀ (A:Around) (outer:List Env) (s:Shared) (H:Hp) (vs:List V) (Q:VK) (E:XK),Room k (A.deeper (envOfC qual scope s.heap.objs.size f cdv))→sp vs H Q E →
  ∃ t,PSs (cxOf CX P w K mg base N qual scope f cdv A outer s H E) body t∧t { nx:=fun _ H'=>Q .non H',rt:=Q } (start N vs) H) :
 FnOk P w K mg base CX (k+1) f (PySem.W.fnOf name qual params body scope dV kV doc pm an cdv ct) ps sp:=by
 refine⟨len,fun A outer s H args us vs Q E hr e0 hb r hsp=>?_⟩
 have hl:=len _ _ _ _ hsp
 have KX:K.In s.heap:=e0.mod.kin.keeps fun b o e=>(e0.bs b o e).1
 have lim:s.heap.NoLimit:=e0.mod.nolimit.keeps fun b o e=>(e0.bs b o e).1
 have hkind:∀ y∈ps.zip us,scope.names.lookup y.1=some .local∨(scope.names.lookup y.1=some .cell∧((cellsFrom (s.heap.objs.size+1) scope.names []).lookup y.1).isSome=true):=fun⟨n,v⟩ hy=>by
  rcases S.par n (List.of_mem_zip hy).1 with q | q
  ·exact .inl q
  ·exact .inr ⟨q,PySem.W.cellsFrom_some _ _ _ (.inl q)⟩
 refine codeAny_call_function hr.depth (KX _ _ lk) rfl S.co S.gen rfl (PySem.W.codeRec_of KX hcd) (hb _ _ _ _ ?_)
 refine wpAny_newFunctionEnv_cells S.kind hkind fun env he s1 x=>?_
 subst he
 refine⟨lim.keeps x.toInCall.keep,codeAny_func ?_⟩
 obtain⟨t,ht,hq⟩:=hbody A outer s H vs Q E (hr.deeper _) hsp
 have I:Inv (cxOf CX P w K mg base N qual scope f cdv A outer s H E) [] (start N vs) H s1:=inv_start S hr.hd e0 hl r x
 refine wpAny_mono (ht [] s1 (start N vs) H _ I hq) (fun fl s' hs=>?_) fun e s' hs=>hs
 have fin:∀ {σ':St} {H':Hp} {v:V} {u:Value},Inv (cxOf CX P w K mg base N qual scope f cdv A outer s H E) [] σ' H' s'→RelV v u→Q v H'→CE outer P w H s Q u s' :=
  fun {σ' H' v u} J rv q=>⟨v,H',J.os,J.bare,J.base,J.hok,rv,q⟩
 cases fl with
 | ret u =>
  obtain⟨v,σ',H',J,rv,q⟩:=hs
  exact fin J rv q
 | next =>
  obtain⟨σ',H',J,q⟩:=hs
  exact fin (v:=V.non) (u:=Value.none) J rfl q
 | brk =>
  obtain⟨_,_,_,q⟩:=hs
  exact False.elim q
 | cont =>
  obtain⟨_,_,_,q⟩:=hs
  exact False.elim q
end L2
namespace L2
open PySem PySem.Spec PyProof.Rows
section
variable {X:Cx} {x:Str} {p pos:Pos} {e:Expr} {es:List Expr} {t:TA} {id T:String} {r:List V→Hp→VK→Prop}
noncomputable def tCB (r:List V→Hp→VK→Prop) (t:TA):TE:=fun σ H Q=>t σ H fun vs H1=>r vs H1 Q
theorem pe_callB (hc:CallR X (.builtin id) r) (hg:Gl X x) (hm:X.mg x=none) (hv:bootBuiltins x=some (.builtin id)) (ha:PA X (e :: es) t) (hn:x≠"__name__":=by decide) (hdb:(x == ("__debug__":Str))=false:=by decide)
 (he:starEach (e :: es) X.env=(false,eval e X.env) :: starEach es X.env:=by rfl) (hpl:(backTo pos (starEach es X.env)).any (·.1)=false:=by rfl):PE X (.Call (.Name x p) (e :: es) [] pos) (tCB r t):=by
 intro pins s σ H Q I h
 refine wpAny_Call_Name_kw (ld_blt I hg hm hv ?_ hn hdb)
 exact PyProof.Rows.callWith_builtin1 (thn (ha pos pins s σ H _ I h) fun us s1 ⟨vs,H1,I1,r1,q1⟩=>hc pins s1 σ H1 vs us Q I1 r1 q1) he hpl
theorem pe_callTy (hc:CallR X (.type T) r) (hg:Gl X x) (hm:X.mg x=none) (hv:bootBuiltins x=some (.type T)) (ha:PA X (e :: es) t) (hn:x≠"__name__":=by decide) (hdb:(x == ("__debug__":Str))=false:=by decide)
 (he:starEach (e :: es) X.env=(false,eval e X.env) :: starEach es X.env:=by rfl) (hpl:(backTo pos (starEach es X.env)).any (·.1)=false:=by rfl):PE X (.Call (.Name x p) (e :: es) [] pos) (tCB r t):=by
 intro pins s σ H Q I h
 refine wpAny_Call_Name_kw (ld_blt I hg hm hv ?_ hn hdb)
 exact PyProof.Rows.callWith_type1 (thn (ha pos pins s σ H _ I h) fun us s1 ⟨vs,H1,I1,r1,q1⟩=>hc pins s1 σ H1 vs us Q I1 r1 q1) he hpl
end
end L2
namespace HT
open PySem PyProof.Rows
noncomputable def lexLt:List Int→List Int→Bool
 | [],[]=>false
 | [],_ :: _=>true
 | _ :: _,[]=>false
 | x :: xs,y :: ys=>if x=y then lexLt xs ys else decide (x<y)
theorem lexLt_cons (x y:Int) (xs ys:List Int):lexLt (x :: xs) (y :: ys)=if x=y then lexLt xs ys else decide (x<y):=rfl
theorem lexLt_nil_nil:lexLt [] []=false:=rfl
theorem lexLt_nil_cons (y:Int) (ys:List Int):lexLt [] (y :: ys)=true:=rfl
theorem lexLt_cons_nil (x:Int) (xs:List Int):lexLt (x :: xs) []=false:=rfl
theorem eqAt_int (A:Around) (s:Shared) (a:Int) (t:Tok) (c:Int) (u:Tok):∃ e,SeqAt.EqAt A s (.int a t) (.int c u) e∧(e=true↔a=c) :=
 ⟨(a == c),SeqAt.EqAt.int_int a t c u,by simp⟩
theorem rcLt_int (A:Around) (s:Shared) (a:Int) (t:Tok) (c:Int) (u:Tok) (prog:Program) (w:World) (E:Value→Shared→Prop) (Q:Value→Shared→Prop) (h:Q (.bool (decide (a<c))) s) :
 wpAny (model prog w) A (richCompare .Lt (.int a t) (.int c u)) Q E s :=
 (PyProof.Rows.lt_int h:wpAny (model prog w) A (compareOp .Lt (.int a t) (.int c u)) Q E s)
section
open PySem.SeqAt
open PySem.AutoSeq1 (wpAny_loadPart')
open PySem.MeetsSeq PySem.MeetsSeq2 PySem.MeetsSeq3
theorem tuple_lt_ints (l b:Addr) (items items2:Array Value) (n n2:Nat) (dd dd2:Option Addr) (sl sl2:Array (Option Value)) (ns ms:List Int) (hi:IntsAre items.toList ns) (hj:IntsAre items2.toList ms) :
 Meets (Builtin.«tuple.__lt__» ⟨[.ref l,.ref b],[]⟩)
  (fun _ R s=>s.heap.get? l=some { cls:=.type "tuple",dict:=dd,data:=.seq items n,slots:=sl }∧s.heap.get? b=some { cls:=.type "tuple",dict:=dd2,data:=.seq items2 n2,slots:=sl2 } ∧
   R (.ok (.ret (.bool (lexLt ns ms)))) s) :=
 .of_wp fun prog w A R s h=>by
  obtain⟨hp,g,d,tk,os⟩:=s;obtain⟨hl,hb,h⟩:=h
  have f2:=AutoSeq1.sub_tuple_tuple
  have z1:items.size=ns.length:=by rw[← hi.length];simp
  have z2:items2.size=ms.length:=by rw[← hj.length];simp
  wp_walk using wpAny_loadPart' hl,wpAny_loadPart' hb,wpAny_forIn_list _ (fun rest b s'=>b.1=none∧s'=⟨hp,g,d,tk,os⟩∧∃ (vs ws:List Value) (ns' ms':List Int),rest=vs.zip ws ∧
   IntsAre vs ns'∧IntsAre ws ms'∧ns'.length+items2.size=ms'.length+items.size∧R (.ok (.ret (.bool (lexLt ns' ms')))) ⟨hp,g,d,tk,os⟩) _
  case turn =>
   rintro ⟨y,x⟩ rest b s' ⟨hb',rfl,vs,ws,ns',ms',hz,hvi,hwi,hlen,hR⟩
   cases hvi with
   | nil=>rw[List.zip_nil_left]at hz;cases hz
   | cons a t hvi' =>
    cases hwi with
    | nil=>rw[List.zip_nil_right]at hz;cases hz
    | cons c u hwi' =>
     rw[List.zip_cons_cons]at hz
     injection hz with hyx hrest
     injection hyx with hy hx
     subst hy hx
     rw[lexLt_cons]at hR
     simp only[List.length_cons]at hlen
     obtain⟨e,he,hiff⟩:=eqAt_int A.in1 ⟨hp,g,d,tk,os⟩ a t c u
     refine wpAny_bind (he prog w _ _ ?_)
     cases e with
     | true =>
      rw[if_pos (hiff.mp rfl)]at hR
      wp_walk
      exact⟨rfl,rfl,_,_,_,_,hrest,hvi',hwi',by omega,hR⟩
     | false =>
      rw[if_neg (fun q=>absurd (hiff.mpr q) Bool.false_ne_true)]at hR
      have hri:=rcLt_int A.in1 ⟨hp,g,d,tk,os⟩ a t c u prog w
      wp_walk using hri
      exact⟨_,rfl,by simpa using hR⟩
  case fin =>
   rintro ⟨b1,b2⟩ s' ⟨hb',rfl,vs,ws,ns',ms',hz,hvi,hwi,hlen,hR⟩
   simp only at hb'
   subst hb'
   have hv:lexLt ns' ms'=decide (items.size<items2.size):=by
    cases hvi with
    | nil =>
     cases hwi with
     | nil =>
      simp only[List.length_nil]at hlen
      rw[lexLt_nil_nil]
      exact(decide_eq_false (by omega)).symm
     | cons c u hw =>
      simp only[List.length_nil,List.length_cons]at hlen
      rw[lexLt_nil_cons]
      exact(decide_eq_true (by omega)).symm
    | cons a t hv =>
     cases hwi with
     | nil =>
      simp only[List.length_nil,List.length_cons]at hlen
      rw[lexLt_cons_nil]
      exact(decide_eq_false (by omega)).symm
     | cons c u hw =>
      rw[List.zip_cons_cons]at hz
      cases hz
   rw[hv]at hR
   wp_walk
   exact⟨_,rfl,by simpa[Builtin.Tuple.tupleCompareSizes]using hR⟩
  case h =>
   exact⟨rfl,rfl,items.toList,items2.toList,ns,ms,rfl,hi,hj,by omega,h⟩
end
section
variable {prog:Program} {w:World} {A:Around} {E:Value→Shared→Prop} {s:Shared}
theorem lt_tupInts {l b:Addr} {items items2:Array Value} {ns ms:List Int} {Q:Value→Shared→Prop} (hl:IsTup s.heap l items) (hb:IsTup s.heap b items2) (hi:IntsAre items.toList ns) (hj:IntsAre items2.toList ms)
 (hu:A.units<cLine) (h:Q (.bool (lexLt ns ms)) s):wpAny (model prog w) A (compareOp .Lt (.ref l) (.ref b)) Q E s:=by
 obtain⟨⟨cls,dd,data,sl⟩,ho,hc,n,hd⟩:=id hl
 obtain⟨⟨cls2,dd2,data2,sl2⟩,ho2,hc2,n2,hd2⟩:=id hb
 simp only at hc hd hc2 hd2
 subst hc hd hc2 hd2
 exact richCompare_meets_room (op:=.Lt) ⟨_,ho,rfl⟩ ⟨_,ho2,rfl⟩ PySem.F.slot_tuple_lt PySem.F.entry_tuple_lt (PySem.F.args_tuple_lt_2 _ _) (tuple_lt_ints l b items items2 n n2 dd dd2 sl sl2 ns ms hi hj)
  ⟨ho,ho2,show Value.bool (lexLt ns ms)≠Value.notImplemented∧Q (.bool (lexLt ns ms)) s from ⟨(fun x=>nomatch x),h⟩⟩ hu
noncomputable def sIx (n d:Nat):Option Int→Nat
 | none=>d
 | some v=>if v<0 then (v+(n:Int)).toNat else min v.toNat n
theorem sIx_none (n d:Nat):sIx n d none=d:=rfl
theorem sIx_nat (n d k:Nat):sIx n d (some (k:Int))=min k n:=by
 show (if (k:Int)<0 then ((k:Int)+(n:Int)).toNat else min (k:Int).toNat n)=min k n
 rw[if_neg (by omega),Int.toNat_natCast]
end
end HT
namespace L2
open PySem PySem.Spec PyProof.Rows
noncomputable abbrev TO:=St→Hp→(Option Int→Hp→Prop)→Prop
noncomputable def PO (X:Cx) (e:Option Expr) (t:TO):Prop :=
 ∀ (pins:List (Addr×Obj)) (s:Shared) (σ:St) (H:Hp) (Q:Option Int→Hp→Prop),Inv X pins σ H s→t σ H Q →
  wpAny (model X.prog X.w) X.A (evalPart e X.env) (fun u s'=>∃ o H',Inv X pins σ H' s'∧IsPart u o∧Q o H') X.xe s
noncomputable def tNoPart:TO:=fun _ H Q=>Q none H
noncomputable def tPart (t:TE):TO:=fun σ H Q=>t σ H fun x H1=>∃ i,x=.int i∧Q (some i) H1
theorem intsAre_of {ns:List Int}:∀ {us:List Value},Vals (ns.map V.int) us→IntsAre us ns:=by
 induction ns with
 | nil=>intro us r;rw[List.map_nil]at r;cases r;exact .nil
 | cons n ns ih =>
  intro us r
  rw[List.map_cons]at r
  cases r with
  | cons r1 r2 =>
   obtain⟨t,e⟩:=r1
   subst e
   exact .cons n t (ih r2)
section
variable {X:Cx} {e:Expr} {te:TE} {lo hi:Option Expr} {tl th:TO} {pos p2:Pos}
theorem po_none:PO X none tNoPart:=by
 intro pins s σ H Q I h
 rw[evalPart_none]
 exact wpAny_pure ⟨none,H,I,.none,h⟩
theorem po_some (h:PE X e te):PO X (some e) (tPart te):=by
 intro pins s σ H Q I hw
 rw[evalPart_some]
 refine thn (h pins s σ H _ I hw) fun u s1 ⟨x,H1,I1,r1,q1⟩=>?_
 obtain⟨i,rfl,q⟩:=q1
 obtain⟨t,rfl⟩:=r1
 exact⟨some i,H1,I1,.int i t,q⟩
noncomputable def SlR (X:Cx) (r:V→Option Int→Option Int→Hp→VK→Prop):Prop :=
 ∀ (pins:List (Addr×Obj)) (s:Shared) (σ:St) (H:Hp) (x:V) (v vl vu:Value) (lo hi:Option Int) (sl:Addr) (Q:VK),Inv X pins σ H s→RelV x v→s.heap.IsSliceOf sl vl vu .none→IsPart vl lo→IsPart vu hi→r x lo hi H Q →
  ∃ T id,typeLookup (.type T) "__getitem__"=pure (some (.builtin id))∧s.TypeIs v T∧wpAny (model X.prog X.w) X.A (getItem v (.ref sl)) (EP X pins σ Q) X.xe s
noncomputable def tSl (r:V→Option Int→Option Int→Hp→VK→Prop) (te:TE) (tl th:TO):TE:=fun σ H Q=>te σ H fun x H1=>tl σ H1 fun l H2=>th σ H2 fun u H3=>r x l u H3 Q
theorem pe_slice {r:V→Option Int→Option Int→Hp→VK→Prop} (hr:SlR X r) (he:PE X e te) (hl:PO X lo tl) (hu:PO X hi th):PE X (.Subscript e (.Slice lo hi none p2) pos) (tSl r te tl th):=by
 intro pins s σ H Q I h
 refine Subscript_ (thn (he pins s σ H _ I h) fun v s1 ⟨x,H1,I1,r1,q1⟩=>?_)
 refine wpAny_Slice (thn (hl pins s1 σ H1 _ I1 q1) fun vl s2 ⟨l,H2,I2,pl,q2⟩=>thn (hu pins s2 σ H2 _ I2 q2) fun vu s3 ⟨u,H3,I3,pu,q3⟩=>?_)
 rw[evalPart_none]
 refine wpAny_pure ?_
 have I4:Inv X pins σ H3 { s3 with heap:=s3.heap.push { cls:=.type "slice",data:=.fields #[vl,vu,.none] } }:=I3.kept (t':=s3.toks) fun b ob q=>Heap.get?_push_of_some _ q
 obtain⟨T,id,hT,ht,hg⟩:=hr pins { s3 with heap:=s3.heap.push { cls:=.type "slice",data:=.fields #[vl,vu,.none] } } σ H3 x v vl vu l u s3.heap.objs.size Q I4 r1 (Heap.IsSliceOf.new ..) pl pu q3
 show wpAny (model X.prog X.w) X.A (subscriptTail e (.Slice lo hi none p2) v (.ref s3.heap.objs.size)) (EP X pins σ Q) X.xe { s3 with heap:=s3.heap.push { cls:=.type "slice",data:=.fields #[vl,vu,.none] } }
 exact tail_any (ops:=[.ref s3.heap.objs.size,v]) ht hT hg (by with_unfolding_all rfl)
noncomputable def cutV (xs:List V) (lo hi:Option Int):List V:=(xs.drop (HT.sIx xs.length 0 lo)).take (HT.sIx xs.length xs.length hi - HT.sIx xs.length 0 lo)
theorem cutV_length (xs:List V) (lo hi:Option Int):(cutV xs lo hi).length≤xs.length:=by
 unfold cutV
 rw[List.length_take,List.length_drop]
 omega
end
end L2
namespace L2
open PySem PySem.Spec PyProof.Rows
noncomputable def ixN (n:Nat) (i:Int):Option Nat:=if 0≤i then (if i<n then some i.toNat else none)else if -(n:Int)≤i then some (i+n).toNat else none
noncomputable def atI {α:Type} (xs:List α) (i:Int):Option α:=(ixN xs.length i).bind fun j=>xs[j]?
theorem ixN_seq {n:Nat} {i:Int} {j:Nat} (h:ixN n i=some j):seqIndex? i n=some j∧j<n∧-(n:Int)≤i∧i<n:=by
 unfold ixN at h
 by_cases h0:0≤i
 ·rw[if_pos h0]at h
  by_cases h1:i<n
  ·rw[if_pos h1]at h
   have e:i.toNat=j:=Option.some.inj h
   exact⟨by rw[seqIndex_of h0 h1,e],by omega,by omega,h1⟩
  ·rw[if_neg h1]at h;cases h
 ·rw[if_neg h0]at h
  by_cases h1:-(n:Int)≤i
  ·rw[if_pos h1]at h
   have e:(i+n).toNat=j:=Option.some.inj h
   exact⟨by rw[seqIndex_neg (by omega) h1,e],by omega,h1,by omega⟩
  ·rw[if_neg h1]at h;cases h
theorem atI_get {α:Type} {xs:List α} {i:Int} {v:α} (h:atI xs i=some v):∃ j,seqIndex? i xs.length=some j∧xs[j]?=some v∧j<xs.length∧-(xs.length:Int)≤i∧i<xs.length:=by
 unfold atI at h
 cases e:ixN xs.length i with
 | none=>rw[e]at h;cases h
 | some j =>
  rw[e]at h
  obtain⟨h1,h2,h3,h4⟩:=ixN_seq e
  exact⟨j,h1,h,h2,h3,h4⟩
theorem atI_nat {α:Type} {xs:List α} {j:Nat} {v:α} (h:xs[j]?=some v):atI xs (j:Int)=some v:=by
 have hj:j<xs.length:=(List.getElem?_eq_some_iff.mp h).1
 have e:ixN xs.length (j:Int)=some j:=by
  unfold ixN
  rw[if_pos (by omega),if_pos (by omega)];simp
 unfold atI;rw[e];exact h
theorem atI_last {α:Type} (xs:List α) (v:α):atI (xs++[v]) (-1)=some v:=by
 have hl:(xs++[v]).length=xs.length+1:=by simp
 have e:ixN (xs++[v]).length (-1)=some xs.length:=by
  unfold ixN
  rw[hl,if_neg (by decide),if_pos (by omega)]
  congr 1
  omega
 unfold atI
 rw[e]
 show (xs++[v])[xs.length]?=some v
 simp
noncomputable def PlainIx (b:Expr):Prop:=∀ o i,subscripted b false o i=operate [o,i] (getItem o i)
noncomputable def IxR (X:Cx) (r:R2):Prop :=
 ∀ (value slice:Expr) (pins:List (Addr×Obj)) (s:Shared) (σ:St) (H:Hp) (x y:V) (v u:Value) (Q:VK),Inv X pins σ H s→RelV x v→RelV y u→r x y H Q →
  subscripted slice false v u=operate [v,u] (getItem v u)→wpAny (model X.prog X.w) X.A (subscriptTail value slice v u) (EP X pins σ Q) X.xe s
noncomputable def MtR (X:Cx) (id:String) (r:V→List V→Hp→VK→Prop):Prop :=
 ∀ (pins:List (Addr×Obj)) (s:Shared) (σ:St) (H:Hp) (x:V) (xs:List V) (v:Value) (us:List Value) (Q:VK),Inv X pins σ H s→RelV x v→Vals xs us→r x xs H Q →
  wpAny (model X.prog X.w) X.A (call (.builtin id) (v :: us)) (EP X pins σ Q) X.xe s
section
variable {X:Cx} {a b:Expr} {ta tb:TE} {pos:Pos}
theorem pe_ix {r:R2} (hr:IxR X r) (ha:PE X a ta) (hb:PE X b tb) (hs:PlainIx b):PE X (.Subscript a b pos) (tOp r ta tb):=by
 intro pins s σ H Q I h
 exact Subscript_ (binT ha hb I h fun v u s2 x y H2 I2 rx ry q=>hr a b pins s2 σ H2 x y v u Q I2 rx ry q (hs _ _))
noncomputable def rIxL (K:PySem.W.Frag):R2:=fun x y H Q=>∃ p xs i v,x=.ref p∧y=.int i∧SqL K H p xs∧atI xs i=some v∧Q v H
noncomputable def rIxT (K:PySem.W.Frag):R2:=fun x y H Q=>∃ p xs i v,x=.ref p∧y=.int i∧SqT K H p xs∧atI xs i=some v∧Q v H
theorem ix_list:IxR X (rIxL X.K):=by
 intro value slice pins s σ H x y v u Q I rx ry h hs
 obtain⟨p,xs,i,z,rfl,rfl,hq,he,q⟩:=h
 cases rx
 obtain⟨t,rfl⟩:=ry
 obtain⟨its,r,pl,hz⟩:=I.list hq
 obtain⟨j,h1,h2,h3,h4,h5⟩:=atI_get he
 obtain⟨w,ew,rw'⟩:=r.get h2
 have hl:=r.length
 have hn:=line63
 have fin:EP X pins σ Q w s:=⟨z,H,I,rw',q⟩
 by_cases h0:0≤i
 ·have hj:i.toNat=j:=by
   rw[seqIndex_of h0 h5]at h1
   exact Option.some.inj h1
  exact item_listR pl.isList h0 (by omega) (by rw[hj];simpa using ew) fin hs
 ·have hj:(i+(its.toArray.size:Int)).toNat=j:=by
   rw[seqIndex_neg (by omega) h4]at h1
   rw[List.size_toArray,← hl]
   exact Option.some.inj h1
  exact subscriptTail_builtinR (x:=w) pl.isList.typeIs slot_list_getitem.lookup
   (wpAny_getItem_list_neg (Q:=fun r s'=>r=w∧EP X pins σ Q r s') pl.isList (by omega) (by rw[List.size_toArray] <;> omega) (by omega) (by rw[hj];simpa using ew) ⟨rfl,fin⟩) hs
theorem ix_tup:IxR X (rIxT X.K):=by
 intro value slice pins s σ H x y v u Q I rx ry h hs
 obtain⟨p,xs,i,z,rfl,rfl,hq,he,q⟩:=h
 cases rx
 obtain⟨t,rfl⟩:=ry
 obtain⟨its,r,pl,hz⟩:=I.tuple hq
 obtain⟨j,h1,h2,h3,h4,h5⟩:=atI_get he
 obtain⟨w,ew,rw'⟩:=r.get h2
 have hl:=r.length
 have hn:=line63
 have fin:EP X pins σ Q w s:=⟨z,H,I,rw',q⟩
 exact subscriptTail_builtinR (x:=w) pl.typeIs slot_tuple_getitem.lookup
  (getItem_tuple (j:=j) (Q:=fun r s'=>r=w∧EP X pins σ Q r s') pl (by omega) (by omega) (by rw[List.size_toArray,← hl];exact h1) (by simpa using ew) ⟨rfl,fin⟩) hs
theorem mapSeq_set (its:List Value) (n j:Nat) (u:Value):Obj.mapSeq (·.setIfInBounds j u) { cls:=.type "list",data:=.seq its.toArray n }={ cls:=.type "list",data:=.seq (its.set j u).toArray n }:=by
 simp[Obj.mapSeq]
theorem Inv.lst {pins:List (Addr×Obj)} {σ:St} {H:Hp} {s:Shared} {p:Addr} {xs:List V} (I:Inv X pins σ H s) (h:H p=some (.lst xs)) :
 ∃ (its:List Value) (n:Nat),Vals xs its∧s.heap.get? p=some { cls:=.type "list",data:=.seq its.toArray n }∧xs.length≤sizeLine:=by
 obtain⟨z,its,n,r,e⟩:=I.hok p _ h
 exact⟨its,n,r,e,z⟩
theorem Inv.lstUpd {pins:List (Addr×Obj)} {σ:St} {H:Hp} {s:Shared} {p:Addr} {xs ys:List V} {its its':List Value} {n n':Nat} {f:Obj→Obj} (I:Inv X pins σ H s) (h:H p=some (.lst xs))
 (ho:s.heap.get? p=some { cls:=.type "list",data:=.seq its.toArray n }) (hf:f { cls:=.type "list",data:=.seq its.toArray n }={ cls:=.type "list",data:=.seq its'.toArray n' }) (r:Vals ys its') (hz:ys.length≤sizeLine) (t:Nat) :
 Inv X pins σ (upd H p (.lst ys)) { s with heap:=s.heap.update p f,toks:=t }:=by
 have e:(s.heap.update p f).get? p=some { cls:=.type "list",data:=.seq its'.toArray n' }:=by
  rw[Heap.get?_update_self f ho (by rw[hf] <;> rfl),hf]
 refine I.write (x:=p) (e:=p) (by rw[h];trivial) (.inl rfl) (fun b u hb q=>(Heap.get?_update_other _ _ (Ne.symm hb)).trans q) ⟨_,e⟩ ?_
 exact⟨hz,its',n',r,e⟩
noncomputable def rSetL:V→V→V→Hp→(Hp→Prop)→Prop:=fun o i v H Q=>∃ p xs k j,o=.ref p∧i=.int k∧H p=some (.lst xs)∧ixN xs.length k=some j∧Q (upd H p (.lst (xs.set j v)))
theorem set_list:PSet X rSetL:=by
 intro pins s σ H o i v ov iv u Q I ro ri rv h
 obtain⟨p,xs,k,j,rfl,rfl,hp,hj,q⟩:=h
 cases ro
 obtain⟨t,rfl⟩:=ri
 obtain⟨its,n,r,ho,hz⟩:=I.lst hp
 obtain⟨h1,h2,h3,h4⟩:=ixN_seq hj
 have hl:=r.length
 have hn:=line63
 have I':Inv X pins σ (upd H p (.lst (xs.set j v))) { s with heap:=s.heap.update p (Obj.mapSeq (·.setIfInBounds j u)) } :=
  I.lstUpd hp ho (mapSeq_set its n j u) (r.set rv j) (by rw[List.length_set];exact hz) s.toks
 by_cases h0:0≤k
 ·have hk:k.toNat=j:=by
   rw[seqIndex_of h0 h4]at h1
   exact Option.some.inj h1
  exact PySem.W.ki_setAt ho h0 (by omega) (by rw[List.size_toArray,← hl];exact h4) (by rw[hk];exact⟨_,I',q⟩)
 ·have hk:(k+(its.toArray.size:Int)).toNat=j:=by
   rw[seqIndex_neg (by omega) h3]at h1
   rw[List.size_toArray,← hl]
   exact Option.some.inj h1
  exact PySem.W.ki_setBack ho (by omega) (by rw[List.size_toArray,← hl];exact h3) (by omega) (by rw[hk];exact⟨_,I',q⟩)
theorem slice_bounds (lo hi:Option Int) (n:Nat):(sliceBounds lo hi none n).1=((HT.sIx n 0 lo:Nat):Int)∧(sliceBounds lo hi none n).2.1=((HT.sIx n n hi:Nat):Int)∧(sliceBounds lo hi none n).2.2=1:=by
 refine⟨?_,?_,rfl⟩
 ·cases lo with
  | none=>simp[sliceBounds,HT.sIx]
  | some i =>
   simp only[sliceBounds,HT.sIx,Option.getD_none,show (1:Int) > 0 by decide,if_true]
   by_cases h:i<0
   ·simp only[h,if_true] <;> omega
   ·simp only[h,if_false] <;> omega
 ·cases hi with
  | none=>simp[sliceBounds,HT.sIx]
  | some i =>
   simp only[sliceBounds,HT.sIx,Option.getD_none,show (1:Int) > 0 by decide,if_true]
   by_cases h:i<0
   ·simp only[h,if_true] <;> omega
   ·simp only[h,if_false] <;> omega
theorem slicePick_cut (its:List Value) (lo hi:Option Int):slicePick its.toArray lo hi none=((its.drop (HT.sIx its.length 0 lo)).take (HT.sIx its.length its.length hi - HT.sIx its.length 0 lo)).toArray:=by
 obtain⟨h1,h2,h3⟩:=slice_bounds lo hi its.toArray.size
 unfold slicePick
 rw[h1,h2,h3]
 simp only[sliceRange_one,pick_run,List.size_toArray] <;> rfl
noncomputable def rSlL (K:PySem.W.Frag):V→Option Int→Option Int→Hp→VK→Prop:=fun x lo hi H Q=>∃ a xs,x=.ref a∧SqL K H a xs∧∀ p,H p=none→Q (.ref p) (upd H p (.lst (cutV xs lo hi)))
theorem sl_list:SlR X (rSlL X.K):=by
 intro pins s σ H x v vl vu lo hi sl Q I rx hs pl pu h
 obtain⟨a,xs,rfl,hx,q⟩:=h
 cases rx
 obtain⟨its,r,ht,hz⟩:=I.list hx
 have hlen:=r.length
 refine⟨"list",_,slot_list_getitem.lookup,ht.isList.typeIs,?_⟩
 refine wpAny_getItem_list_slice ht.isList hs pl pu .none (by simp) ?_ (by rw[List.size_toArray] <;> omega)
 rw[slicePick_cut,← hlen]
 refine⟨.ref s.heap.objs.size,_,I.laid (t':=s.toks) (o:=.lst (cutV xs lo hi)) (fun b ob q=>Heap.get?_push_of_some _ q) (Nat.le_refl _) ?_,rfl,q _ (I.hok.fresh (Nat.le_refl _))⟩
 exact⟨Nat.le_trans (cutV_length xs lo hi) hz,_,0,(r.drop (HT.sIx xs.length 0 lo)).take (HT.sIx xs.length xs.length hi - HT.sIx xs.length 0 lo),Heap.get?_push_size _ rfl⟩
theorem call_len_seq:CallR X (.builtin "len") (fun xs H Q=>∃ p ys,xs=[.ref p]∧(SqL X.K H p ys∨SqT X.K H p ys)∧Q (.int ys.length) H):=by
 intro pins s σ H xs us Q I r h
 obtain⟨p,ys,rfl,hq,q⟩:=h
 obtain⟨u,rfl,rx⟩:=vals1 r
 cases rx
 have hn:=line63
 rcases hq with hq | hq
 ·obtain⟨its,r',pl,hz⟩:=I.list hq
  have hlen:=r'.length
  exact Calls.call_len_list pl.isList (by simp only[List.size_toArray] <;> omega) ⟨.int ys.length,H,I.tok _,⟨s.toks+1,by rw[List.size_toArray,hlen]⟩,q⟩
 ·obtain⟨its,r',pl,hz⟩:=I.tuple hq
  have hlen:=r'.length
  exact len_tuple pl (by simp only[List.size_toArray] <;> omega) ⟨.int ys.length,H,I.tok _,⟨s.toks+1,by rw[List.size_toArray,hlen]⟩,q⟩
theorem call_list_of:CallR X (.type "list") (fun xs H Q=>∃ p ys,xs=[.ref p]∧(SqL X.K H p ys∨SqT X.K H p ys)∧∀ l,H l=none→Q (.ref l) (upd H l (.lst ys))):=by
 intro pins s σ H xs us Q I r h
 obtain⟨p,ys,rfl,hq,q⟩:=h
 obtain⟨u,rfl,rx⟩:=vals1 r
 cases rx
 have fin:∀ (its:List Value),Vals ys its→ys.length≤sizeLine→∀ (h':Heap) (c':Nat),(∀ b o',s.heap.get? b=some o'→h'.get? b=some o') →
  h'.get? s.heap.objs.size=some { cls:=.type "list",dict:=none,data:=.seq its.toArray c',slots:=#[] }→EP X pins σ Q (.ref s.heap.objs.size) { s with heap:=h' }:=fun its r' hz h' c' kp e =>
  ⟨.ref s.heap.objs.size,_,I.laid (t':=s.toks) kp (Nat.le_refl _) (show ObjOk X.prog X.w _ h' _ (.lst ys) from ⟨hz,its,c',r',e⟩),rfl,q _ (I.hok.fresh (Nat.le_refl _))⟩
 rcases hq with hq | hq
 ·obtain⟨its,r',pl,hz⟩:=I.list hq
  have hlen:=r'.length
  obtain⟨o,ho,hc,n,hd⟩:=pl.isList
  exact call_list_seq p (.inl rfl) ho hc hd (fun h' c' kp e=>fin its r' hz h' c' kp e) (by simp only[List.size_toArray] <;> omega)
 ·obtain⟨its,r',pl,hz⟩:=I.tuple hq
  have hlen:=r'.length
  obtain⟨o,ho,hc,n,hd⟩:=pl
  exact call_list_seq p (.inr rfl) ho hc hd (fun h' c' kp e=>fin its r' hz h' c' kp e) (by simp only[List.size_toArray] <;> omega)
theorem call_tuple_of:CallR X (.type "tuple") (fun xs H Q=>∃ p ys,xs=[.ref p]∧((SqL X.K H p ys∧∀ l,H l=none→Q (.ref l) (upd H l (.tup ys)))∨(SqT X.K H p ys∧Q (.ref p) H))):=by
 intro pins s σ H xs us Q I r h
 obtain⟨p,ys,rfl,h⟩:=h
 obtain⟨u,rfl,rx⟩:=vals1 r
 cases rx
 rcases h with ⟨hq,q⟩ | ⟨hq,q⟩
 ·obtain⟨its,r',pl,hz⟩:=I.list hq
  have hlen:=r'.length
  refine call_tuple_list pl.isList (fun h' kp=>?_) (by simp only[List.size_toArray] <;> omega)
  have I1:Inv X pins σ H { s with heap:=h' }:=I.kept (t':=s.toks) kp
  have I2:Inv X pins σ (upd H h'.objs.size (.tup ys)) { s with heap:=h'.push { cls:=.type "tuple",data:=.seq its.toArray } } :=
   I1.laid (t':=s.toks) (fun b o e=>Heap.get?_push_of_some _ e) (Nat.le_refl _) (show ObjOk X.prog X.w _ _ _ (.tup ys) from ⟨hz,its,r',IsTup.new _ _⟩)
  exact⟨.ref h'.objs.size,_,I2,rfl,q _ (I1.hok.fresh (Nat.le_refl _))⟩
 ·obtain⟨its,r',pl,hz⟩:=I.tuple hq
  exact call_tuple_same pl ⟨.ref p,H,I,rfl,q⟩
noncomputable def tyV (K:PySem.W.Frag) (T:String) (x:V) (H:Hp):Prop:=match x with
 | .str _=>T="str"
 | .int _=>T="int"
 | .ref p=>(T="list"∧∃ xs,SqL K H p xs)∨(T="tuple"∧∃ o,K.lookup p=some o∧o.cls=.type "tuple"∧o.dict=none) ∨
  (T="dict"∧((∃ kvs,H p=some (.dK kvs))∨∃ kvs,H p=some (.dT kvs)))∨(T="set"∧∃ S n,H p=some (.set S n))
 | _=>False
theorem tyV_is {pins:List (Addr×Obj)} {σ:St} {H:Hp} {s:Shared} {T:String} {x:V} {v:Value} (I:Inv X pins σ H s) (r:RelV x v) (ty:tyV X.K T x H) :
 s.TypeIs v T∧∀ a,v=.ref a→∃ ob,s.heap.get? a=some ob∧ob.dict=none:=by
 cases x with
 | str z =>
  obtain⟨t,rfl⟩:=r
  cases (show T="str" from ty)
  exact⟨typeIs_str s z t,fun _ e=>nomatch e⟩
 | int i =>
  obtain⟨t,rfl⟩:=r
  cases (show T="int" from ty)
  exact⟨typeIs_int s i t,fun _ e=>nomatch e⟩
 | ref p =>
  cases r
  rcases ty with ⟨rfl,xs,hq⟩ | ⟨rfl,o,hk,hc,hd⟩ | ⟨rfl,hk⟩ | ⟨rfl,S,n,hk⟩
  ·obtain⟨its,_,pl,_⟩:=I.list hq
   refine⟨pl.isList.typeIs,fun a e=>?_⟩
   cases e
   obtain⟨o,n,e,c,hd,_⟩:=pl
   exact⟨o,e,hd⟩
  ·refine⟨⟨o,I.kIn p o hk,hc⟩,fun a e=>?_⟩
   cases e
   exact⟨o,I.kIn _ o hk,hd⟩
  ·have z:∃ o,s.heap.get? p=some o∧o.ExactDict:=by
    rcases hk with ⟨kvs,hk⟩ | ⟨kvs,hk⟩
    ·obtain⟨_,_,_,_,o,_,_,e,ex,_⟩:=I.hok p _ hk
     exact⟨o,e,ex⟩
    ·obtain⟨_,_,_,_,o,_,_,e,ex,_⟩:=I.hok p _ hk
     exact⟨o,e,ex⟩
   obtain⟨o,e,ex⟩:=z
   refine⟨⟨o,e,ex.1⟩,fun a e2=>?_⟩
   cases e2
   exact⟨o,e,ex.2.1⟩
  ·obtain⟨o,_,_,_,e,ex,_⟩:=I.hok p _ hk
   refine⟨⟨o,e,ex.1⟩,fun a e2=>?_⟩
   cases e2
   exact⟨o,e,ex.2.1⟩
 | _=>exact False.elim ty
noncomputable def tBM0 (K:PySem.W.Frag) (T:String) (r:V→List V→Hp→VK→Prop) (to:TE):TE:=fun σ H Q=>to σ H fun x H1=>tyV K T x H1∧r x [] H1 Q
noncomputable def tBM (K:PySem.W.Frag) (T:String) (r:V→List V→Hp→VK→Prop) (to:TE) (t:TA):TE:=fun σ H Q=>to σ H fun x H1=>tyV K T x H1∧t σ H1 fun xs H2=>r x xs H2 Q
variable {o e:Expr} {es:List Expr} {to:TE} {t:TA} {name:Str} {apos cpos:Pos} {T id:String} {r:V→List V→Hp→VK→Prop}
theorem pe_bm0 (pa:PlainAttrs T) (slot:Slot T name id) (hty:typeOf (.builtin id)=pure (.type "method_descriptor")) (hm:MtR X id r) (ho:PE X o to)
 (hbase:attributeBase o name X.env (eval o X.env)=eval o X.env:=by rfl) (hline:(apos.endLine == cpos.line)=true:=by rfl):PE X (.Call (.Attribute o name apos) [] [] cpos) (tBM0 X.K T r to):=by
 intro pins s σ H Q I h
 refine wpAny_Call_method0_late hbase hline (thn (ho pins s σ H _ I h) fun v s1 ⟨x,H1,I1,r1,ty,q1⟩=>?_)
 obtain⟨h1,h2⟩:=tyV_is I1 r1 ty
 exact⟨T,id,pa,slot,hty,h1,h2,Calls.callWith_builtin rfl (PySem.evalArgs_none (hm pins s1 σ H1 x [] v [] Q I1 r1 .nil q1))⟩
theorem pe_bm (pa:PlainAttrs T) (slot:Slot T name id) (hty:typeOf (.builtin id)=pure (.type "method_descriptor")) (hm:MtR X id r) (ho:PE X o to) (ha:PA X (e :: es) t)
 (hbase:attributeBase o name X.env (eval o X.env)=eval o X.env:=by rfl)
 (hfew:((backTo cpos (starEach (e :: es) X.env)).all (fun x=>!x.1) && (backToKw cpos (keywordEach [] X.env)).all (fun x=>x.1.isSome)
  && decide ((e :: es).length+([]:List Keyword).length+(if ([]:List Keyword).isEmpty then 0 else 1)<30))=true:=by rfl)
 (hline:(apos.endLine == cpos.line)=true:=by rfl) (hs:starEach (e :: es) X.env=(false,eval e X.env) :: starEach es X.env:=by rfl) (hplain:(backTo cpos (starEach es X.env)).any (·.1)=false:=by rfl) :
 PE X (.Call (.Attribute o name apos) (e :: es) [] cpos) (tBM X.K T r to t):=by
 intro pins s σ H Q I h
 refine wpAny_Call_method_late hbase hfew hline rfl (thn (ho pins s σ H _ I h) fun v s1 ⟨x,H1,I1,r1,ty,q1⟩=>?_)
 obtain⟨h1,h2⟩:=tyV_is I1 r1 ty
 refine⟨T,id,pa,slot,hty,h1,h2,?_⟩
 have hA:=ha cpos pins s1 σ H1 _ I1 q1
 rw[hs]at hA ⊢
 refine Calls.callWith_builtin (by show (false || (backTo cpos (starEach es X.env)).any (·.1))=false;rw[hplain] <;> rfl) (Calls.evalArgs_plain ?_)
 exact thn hA fun us s2 ⟨vs,H2,I2,r2,q2⟩=>hm pins s2 σ H2 x vs v us Q I2 r1 r2 q2
/- xs.append(e),list.index on a module's tuple .. are MtR facts of 06m -/
end
end L2
namespace L2
open PySem PySem.Spec PyProof.Rows
noncomputable def MtM (X:Cx) (id:String) (r:V→List V→Hp→VK→Prop):Prop :=
 ∀ (pins:List (Addr×Obj)) (s:Shared) (σ:St) (H:Hp) (x:V) (xs:List V) (v:Value) (us:List Value) (Q:VK),Inv X pins σ H s→RelV x v→Vals xs us→r x xs H Q →
  wpAny (model X.prog X.w) X.A (call (.builtin id) (v :: us)) (EP X pins σ Q) X.xe s
theorem Vals.one:∀ {x:V} {us:List Value},Vals [x] us→∃ u,us=[u]∧RelV x u
 | _,_,.cons r .nil=>⟨_,rfl,r⟩
theorem Vals.two {x y:V} {us:List Value} (h:Vals [x,y] us):∃ u v,us=[u,v]∧RelV x u∧RelV y v:=by
 cases h with
 | cons r h =>
  obtain⟨u,e,q⟩:=Vals.one h
  exact⟨_,u,by rw[e],r,q⟩
theorem Vals.zero:∀ {us:List Value},Vals [] us→us=[]
 | _,.nil=>rfl
theorem Vals.dropLast {xs:List V} {us:List Value} (h:Vals xs us):Vals xs.dropLast us.dropLast:=by
 induction h with
 | nil=>exact .nil
 | cons r t ih =>
  cases t with
  | nil=>exact .nil
  | cons q t'=>exact .cons r ih
theorem Vals.eraseIdx:∀ {xs:List V} {us:List Value} (i:Nat),Vals xs us→Vals (xs.eraseIdx i) (us.eraseIdx i)
 | _,_,_,.nil=>.nil
 | _,_,0,.cons _ t=>t
 | _,_,i+1,.cons r t=>.cons r (Vals.eraseIdx i t)
theorem Vals.reverse {xs:List V} {us:List Value} (h:Vals xs us):Vals xs.reverse us.reverse:=by
 induction h with
 | nil=>exact .nil
 | cons r t ih=>rw[List.reverse_cons,List.reverse_cons];exact Vals.append ih (.cons r .nil)
theorem Vals.rep {xs:List V} {us:List Value} (h:Vals xs us):∀ k:Nat,Vals (List.replicate k xs).flatten (List.replicate k us).flatten
 | 0=>.nil
 | k+1=>by
  rw[List.replicate_succ,List.replicate_succ,List.flatten_cons,List.flatten_cons]
  exact Vals.append h (Vals.rep h k)
theorem erase_last {α:Type} (l:List α):l.eraseIdx (l.length - 1)=l.dropLast:=by
 induction l with
 | nil=>rfl
 | cons a r ih =>
  cases r with
  | nil=>rfl
  | cons b r =>
   have e:(a :: b :: r).length - 1=((b :: r).length - 1)+1:=by
    have h1:(a :: b :: r).length=r.length+2:=rfl
    have h2:(b :: r).length=r.length+1:=rfl
    omega
   rw[e,List.eraseIdx_cons_succ,ih]
   all_goals rfl
theorem foldl_rep (its:List Value):∀ (k:Nat) (acc:List Value),
 List.foldl (fun x1 x2=>x1++x2) acc.toArray (List.replicate k its.toArray)=(acc++(List.replicate k its).flatten).toArray
 | 0,acc=>by simp
 | k+1,acc=>by
  have e:acc.toArray++its.toArray=(acc++its).toArray:=by simp
  have e2:(acc++its)++(List.replicate k its).flatten=acc++(List.replicate (k+1) its).flatten:=by
   rw[List.replicate_succ,List.flatten_cons,List.append_assoc]
  rw[← e2,← foldl_rep its k (acc++its),← e,List.replicate_succ,List.foldl_cons]
section
variable {X:Cx} {pins:List (Addr×Obj)} {σ:St} {H:Hp} {s:Shared} {l b:Addr} {xs ys zs:List V}
theorem Inv.lset {its its':List Value} {n:Nat} {f:Array Value→Array Value} {t':Nat} (I:Inv X pins σ H s) (hH:H l=some (.lst xs))
 (e:s.heap.get? l=some { cls:=.type "list",data:=.seq its.toArray n }) (hf:f its.toArray=its'.toArray) (hv:Vals ys its') (hz:ys.length≤sizeLine) :
 Inv X pins σ (upd H l (.lst ys)) { s with heap:=s.heap.update l (Obj.mapSeq f),toks:=t' }:=by
 have q:=PySem.IsL.update e f
 rw[hf]at q
 refine I.write (x:=l) (e:=l) (by rw[hH];exact trivial) (.inl rfl) (fun b' u hb hu=>(Heap.get?_update_other s.heap (Obj.mapSeq f) (Ne.symm hb)).trans hu) ⟨_,q⟩ ?_
 exact⟨hz,its',_,hv,q⟩
theorem Inv.lnew {its:List Value} {t':Nat} (I:Inv X pins σ H s) (hv:Vals ys its) (hz:ys.length≤sizeLine) :
 Inv X pins σ (upd H s.heap.objs.size (.lst ys)) { s with heap:=s.heap.push { cls:=.type "list",data:=.seq its.toArray },toks:=t' } :=
 I.laid (fun _ _ q=>Heap.get?_push_of_some _ q) (Nat.le_refl _) ⟨hz,its,0,hv,Heap.get?_push_size _ rfl⟩
theorem Inv.fresh (I:Inv X pins σ H s):H s.heap.objs.size=none:=I.hok.fresh (Nat.le_refl _)
theorem Inv.lstM (I:Inv X pins σ H s) (hH:H l=some (.lst xs)):xs.length≤sizeLine∧∃ (its:List Value) (n:Nat),Vals xs its∧xs.length=its.length∧s.heap.get? l=some { cls:=.type "list",data:=.seq its.toArray n }:=by
 obtain⟨z,its,n,r,e⟩:=I.hok l _ hH
 exact⟨z,its,n,r,r.length,e⟩
theorem notLongL {n:Nat} (h:n≤sizeLine):Builtin.List.listTooLong n=false:=by
 unfold Builtin.List.listTooLong
 exact decide_eq_false (by omega)
end
section
variable {X:Cx}
noncomputable def rAppend:V→List V→Hp→VK→Prop:=fun x vs H Q=>∃ l xs y,x=.ref l∧vs=[y]∧H l=some (.lst xs)∧xs.length<sizeLine∧Q .non (upd H l (.lst (xs++[y])))
theorem mt_append:MtM X "list.append" rAppend:=by
 intro pins s σ H x vs v us Q I rx rv h
 obtain⟨l,xs,y,rfl,rfl,hH,hz,q⟩:=h
 cases rx
 obtain⟨u,rfl,ru⟩:=rv.one
 obtain⟨z,its,n,r,hl,e⟩:=I.lstM hH
 refine call_meets F.slot_list_append ⟨_,e,rfl⟩ F.entry_list_append (F.args_list_append_2 _ _) (PySem.list_append l its.toArray n u (by rw[List.size_toArray];omega)) ⟨e,?_⟩
 refine⟨.non,_,I.lset (its':=its++[u]) hH e (by simp) (r.append (.cons ru .nil)) ?_,rfl,q⟩
 rw[List.length_append,List.length_singleton]
 omega
noncomputable def rExtend:V→List V→Hp→VK→Prop:=fun x vs H Q=>∃ l b xs zs,x=.ref l∧vs=[.ref b]∧H l=some (.lst xs)∧H b=some (.lst zs)∧xs.length+zs.length≤sizeLine∧Q .non (upd H l (.lst (xs++zs)))
theorem mt_extend:MtM X "list.extend" rExtend:=by
 intro pins s σ H x vs v us Q I rx rv h
 obtain⟨l,b,xs,zs,rfl,rfl,hH,hB,hz,q⟩:=h
 cases rx
 obtain⟨u,rfl,ru⟩:=rv.one
 cases ru
 obtain⟨z,its,n,r,hl,e⟩:=I.lstM hH
 obtain⟨z2,its2,n2,r2,hl2,e2⟩:=I.lstM hB
 have hsz:its.toArray.size+its2.toArray.size≤sizeLine:=by rw[List.size_toArray,List.size_toArray];omega
 have hlong:¬ (!its.toArray.isEmpty && Builtin.List.listTooLong (its.toArray.size+its2.toArray.size))=true:=by
  rw[notLongL hsz,Bool.and_false]
  exact Bool.false_ne_true
 refine call_meets F.slot_list_extend ⟨_,e,rfl⟩ F.entry_list_extend (F.args_list_extend_2 _ _)
  (AutoSeq1.list_extend_list_list_0 l its.toArray n b its2.toArray n2 hlong (by rw[List.size_toArray];omega) (by omega)) ⟨e,e2,?_⟩
 refine⟨.non,_,I.lset (its':=its++its2) hH e (by simp) (r.append r2) ?_,rfl,q⟩
 rw[List.length_append]
 omega
noncomputable def rPop:V→List V→Hp→VK→Prop:=fun x vs H Q=>∃ l xs y,x=.ref l∧vs=[]∧H l=some (.lst xs)∧xs[xs.length - 1]?=some y∧Q y (upd H l (.lst xs.dropLast))
theorem mt_pop:MtM X "list.pop" rPop:=by
 intro pins s σ H x vs v us Q I rx rv h
 obtain⟨l,xs,y,rfl,rfl,hH,hy,q⟩:=h
 cases rx
 have hus:=rv.zero
 subst hus
 obtain⟨z,its,n,r,hl,e⟩:=I.lstM hH
 obtain⟨u,hu,ru⟩:=r.get hy
 have hy':its.toArray[its.toArray.size - 1]?=some u:=by
  show its.toArray[its.length - 1]?=some u
  rw[← Array.getElem?_toList,← hl]
  exact hu
 refine call_meets F.slot_list_pop ⟨_,e,rfl⟩ F.entry_list_pop (F.args_list_pop_1 _) (MeetsSeq.list_pop_last l its.toArray n u hy' (by rw[List.size_toArray];omega)) ⟨e,?_⟩
 refine⟨y,_,I.lset (its':=its.dropLast) hH e ?_ r.dropLast ?_,ru,q⟩
 ·show its.toArray.eraseIdxIfInBounds (its.toArray.size - 1)=its.dropLast.toArray
  rw[List.size_toArray,List.eraseIdxIfInBounds_toArray,erase_last]
 ·rw[List.length_dropLast]
  omega
noncomputable def rCat:R2:=fun x y H Q=>∃ l b xs zs,x=.ref l∧y=.ref b∧H l=some (.lst xs)∧H b=some (.lst zs)∧xs.length+zs.length≤sizeLine∧∀ p,H p=none→Q (.ref p) (upd H p (.lst (xs++zs)))
theorem op_cat:OpR X (binaryOp .Add) rCat:=by
 intro pins s σ H x y v u Q I rx ry h
 obtain⟨l,b,xs,zs,rfl,rfl,hH,hB,hz,q⟩:=h
 cases rx
 cases ry
 obtain⟨z,its,n,r,hl,e⟩:=I.lstM hH
 obtain⟨z2,its2,n2,r2,hl2,e2⟩:=I.lstM hB
 refine PySem.P.add_list e e2 ?_ (by rw[List.size_toArray,List.size_toArray];omega)
 have ea:its.toArray++its2.toArray=(its++its2).toArray:=by simp
 rw[ea]
 exact⟨.ref _,_,I.lnew (t':=s.toks) (r.append r2) (by rw[List.length_append];omega),rfl,q _ I.fresh⟩
noncomputable def rRep:R2:=fun x y H Q=>∃ l k xs,x=.ref l∧y=.int k∧H l=some (.lst xs)∧-(2 ^ 63)≤k∧k<2 ^ 63∧xs.length * k.toNat≤sizeLine ∧
 ∀ p,H p=none→Q (.ref p) (upd H p (.lst (List.replicate k.toNat xs).flatten))
theorem len_rep {α:Type} (xs:List α) (k:Nat):(List.replicate k xs).flatten.length=k * xs.length:=by
 induction k with
 | zero=>simp
 | succ k ih=>rw[List.replicate_succ,List.flatten_cons,List.length_append,ih,Nat.succ_mul,Nat.add_comm]
theorem op_rep:OpR X (binaryOp .Mult) rRep:=by
 intro pins s σ H x y v u Q I rx ry h
 obtain⟨l,k,xs,rfl,rfl,hH,h1,h2,hz,q⟩:=h
 cases rx
 obtain⟨t,rfl⟩:=ry
 obtain⟨z,its,n,r,hl,e⟩:=I.lstM hH
 have hlen:its.toArray.size * k.toNat≤sizeLine:=by rw[List.size_toArray,← hl];exact hz
 have hcap:¬ its.toArray.size * k.toNat > (2 ^ 63 - 1) / 8:=by
  have:(sizeLine:Nat)≤(2 ^ 63 - 1) / 8:=by decide
  omega
 have hfit:¬ (!Builtin.List.listFitsIndex k)=true:=by
  rw[fitsIndex_both h1 h2]
  exact Bool.false_ne_true
 have hlong:¬ Builtin.List.listTooLong (its.toArray.size * k.toNat)=true:=by
  rw[notLongL hlen]
  exact Bool.false_ne_true
 have hnew:List.foldl (fun x1 x2=>x1++x2) #[] (List.replicate (if its.toArray.isEmpty=true then 0 else k.toNat) its.toArray)=(List.replicate k.toNat its).flatten.toArray:=by
  have f0:∀ m:Nat,List.foldl (fun x1 x2=>x1++x2) #[] (List.replicate m its.toArray)=(List.replicate m its).flatten.toArray:=fun m=>by
   have:=foldl_rep its m []
   rw[List.nil_append]at this
   exact this
  rw[f0]
  cases its with
  | nil=>simp
  | cons a r'=>rw[if_neg (by simp)]
 refine wpAny_binaryOp_repeat_ref (T:="list") (U:="int") (by decide) ⟨_,e,rfl⟩ (fun s'=>typeIs_int s' k t) noFill_list_mul F.fills_int_mul F.slot_int_rmul repeat_list F.slot_int_index.lookup
  (call_meets F.slot_int_rmul (typeIs_int s k t) F.entry_int_rmul (F.args_int_rmul_2 _ _) (int___rmul___int_list k t l its.toArray n)
   ⟨e,rfl,⟨_,e,rfl⟩,call_meets F.slot_list_mul ⟨_,e,rfl⟩ F.entry_list_mul (F.args_list_mul_2 _ _) (AutoListH.list___mul___list_int_3 l its.toArray n k t hfit hcap hlong) ⟨e,?_⟩⟩)
 rw[hnew]
 exact⟨.ref _,_,I.lnew (t':=s.toks) (r.rep k.toNat) (by rw[len_rep,Nat.mul_comm];exact hz),rfl,q _ I.fresh⟩
end
section
variable {prog:Program} {w:World} {A:Around} {E:Value→Shared→Prop} {s:Shared}
end
section
variable {X:Cx}
end
end L2
namespace Att
open PySem PySem.W PySem.Calls PyProof.Rows
theorem ints_of_wellAll {P:Params} {h:Heap}:∀ (ns:List Int) (vs:List Value),WellAll P h vs (ns.map WData.int)→IntsAre vs ns:=by
 intro ns
 induction ns with
 | nil =>
  intro vs w
  rw[List.map_nil]at w
  cases w
  exact .nil
 | cons n ns ih =>
  intro vs w
  rw[List.map_cons]at w
  cases w with
  | cons a b =>
   cases a
   exact .cons _ _ (ih _ b)
theorem script_of {l:OpenLaw} {n:Nat} (hn:l.most=some n) {P:Params} {h:Heap} {args:List WData} {vals:List Value}
 (hpre:l.row.toRowW.claim.pre args=true) (hwl:WellAll P h vals args) :
 ∃ a vs ns,vals=[Value.ref a]∧args=[WData.list (ns.map WData.int)]∧h.get? a=some { cls:=.type "list",data:=.seq vs.toArray }∧IntsAre vs ns∧ns.length≤n:=by
 have hsh:WShape.hasAll [] args [.list .int]=true:=(pre_splitW hpre).1
 have hc:l.pre.holds [] { args:=args }=true:=(pre_splitW hpre).2
 obtain⟨d,r,rfl,h1,h2⟩:=hasAllW_cons hsh
 obtain rfl:=hasAllW_nil h2
 obtain⟨xs,rfl,h3⟩:=hasW_list h1
 obtain⟨ns,rfl⟩:=items_int h3
 have hlen:ns.length≤n:=by
  unfold OpenLaw.pre at hc
  have h4:(WTm.not (.lt (.lit (.int (n:Int))) (.len (.arg 0)))).holds [] { args:=[.list (ns.map .int)] }=true:=by
   have h4:=(holds_andW hc).1
   rw[hn]at h4
   exact h4
  have h5:=condW_of h4 (w_not (w_lt w_lit (w_len_list (w_arg rfl))))
  rw[List.length_map]at h5
  refine Nat.le_of_not_lt fun q=>?_
  have q':(n:Int)<((ns.length:Nat):Int):=by omega
  first
   | (rw[decide_eq_true q']at h5;exact absurd h5 (by decide))
   | (simp at h5;omega)
 cases hwl with
 | cons w1 w2 =>
  cases w2
  cases w1 with
  | list ho hall=>exact⟨_,_,ns,rfl,rfl,ho,ints_of_wellAll ns _ hall,hlen⟩
theorem post_true (l:OpenLaw) (args:List WData):l.row.toRowW.claim.post args (.bool true) args=true :=
 postW_of (r:=l.row.toRowW) (X:=(true == true))
  (show WShape.has [] (.bool true) .bool=true by first | rfl | decide | simp[WShape.has,WShape.arms,WShape.armsAll])
  (show (WTm.eq .res (.lit (.bool true))).value [] { args:=args,res:=some (.bool true),after:=args }=some (.bool (true == true)) from w_eq_bool (w_res rfl) w_lit) rfl
theorem attach_call {l:OpenLaw} {n:Nat} {q:Program} {loose:List Str} {XP:(Str→Option Value)→Heap→Prop} {YP:World→Heap→Prop} {d:DefRec}
 (hn:l.most=some n) (hdf:d.params.defaults=[])
 (call:∀ (w:World) (s₀ s₁:Shared) (mg mb:Str→Option Value) (fa:Addr) (o:Obj) (pm cd doc:Value) (a:Addr) (vs:List Value) (ns:List Int),
  Ground q loose [] XP w s₀ mg mb s₁.heap→YP w s₁.heap →
  s₁.heap.get? fa=some o→o.data=.func (docDef d.name d.params d.body d.scope pm cd doc)→s₁.heap.CodeRec cd d.name→mg d.name=some (.ref fa) →
  s₁.heap.get? a=some { cls:=.type "list",data:=.seq vs.toArray }→IntsAre vs ns→ns.length≤n→s₁.gens=#[] →
  codeAny (model l.prog w) callerA (.call (.ref fa) ⟨[.ref a],[]⟩) (fun r s'=>r=.ok (.ret (.bool true))∧OldK s₁.heap s'.heap∧s'.os=s₁.os∧AllBare s'.gens) s₁) :
 WalkO q loose XP YP l.row.toRowW d [] (fun f vs=>PySem.call f vs):=by
 intro w s₀ s₁ mg mb G Y fa o pm cd doc dV kV ho hd hcd hD hmg hg args vals as hpre hlay hrd hwl hlo
 obtain rfl:dV=.none:=Dflts.none hD hdf
 obtain rfl:kV=.none:=Dflts.noKw hD
 obtain⟨a,vs,ns,rfl,rfl,hobj,hints,hlen⟩:=script_of hn hpre hwl
 refine enter_call (codeAny_mono (call w s₀ s₁ mg mb fa o pm cd doc a vs ns G Y ho (fd_plain hd) hcd hmg hobj hints hlen hg) fun r s' hq=>?_)
 obtain⟨rfl,h2,h3,h4⟩:=hq
 exact⟨.inl ⟨.bool true,.bool true,[],rfl,fun _=>rfl,.bool true,post_true l _,fun _=>⟨List.Pairwise.nil,fun _ hm=>(nomatch hm)⟩⟩,h2,h3,h4⟩
section
variable {prog:Program} {w:World} {A:Around} {E:Value→Shared→Prop} {s:Shared} {K:Frag}
end
end Att
namespace L2
open PySem PySem.Spec PyProof.Rows
theorem vals_ints:∀ {vs:List Value} {ns:List Int},IntsAre vs ns→Vals (ns.map V.int) vs
 | _,_,.nil=>.nil
 | _,_,.cons n t h=>.cons ⟨t,rfl⟩ (vals_ints h)
end L2
namespace L2
open PySem PySem.Spec PyProof.Rows
end L2
namespace L2
open PySem PySem.Spec PyProof.Rows
noncomputable def defArgs (s:Stmt):Arguments:=match s with
 | .FunctionDef _ a _ _ _ _ _ _ _ _=>a
 | _=>{ posonlyargs:=[],args:=[],vararg:=none,kwonlyargs:=[],kw_defaults:=[],kwarg:=none,defaults:=[] }
noncomputable def defBody (s:Stmt):List Stmt:=match s with
 | .FunctionDef _ _ b _ _ _ _ _ _ _=>b
 | _=>[]
noncomputable def defScope (s:Stmt):Scope:=match s with
 | .FunctionDef _ _ _ _ _ _ sc _ _ _=>sc
 | _=>{ kind:=.function,names:=[],isGenerator:=false,isCoroutine:=false }
noncomputable abbrev CX0:CXT:=fun _ _ _ _ _ _=>False
noncomputable abbrev E0:XK:=fun _ _ _=>False
theorem pass0 {X:Cx}:Passes CX0 X E0:=fun _ _ _ _ _ _ _ h=>h.elim
structure Fun (K:PySem.W.Frag) (x qual:Str) (st:Stmt) (f:Addr) (fd:FuncData):Prop where
 ex:∃ (oc:Value) (od:Option Addr) (kV doc pm:Value) (an:Option Addr) (cdv ct:Value) (osl:Array (Option Value)),
  fd=PySem.W.fnOf x qual (defArgs st) (defBody st) (defScope st) .none kV doc pm an cdv ct∧K.lookup f=some ⟨oc,od,.func fd,osl⟩∧PySem.W.codeIn K cdv qual=true
 kp:PySem.W.keepIn K (.ref f)=true
section
variable {P:Program} {w:World} {K:PySem.W.Frag} {mg:Str→Option Value} {base:Heap}
theorem Fun.ok {x qual:Str} {st:Stmt} {f:Addr} {fd:FuncData} {N ps:List Str} {k:Nat} {sp:Sp} (F:Fun K x qual st f fd) (S:FnScope N ps (defScope st)) (len:∀ vs H Q E,sp vs H Q E→vs.length=ps.length)
 (hbody:∀ (cdv:Value) (A:Around) (outer:List Env) (s:Shared) (H:Hp) (vs:List V) (Q:VK) (E:XK),Room k (A.deeper (envOfC qual (defScope st) s.heap.objs.size f cdv))→sp vs H Q E →
  ∃ t,PSs (cxOf CX0 P w K mg base N qual (defScope st) f cdv A outer s H E).nox (defBody st) t∧t { nx:=fun _ H'=>Q .non H',rt:=Q } (start N vs) H):FnOk P w K mg base CX0 (k+1) f fd ps sp:=by
 obtain⟨oc,od,kV,doc,pm,an,cdv,ct,osl,rfl,lk,hcd⟩:=F.ex
 refine fn_of lk hcd S len fun A outer s H vs Q E hr hsp=>?_
 obtain⟨t,h,q⟩:=hbody cdv A outer s H vs Q E hr hsp
 exact⟨t,h.nox,q⟩
theorem Fun.binds {x qual:Str} {st:Stmt} {f:Addr} {fd:FuncData} {ps:List Str} (F:Fun K x qual st f fd)
 (h:∀ (kV doc pm:Value) (an:Option Addr) (cdv ct:Value) (us:List Value),us.length=ps.length→bindArgs (PySem.W.fnOf x qual (defArgs st) (defBody st) (defScope st) .none kV doc pm an cdv ct) ⟨us,[]⟩=pure (ps.zip us)):Binds K fd ps []:=by
 obtain⟨oc,od,kV,doc,pm,an,cdv,ct,osl,rfl,lk,hcd⟩:=F.ex
 exact .all (h kV doc pm an cdv ct)
theorem fun_mk {x qual:Str} {st:Stmt} {f:Addr} {oc:Value} {od an:Option Addr} {osl:Array (Option Value)} {kV doc pm cdv ct:Value} (l:K.lookup f=some ⟨oc,od,.func (PySem.W.fnOf x qual (defArgs st) (defBody st) (defScope st) .none kV doc pm an cdv ct),osl⟩)
 (c:PySem.W.codeIn K cdv qual=true) (k:PySem.W.keepIn K (.ref f)=true):Fun K x qual st f (PySem.W.fnOf x qual (defArgs st) (defBody st) (defScope st) .none kV doc pm an cdv ct):=⟨⟨oc,od,kV,doc,pm,an,cdv,ct,osl,rfl,l,c⟩,k⟩
end
section
variable {X:Cx}
theorem pv (i:Nat) {x:Str} {pos:Pos} (hN:X.N[i]?=some x:=by rfl) (hv:Vis X.env.scope x:=by first | exact Or.inl rfl | exact Or.inr (Or.inl rfl) | exact Or.inr (Or.inr rfl)) (hd:(x == ("__debug__":Str))=false:=by decide)
 (hcd:(x == ("__classdict__":Str))=false:=by decide):PE X (.Name x pos) (tVar i):=pe_var hN hv hd hcd
end
noncomputable def Same (H H':Hp):Prop:=∀ b o,H b=some o→H' b=some o
theorem Same.refl (H:Hp):Same H H:=fun _ _ h=>h
theorem Same.trans {H H1 H2:Hp} (a:Same H H1) (b:Same H1 H2):Same H H2:=fun c o h=>b c o (a c o h)
theorem Same.free {H H':Hp} (e:Same H H') {l:Addr} (h:H' l=Option.none):H l=Option.none:=by
 cases q:H l with
 | none=>rfl
 | some o =>
  rw[e l o q]at h
  cases h
theorem Same.seq {K:PySem.W.Frag} {H H':Hp} {a:Addr} {xs:List V} (e:Same H H') (h:SqL K H a xs):SqL K H' a xs:=by
 rcases h with (h | ⟨o,h⟩) | h
 ·exact .inl (.inl (e _ _ h))
 ·exact .inl (.inr ⟨o,e _ _ h⟩)
 ·exact .inr h
end L2
namespace L2
open PySem PySem.Spec PyProof.Rows
noncomputable def closL (scope:Scope) (env:Env):List (Str×Addr) :=
 scope.names.foldl (fun acc y=>if y.2 == .free then (match env.cells.lookup y.1 with | some c=>(y.1,c) :: acc | none=>acc)else acc) []
theorem closFor_aux {env:Env}:∀ (names:List (Str×NameKind)) (acc:List (Str×Addr)),(∀ y∈names,y.2=.free→∃ c,env.cells.lookup y.1=some c) →
 (forIn names acc fun(y:Str×NameKind) (r:List (Str×Addr))=>(match y with | (name,kind)=>if (kind == NameKind.free)=true then (do let a ← cellOf env name;pure (ForInStep.yield ((name,a) :: r)))else pure (ForInStep.yield r):Sem (ForInStep (List (Str×Addr))))) =
  pure (names.foldl (fun acc y=>if y.2 == .free then (match env.cells.lookup y.1 with | some c=>(y.1,c) :: acc | none=>acc)else acc) acc)
 | [],acc,_=>rfl
 | (n,k) :: r,acc,h=>by
  rw[List.forIn_cons,List.foldl_cons]
  have ih:=fun acc=>closFor_aux (env:=env) r acc fun y hy=>h y (List.mem_cons_of_mem _ hy)
  by_cases hk:k=.free
  ·subst hk
   obtain⟨c,e⟩:=h (n,.free) List.mem_cons_self rfl
   have e':env.cells.lookup n=some c:=e
   simp only[cellOf,e',beq_self_eq_true,if_true]
   exact ih _
  ·have hb:(k == NameKind.free)=false:=by simpa using hk
   simp only[hb,Bool.false_eq_true,if_false]
   exact ih _
theorem closFor {scope:Scope} {env:Env} (h:∀ y∈scope.names,y.2=.free→∃ c,env.cells.lookup y.1=some c):closureFor scope env=pure (closL scope env):=by
 have e:=closFor_aux (env:=env) scope.names [] h
 unfold closureFor closL
 rw[← e]
 first | rfl | simp
theorem closL_aux {env:Env} {x:Str} {c:Addr}:∀ (names:List (Str×NameKind)) (acc:List (Str×Addr)),(∀ z d,acc.lookup z=some d→env.cells.lookup z=some d) →
 (names.foldl (fun acc y=>if y.2 == .free then (match env.cells.lookup y.1 with | some c=>(y.1,c) :: acc | none=>acc)else acc) acc).lookup x=some c→env.cells.lookup x=some c
 | [],acc,h,e=>h x c e
 | (n,k) :: r,acc,h,e=>by
  rw[List.foldl_cons]at e
  refine closL_aux r _ ?_ e
  intro z d q
  by_cases hk:(k == NameKind.free)=true
  ·simp only[hk,if_true]at q
   cases el:env.cells.lookup n with
   | none=>simp only[el]at q;exact h z d q
   | some a =>
    simp only[el,List.lookup_cons]at q
    by_cases hz:(z == n)=true
    ·simp only[hz]at q
     have:z=n:=by simpa using hz
     subst this
     rw[el];exact q
    ·have hz':(z == n)=false:=by simpa using hz
     simp only[hz']at q
     exact h z d q
  ·simp only[hk,if_false]at q
   exact h z d q
theorem closL_sub {scope:Scope} {env:Env} {x:Str} {c:Addr} (e:(closL scope env).lookup x=some c):env.cells.lookup x=some c:=closL_aux _ _ (fun _ _ q=>by simp at q) e
theorem closL_has_aux {env:Env} {x:Str}:∀ (names:List (Str×NameKind)) (acc:List (Str×Addr)),(∀ y∈names,y.2=.free→∃ c,env.cells.lookup y.1=some c)→((x,NameKind.free)∈names∨(acc.lookup x).isSome=true) →
 ((names.foldl (fun acc y=>if y.2 == .free then (match env.cells.lookup y.1 with | some c=>(y.1,c) :: acc | none=>acc)else acc) acc).lookup x).isSome=true
 | [],acc,_,h=>by
  rcases h with h | h
  ·cases h
  ·exact h
 | (n,k) :: r,acc,hc,h=>by
  rw[List.foldl_cons]
  refine closL_has_aux r _ (fun y hy=>hc y (List.mem_cons_of_mem _ hy)) ?_
  rcases h with h | h
  ·rcases List.mem_cons.mp h with h | h
   ·cases h
    obtain⟨c,e⟩:=hc (x,.free) List.mem_cons_self rfl
    have e':env.cells.lookup x=some c:=e
    right
    simp[e',List.lookup_cons]
   ·exact .inl h
  ·right
   by_cases hk:(k == NameKind.free)=true
   ·simp only[hk,if_true]
    cases el:env.cells.lookup n with
    | none=>exact h
    | some a =>
     simp only[List.lookup_cons]
     by_cases hz:(x == n)=true
     ·simp[hz]
     ·have hz':(x == n)=false:=by simpa using hz
      simp only[hz'];exact h
   ·simp only[hk];exact h
theorem closL_has {scope:Scope} {env:Env} {x:Str} (hc:∀ y∈scope.names,y.2=.free→∃ c,env.cells.lookup y.1=some c) (h:(x,NameKind.free)∈scope.names):∃ c,(closL scope env).lookup x=some c :=
 Option.isSome_iff_exists.mp (closL_has_aux _ _ hc (.inl h))
noncomputable def compOk (sc inn:Scope) (N:List Str) (js:List Nat) (cs:List Str):Bool :=
 (inn.kind == .function) && inn.names.all (fun y=>y.2 != .cell && (y.2 != .local || inn.names.lookup y.1 == some .local) && (y.2 != .free || (sc.names.lookup y.1 == some .cell || sc.names.lookup y.1 == some .free))) &&
 (js.map fun j=>N[j]?) == cs.map some && cs.all (fun x=>inn.names.lookup x == some .free)
structure CompOk (sc inn:Scope) (N:List Str) (js:List Nat) (cs:List Str):Prop where
 kind:inn.kind=.function
 nocell:∀ y∈inn.names,y.2≠.cell
 names:∀ y∈inn.names,y.2=.local→inn.names.lookup y.1=some .local
 frees:∀ y∈inn.names,y.2=.free→sc.names.lookup y.1=some .cell∨sc.names.lookup y.1=some .free
 slots:(js.map fun j=>N[j]?)=cs.map some
 caps:∀ x∈cs,inn.names.lookup x=some .free
theorem CompOk.of {sc inn:Scope} {N:List Str} {js:List Nat} {cs:List Str} (h:compOk sc inn N js cs=true):CompOk sc inn N js cs:=by
 unfold compOk at h
 simp only[Bool.and_eq_true]at h
 obtain⟨⟨⟨h1,h2⟩,h3⟩,h4⟩:=h
 rw[List.all_eq_true]at h2 h4
 refine⟨by simpa using h1,fun y hy=>?_,fun y hy e=>?_,fun y hy e=>?_,by simpa using h3,fun x hx=>by simpa using h4 x hx⟩
 ·have:=h2 y hy
  simp only[Bool.and_eq_true]at this
  simpa using this.1.1
 ·have:=h2 y hy
  simp only[Bool.and_eq_true,e]at this
  simpa using this.1.2
 ·have:=h2 y hy
  simp only[Bool.and_eq_true,e]at this
  simpa using this.2
noncomputable def sIn (nt:Nat) (js:List Nat) (σ:St):St:=List.replicate nt none++js.map fun j=>(σ[j]?).join
noncomputable def cxIn (X:Cx) (inn:Scope) (N':List Str) (s₀:Shared) (H₀:Hp) (ex:List Addr):Cx where
 prog:=X.prog
 w:=X.w
 K:=X.K
 mg:=X.mg
 base:=X.base
 A:=X.A
 N:=N'
 s₀:=s₀
 H₀:=H₀
 env:=compEnvC inn (closL inn X.env) s₀.heap.objs.size X.env
 outer:=X.stack
 stack:=X.stack
 ex:=ex
 fn:=fun _=>false
 calm:=X.calm
 pn:=[]
 xe:=fun _ _=>False
noncomputable def PIf (X:Cx) (ifs:List Expr) (t:TT):Prop :=
 ∀ (pins:List (Addr×Obj)) (s:Shared) (σ:St) (H:Hp) (Q:Bool→Hp→Prop),Inv X pins σ H s→t σ H Q →
  wpAny (model X.prog X.w) X.A (forIn ifs true fun c r=>if r=true then do let ok ← isTrue c X.env (eval c X.env);pure (ForInStep.yield ok)else pure (ForInStep.yield r)) (TP X pins σ Q) X.xe s
noncomputable def tYes:TT:=fun _ H Q=>Q true H
theorem pif_nil {X:Cx}:PIf X [] tYes:=fun _ _ _ H _ I h=>wpAny_tests_nil ⟨H,I,h⟩
noncomputable def CompR (J:It) (σ0:St) (g:TG) (tt:TT) (te:TE) (Q:VK) (H1:Hp):Prop:=∃ W:Nat→Nat→List V→Hp→Prop,(∃ m,W 0 m [] H1)∧∀ i m ys H,W i m ys H →
 ys.length<sizeLine∧((J.stop i H∧∀ D,H D=none→Q (.ref D) (upd H D (.lst ys))) ∨
  (J.go i H∧∃ N:List V→Hp→Prop,(∀ ys' H',N ys' H'→∃ m',m'<m∧W (i+1) m' ys' H')∧∀ x H',J.yld i H x H'→g x σ0 H' fun σ2 H2=>tt σ2 H2 fun b H3 =>
   if b=true then te σ2 H3 fun y H4=>N (ys++[y]) H4 else N ys H3))
noncomputable def tComp (wi:TI) (nt:Nat) (js:List Nat) (g:TG) (tt:TT) (te:TE):TE:=fun σ H Q=>wi σ H fun J H1=>CompR J (sIn nt js σ) g tt te Q H1
end L2
set_option maxHeartbeats 4000000
namespace L2
open PySem PySem.Spec PyProof.Rows
theorem lookup_relabel_free {env:Env}:∀ {names:List (Str×NameKind)} {x:Str},names.lookup x=some .free →
 (names.map fun(n,k)=>if (k == NameKind.free && env.scope.kind == .function && env.kindOf n == some .cell)then (n,NameKind.cell)else (n,k)).lookup x=some .cell ∨
 (names.map fun(n,k)=>if (k == NameKind.free && env.scope.kind == .function && env.kindOf n == some .cell)then (n,NameKind.cell)else (n,k)).lookup x=some .free
 | [],_,h=>by simp at h
 | (n,k) :: r,x,h=>by
  have ih:=@lookup_relabel_free env r x
  show List.lookup x ((if (k == NameKind.free && env.scope.kind == .function && env.kindOf n == some .cell)=true then (n,NameKind.cell)else (n,k)) :: _)=_∨List.lookup x ((if (k == NameKind.free && env.scope.kind == .function && env.kindOf n == some .cell)=true then (n,NameKind.cell)else (n,k)) :: _)=_
  cases hx:x == n with
  | true =>
   simp only[List.lookup_cons,hx]at h
   cases h
   by_cases hc:(NameKind.free == NameKind.free && env.scope.kind == .function && env.kindOf n == some .cell)=true
   ·left;rw[if_pos hc];simp[List.lookup_cons,hx]
   ·right;rw[if_neg hc];simp[List.lookup_cons,hx]
  | false =>
   simp only[List.lookup_cons,hx]at h
   by_cases hc:(k == NameKind.free && env.scope.kind == .function && env.kindOf n == some .cell)=true
   ·rw[if_pos hc];simp only[List.lookup_cons,hx];exact ih h
   ·rw[if_neg hc];simp only[List.lookup_cons,hx];exact ih h
theorem relabel_cf_mem {env:Env}:∀ {names:List (Str×NameKind)} {x:Str},(∀ y∈names,y.2≠NameKind.cell) →
 ((names.map fun(n,k)=>if (k == NameKind.free && env.scope.kind == .function && env.kindOf n == some .cell)then (n,NameKind.cell)else (n,k)).lookup x=some .cell ∨
 (names.map fun(n,k)=>if (k == NameKind.free && env.scope.kind == .function && env.kindOf n == some .cell)then (n,NameKind.cell)else (n,k)).lookup x=some .free)→(x,NameKind.free)∈names
 | [],_,_,h=>by simp at h
 | (n,k) :: r,x,hn,h=>by
  have ih:=@relabel_cf_mem env r x (fun y hy=>hn y (List.mem_cons_of_mem _ hy))
  have hk:=hn (n,k) List.mem_cons_self
  rw[List.map_cons]at h
  cases hx:x == n with
  | true =>
   have e:x=n:=by simpa using hx
   subst e
   by_cases hc:(k == NameKind.free && env.scope.kind == .function && env.kindOf x == some .cell)=true
   ·have:k=.free:=by simp only[Bool.and_eq_true]at hc;simpa using hc.1.1
    subst this
    exact List.mem_cons_self
   ·simp only[if_neg hc,List.lookup_cons,hx]at h
    rcases h with h | h
    ·cases h;exact absurd rfl hk
    ·cases h;exact List.mem_cons_self
  | false =>
   refine List.mem_cons_of_mem _ (ih ?_)
   by_cases hc:(k == NameKind.free && env.scope.kind == .function && env.kindOf n == some .cell)=true
   ·simp only[if_pos hc,List.lookup_cons,hx]at h;exact h
   ·simp only[if_neg hc,List.lookup_cons,hx]at h;exact h
section
variable {X:Cx} {pins:List (Addr×Obj)} {σ:St} {H H':Hp} {s:Shared} {inn:Scope} {js:List Nat} {cs ts:List Str} {nt:Nat}
theorem sIn_get {i:Nat} {v:V} (h:(sIn nt js σ)[i]?=some (some v)):nt≤i∧∃ j,js[i - nt]?=some j∧σ[j]?=some (some v):=by
 unfold sIn at h
 by_cases hi:i<nt
 ·rw[List.getElem?_append_left (by simpa using hi),List.getElem?_replicate]at h
  split at h <;> cases h
 ·rw[List.getElem?_append_right (by simpa using hi),List.length_replicate,List.getElem?_map]at h
  refine⟨by omega,?_⟩
  cases e:js[i - nt]? with
  | none=>rw[e]at h;cases h
  | some j =>
   rw[e]at h
   have h':(σ[j]?).join=some v:=Option.some.inj h
   refine⟨j,rfl,?_⟩
   cases q:σ[j]? with
   | none=>rw[q]at h';cases h'
   | some o =>
    rw[q]at h'
    have h'':o=some v:=h'
    rw[h'']
theorem in_ok {ex:List Addr} (I:Inv X pins σ H s) (O:CompOk X.env.scope inn X.N js cs) (hex:∀ b∈ex,b<s.heap.objs.size∧b≠X.env.locals∧b∉X.fs∧(∀ x c,X.env.cells.lookup x=some c→c≠b)∧∀ o,X.base.get? b≠some o) :
 (cxIn X inn (ts++cs) s H ex).Ok where
 mod:=I.ok.mod
 kind:=O.kind
 glob:=I.ok.glob
 blt:=I.ok.blt
 above:=Nat.le_refl _
 inj:=fun x y c h1 h2=>I.ok.inj x y c (closL_sub h1) (closL_sub h2)
 has:=fun x hx=>by
  have hm:(x,NameKind.free)∈inn.names:=relabel_cf_mem O.nocell hx
  exact closL_has (fun y hy e=>I.ok.has y.1 (O.frees y hy e)) hm
 cab:=fun _ _ h=>absurd h (by show ¬ (false=true);decide)
 hd:=I.ok.hd
 frames:=I.ok.frames
 stk:=.inl rfl
 exf:=fun b hb=>⟨Nat.ne_of_lt (hex b hb).1,fun x c e=>(hex b hb).2.2.2.1 x c (closL_sub e)⟩
 bs:=I.bs
 bsz:=Nat.le_trans I.ok.bsz I.sz
 noex:=fun b o e hb=>(hex b hb).2.2.2.2 o e
 exfs:=fun b hb hs=>by
  rcases List.mem_cons.mp (I.stkSub b hs)with e | e
  ·exact(hex b hb).2.1 e
  ·exact(hex b hb).2.2.1 e
 funs:=I.stack
 frf:=I.stkFree
theorem in_inv {ex:List Addr} {h':Heap} {tk:Nat} (hts:ts.length=nt) (I:Inv X pins σ H s) (O:CompOk X.env.scope inn X.N js cs) (hex:∀ b∈ex,b<s.heap.objs.size∧b≠X.env.locals∧b∉X.fs∧(∀ x c,X.env.cells.lookup x=some c→c≠b)∧∀ o,X.base.get? b≠some o)
 (hn:∃ m,h'.Ns s.heap.objs.size m) (hk:∀ b o,s.heap.get? b=some o→h'.get? b=some o) :
 Inv (cxIn X inn (ts++cs) s H ex) [] (sIn nt js σ) H { s with heap:=h',toks:=tk }:=by
 have ok:(cxIn X inn (ts++cs) s H ex).Ok:=in_ok I O hex
 obtain⟨m,hn⟩:=hn
 have cellK:∀ c v,s.heap.IsCell c v→h'.IsCell c v:=fun c v ⟨o,ho,hd⟩=>⟨o,hk c o ho,hd⟩
 have hlen:js.length=cs.length:=by have:=congrArg List.length O.slots;simpa using this
 refine⟨ok,rfl,I.bare,Un.kept hk,⟨m,hn,fun i x v e1 e2 e3=>?_⟩,fun x c e=>?_,I.hok.fresh (Nat.le_refl _),fun x c e=>I.freeC x c (closL_sub e),fun p hp=>?_,I.hok.kept hk,?_⟩
 ·obtain⟨hi,j,hj,hv⟩:=sIn_get e2
  have e1':(ts++cs)[i]?=some x:=e1
  rw[List.getElem?_append_right (by omega),hts]at e1'
  have hN:X.N[j]?=some x:=by
   have q:(js.map fun j=>X.N[j]?)[i - nt]?=(cs.map some)[i - nt]?:=by rw[O.slots]
   rw[List.getElem?_map,List.getElem?_map,hj,e1']at q
   exact Option.some.inj q
  have hcap:=O.caps x (List.mem_of_getElem? e1')
  have hmem:(x,NameKind.free)∈inn.names:=PySem.mem_of_lookup hcap
  have hout:=O.frees _ hmem rfl
  obtain⟨mo,hno,hl⟩:=I.loc
  obtain⟨u,r,l⟩:=hl j x v hN hv (.inr hout)
  refine⟨u,r,.inr ?_⟩
  rcases l with ⟨l1,_⟩ | ⟨k,c,ec,z⟩
  ·have l1':X.env.scope.names.lookup x=some .local:=l1
   rcases hout with q | q <;> (rw[q]at l1';cases l1')
  ·refine⟨?_,?_⟩
   ·exact lookup_relabel_free (env:=X.env) hcap
   ·obtain⟨c',ec'⟩:=closL_has (env:=X.env) (fun y hy e=>I.ok.has y.1 (O.frees y hy e)) hmem
    have:=closL_sub ec'
    rw[ec]at this;cases this
    exact⟨c,ec',cellK _ _ z⟩
 ·obtain⟨v,z⟩:=I.cell x c (closL_sub e)
  exact⟨v,cellK _ _ z⟩
 ·exact absurd (show p∈([]:List (Addr×Obj)) from hp) (by simp)
 ·show (sIn nt js σ).length=(ts++cs).length
  unfold sIn
  simp[hts,hlen]
theorem Inv.track {a:Addr} {o:HO} (I:Inv X pins σ H s) (hn:H a=none) (h0:X.s₀.heap.objs.size≤a) (hL:a≠X.env.locals) (hc:∀ x c,X.env.cells.lookup x=some c→c≠a) (hp:∀ p∈X.pn++pins,p.1≠a)
 (new:ObjOk X.prog X.w (upd H a o) s.heap a o):Inv X pins σ (upd H a o) s:=by
 have ne0:∀ b ob,X.s₀.heap.get? b=some ob→b≠a:=fun b ob e=>Nat.ne_of_lt (Nat.lt_of_lt_of_le (Heap.lt_size e) h0)
 have neT:∀ b u,H b=some u→b≠a:=fun b u e=>ne_of_none e hn
 refine⟨I.ok,I.os,I.bare,⟨I.base.keep,I.base.slot,fun b ob e n hx=>?_,I.base.there,fun b xs e=>?_,fun b ob u e=>?_,fun b ps e=>?_⟩,I.loc,I.cell,?_,fun x c e=>?_,fun p hp'=>?_,fun b u e=>?_,I.len⟩
 ·rw[upd_ne (ne0 b ob e)];exact I.base.free b ob e n hx
 ·have q:=I.base.tups b xs e;rw[upd_ne (neT b _ q)];exact q
 ·have q:=I.base.frzs b ob u e;rw[upd_ne (neT b _ q)];exact q
 ·obtain⟨more,q⟩:=I.base.tbls b ps e;exact⟨more,by rw[upd_ne (neT b _ q)];exact q⟩
 ·rw[upd_ne (Ne.symm hL)];exact I.free
 ·rw[upd_ne (hc x c e)];exact I.freeC x c e
 ·obtain⟨q1,q2,q3,q4,q5⟩:=I.pin p hp'
  exact⟨q1,by rw[upd_ne (hp p hp')];exact q2,q3,q4,q5⟩
 ·by_cases hb:b=a
  ·subst hb;rw[upd_same]at e;cases e;exact new
  ·rw[upd_ne hb]at e
   exact(I.hok b u e).stay (fun _ _ _ q=>q) (fun c q=>by rw[upd_ne (neT c _ q)];exact q) fun c xs q=>by rw[upd_ne (neT c _ q)];exact q
end
end L2
namespace L2
open PySem PySem.Spec PyProof.Rows
noncomputable def GK (nt:Nat) (g:TG):Prop:=∀ v σ H Q,g v σ H Q→g v σ H fun σ' H'=>((∀ i,nt≤i→σ'[i]?=σ[i]?)∧σ'.length=σ.length)∧Q σ' H'
noncomputable def GKs (nt:Nat) (g:TGs):Prop:=∀ vs σ H Q,g vs σ H Q→g vs σ H fun σ' H'=>((∀ i,nt≤i→σ'[i]?=σ[i]?)∧σ'.length=σ.length)∧Q σ' H'
theorem kg_name {nt i:Nat} (h:i<nt):GK nt (gName i):=fun v σ H Q q=>⟨⟨fun j hj=>by rw[List.getElem?_set_ne (by omega)],by simp⟩,q⟩
theorem kgs_nil {nt:Nat}:GKs nt gNil:=fun vs σ H Q ⟨e,q⟩=>⟨e,⟨fun _ _=>rfl,rfl⟩,q⟩
theorem kgs_cons {nt i:Nat} {u:TGs} (h:i<nt) (hu:GKs nt u):GKs nt (gCons (gName i) u):=fun vs σ H Q q=>by
 obtain⟨v,r,e,q⟩:=q
 refine⟨v,r,e,?_⟩
 have q':u r (σ.set i (some v)) H Q:=q
 have w:=hu r (σ.set i (some v)) H Q q'
 have e1:∀ j,nt≤j→(σ.set i (some v))[j]?=σ[j]?:=fun j hj=>by rw[List.getElem?_set_ne (by omega)]
 have:(fun(σ':St) (H':Hp)=>((∀ j,nt≤j→σ'[j]?=(σ.set i (some v))[j]?)∧σ'.length=(σ.set i (some v)).length)∧Q σ' H')=fun σ' H'=>((∀ j,nt≤j→σ'[j]?=σ[j]?)∧σ'.length=σ.length)∧Q σ' H':=by
  funext σ' H'
  apply propext
  constructor
  ·rintro ⟨⟨a,b⟩,c⟩
   exact⟨⟨fun j hj=>(a j hj).trans (e1 j hj),by simpa using b⟩,c⟩
  ·rintro ⟨⟨a,b⟩,c⟩
   exact⟨⟨fun j hj=>(a j hj).trans (e1 j hj).symm,by simpa using b⟩,c⟩
 rw[this]at w
 exact w
theorem kg_tup {K:PySem.W.Frag} {nt n:Nat} {t:TGs} (h:GKs nt t):GK nt (gTup K n t):=fun v σ H Q ⟨a,xs,e,hq,hl,q⟩=>⟨a,xs,e,hq,hl,h xs σ H Q q⟩
section
variable {X:Cx} {pins:List (Addr×Obj)} {σ:St} {inn:Scope} {js:List Nat} {cs ts:List Str} {nt:Nat} {elt tg iter:Expr} {ifs:List Expr} {pos:Pos} {g:TG} {tt:TT} {te:TE}
theorem comp_core {J:It} {fp:List Addr} {it:Addr} {tn:Nat→Heap→Prop} {H2:Hp} {s2:Shared} {E:Value→Shared→Prop} {Q:VK} {RR:Value→Addr→Result→Shared→Prop}
 (hcalm:X.calm=true) (O:CompOk X.env.scope inn X.N js cs) (hts:ts.length=nt)
 (hg:∀ s₀ H₀ ex,PG (cxIn X inn (ts++cs) s₀ H₀ ex) tg g) (hk:GK nt g) (ht:∀ s₀ H₀ ex,PIf (cxIn X inn (ts++cs) s₀ H₀ ex) ifs tt) (he:∀ s₀ H₀ ex,PE (cxIn X inn (ts++cs) s₀ H₀ ex) elt te)
 (I2:Inv X pins σ H2 s2) (T:Turn X.prog X.w X.K tg J fp it tn) (st2:tn 0 s2.heap) (f2:∀ b∈fp,FpOk X pins H2 b)
 (R:CompR J (sIn nt js σ) g tt te Q H2)
 (hRR:∀ D C s' H',Inv X pins σ H' s'→(∃ m,s'.heap.Ns C m)→H' C=none→C≠X.env.locals→X.s₀.heap.objs.size≤C→(∀ x c,X.env.cells.lookup x=some c→c≠C)→(∀ p∈X.pn++pins,p.1≠C)→Q (.ref D) H'→RR (.ref D) C (.ok .next) s') :
 wpAny (model X.prog X.w) X.A (newList []) (fun acc s₃=>wpAny (model X.prog X.w) X.A (newFunctionEnv inn X.env.globals (closL inn X.env) [] X.env.qual none .none (some X.env)) (fun cenv s₄ =>
  codeAny (model X.prog X.w) X.A (.compStart (.ListComp elt [⟨tg,iter,ifs,0⟩] inn pos) 0 (.ref it) acc { cenv with scope:=relabel inn X.env }) (RR acc cenv.locals) s₄) E s₃) E s2:=by
 refine wpAny_newObj_type (wpAny_newFunctionEnv O.nocell (by intro y hy;simp at hy) (fun h₁ hns₁ hsb₁=>?_) O.kind)
 dsimp only at hns₁ hsb₁ ⊢
 generalize hD:s2.heap.objs.size=D
 have I3:Inv X pins σ H2 { s2 with heap:=s2.heap.push { cls:=.type "list",dict:=none,data:=.seq ([]:List Value).toArray } }:=I2.kept (t':=s2.toks) fun b o e=>Heap.get?_push_of_some _ e
 generalize hs3:({ s2 with heap:=s2.heap.push { cls:=.type "list",dict:=none,data:=.seq ([]:List Value).toArray } }:Shared)=s3 at I3
 have e3:s3.heap=s2.heap.push { cls:=.type "list",dict:=none,data:=.seq ([]:List Value).toArray }:=by rw[← hs3]
 have hD3:s3.heap.get? D=some { cls:=.type "list",dict:=none,data:=.seq ([]:List Value).toArray }:=by rw[e3,← hD];exact Heap.get?_push_size _ rfl
 have hsz3:s3.heap.objs.size=D+1:=by rw[e3,Heap.size_push,hD]
 have e3':(s2.heap.push { cls:=.type "list",dict:=none,data:=.seq ([]:List Value).toArray })=s3.heap:=e3.symm
 rw[e3']at hns₁ hsb₁ ⊢
 have fH2D:H2 D=none:=I2.hok.fresh (by rw[hD];exact Nat.le_refl _)
 have up:∀ b o,s3.heap.get? b=some o→h₁.get? b=some o:=fun b o e=>hsb₁.extBut b o (Nat.ne_of_lt (Heap.lt_size e)) (Heap.get?_push_of_some _ e)
 have fpo:∀ b∈fp,b<s3.heap.objs.size∧b≠D:=fun b hb=>by
  obtain⟨o,eo,_⟩:=T.obj 0 _ st2 b hb
  have h1:=Heap.lt_size eo
  rw[hD]at h1
  exact⟨by rw[hsz3];exact Nat.lt_succ_of_lt h1,Nat.ne_of_lt h1⟩
 have nb:∀ b,X.s₀.heap.objs.size≤b→∀ o,X.base.get? b≠some o:=fun b hb o e=>absurd (Nat.lt_of_lt_of_le (Heap.lt_size e) (Nat.le_trans I2.ok.bsz hb)) (Nat.lt_irrefl _)
 have dge:s2.heap.objs.size≤D:=by rw[hD];exact Nat.le_refl _
 have fD:FpOk X pins H2 D:=I2.fpOk dge fH2D
 have hex:∀ b∈D :: fp,b<s3.heap.objs.size∧b≠X.env.locals∧b∉X.fs∧(∀ x c,X.env.cells.lookup x=some c→c≠b)∧∀ o,X.base.get? b≠some o:=fun b hb=>by
  rcases List.mem_cons.mp hb with rfl | hb
  ·exact⟨by rw[hsz3];exact Nat.lt_succ_self _,fD.2.1,fD.2.2.1,fD.2.2.2.2.1,nb _ (Nat.le_trans I2.sz dge)⟩
  ·obtain⟨f0,f1,f2',f3,f4,f5⟩:=f2 b hb
   refine⟨(fpo b hb).1,f1,f2',f4,fun o e=>?_⟩
   rcases f3 with z | z
   ·exact I2.ok.noex b o e z
   ·exact nb b z o e
 have hC:s3.heap.objs.size=s3.heap.objs.size:=rfl
 generalize hXi:cxIn X inn (ts++cs) s3 H2 (D :: fp)=Xi
 have I4:Inv Xi [] (sIn nt js σ) H2 { s3 with heap:=h₁,toks:=s3.toks }:=by
  rw[← hXi];exact in_inv hts I3 O hex ⟨_,hns₁⟩ up
 have xp:Xi.prog=X.prog:=by rw[← hXi];rfl
 have xw:Xi.w=X.w:=by rw[← hXi];rfl
 have xK:Xi.K=X.K:=by rw[← hXi];rfl
 have xA:Xi.A=X.A:=by rw[← hXi];rfl
 have xc:Xi.calm=true:=by rw[← hXi];exact hcalm
 have xe:Xi.env=compEnvC inn (closL inn X.env) s3.heap.objs.size X.env:=by rw[← hXi];rfl
 have xx:Xi.xe=fun _ _=>False:=by rw[← hXi];rfl
 have xex:Xi.ex=D :: fp:=by rw[← hXi];rfl
 have xpn:Xi.pn=[]:=by rw[← hXi];rfl
 have xs0:Xi.s₀=s3:=by rw[← hXi];rfl
 have xH0:Xi.H₀=H2:=by rw[← hXi];rfl
 have xfs:Xi.fs=frs X.stack:=by rw[← hXi];rfl
 have hgX:PG Xi tg g:=by rw[← hXi];exact hg _ _ _
 have htX:PIf Xi ifs tt:=by rw[← hXi];exact ht _ _ _
 have heX:PE Xi elt te:=by rw[← hXi];exact he _ _ _
 have okX:=I4.ok
 have xl:Xi.env.locals=s3.heap.objs.size:=by rw[xe];rfl
 have Dl:D≠Xi.env.locals:=by rw[xl,hsz3];exact Nat.ne_of_lt (Nat.lt_succ_self _)
 have stat:∀ {H':Hp} {pl:List (Addr×Obj)},(∀ b∈fp,H' b=none)→(∀ p∈pl,p.1=D)→∀ b∈fp,FpOk Xi pl H' b:=fun {H' pl} hn hpl b hb=>by
  have hbx:b∈Xi.ex:=by rw[xex];exact List.mem_cons_of_mem _ hb
  refine⟨hn b hb,(okX.exf b hbx).1,fun z=>okX.exfs b hbx z,.inl hbx,(okX.exf b hbx).2,fun p hp=>?_⟩
  rw[xpn,List.nil_append]at hp
  rw[hpl p hp]
  exact Ne.symm (fpo b hb).2
 have DX:D∈Xi.ex:=by rw[xex];exact List.mem_cons_self
 obtain⟨W,⟨m0,w0⟩,turn⟩:=R
 have loop:codeAny (model X.prog X.w) X.A (.compLoop (.ListComp elt [⟨tg,iter,ifs,0⟩] inn pos) 0 (.ref it) (.ref D) Xi.env) (RR (.ref D) s3.heap.objs.size) { s3 with heap:=h₁,toks:=s3.toks }:=by
  refine codeAny_loop rfl (fun n s'=>∃ i ys H',Inv Xi [] (sIn nt js σ) H' s'∧tn i s'.heap∧(∀ b∈fp,H' b=none)∧H' D=none∧(∃ (its:List Value) (c:Nat),Vals ys its∧s'.heap.get? D=some { cls:=.type "list",data:=.seq its.toArray c })∧W i n ys H') ?_ m0
   ⟨0,[],H2,I4,?_,fun b hb=>(f2 b hb).1,fH2D,⟨[],0,.nil,up D _ hD3⟩,w0⟩
  ·rintro n s5 ⟨i,ys,H5,I5,st5,fr5,fD5,⟨its,c,rv,eD⟩,w5⟩
   show wpAny _ X.A ((compTurn (.ListComp elt [⟨tg,iter,ifs,0⟩] inn pos) 0 (.ref it) (.ref D) Xi.env).onRaise (fun x=>do noteFrame x Xi.env;theTreesLotGoes x)) _ _ s5
   refine wpAny_noted ?_
   rw[compTurn_list]
   refine wpAny_bind (wpAny_standAt (wpAny_bind ?_))
   have pinD:Inv Xi (pinsAt [D] s5.heap) (sIn nt js σ) H5 s5:=by
    have q:=I5.pinned (fp:=[D]) (fun b hb=>?_) (fun b hb=>?_)
    ·simpa using q
    ·have e:b=D:=by simpa using hb
     subst e
     refine⟨fD5,Dl,fun z=>okX.exfs b DX z,.inl DX,(okX.exf b DX).2,fun p hp=>?_⟩
     rw[xpn,List.nil_append]at hp;cases hp
    ·have e:b=D:=by simpa using hb
     subst e
     exact⟨_,eD,fun v z=>by cases z⟩
   have plD:∀ p∈pinsAt [D] s5.heap,p.1=D:=fun p hp=>by simpa using (of_pinsAt hp).1
   have memD:(D,({ cls:=.type "list",data:=.seq its.toArray c }:Obj))∈pinsAt [D] s5.heap:=mem_pinsAt (by simp) eD
   obtain⟨hz,tn5⟩:=turn i n ys H5 w5
   rcases tn5 with ⟨stop,fin⟩ | ⟨go,N,hN,step⟩
   ·have q:=T.done Xi xp xw xK xc i _ s5 _ H5 (notedBy (model X.prog X.w) X.A Xi.env fun e s'=>RR (.ref D) s3.heap.objs.size (.error e) s') pinD (stat fr5 plD) st5 stop
    rw[xA]at q
    refine wpAny_mono q (fun r s6 ⟨hr,I6⟩=>?_) fun _ _ z=>z
    subst hr
    refine wpAny_pure ?_
    have eD6:=(I6.pin (D,_) (List.mem_append_right _ memD)).1
    have un:Un (frs X.stack) (D :: fp) H2 H5 s3.heap s6.heap:=by
     have z:=I6.base
     rw[xfs,xex,xH0,xs0]at z
     exact z
    have os6:s6.os=s3.os:=by have z:=I6.os;rw[xs0]at z;exact z
    have hok6:HOk X.prog X.w H5 s6.heap:=by have z:=I6.hok;rw[xp,xw]at z;exact z
    have I7:Inv X pins σ H5 s6:=I3.call' os6 un hok6 I6.bare fun b hb=>by
     rcases List.mem_cons.mp hb with e | hb
     ·rw[e];exact⟨.inr (Nat.le_trans I2.sz dge),fD.2.1,fD.2.2.2.2.1,fD.2.2.2.2.2⟩
     ·obtain⟨f0,f1,f2',f3,f4,f5⟩:=f2 b hb
      exact⟨f3,f1,f4,f5⟩
    have I8:Inv X pins σ (upd H5 D (.lst ys)) s6:=I7.track fD5 (Nat.le_trans I2.sz dge) fD.2.1 fD.2.2.2.2.1 fD.2.2.2.2.2 ⟨Nat.le_of_lt hz,its,c,rv,eD6⟩
    have Cge:s3.heap.objs.size≤s3.heap.objs.size:=Nat.le_refl _
    have fC:FpOk X pins (upd H5 D (.lst ys)) s3.heap.objs.size:=I3.fpOk Cge (by
     rw[upd_ne (by rw[← xl];exact Ne.symm Dl)]
     have z:=I6.free
     rw[xl]at z;exact z)
    obtain⟨mm,hmm,_⟩:=I6.loc
    rw[xl]at hmm
    exact hRR D _ s6 _ I8 ⟨mm,hmm⟩ fC.1 fC.2.1 (Nat.le_trans I3.sz Cge) fC.2.2.2.2.1 fC.2.2.2.2.2 (fin D fD5)
   ·have q:=T.item Xi xp xw xK xc i _ s5 _ H5 (notedBy (model X.prog X.w) X.A Xi.env fun e s'=>RR (.ref D) s3.heap.objs.size (.error e) s') pinD (stat fr5 plD) st5 go
    rw[xA]at q
    refine wpAny_mono q (fun r s6 ⟨u,hr,h6⟩=>?_) fun _ _ z=>z
    subst hr
    refine wpAny_bind (wpAny_mono h6 (fun _ s7 ⟨x,H7,I7,r7,y7,st7,fr7⟩=>?_) fun _ _ z=>z)
    have I7':=I7.pinned (fp:=fp) (fun b hb=>stat fr7 plD b hb) (T.obj _ _ st7)
    have q8:=hgX _ s7 _ H7 x u _ I7' r7 (hk x _ H7 _ (step x H7 y7))
    rw[xp,xw,xA,xx]at q8
    refine wpAny_bind (wpAny_mono q8 (fun _ s8 ⟨σ8,H8,I8,⟨k8,l8⟩,q8⟩=>?_) fun _ _ z=>z.elim)
    have q9:=htX _ s8 σ8 H8 _ I8 q8
    rw[xp,xw,xA,xx]at q9
    refine wpAny_bind (wpAny_mono q9 (fun ok s9 ⟨H9,I9,q9⟩=>?_) fun _ _ z=>z.elim)
    have keepσ:∀ (j:Nat) v,(sIn nt js σ)[j]?=some (some v)→σ8[j]?=some (some v):=fun j v e=>by
     have hj:=(sIn_get e).1
     rw[k8 j hj];exact e
    have ends:∀ {H9:Hp} {s9:Shared} {ys':List V},Inv Xi (pinsAt [D] s5.heap++pinsAt fp s7.heap) σ8 H9 s9→∀ {h':Heap} {its':List Value} {c':Nat},(∀ b o,b≠D→s9.heap.get? b=some o→h'.get? b=some o)→Vals ys' its'→h'.get? D=some { cls:=.type "list",data:=.seq its'.toArray c' }→N ys' H9 →
     ∀ tk,∃ m,m<n∧∃ i ys H',Inv Xi [] (sIn nt js σ) H' { s9 with heap:=h',toks:=tk }∧tn i h'∧(∀ b∈fp,H' b=none)∧H' D=none∧(∃ (its:List Value) (c:Nat),Vals ys its∧h'.get? D=some { cls:=.type "list",data:=.seq its.toArray c })∧W i m ys H':=fun {H9 s9 ys'} I9 {h' its' c'} kp rv' eD' n9 tk=>by
     obtain⟨m',hm,w9⟩:=hN ys' H9 n9
     have fD9:H9 D=none:=(I9.pin (D,_) (List.mem_append_right _ (List.mem_append_left _ memD))).2.1
     have fr9:∀ b∈fp,H9 b=none:=fun b hb=>by
      obtain⟨o,e,d⟩:=T.obj _ _ st7 b hb
      exact(I9.pin (b,o) (List.mem_append_right _ (List.mem_append_right _ (mem_pinsAt hb e)))).2.1
     have I10:Inv Xi [] σ8 H9 s9:=I9.pins_of fun p hp=>by cases hp
     have I11:Inv Xi [] σ8 H9 { s9 with heap:=h',toks:=tk }:=I10.turned (it:=D) kp fD9 Dl (.inl DX) (okX.exf D DX).2 (fun p hp=>by rw[xpn]at hp;cases hp)
     refine⟨m',hm,i+1,ys',H9,I11.weak l8.symm keepσ,T.keep _ _ _ st7 fun b hb o e=>kp b o (fpo b hb).2 (I9.pin (b,o) (List.mem_append_right _ (List.mem_append_right _ (mem_pinsAt hb e)))).1,fr9,fD9,⟨its',c',rv',eD'⟩,w9⟩
    cases ok with
    | false =>
     rw[if_neg Bool.false_ne_true]at q9
     have eD9:=(I9.pin (D,_) (List.mem_append_right _ (List.mem_append_left _ memD))).1
     exact wpAny_pure ⟨rfl,ends I9 (h':=s9.heap) (fun _ _ _ e=>e) rv eD9 q9 s9.toks⟩
    | true =>
     rw[if_pos rfl]at q9
     have q10:=heX _ s9 σ8 H9 _ I9 q9
     rw[xp,xw,xA,xx]at q10
     refine wpAny_bind (wpAny_bind (wpAny_mono q10 (fun v s10 ⟨y,H10,I10,r10,q10⟩=>?_) fun _ _ z=>z.elim))
     have eD10:=(I10.pin (D,_) (List.mem_append_right _ (List.mem_append_left _ memD))).1
     have hlen:=rv.length
     refine wpAny_bind (wpAny_list_append_plain (items:=its.toArray) ⟨c,eD10⟩ (fun h' hl hs=>wpAny_pure (wpAny_pure ⟨rfl,?_⟩)) (by rw[List.size_toArray];omega))
     obtain⟨c',e'⟩:=hl
     have e'':h'.get? D=some { cls:=.type "list",data:=.seq (its++[v]).toArray c' }:=by rw[e'];simp
     exact ends I10 (h':=h') (fun b o hb e=>hs.extBut b o hb e) (rv.append (.cons r10 .nil)) e'' q10 s10.toks
  ·exact T.keep 0 _ _ st2 fun b hb o e=>up b o (by rw[e3];exact Heap.get?_push_of_some _ e)
 have e4:({ s2 with heap:=h₁,toks:=s2.toks+([]:List (Str×Value)).length }:Shared)={ s3 with heap:=h₁,toks:=s3.toks }:=by rw[← hs3];rfl
 rw[e4]
 show codeAny _ _ (.compStart (.ListComp elt [⟨tg,iter,ifs,0⟩] inn pos) 0 (.ref it) (.ref D) (compEnvC inn (closL inn X.env) s3.heap.objs.size X.env)) (RR (.ref D) s3.heap.objs.size) _
 rw[← xe]
 refine codeAny_compStart_list loop ?_
 refine T.self X.A 0 _ _ _ ?_ loop
 exact T.keep 0 _ _ st2 fun b hb o e=>up b o (by rw[e3];exact Heap.get?_push_of_some _ e)
end
end L2
namespace L2
open PySem PySem.Spec PyProof.Rows
section
variable {X:Cx} {inn:Scope} {js:List Nat} {cs ts:List Str} {nt:Nat} {elt tg iter:Expr} {ifs:List Expr} {pos:Pos} {g:TG} {tt:TT} {te:TE} {wi:TI}
theorem pe_comp (ts cs:List Str) (js:List Nat) (hcalm:X.calm=true) (O:CompOk X.env.scope inn X.N js cs) (hi:PI X tg iter wi)
 (hg:∀ s₀ H₀ ex,PG (cxIn X inn (ts++cs) s₀ H₀ ex) tg g) (hk:GK ts.length g) (ht:∀ s₀ H₀ ex,PIf (cxIn X inn (ts++cs) s₀ H₀ ex) ifs tt) (he:∀ s₀ H₀ ex,PE (cxIn X inn (ts++cs) s₀ H₀ ex) elt te)
 (hs:∀ x,foldedSetIterable iter X.env x=pure x:=by intro _;rfl):PE X (.ListComp elt [⟨tg,iter,ifs,0⟩] inn pos) (tComp wi ts.length js g tt te):=by
 intro pins s σ H Q I h
 rw[eval_ListComp]
 refine wpAny_comprehension_free (use:=none) rfl hs (closFor fun y hy e=>I.ok.has y.1 (O.frees y hy e)) O.kind O.names (thn (hi pins s σ H _ I h) fun xv s1 h1=>thn h1 fun itv s2 h2=>?_)
 obtain⟨it,fp,tn,J,H2,e,I2,T,st2,f2,R⟩:=h2
 subst e
 refine comp_core (Q:=Q) (RR:=fun acc C=>compPost (model X.prog X.w) X.A X.xe none (EP X pins σ Q) acc C) hcalm O rfl hg hk ht he I2 T st2 f2 R ?_
 intro D C s' H' I' ⟨m,hm⟩ c1 c2 c3 c4 c5 q
 refine⟨m,hm,fun h' hsb=>?_⟩
 exact⟨.ref D,H',I'.turned (it:=C) (t':=s'.toks) (fun b o hb e=>hsb.extBut b o hb e) c1 c2 (.inr c3) c4 c5,rfl,q⟩
theorem ps_setc {i:Nat} {x:Str} {pos' spos:Pos} (ts cs:List Str) (js:List Nat) (hcalm:X.calm=true) (hN:X.N.Nodup) (hi':X.N[i]?=some x) (hx:X.env.scope.names.lookup x=some .local) (O:CompOk X.env.scope inn X.N js cs) (hi:PI X tg iter wi)
 (hg:∀ s₀ H₀ ex,PG (cxIn X inn (ts++cs) s₀ H₀ ex) tg g) (hk:GK ts.length g) (ht:∀ s₀ H₀ ex,PIf (cxIn X inn (ts++cs) s₀ H₀ ex) ifs tt) (he:∀ s₀ H₀ ex,PE (cxIn X inn (ts++cs) s₀ H₀ ex) elt te)
 (hsw:swapsWith (.ListComp elt [⟨tg,iter,ifs,0⟩] inn pos) (some (.Name x pos')) spos.line X.env=pure true) (hs:∀ x,foldedSetIterable iter X.env x=pure x:=by intro _;rfl) :
 PS X (.Assign [.Name x pos'] (.ListComp elt [⟨tg,iter,ifs,0⟩] inn pos) spos) (tAsg (tComp wi ts.length js g tt te) (gName i)):=by
 intro pins s σ H D I h
 rw[exec_Assign_Name_used _ _ _ _ hsw]
 refine wpAny_bind (wpAny_standAt (wpAny_bind ?_))
 show wpAny _ X.A (do let _ ← comprehension (.ListComp elt [⟨tg,iter,ifs,0⟩] inn pos) inn X.env _ (newList []) false (eval iter X.env) (some (assign (.Name x pos') X.env))) _ _ s
 refine wpAny_bind (wpAny_mono (wpAny_comprehension_free (use:=some (assign (.Name x pos') X.env)) (Q:=fun _ s'=>SP X pins D .next s') rfl hs (closFor fun y hy e=>I.ok.has y.1 (O.frees y hy e)) O.kind O.names
  (thn (hi pins s σ H _ I h) fun xv s1 h1=>thn h1 fun itv s2 h2=>?_)) (fun _ s' hq=>wpAny_pure (wpAny_pure hq)) fun _ _ e=>e)
 obtain⟨it,fp,tn,J,H2,e,I2,T,st2,f2,R⟩:=h2
 subst e
 refine comp_core (Q:=fun v H'=>D.nx (σ.set i (some v)) H') (RR:=fun acc C=>compPost (model X.prog X.w) X.A X.xe (some (assign (.Name x pos') X.env)) (fun _ s'=>SP X pins D .next s') acc C) hcalm O rfl hg hk ht he I2 T st2 f2 R ?_
 intro D' C s' H' I' ⟨m,hm⟩ c1 c2 c3 c4 c5 q
 show wpAny _ X.A (assign (.Name x pos') X.env (.ref D')) _ _ _
 refine wpAny_assign_Name (store_ok2 (v:=.ref D') I' hN hi' (.inl hx) rfl (fun s2 I2 ⟨a,hsb,ha⟩=>?_) (.inr hx))
 have hCa:C≠a:=by
  rcases ha with e | e
  ·rw[e];exact c2
  ·exact fun z=>c4 _ _ e z.symm
 refine⟨m,hm.sameBut hsb hCa,fun h' hsb'=>?_⟩
 exact⟨_,H',I2.turned (it:=C) (t':=s2.toks) (fun b o hb e=>hsb'.extBut b o hb e) c1 c2 (.inr c3) c4 c5,q⟩
end
theorem comp_list {K:PySem.W.Frag} {a:Addr} {xs:List V} {σ0:St} {g:TG} {tt:TT} {te:TE} {H:Hp} {Q:VK} (Pv:Nat→List V→Hp→Prop) (h0:Pv 0 [] H) (hl:∀ i ys H,i≤xs.length→Pv i ys H→SqL K H a xs∧ys.length<sizeLine)
 (hs:∀ i x ys H,xs[i]?=some x→Pv i ys H→g x σ0 H fun σ2 H2=>tt σ2 H2 fun b H3=>if b=true then te σ2 H3 fun y H4=>Pv (i+1) (ys++[y]) H4 else Pv (i+1) ys H3) (hd:∀ ys H,Pv xs.length ys H→∀ D,H D=none→Q (.ref D) (upd H D (.lst ys))) :
 CompR (Itl K a) σ0 g tt te Q H:=by
 refine⟨fun i m ys H=>m=xs.length - i∧i≤xs.length∧Pv i ys H,⟨xs.length,by simp,Nat.zero_le _,h0⟩,?_⟩
 rintro i m ys H ⟨rfl,hi,p⟩
 obtain⟨q,hz⟩:=hl i ys H hi p
 refine⟨hz,?_⟩
 by_cases hlt:i<xs.length
 ·refine .inr ⟨⟨xs,xs[i],q,by simp[hlt]⟩,Pv (i+1),fun ys' H' p'=>⟨xs.length - (i+1),by omega,rfl,hlt,p'⟩,fun x H' y=>?_⟩
  obtain⟨e,y⟩:=y
  subst e
  exact hs i x ys _ (y xs q) p
 ·have e:i=xs.length:=by omega
  subst e
  exact .inl ⟨⟨xs,q,Nat.le_refl _⟩,hd ys H p⟩
theorem comp_range {lo:Int} {n:Nat} {σ0:St} {g:TG} {tt:TT} {te:TE} {H:Hp} {Q:VK} (Pv:Nat→List V→Hp→Prop) (h0:Pv 0 [] H) (hl:∀ i ys H,i≤n→Pv i ys H→ys.length<sizeLine)
 (hs:∀ i ys H,i<n→Pv i ys H→g (.int (lo+i)) σ0 H fun σ2 H2=>tt σ2 H2 fun b H3=>if b=true then te σ2 H3 fun y H4=>Pv (i+1) (ys++[y]) H4 else Pv (i+1) ys H3) (hd:∀ ys H,Pv n ys H→∀ D,H D=none→Q (.ref D) (upd H D (.lst ys))) :
 CompR (Itr lo n) σ0 g tt te Q H:=by
 refine⟨fun i m ys H=>m=n - i∧i≤n∧Pv i ys H,⟨n,by simp,Nat.zero_le _,h0⟩,?_⟩
 rintro i m ys H ⟨rfl,hi,p⟩
 refine⟨hl i ys H hi p,?_⟩
 by_cases hlt:i<n
 ·refine .inr ⟨hlt,Pv (i+1),fun ys' H' p'=>⟨n - (i+1),by omega,rfl,hlt,p'⟩,fun x H' y=>?_⟩
  obtain⟨e,y⟩:=y
  subst e y
  exact hs i ys _ hlt p
 ·have e:i=n:=by omega
  subst e
  exact .inl ⟨Nat.le_refl _,hd ys H p⟩
end L2
namespace L2
open PySem PySem.Spec PyProof.Rows
mutual
inductive Den (H:Hp):V→PyData→Prop
 | non:Den H .non .none
 | bl (b:Bool):Den H (.bl b) (.bool b)
 | int (i:Int):Den H (.int i) (.int i)
 | str (x:Str):Den H (.str x) (.str x)
 | lst {a:Addr} {vs:List V} {ds:List PyData}:H a=some (.lst vs)→Dens H vs ds→Den H (.ref a) (.list ds)
 | tup {a:Addr} {vs:List V} {ds:List PyData}:H a=some (.tup vs)→Dens H vs ds→Den H (.ref a) (.tuple ds)
inductive Dens (H:Hp):List V→List PyData→Prop
 | nil:Dens H [] []
 | cons {v:V} {d:PyData} {vs:List V} {ds:List PyData}:Den H v d→Dens H vs ds→Dens H (v :: vs) (d :: ds)
end
theorem Dens.length:∀ {H:Hp} {vs:List V} {ds:List PyData},Dens H vs ds→vs.length=ds.length
 | _,_,_,.nil=>rfl
 | _,_,_,.cons _ t=>congrArg Nat.succ (Dens.length t)
theorem Dens.append:∀ {H:Hp} {vs us:List V} {ds es:List PyData},Dens H vs ds→Dens H us es→Dens H (vs++us) (ds++es)
 | _,_,_,_,_,.nil,s=>s
 | _,_,_,_,_,.cons r t,s=>.cons r (Dens.append t s)
mutual
theorem Den.mono {H H':Hp} (e:Same H H'):∀ {v:V} {d:PyData},Den H v d→Den H' v d
 | _,_,.non=>.non
 | _,_,.bl b=>.bl b
 | _,_,.int i=>.int i
 | _,_,.str x=>.str x
 | _,_,.lst h t=>.lst (e _ _ h) (Dens.mono e t)
 | _,_,.tup h t=>.tup (e _ _ h) (Dens.mono e t)
theorem Dens.mono {H H':Hp} (e:Same H H'):∀ {vs:List V} {ds:List PyData},Dens H vs ds→Dens H' vs ds
 | _,_,.nil=>.nil
 | _,_,.cons r t=>.cons (Den.mono e r) (Dens.mono e t)
end
theorem Dens.ints {H:Hp}:∀ ns:List Int,Dens H (ns.map V.int) (ns.map PyData.int)
 | []=>.nil
 | n :: r=>.cons (.int n) (Dens.ints r)
theorem Den.ints {H:Hp} {a:Addr} {ns:List Int} (h:H a=some (.lst (ns.map V.int))):Den H (.ref a) (.list (ns.map PyData.int)):=.lst h (Dens.ints ns)
theorem Same.upd {H:Hp} {a:Addr} {o:HO} (h:H a=none):Same H (upd H a o):=fun b u e=>by rw[upd_ne (ne_of_none e h)];exact e
theorem Same.upd' {H H0:Hp} {a:Addr} {o:HO} (h:H0 a=none) (s:Same H0 H):Same H0 (L2.upd H a o):=fun b u e=>by rw[upd_ne (ne_of_none e h)];exact s b u e
section
variable {P:Program} {w:World} {H:Hp} {h:Heap}
mutual
theorem Den.reads (ok:HOk P w H h):∀ {v:V} {d:PyData} {u:Value},Den H v d→RelV v u→∃ as,Reads h u d as
 | _,_,_,.non,r=>by cases r;exact⟨_,.none⟩
 | _,_,_,.bl b,r=>by cases r;exact⟨_,.bool b⟩
 | _,_,_,.int i,r=>by obtain⟨t,rfl⟩:=r;exact⟨_,.int i t⟩
 | _,_,_,.str x,r=>by obtain⟨t,rfl⟩:=r;exact⟨_,.str x t⟩
 | _,_,_,.lst (a:=a) e t,r=>by
  cases r
  obtain⟨_,its,n,rv,ho⟩:=ok a _ e
  obtain⟨as,q⟩:=Dens.reads ok t rv
  exact⟨_,.list ho rfl rfl (by simpa using q)⟩
 | _,_,_,.tup (a:=a) e t,r=>by
  cases r
  obtain⟨_,its,rv,o,ho,hc,n,hd⟩:=ok a _ e
  obtain⟨as,q⟩:=Dens.reads ok t rv
  exact⟨_,.tuple ho hc hd (by simpa using q)⟩
theorem Dens.reads (ok:HOk P w H h):∀ {vs:List V} {ds:List PyData} {us:List Value},Dens H vs ds→Vals vs us→∃ as,ReadsAll h us ds as
 | _,_,_,.nil,.nil=>⟨_,.nil⟩
 | _,_,_,.cons r t,.cons q s=>by
  obtain⟨a,x⟩:=Den.reads ok r q
  obtain⟨b,y⟩:=Dens.reads ok t s
  exact⟨_,.cons x y⟩
end
end
noncomputable def rNeD:R2:=fun x y H Q=>∃ d e,Den H x d∧Den H y e∧SeqAt.shaped d=true∧SeqAt.shaped e=true∧Q (.bl (!PyData.eqv d e)) H
section
variable {X:Cx}
theorem op_neD (hu:X.A.units+64<cLine):OpR X (compareOp .NotEq) rNeD:=by
 intro pins s σ H x y v u Q I rx ry h
 obtain⟨d,e,hd,he,sd,se,q⟩:=h
 obtain⟨as,r1⟩:=hd.reads I.hok rx
 obtain⟨bs,r2⟩:=he.reads I.hok ry
 exact ne_dataH r1 r2 sd se hu ⟨.bl _,H,I,rfl,q⟩
noncomputable def tyD:PyData→String
 | .none=>"NoneType" | .bool _=>"bool" | .int _=>"int" | .str _=>"str" | .list _=>"list" | .tuple _=>"tuple" | .dict _=>"dict"
theorem Den.ty {K:PySem.W.Frag} {H:Hp} {v:V} {d:PyData} (h:Den H v d):TyOf K H v (.type (tyD d)):=by
 cases h with
 | non=>exact .non
 | bl b=>exact .bl b
 | int i=>exact .int i
 | str x=>exact .str x
 | lst e _=>exact .lst e
 | tup e _=>exact .tup e
end
end L2
namespace L2
open PySem PySem.Spec PyProof.Rows
theorem boot_list:bootBuiltins "list"=some (.type "list"):=by decide +kernel
theorem boot_tuple:bootBuiltins "tuple"=some (.type "tuple"):=by decide +kernel
theorem boot_sorted:bootBuiltins "sorted"=some (.builtin "sorted"):=by decide +kernel
theorem boot_max:bootBuiltins "max"=some (.builtin "max"):=by decide +kernel
theorem boot_min:bootBuiltins "min"=some (.builtin "min"):=by decide +kernel
structure Bt (mg:Str→Option Value):Prop where
 len:mg "len"=none
 range:mg "range"=none
 list:mg "list"=none
 tuple:mg "tuple"=none
 bool:mg "bool"=none
 str:mg "str"=none
 int:mg "int"=none
 isinstance:mg "isinstance"=none
 all:mg "all"=none
 sorted:mg "sorted"=none
 max:mg "max"=none
 min:mg "min"=none
 set:mg "set"=none
 reversed:mg "reversed"=none
 sum:mg "sum"=none
 enumerate:mg "enumerate"=none
 zip:mg "zip"=none
 any:mg "any"=none
 abs:mg "abs"=none
noncomputable def FnAt (P:Program) (w:World) (K:PySem.W.Frag) (mg:Str→Option Value) (base:Heap) (x:Str) (k:Nat) (ps:List Str) (sp:Sp):Prop :=
 ∃ f fd,FnOk P w K mg base CX0 k f fd ps sp∧mg x=some (.ref f)∧PySem.W.keepIn K (.ref f)=true∧Binds K fd ps []
section
variable {X:Cx} {x:Str} {j k:Nat} {ps:List Str} {sp:Sp} {t:TA} {e:Expr} {es:List Expr} {p pos:Pos}
theorem pe_fn (F:FnAt X.prog X.w X.K X.mg X.base x j ps sp) (hr:Room k X.A) (hg:Gl X x) (ha:PA X (e :: es) t) (hj:j≤k:=by decide) (hdb:(x == ("__debug__":Str))=false:=by decide)
 (he:starEach (e :: es) X.env=(false,eval e X.env) :: starEach es X.env:=by rfl) (hpl:(backTo pos (starEach es X.env)).any (·.1)=false:=by rfl) :
 PE X (.Call (.Name x p) (e :: es) [] pos) (tCall sp [] E0 t):=by
 obtain⟨f,fd,G,hm,hk,hb⟩:=F
 exact pe_call (hdb:=hdb) (he:=he) (hpl:=hpl) G (hr.mono hj) hg hm hk hb .nil pass0 ha
theorem op_eqI:OpR X (compareOp .Eq) (rI0 fun i j=>.bl (decide (i=j))):=opB0 fun i j _ _ _ _ _ q=>eq_int (by
 have e:(i == j)=decide (i=j):=by rw[Bool.eq_iff_iff];simp
 rw[e];exact q)
end
noncomputable def tCut (t u:TS):TS:=fun D σ H=>∃ M:St→Hp→Prop,t { D with nx:=M } σ H∧∀ σ' H',M σ' H'→u D σ' H'
theorem pss_cut {X:Cx} {st:Stmt} {rest:List Stmt} {t u:TS} (h1:PS X st t) (h2:PSs X rest u):PSs X (st :: rest) (tCut t u):=by
 intro pins s σ H D I h
 obtain⟨M,h,hM⟩:=h
 refine wpAny_execs_cons (thn (h1 pins s σ H { D with nx:=M } I h) fun f s1 q=>?_)
 cases f with
 | next =>
  obtain⟨σ',H',I',q⟩:=q
  exact h2 pins s1 σ' H' D I' (hM σ' H' q)
 | ret v=>exact q
 | brk=>exact q
 | cont=>exact q
noncomputable def tCutE (t:TE):TE:=fun σ H Q=>∃ R:VK,t σ H R∧∀ v H',R v H'→Q v H'
theorem pe_cut {X:Cx} {e:Expr} {t:TE} (h:PE X e t):PE X e (tCutE t):=by
 intro pins s σ H Q I hw
 obtain⟨R,hw,hR⟩:=hw
 exact thn (h pins s σ H R I hw) fun u s1 ⟨v,H1,I1,r1,q1⟩=>⟨v,H1,I1,r1,hR v H1 q1⟩
theorem iteD {c:Prop} [Decidable c] {A B:Prop} (h1:c→A) (h2:¬ c→B):if decide c=true then A else B:=by
 by_cases h:c
 ·rw[decide_eq_true h,if_pos rfl];exact h1 h
 ·rw[decide_eq_false h,if_neg Bool.false_ne_true];exact h2 h
theorem iteDT {c:Prop} [Decidable c] {A B:Prop} (hc:c) (h1:A):if decide c=true then A else B:=by
 rw[decide_eq_true hc,if_pos rfl];exact h1
theorem iteDF {c:Prop} [Decidable c] {A B:Prop} (hc:¬ c) (h1:B):if decide c=true then A else B:=by
 rw[decide_eq_false hc,if_neg Bool.false_ne_true];exact h1
section
variable {X:Cx} (K:PySem.W.Frag)
theorem ix_tupK (h:X.K=K):IxR X (rIxT K):=h ▸ ix_tup
theorem call_len_seqK (h:X.K=K):CallR X (.builtin "len") (fun xs H Q=>∃ p ys,xs=[.ref p]∧(SqL K H p ys∨SqT K H p ys)∧Q (.int ys.length) H):=h ▸ call_len_seq
theorem pg_tupK {es:List Expr} {k:Nat} {t:TGs} {n:Nat} {pos:Pos} (h:X.K=K) (hc:X.calm=true) (hs:PGs X es t) (hn:(assignEach es X.env).length=n:=by rfl) (hst:(assignEach es X.env).findIdx? (·.1)=none:=by rfl):PG X (.Tuple es k pos) (gTup K n t):=h ▸ pg_tup hc hs hn hst
end
end L2
namespace CW
noncomputable def goM (c:Int):List Int→Nat→Int→List Int
 | [],h,n=>(List.range h).map (fun(k:Nat)=>n+(k:Int))
 | p :: r,h,n=>(List.range (min h (p - n).toNat)).map (fun(k:Nat)=>n+(k:Int)) ++
  (if ((h - min h (p - n).toNat:Nat):Int)<c then goM c r (h - min h (p - n).toNat+1) (p+1)else p :: goM c r (h - min h (p - n).toNat) (p+1))
noncomputable def walkM (row:List Int) (c:Int):List Int:=goM c row 0 0
theorem range_map_succ (k:Nat) (n:Int):(List.range (k+1)).map (fun(j:Nat)=>n+(j:Int))=n :: (List.range k).map (fun(j:Nat)=>(n+1)+(j:Int)):=by
 rw[List.range_succ_eq_map,List.map_cons,List.map_map]
 congr 1
 ·simp
 ·apply List.map_congr_left
  intro j _
  simp only[Function.comp]
  omega
theorem goM_hit {c:Int} {p:Int} {r:List Int} {h:Nat} {n:Int} (hh:h=0∨p≤n):goM c (p :: r) h n=if (h:Int)<c then goM c r (h+1) (p+1)else p :: goM c r h (p+1):=by
 have e:min h (p - n).toNat=0:=by omega
 simp only[goM,e,List.range_zero,List.map_nil,List.nil_append,Nat.sub_zero]
theorem goM_gap {c:Int} {p:Int} {r:List Int} {h:Nat} {n:Int} (hp:n<p):goM c (p :: r) (h+1) n=n :: goM c (p :: r) h (n+1):=by
 have e:min (h+1) (p - n).toNat=min h (p - (n+1)).toNat+1:=by omega
 have e2:h+1 - (min h (p - (n+1)).toNat+1)=h - min h (p - (n+1)).toNat:=by omega
 rw[goM,goM,e,e2,range_map_succ]
 simp
theorem goM_nil_succ (c:Int) (h:Nat) (n:Int):goM c [] (h+1) n=n :: goM c [] h (n+1):=by
 simp only[goM]
 exact range_map_succ h n
theorem goM_nil_zero (c:Int) (n:Int):goM c [] 0 n=[]:=rfl
theorem goM_zero {c:Int} {row:List Int} {n m:Int}:goM c row 0 n=goM c row 0 m:=by
 cases row with
 | nil=>rfl
 | cons p r=>rw[goM_hit (.inl rfl),goM_hit (.inl rfl)]
theorem goM_len {c:Int}:∀ (row:List Int) (h:Nat) (n:Int),(goM c row h n).length=row.length+h
 | [],h,n=>by simp[goM]
 | p :: r,h,n=>by
  rw[goM]
  have hm:min h (p - n).toNat≤h:=Nat.min_le_left _ _
  split
  ·rw[List.length_append,List.length_map,List.length_range,goM_len r,List.length_cons];omega
  ·rw[List.length_append,List.length_map,List.length_range,List.length_cons,goM_len r,List.length_cons];omega
theorem walkM_len (row:List Int) (c:Int):(walkM row c).length=row.length:=by simp[walkM,goM_len]
noncomputable def RowP (r:List Int):Prop:=r.Pairwise (·<·)
theorem goM_ge {c:Int}:∀ (row:List Int) (h:Nat) (n:Int),RowP row→(∀ x∈row,n≤x∨h=0)→∀ y∈goM c row h n,(n≤y∨h=0)∧(h=0→∀ x,row.head?=some x→x≤y)
 | [],h,n,_,_=>fun y hy=>by
  simp only[goM,List.mem_map,List.mem_range]at hy
  obtain⟨k,hk,rfl⟩:=hy
  exact⟨.inl (by omega),fun h0=>by omega⟩
 | p :: r,h,n,hr,hn=>fun y hy=>by
  have hp:n≤p∨h=0:=hn p List.mem_cons_self
  have hrr:RowP r:=(List.pairwise_cons.mp hr).2
  have hlt:∀ x∈r,p+1≤x:=fun x hx=>by have:=(List.pairwise_cons.mp hr).1 x hx;omega
  rw[goM]at hy
  have fst:y∈(List.range (min h (p - n).toNat)).map (fun(k:Nat)=>n+(k:Int))→n≤y∧h≠0:=fun q=>by
   simp only[List.mem_map,List.mem_range]at q
   obtain⟨k,hk,rfl⟩:=q
   omega
  have snd:∀ h',y∈goM c r h' (p+1)→p≤y:=fun h' q=>by
   have z:=goM_ge r h' (p+1) hrr (fun x hx=>.inl (hlt x hx)) y q
   rcases z.1 with z1 | z1
   ·omega
   ·cases r with
    | nil=>subst z1;simp[goM]at q
    | cons x r' =>
     have:=z.2 z1 x rfl
     have:=hlt x List.mem_cons_self
     omega
  rcases List.mem_append.mp hy with q | q
  ·have:=fst q
   exact⟨.inl this.1,fun h0=>absurd h0 this.2⟩
  ·have hy':p≤y:=by
    split at q
    ·exact snd _ q
    ·rcases List.mem_cons.mp q with q | q
     ·omega
     ·exact snd _ q
   refine⟨?_,fun _ x hx=>?_⟩
   ·rcases hp with z | z
    ·exact .inl (by omega)
    ·exact .inr z
   ·cases hx;exact hy'
theorem goM_row {c:Int} (hc:1≤c):∀ (row:List Int) (h:Nat) (n:Int),RowP row→(∀ x∈row,n≤x∨h=0)→RowP (goM c row h n)
 | [],h,n,_,_=>by
  unfold RowP
  simp only[goM]
  rw[List.pairwise_map]
  exact(List.pairwise_lt_range).imp (fun {x y} q=>by omega)
 | p :: r,h,n,hr,hn=>by
  have hp:n≤p∨h=0:=hn p List.mem_cons_self
  have hrr:RowP r:=(List.pairwise_cons.mp hr).2
  have hlt:∀ x∈r,p+1≤x:=fun x hx=>by have:=(List.pairwise_cons.mp hr).1 x hx;omega
  have ihr:∀ h',RowP (goM c r h' (p+1)):=fun h'=>goM_row hc r h' (p+1) hrr (fun x hx=>.inl (hlt x hx))
  have ge:∀ h' y,y∈goM c r h' (p+1)→p+1≤y:=fun h' y q=>by
   have z:=goM_ge r h' (p+1) hrr (fun x hx=>.inl (hlt x hx)) y q
   rcases z.1 with z1 | z1
   ·exact z1
   ·cases r with
    | nil=>subst z1;simp[goM]at q
    | cons x r' =>
     have:=z.2 z1 x rfl
     have:=hlt x List.mem_cons_self
     omega
  rw[goM]
  unfold RowP
  rw[List.pairwise_append]
  refine⟨?_,?_,fun x hx y hy=>?_⟩
  ·rw[List.pairwise_map]
   exact(List.pairwise_lt_range).imp (fun {x y} q=>by omega)
  ·split
   ·exact ihr _
   ·rw[List.pairwise_cons]
    exact⟨fun y hy=>by have:=ge _ y hy;omega,ihr _⟩
  ·simp only[List.mem_map,List.mem_range]at hx
   obtain⟨k,hk,rfl⟩:=hx
   have hy':p≤y:=by
    split at hy
    ·have:=ge _ y hy;omega
    ·rcases List.mem_cons.mp hy with q | q
     ·omega
     ·have:=ge _ y q;omega
   omega
end CW
namespace CW
noncomputable def stp (c:Int) (l:Nat) (x:Bool):Nat×Bool :=
 if x then (if (l:Int)<c then (l+1,false)else (l,true))else (if 0<l then (l - 1,true)else (0,false))
noncomputable def run (c:Int):Nat→List Bool→Nat×List Bool
 | l,[]=>(l,[])
 | l,x :: xs=>((run c (stp c l x).1 xs).1,(stp c l x).2 :: (run c (stp c l x).1 xs).2)
end CW
namespace CW
open PySem L2
theorem at_mem {ns:List Int} {i:Int} (h0:0≤i) (h1:i<ns.length):∃ n,n∈ns∧ns[i.toNat]?=some n∧atI (ns.map V.int) i=some (.int n):=by
 have hj:i.toNat<ns.length:=by omega
 refine⟨ns[i.toNat],List.getElem_mem hj,by simp[hj],?_⟩
 have q:atI (ns.map V.int) ((i.toNat:Nat):Int)=some (.int ns[i.toNat]):=atI_nat (by simp[hj])
 rw[Int.toNat_of_nonneg h0]at q
 exact q
theorem line_of {n:Nat} (h:n≤10000):n<sizeLine:=Nat.lt_of_le_of_lt h (by decide)
theorem line_le {n:Nat} (h:n≤10000):n≤sizeLine:=Nat.le_of_lt (line_of h)
noncomputable def Nums (ns:List Int):Prop:=∀ n∈ns,0≤n∧n<9967
theorem cutV_ints (ns:List Int) (lo hi:Option Int):∃ ms:List Int,cutV (ns.map V.int) lo hi=ms.map V.int∧ms.length≤ns.length∧∀ n∈ms,n∈ns:=by
 refine⟨(ns.drop (HT.sIx ns.length 0 lo)).take (HT.sIx ns.length ns.length hi - HT.sIx ns.length 0 lo),?_,?_,?_⟩
 ·unfold cutV
  simp only[List.length_map,List.map_take,List.map_drop]
 ·simp only[List.length_take,List.length_drop];omega
 ·intro n hn
  exact List.mem_of_mem_drop (List.mem_of_mem_take hn)
theorem cut_to (ns:List Int) (k:Nat) (h:k≤ns.length):cutV (ns.map V.int) none (some (k:Int))=(ns.take k).map V.int:=by
 unfold cutV
 rw[HT.sIx_none,HT.sIx_nat,List.length_map,List.drop_zero,Nat.sub_zero,Nat.min_eq_left h,List.map_take]
theorem cut_from (ns:List Int) (k:Nat) (h:k≤ns.length):cutV (ns.map V.int) (some (k:Int)) none=(ns.drop k).map V.int:=by
 unfold cutV
 rw[HT.sIx_none,HT.sIx_nat,List.length_map,Nat.min_eq_left h,← List.map_drop,← List.map_take,List.take_of_length_le (by simp)]
noncomputable def sd1 (seed z:Int):Int:=(seed * 40014+z % 999983+29) % 2147483563
noncomputable def sd2 (seed:Int) (ys:List Int):Int:=(seed * seed+52774 * seed+13 * ((List.map V.int ys).length:Int)+7) % 2147483629
noncomputable def rs1 (z:Int):Int:=z - 10 ^ (18:Int).toNat
inductive spNumbers (K:PySem.W.Frag) (vs:List V) (H:Hp) (Q:VK) (E_:XK):Prop
 | mk (a:Addr) (script:List Int) (m:Nat) (h0_:vs=[.ref a,.int m]) (h1_:SqL K H a (script.map V.int)) (h2_:script.length≤63) (h3_:m≤1000) (h4_:∀ (l:Addr) (ns:List Int) (H':Hp),ns.length=m→Nums ns→H l=none→Same H H'→H' l=some (.lst (ns.map V.int))→Q (.ref l) H'):spNumbers K vs H Q E_
noncomputable def Row (r:List Int):Prop:=r.Pairwise (·<·)
theorem Row.lt {r:List Int} (h:Row r) {i j:Nat} {x y:Int} (hij:i<j) (hx:r[i]?=some x) (hy:r[j]?=some y):x<y:=by
 obtain⟨h1,rfl⟩:=List.getElem?_eq_some_iff.mp hx
 obtain⟨h2,rfl⟩:=List.getElem?_eq_some_iff.mp hy
 exact List.pairwise_iff_getElem.mp h i j h1 h2 hij
noncomputable def RetL (H:Hp) (Q:VK) (ns:List Int):Prop:=∀ (l:Addr) (H':Hp),H l=none→Same H H'→H' l=some (.lst (ns.map V.int))→Q (.ref l) H'
inductive spLook (vs:List V) (H:Hp) (Q:VK) (E_:XK):Prop
 | mk (a:Addr) (row:List Int) (h0_:vs=[.ref a]) (h1_:H a=some (.lst (row.map V.int))) (h2_:Row row) (h3_:row.length≤60) (h4_:Q .non H):spLook vs H Q E_
structure Cn (mg:Str→Option Value) (tC:Tok):Prop where
 MOST_STONES:mg "MOST_STONES"=some (.int 60 tC)
theorem snoc_map {l:List Int} {i:Nat} {z:Int} (f:Int→Int) (h:l[i]?=some z):((l.take i).map f).map V.int++[V.int (f z)]=((l.take (i+1)).map f).map V.int:=by
 rw[List.take_succ,h]
 simp
theorem int_at {l:List Int} {i:Nat} {x:V} (h:(l.map V.int)[i]?=some x):∃ z,x=.int z∧l[i]?=some z:=by
 rw[List.getElem?_map]at h
 cases e:l[i]? with
 | none=>rw[e]at h;cases h
 | some z=>rw[e]at h;exact⟨z,(Option.some.inj h).symm,rfl⟩
theorem take_len {α:Type} (l:List α) (i:Nat) (h:i≤60) (f:α→Int):((((l.take i).map f).map V.int)).length<sizeLine:=by
 simp only[List.length_map,List.length_take]
 exact line_of (by omega)
noncomputable def PairAt (H:Hp) (v:V) (p:Int×Int):Prop:=∃ t,v=.ref t∧H t=some (.tup [.int p.1,.int p.2])
noncomputable abbrev Prs (H:Hp):List V→List (Int×Int)→Prop:=Paired (PairAt H)
noncomputable def TupS (H H':Hp):Prop:=∀ t xs,H t=some (.tup xs)→H' t=some (.tup xs)
theorem Prs.mono {H H':Hp} (h:TupS H H') {vs:List V} {ps:List (Int×Int)} (r:Prs H vs ps):Prs H' vs ps:=Paired.mapP r fun _ _ ⟨t,e,q⟩=>⟨t,e,h _ _ q⟩
theorem TupS.new {H:Hp} {a:Addr} {o:HO} (h:H a=none):TupS H (upd H a o):=fun t xs e=>by rw[upd_ne (ne_of_none e h)];exact e
theorem TupS.lst {H:Hp} {a:Addr} {xs ys:List V} (h:H a=some (.lst xs)):TupS H (upd H a (.lst ys)):=fun t zs e=>by rw[upd_ne (ne_of e h (by intro z;cases z))];exact e
theorem TupS.same {H H':Hp} (h:Same H H'):TupS H H':=fun t xs e=>h _ _ e
theorem TupS.trans {H H1 H2:Hp} (a:TupS H H1) (b:TupS H1 H2):TupS H H2:=fun t xs e=>b _ _ (a _ _ e)
noncomputable def pD (p:Int×Int):PyData:=.tuple [.int p.1,.int p.2]
theorem Prs.dens {H:Hp}:∀ {vs:List V} {ps:List (Int×Int)},Prs H vs ps→Dens H vs (ps.map pD)
 | _,_,.nil=>.nil
 | _,_,.cons ⟨t,e,q⟩ r=>by subst e;exact .cons (.tup q (.cons (.int _) (.cons (.int _) .nil))) (Prs.dens r)
theorem Paired.append' {α β:Type} {F:α→β→Prop}:∀ {l₁ m₁:List α} {l₂ m₂:List β},Paired F l₁ l₂→Paired F m₁ m₂→Paired F (l₁++m₁) (l₂++m₂)
 | _,_,_,_,.nil,s=>s
 | _,_,_,_,.cons r t,s=>.cons r (Paired.append' t s)
theorem Paired.split_last {α β:Type} {F:α→β→Prop} {l₁:List α} {l₂:List β} {b:β} (h:Paired F l₁ (l₂++[b])):∃ m a,l₁=m++[a]∧Paired F m l₂∧F a b:=by
 induction l₂ generalizing l₁ with
 | nil =>
  cases h with
  | cons r t=>cases t;exact⟨[],_,rfl,.nil,r⟩
 | cons c l ih =>
  cases h with
  | cons r t =>
   obtain⟨m,a,e,q,f⟩:=ih t
   exact⟨_ :: m,a,by rw[e];rfl,.cons r q,f⟩
noncomputable def stepR (ps:List (Int×Int)) (x:Int):List (Int×Int) :=
 match ps.getLast? with
 | some p=>if p.2=x - 1 then ps.dropLast++[(p.1,x)]else ps++[(x,x)]
 | none=>[(x,x)]
noncomputable def runsM (row:List Int):List (Int×Int):=row.foldl stepR []
theorem stepR_nil (x:Int):stepR [] x=[(x,x)]:=rfl
theorem stepR_snoc (ps:List (Int×Int)) (p:Int×Int) (x:Int):stepR (ps++[p]) x=if p.2=x - 1 then ps++[(p.1,x)]else (ps++[p])++[(x,x)]:=by
 unfold stepR
 rw[List.getLast?_concat,List.dropLast_concat]
theorem runs_len (ps:List (Int×Int)) (x:Int):(stepR ps x).length≤ps.length+1:=by
 rcases List.eq_nil_or_concat ps with rfl | ⟨l,p,rfl⟩
 ·exact Nat.le_refl _
 ·simp only[List.concat_eq_append]
  rw[stepR_snoc]
  split <;> simp
theorem runs_snoc {row:List Int} {i:Nat} {z:Int} (h:row[i]?=some z):stepR (runsM (row.take i)) z=runsM (row.take (i+1)):=by
 unfold runsM
 rw[List.take_succ,h]
 simp
noncomputable def RetP (H:Hp) (Q:VK) (ps:List (Int×Int)):Prop:=∀ (l:Addr) (vs:List V) (H':Hp),H l=none→Same H H'→H' l=some (.lst vs)→Prs H' vs ps→Q (.ref l) H'
inductive spStretches (vs:List V) (H:Hp) (Q:VK) (E_:XK):Prop
 | mk (a:Addr) (row:List Int) (h0_:vs=[.ref a]) (h1_:H a=some (.lst (row.map V.int))) (h2_:Row row) (h3_:row.length≤60) (h4_:RetP H Q (runsM row)):spStretches vs H Q E_
theorem ix_last (vs:List V) (v:V):ixN (vs++[v]).length (-1)=some vs.length:=by
 unfold ixN
 rw[if_neg (by decide),if_pos (by simp;omega)]
 congr 1
 simp
 omega
theorem set_last {α:Type} (vs:List α) (v u:α):(vs++[v]).set vs.length u=vs++[u]:=by
 rw[List.set_append_right _ _ (Nat.le_refl _)]
 simp
theorem canLay_pairs (ps:List (Int×Int)):PyData.canLayAll0 (ps.map pD)=true:=by
 induction ps with
 | nil=>rfl
 | cons p r ih=>simp[PyData.canLayAll0,pD,PyData.canLay0,ih]
theorem depth_pairs (ps:List (Int×Int)):PyData.depthAll (ps.map pD)≤1:=by
 induction ps with
 | nil=>simp[PyData.depthAll]
 | cons p r ih=>simp[PyData.depthAll,pD,PyData.depth];omega
theorem canLay_ints (ns:List Int):PyData.canLayAll0 (ns.map PyData.int)=true:=by
 induction ns with
 | nil=>rfl
 | cons p r ih=>simp[PyData.canLayAll0,PyData.canLay0,ih]
theorem depth_ints (ns:List Int):PyData.depthAll (ns.map PyData.int)=0:=by
 induction ns with
 | nil=>simp[PyData.depthAll]
 | cons p r ih=>simp[PyData.depthAll,PyData.depth,ih]
theorem shaped_pairs (ps:List (Int×Int)):SeqAt.shaped (.list (ps.map pD))=true:=by
 have:=depth_pairs ps
 simp[SeqAt.shaped,PyData.canLay0,canLay_pairs,PyData.depth]
 omega
theorem shaped_ints (ns:List Int):SeqAt.shaped (.list (ns.map PyData.int))=true:=by
 simp[SeqAt.shaped,PyData.canLay0,canLay_ints,PyData.depth,depth_ints]
inductive spRow (vs:List V) (H:Hp) (Q:VK) (E_:XK):Prop
 | mk (a:Addr) (ns:List Int) (m:Nat) (h0_:vs=[.ref a,.int m]) (h1_:H a=some (.lst (ns.map V.int))) (h2_:Nums ns) (h3_:m+3≤ns.length) (h4_:m≤60) (h5_:∀ row,Row row→row.length≤m→(∀ x∈row,-15≤x∧x≤800)→RetL H Q row):spRow vs H Q E_
theorem row_snoc {r:List Int} {x:Int} (h:Row r) (hx:∀ y∈r,y<x):Row (r++[x]):=by
 unfold Row
 rw[List.pairwise_append]
 exact⟨h,List.pairwise_singleton _ _,fun a ha b hb=>by rw[List.mem_singleton.mp hb];exact hx a ha⟩
inductive spLong (vs:List V) (H:Hp) (Q:VK) (E_:XK):Prop
 | mk (a:Addr) (ns:List Int) (m:Nat) (h0_:vs=[.ref a,.int m]) (h1_:H a=some (.lst (ns.map V.int))) (h2_:Nums ns) (h3_:m+3≤ns.length) (h4_:m≤60) (h5_:∀ row,Row row→row.length≤m→RetL H Q row):spLong vs H Q E_
theorem row_long {row:List Int} {c:Nat} {b:Int} (h:Row row) (hb:0≤b):Row (row.take c++(row.drop c).map (fun z=>z+b)):=by
 unfold Row at *
 rw[List.pairwise_append]
 have hs:=h
 rw[← List.take_append_drop c row,List.pairwise_append]at hs
 obtain⟨h1,h2,h3⟩:=hs
 refine⟨h1,?_,fun x hx y hy=>?_⟩
 ·rw[List.pairwise_map]
  exact h2.imp (fun {x y} q=>by omega)
 ·obtain⟨z,hz,rfl⟩:=List.mem_map.mp hy
  have:=h3 x hx z hz
  omega
mutual
noncomputable def sml:PyData→Bool
 | .list xs=>decide (xs.length≤5000) && smlAll xs
 | .tuple xs=>decide (xs.length≤5000) && smlAll xs
 | .dict _=>false
 | .none=>true
 | .bool _=>true
 | .int _=>true
 | .str _=>true
noncomputable def smlAll:List PyData→Bool
 | []=>true
 | x :: xs=>sml x && smlAll xs
end
theorem eqv_self {d:PyData} (h:SeqAt.shaped d=true):PyData.eqv d d=true:=SeqAt.eqv_refl d (SeqAt.canLay_of_shaped h)
theorem runsM_len (row:List Int):(runsM row).length≤row.length:=by
 have:∀ (r:List Int) (ps:List (Int×Int)),(r.foldl stepR ps).length≤ps.length+r.length:=fun r=>by
  induction r with
  | nil=>intro ps;simp
  | cons x r ih =>
   intro ps
   rw[List.foldl_cons]
   have h1:=ih (stepR ps x)
   have h2:=runs_len ps x
   simp only[List.length_cons]
   omega
 have:=this row []
 simpa[runsM]using this
theorem walkM_row {row:List Int} {c:Int} (h:Row row) (hc:1≤c:=by omega):Row (walkM row c):=goM_row hc row 0 0 h (fun _ _=>.inr rfl)
inductive spLookCreel (vs:List V) (H:Hp) (Q:VK) (E_:XK):Prop
 | mk (c:Int) (h0_:vs=[.int c]) (h1_:1≤c) (h2_:Q .non H):spLookCreel vs H Q E_
inductive spWalked (vs:List V) (H:Hp) (Q:VK) (E_:XK):Prop
 | mk (a:Addr) (row:List Int) (c:Int) (h0_:vs=[.ref a,.int c]) (h1_:H a=some (.lst (row.map V.int))) (h2_:Row row) (h3_:row.length≤60) (h4_:1≤c) (h5_:RetL H Q (walkM row c)):spWalked vs H Q E_
end CW
namespace CW
end CW
namespace CW
open PySem L2
theorem paired_get {α β:Type} {F:α→β→Prop}:∀ {l₁:List α} {l₂:List β} {i:Nat} {x:α},Paired F l₁ l₂→l₁[i]?=some x→∃ y,l₂[i]?=some y∧F x y
 | _,_,_,_,.nil,e=>by simp at e
 | _,_,0,_,.cons r _,e=>by simp at e;subst e;exact⟨_,rfl,r⟩
 | _,_,i+1,x,.cons _ t,e=>by
  obtain⟨y,h1,h2⟩:=paired_get (i:=i) (x:=x) t (by simpa using e)
  exact⟨y,by simpa using h1,h2⟩
end CW
namespace L2
open PySem PySem.Spec PyProof.Rows
noncomputable abbrev two (b:Int) (t:Tok) (c:Nat):Obj:={ cls:=.type "list",dict:=none,data:=.seq #[.int b t,.int b t] c,slots:=#[] }
theorem ints_get:∀ {its:List Value} {ns:List Int} {i:Nat} {n:Int},IntsAre its ns→ns[i]?=some n→∃ t,its[i]?=some (.int n t)
 | _,_,_,_,.nil,e=>by simp at e
 | _,_,0,_,.cons n t _,e=>by simp at e;subst e;exact⟨t,rfl⟩
 | _,_,i+1,n,.cons _ _ r,e=>by
  obtain⟨t,h⟩:=ints_get (i:=i) (n:=n) r (by simpa using e)
  exact⟨t,by simpa using h⟩
section
variable {prog:Program} {w:World} {A:Around} {R:Result→Shared→Prop} {l it S:Addr} {its:List Value} {ns:List Int} {d:Value}
theorem mn_loop (hh:A.handled=none) (hI:IntsAre its ns) (hlt:l≠it) (hiS:it≠S) (hlS:l≠S) :
 ∀ (k i:Nat) (s:Shared) (b:Int) (t:Tok) (c:Nat),ns.length - i=k→i≤ns.length→s.heap.IsListIter it l i→s.heap.IsList l its.toArray→s.heap.get? S=some (two b t c) →
  (∀ h' tk t',(∀ x o,x≠it→x≠S→s.heap.get? x=some o→h'.get? x=some o)→R (.ok (.ret (.int ((ns.drop i).foldl min b) t'))) { s with heap:=h',toks:=tk }) →
  codeAny (model prog w) A (.builtin "min.loop" ⟨[.ref it,.none,.ref S],[(Str.ofString "default",d)]⟩) R s:=by
 have nm:(toString "min"++toString ".loop":String)="min.loop":=by decide
 intro k
 induction k with
 | zero =>
  intro i s b t c hk hi st hl hS hR
  have e:i=ns.length:=by omega
  refine codeAny_builtin PySem.F.entry_min_loop (by
   rw[Around.under_plainId PySem.F.plain_min_loop _]
   show wpAny _ A.in1 (seqItems? (Value.ref S) >>= _) _ _ s
   refine wpAny_bind (wpAny_seqItems hS rfl ?_)
   show wpAny _ A.in1 (tryCatch (pyNext (Value.ref it)) _ >>= _) _ _ s
   refine wpAny_bind (wpAny_tryCatch (wpAny_pyNext_list_end hh st hl (by have:=hI.length;simp;omega) fun h' eb=>?_))
   have hS':=eb S _ (Ne.symm hiS) hS
   show wpAny _ A.in1 (updateSeq S (fun _=>#[]) >>= _) _ _ { s with heap:=h' }
   refine wpAny_bind (wpAny_updateSeq hS' rfl (wpAny_bind (wpAny_letGo (wpAny_pure ?_))))
   have q:=hR (h'.update S (Obj.mapSeq fun _=>#[])) s.toks t (fun x o h1 h2 e=>(Heap.get?_update_other _ _ (Ne.symm h2)).trans (eb x o h1 e))
   rw[e,List.drop_length]at q
   exact q)
 | succ k ih =>
  intro i s b t c hk hi st hl hS hR
  have hi':i<ns.length:=by omega
  obtain⟨u,hu⟩:=ints_get (i:=i) (n:=ns[i]) hI (by simp[hi'])
  have hdr:ns.drop i=ns[i] :: ns.drop (i+1):=List.drop_eq_getElem_cons hi'
  refine codeAny_builtin PySem.F.entry_min_loop (by
   rw[Around.under_plainId PySem.F.plain_min_loop _]
   show wpAny _ A.in1 (seqItems? (Value.ref S) >>= _) _ _ s
   refine wpAny_bind (wpAny_seqItems hS rfl ?_)
   show wpAny _ A.in1 (tryCatch (pyNext (Value.ref it)) _ >>= _) _ _ s
   refine wpAny_bind (wpAny_tryCatch (wpAny_pyNext_list_item st hl (x:=.int ns[i] u) (by simpa using hu) fun h' st' sb=>?_))
   have hS':=sb.extBut S _ (Ne.symm hiS) hS
   have hl':=hl.extBut sb.extBut hlt
   show wpAny _ A.in1 (tryCatch (holding [.int ns[i] u,.int ns[i] u] (richCompare .Lt (.int ns[i] u) (.int b t) >>= _)) _ >>= _) _ _ { s with heap:=h' }
   refine wpAny_bind (wpAny_tryCatch (wpAny_holding (wpAny_bind (lt_int (s:={ s with heap:=h' }) ?_))))
   refine wpAny_bind (wpAny_holding (wpAny_truthy_bool (wpAny_bind (wpAny_letGo (wpAny_pure ?_)))))
   by_cases hb:ns[i]<b
   ·have hd:decide (ns[i]<b)=true:=decide_eq_true hb
    simp only[hd,if_true]
    refine wpAny_bind (wpAny_updateSeq hS' rfl (wpAny_bind (wpAny_letGo ?_)))
    rw[nm]
    obtain⟨c',e1⟩:∃ c',(h'.update S (Obj.mapSeq fun _=>#[Value.int ns[i] u,Value.int ns[i] u])).get? S=some (two ns[i] u c'):=⟨_,Heap.get?_update_self _ hS' rfl⟩
    refine wpAny_pure ⟨plainId_quiet PySem.F.plain_min_loop _,ih (i+1) { s with heap:=h'.update S (Obj.mapSeq fun _=>#[Value.int ns[i] u,Value.int ns[i] u]) } ns[i] u _ (by omega) hi' (st'.at fun o e=>(Heap.get?_update_other _ _ (Ne.symm hiS)).trans e) (hl'.at fun o e=>(Heap.get?_update_other _ _ (Ne.symm hlS)).trans e) e1 fun h'' tk t' kp=>?_⟩
    have q:=hR h'' tk t' (fun x o h1 h2 e=>kp x o h1 h2 ((Heap.get?_update_other _ _ (Ne.symm h2)).trans (sb.extBut x o h1 e)))
    rw[hdr,List.foldl_cons,show min b ns[i]=ns[i]by omega]at q
    exact q
   ·have hd:decide (ns[i]<b)=false:=decide_eq_false hb
    simp only[hd,Bool.false_eq_true,if_false]
    refine wpAny_bind (wpAny_letGo ?_)
    rw[nm]
    refine wpAny_pure ⟨plainId_quiet PySem.F.plain_min_loop _,ih (i+1) { s with heap:=h' } b t c (by omega) hi' st' hl' hS' fun h'' tk t' kp=>?_⟩
    have q:=hR h'' tk t' (fun x o h1 h2 e=>kp x o h1 h2 (sb.extBut x o h1 e))
    rw[hdr,List.foldl_cons,show min b ns[i]=b by omega]at q
    exact q)
theorem mn_first (hh:A.handled=none) (hI:IntsAre its ns) (hlt:l≠it) (hiS:it≠S) (hlS:l≠S) {s:Shared} {c:Nat} (st:s.heap.IsListIter it l 0) (hl:s.heap.IsList l its.toArray)
 (hS:s.heap.get? S=some { cls:=.type "list",dict:=none,data:=.seq #[] c,slots:=#[] }) (x0:V) (rx:RelV x0 d)
 (hR:∀ h' tk v u,(∀ x o,x≠it→x≠S→s.heap.get? x=some o→h'.get? x=some o)→RelV v u→(v=match ns with | []=>x0 | n :: r=>.int (r.foldl min n))→R (.ok (.ret u)) { s with heap:=h',toks:=tk }) :
 codeAny (model prog w) A (.builtin "min.loop" ⟨[.ref it,.none,.ref S],[(Str.ofString "default",d)]⟩) R s:=by
 have nm:(toString "min"++toString ".loop":String)="min.loop":=by decide
 cases hI with
 | nil =>
  refine codeAny_builtin PySem.F.entry_min_loop (by
   rw[Around.under_plainId PySem.F.plain_min_loop _]
   show wpAny _ A.in1 (seqItems? (Value.ref S) >>= _) _ _ s
   refine wpAny_bind (wpAny_seqItems hS rfl ?_)
   show wpAny _ A.in1 (tryCatch (pyNext (Value.ref it)) _ >>= _) _ _ s
   refine wpAny_bind (wpAny_tryCatch (wpAny_pyNext_list_end hh st hl (by simp) fun h' eb=>?_))
   refine wpAny_bind (wpAny_rule (wpAny_pure ?_))
   exact hR h' s.toks x0 d (fun x o h1 _ e=>eb x o h1 e) rx rfl)
 | @cons n t its' ns' r =>
  refine codeAny_builtin PySem.F.entry_min_loop (by
   rw[Around.under_plainId PySem.F.plain_min_loop _]
   show wpAny _ A.in1 (seqItems? (Value.ref S) >>= _) _ _ s
   refine wpAny_bind (wpAny_seqItems hS rfl ?_)
   show wpAny _ A.in1 (tryCatch (pyNext (Value.ref it)) _ >>= _) _ _ s
   refine wpAny_bind (wpAny_tryCatch (wpAny_pyNext_list_item st hl (x:=.int n t) (by simp) fun h' st' sb=>?_))
   have hS':=sb.extBut S _ (Ne.symm hiS) hS
   have hl':=hl.extBut sb.extBut hlt
   show wpAny _ A.in1 (updateSeq S (fun _=>#[Value.int n t,Value.int n t]) >>= _) _ _ { s with heap:=h' }
   refine wpAny_bind (wpAny_updateSeq hS' rfl ?_)
   rw[nm]
   obtain⟨c',e1⟩:∃ c',(h'.update S (Obj.mapSeq fun _=>#[Value.int n t,Value.int n t])).get? S=some (two n t c'):=⟨_,Heap.get?_update_self _ hS' rfl⟩
   refine wpAny_pure ⟨plainId_quiet PySem.F.plain_min_loop _,mn_loop hh (.cons n t r) hlt hiS hlS _ 1 { s with heap:=h'.update S (Obj.mapSeq fun _=>#[Value.int n t,Value.int n t]) } n t _ rfl (by simp) (st'.at fun o e=>(Heap.get?_update_other _ _ (Ne.symm hiS)).trans e) (hl'.at fun o e=>(Heap.get?_update_other _ _ (Ne.symm hlS)).trans e) e1 fun h'' tk t' kp=>?_⟩
   exact hR h'' tk (.int (ns'.foldl min n)) _ (fun x o h1 h2 e=>kp x o h1 h2 ((Heap.get?_update_other _ _ (Ne.symm h2)).trans (sb.extBut x o h1 e))) ⟨t',rfl⟩ rfl)
noncomputable def mnD (ns:List Int) (x0:V):V:=match ns with | []=>x0 | n :: r=>.int (r.foldl min n)
theorem args_mind (a d:Value):argsOk "min" ⟨[a],[(Str.ofString "default",d)]⟩:=by unfold argsOk;kernel_rfl
theorem call_mind {E:Value→Shared→Prop} {s:Shared} {x0:V} {Q:Value→Shared→Prop} (hh:A.handled=none) (hI:IntsAre its ns) (hl:s.heap.IsList l its.toArray) (rx:RelV x0 d)
 (h:∀ h' tk u,(∀ x o,s.heap.get? x=some o→h'.get? x=some o)→RelV (mnD ns x0) u→Q u { s with heap:=h',toks:=tk }):wpAny (model prog w) A (call (.builtin "min") [.ref l] [(Str.ofString "default",d)]) Q E s:=by
 have nm:(toString "min"++toString ".loop":String)="min.loop":=by decide
 refine kmk_tree PySem.F.kind_min PySem.F.plain_min PySem.F.entry_min (args_mind _ _) (by
  show wpAny _ A.in1 (Builtin.Builtins.bindParams "min" ["key","default"] 0 ⟨[],[(Str.ofString "default",d)]⟩ >>= _) _ _ s
  refine wpAny_bind (wpAny_of_eq (show Builtin.Builtins.bindParams "min" ["key","default"] 0 ⟨[],[(Str.ofString "default",d)]⟩=pure [none,some d] from rfl) (wpAny_bind (wpAny_pure ?_)))
  refine wpAny_bind (wpAny_pyIter_list hl ?_)
  refine wpAny_bind (wpAny_newObj_type ?_)
  rw[nm]
  have hlt:l<s.heap.objs.size:=by obtain⟨_,e,_⟩:=hl;exact Heap.lt_size e
  refine wpAny_pure ⟨plainId_quiet PySem.F.plain_min_loop _,mn_first (l:=l) (it:=s.heap.objs.size) (its:=its) hh hI (Nat.ne_of_lt hlt) (by rw[Heap.size_push];exact Nat.ne_of_lt (Nat.lt_succ_self _)) (by rw[Heap.size_push];exact Nat.ne_of_lt (Nat.lt_succ_of_lt hlt)) ⟨_,Heap.get?_push_of_some _ (Heap.get?_push_size _ rfl),rfl,rfl⟩ ((hl.push _).push _) (Heap.get?_push_size _ rfl) x0 rx fun h' tk v u kp rv ev=>?_⟩
  subst ev
  refine h h' tk u (fun x o e=>?_) rv
  have hx:=Heap.lt_size e
  exact kp x o (Nat.ne_of_lt hx) (by rw[Heap.size_push];exact Nat.ne_of_lt (Nat.lt_succ_of_lt hx)) (Heap.get?_push_of_some _ (Heap.get?_push_of_some _ e)))
end
section
variable {X:Cx} {e f:Expr} {te tf:TE} {p pos kp:Pos}
noncomputable def tMnD (K:PySem.W.Frag) (te tf:TE):TE:=fun σ H Q=>te σ H fun x H1=>tf σ H1 fun y H2=>∃ a ns,x=.ref a∧SqL K H2 a (ns.map V.int)∧Q (mnD ns y) H2
theorem pe_mindef (hc:X.calm=true) (hg:Gl X "min") (hm:X.mg "min"=none) (he:PE X e te) (hf:PE X f tf)
 (hs:starEach [e] X.env=(false,eval e X.env) :: starEach [] X.env:=by rfl) (he1:backTo pos (starEach [e] X.env)=(false,eval e X.env) :: backTo pos (starEach [] X.env):=by rfl) (hp1:(backTo pos (starEach [e] X.env)).any (·.1)=false:=by rfl)
 (ha1:(backToKw pos (keywordEach [⟨some "default",f,kp⟩] X.env)).all (·.1.isSome)=true:=by rfl) (hk1:(backToKw pos (keywordEach [⟨some "default",f,kp⟩] X.env)).any (·.1.isNone)=false:=by rfl) (hks:(backToKw pos (keywordEach [⟨some "default",f,kp⟩] X.env)).filterMap (·.1)=([Str.ofString "default"]:List Str):=by rfl) :
 PE X (.Call (.Name "min" p) [e] [⟨some "default",f,kp⟩] pos) (tMnD X.K te tf):=by
 intro pins s σ H Q I h
 refine wpAny_Call_Name_kw (ld_blt I hg hm boot_min ?_)
 refine callWith_kw ?_ he1 hp1 ha1 hk1
 refine thn ((pa_cons he pa_nil hs) pos pins s σ H (fun vs H1=>match vs with | [x]=>tf σ H1 fun y H2=>∃ a ns,x=.ref a∧SqL X.K H2 a (ns.map V.int)∧Q (mnD ns y) H2 | _=>False) I h) fun us s1 ⟨vs,H1,I1,r1,q1⟩=>?_
 obtain⟨x,rfl⟩:∃ x,vs=[x]:=by
  rcases vs with _ | ⟨x,_ | ⟨_,_⟩⟩
  ·exact q1.elim
  ·exact⟨x,rfl⟩
  ·exact q1.elim
 refine thn ((pk_cons hf pk_nil) pos pins s1 σ H1 (fun ks H2=>match ks with | [y]=>∃ a ns,x=.ref a∧SqL X.K H2 a (ns.map V.int)∧Q (mnD ns y) H2 | _=>False) I1 q1) fun ws s2 ⟨zs,H2,I2,r2,q2⟩=>?_
 obtain⟨y,rfl⟩:∃ y,zs=[y]:=by
  rcases zs with _ | ⟨x,_ | ⟨_,_⟩⟩
  ·exact q2.elim
  ·exact⟨x,rfl⟩
  ·exact q2.elim
 obtain⟨a,ns,rfl,hq,q2⟩:=q2
 obtain⟨u,rfl,ru⟩:=r1.one
 obtain⟨v,rfl,rv⟩:=r2.one
 cases ru
 rw[hks]
 obtain⟨its,rl,pl,hz⟩:=I2.list hq
 exact call_mind (I.ok.hd hc) (intsAre_of rl) pl.isList rv fun h' tk u kp ru=>⟨_,H2,I2.kept kp,ru,q2⟩
end
end L2
namespace L2
open PySem PySem.Spec PyProof.Rows
section
variable {X:Cx}
noncomputable def tRng2 (ta:TA):TE:=fun σ H Q=>ta σ H fun vs H1=>∃ i j:Int,vs=[.int i,.int j]∧∀ r,H1 r=none→Q (.ref r) (upd H1 r (.rng i j))
theorem pe_range2 {a b:Expr} {ta:TA} {p pos:Pos} (hg:Gl X "range") (hm:X.mg "range"=none) (ha:PA X [a,b] ta) (hs:starEach [a,b] X.env=[(false,eval a X.env),(false,eval b X.env)]:=by rfl) (hs2:starEach [b] X.env=[(false,eval b X.env)]:=by rfl) :
 PE X (.Call (.Name "range" p) [a,b] [] pos) (tRng2 ta):=by
 intro pins s σ H Q I h
 refine Call_ (ld_blt I hg hm boot_range (PyProof.Rows.callWith_type1 (thn (ha pos pins s σ H _ I h) fun us s1 ⟨vs,H1,I1,r1,q1⟩=>?_) (by rw[hs,hs2]) (by rw[hs2];rfl)))
 obtain⟨i,j,rfl,q⟩:=q1
 obtain⟨u,v,rfl,⟨t,rfl⟩,⟨t',rfl⟩⟩:=r1.two
 refine call_range_2 ⟨.ref s1.heap.objs.size,_,I1.laid (o:=.rng i j) (fun b o e=>Heap.get?_push_of_some _ e) (Nat.le_refl _) ?_,rfl,q _ (I1.hok.fresh (Nat.le_refl _))⟩
 exact⟨_,_,_,Heap.get?_push_size _ rfl⟩
noncomputable def rngL (i:Int) (n:Nat):List Int:=(List.range n).map fun(k:Nat)=>i+(k:Int)
end
end L2
namespace CW
open PySem L2
noncomputable def loM (row:List Int):Int:=match row with | []=>0 | n :: r=>r.foldl min n
theorem mnD_lo (row:List Int):mnD row (.int 0)=.int (loM row):=by cases row <;> rfl
structure Mid (row:List Int) (c:Int) (n:Int) (fs:List Int) (ld:Nat):Prop where
 ex:∃ dn r,row=dn++r∧(∀ x∈dn,x<n)∧(∀ x∈r,n≤x)∧fs++goM c r ld n=walkM row c∧fs.length+ld=dn.length
theorem mid_in {row:List Int} {c n:Int} {fs:List Int} {ld:Nat} (h:Mid row c n fs ld) (hr:Row row) (hn:n∈row) :
 if (ld:Int)<c then Mid row c (n+1) fs (ld+1)else Mid row c (n+1) (fs++[n]) ld:=by
 obtain⟨dn,r,rfl,h1,h2,h3,h4⟩:=h.ex
 rcases List.mem_append.mp hn with q | q
 ·have:=h1 n q;omega
 ·cases r with
  | nil=>cases q
  | cons p r =>
   have hr2:=(List.pairwise_append.mp hr).2.1
   have hlt:∀ x∈r,p<x:=fun x hx=>(List.pairwise_cons.mp hr2).1 x hx
   have hp:=h2 p List.mem_cons_self
   have hpn:p=n:=by
    rcases List.mem_cons.mp q with e | e
    ·exact e.symm
    ·have:=hlt n e;omega
   subst hpn
   rw[goM_hit (.inr (Int.le_refl _))]at h3
   have e:dn++p :: r=(dn++[p])++r:=by simp
   have d1:∀ x∈dn++[p],x<p+1:=fun x hx=>by
    rcases List.mem_append.mp hx with z | z
    ·have:=h1 x z;omega
    ·rw[List.mem_singleton.mp z];omega
   have d2:∀ x∈r,p+1≤x:=fun x hx=>by have:=hlt x hx;omega
   by_cases hc:(ld:Int)<c
   ·rw[if_pos hc]at h3 ⊢
    exact⟨dn++[p],r,e,d1,d2,h3,by simp;omega⟩
   ·rw[if_neg hc]at h3 ⊢
    exact⟨dn++[p],r,e,d1,d2,by rw[List.append_assoc];exact h3,by simp;omega⟩
theorem mid_out {row:List Int} {c n:Int} {fs:List Int} {ld:Nat} (h:Mid row c n fs ld) (hn:n∉row) :
 match ld with | 0=>Mid row c (n+1) fs 0 | ld'+1=>Mid row c (n+1) (fs++[n]) ld':=by
 obtain⟨dn,r,rfl,h1,h2,h3,h4⟩:=h.ex
 have d1:∀ x∈dn,x<n+1:=fun x hx=>by have:=h1 x hx;omega
 have d2:∀ x∈r,n+1≤x:=fun x hx=>by
  have:=h2 x hx
  have:x≠n:=fun e=>hn (by rw[← e];exact List.mem_append_right _ hx)
  omega
 cases ld with
 | zero=>exact⟨dn,r,rfl,d1,d2,by rw[← h3];congr 1;exact goM_zero,h4⟩
 | succ ld =>
  refine⟨dn,r,rfl,d1,d2,?_,by simp;omega⟩
  rw[← h3,List.append_assoc]
  congr 1
  cases r with
  | nil=>rw[goM_nil_succ];rfl
  | cons p r=>rw[goM_gap (by have:=d2 p List.mem_cons_self;omega)];rfl
theorem mid_start (row:List Int) (c n:Int) (h:∀ x∈row,n≤x):Mid row c n [] 0:=⟨[],row,rfl,fun x hx=>(by cases hx),h,(by unfold walkM;exact goM_zero),rfl⟩
theorem mid_end {row:List Int} {c n:Int} {fs:List Int} (h:Mid row c n fs 0) (hx:∀ x∈row,x<n):fs=walkM row c:=by
 obtain⟨dn,r,rfl,h1,h2,h3,h4⟩:=h.ex
 cases r with
 | nil=>rw[goM_nil_zero,List.append_nil]at h3;exact h3
 | cons p r =>
  have a:=h2 p List.mem_cons_self
  have b:=hx p (by simp)
  omega
theorem mid_le {row:List Int} {c n:Int} {fs:List Int} {ld:Nat} (h:Mid row c n fs ld):fs.length+ld≤row.length:=by
 obtain⟨dn,r,rfl,_,_,_,h4⟩:=h.ex
 simp;omega
end CW
namespace L2
open PySem PySem.Spec PyProof.Rows
theorem boot_sum:bootBuiltins "sum"=some (.builtin "sum"):=by decide +kernel
theorem boot_enumerate:bootBuiltins "enumerate"=some (.type "enumerate"):=by decide +kernel
theorem ints_are:∀ {ns:List Int} {us:List Value},Vals (ns.map V.int) us→IntsAre us ns
 | [],_,.nil=>.nil
 | _ :: _,_,.cons ⟨_,e⟩ t=>by subst e;exact .cons _ _ (ints_are t)
section
variable {X:Cx}
theorem call_sum (hc:X.calm=true):CallR X (.builtin "sum") (fun xs H Q=>∃ (p:Addr) (ns:List Int),xs=[.ref p]∧H p=some (.lst (ns.map V.int))∧Q (.int ns.sum) H):=by
 intro pins s σ H xs us Q I r h
 obtain⟨p,ns,rfl,hp,q⟩:=h
 obtain⟨u,rfl,rx⟩:=vals1 r
 cases rx
 obtain⟨its,rv,pl,hz⟩:=I.list (SqL.of hp)
 have hl:=pl.isList
 have hi:=ints_are rv
 obtain⟨xs,hx⟩:=hi.allInts.items
 have hl':s.heap.IsList p (intItems xs):=hx ▸ hl
 refine sum_intListG (I.ok.hd hc) hl' fun h' tk t' hk=>?_
 have e1:ns=xs.toList.map (·.1):=by
  rw[← nums_intItems,← hx]
  exact(show numsOf its.toArray.toList=ns from hi.numsOf).symm
 have e2:preSum (numAt xs) xs.size=ns.sum:=by
  rw[preSum_eq,List.take_of_length_le (by simp),e1]
 rw[e2]
 exact⟨.int _,H,I.kept hk,⟨_,rfl⟩,q⟩
theorem Inv.turnedF {h':Heap} {pins:List (Addr×Obj)} {σ:St} {H:Hp} {s:Shared} {t':Nat} {fp:List Addr} (I:Inv X pins σ H s) (k:∀ b o,b∉fp→s.heap.get? b=some o→h'.get? b=some o) (hf:∀ b∈fp,FpOk X pins H b):Inv X pins σ H { s with heap:=h',toks:=t' }:=by
 have nit:∀ b u,H b=some u→b∉fp:=fun b u e z=>by rw[(hf b z).1]at e;cases e
 refine I.step (g':=s.gens) (d':=s.drawn) (ch:=fp) (fun b hb=>?_) (fun b o _ _ hc e _=>k b o hc e) (fun b o _ _ hc e _=>⟨o.slots,k b o hc e⟩) (fun _ _ _ _ n=>n)
  (fun b o hc e=>⟨o,k b o hc e⟩) (fun _ _ e=>e) (fun _ _ _ e=>e) (fun b ps e=>⟨#[],by rw[e];simp⟩) (fun m hm=>?_) (fun b u e=>?_) I.bare
 ·obtain⟨_,h1,_,h3,h4,h5⟩:=hf b hb
  exact⟨h3,h1,h4,h5⟩
 ·obtain⟨o,es,ep,ho,r⟩:=hm
  exact⟨o,es,ep,k _ o (fun z=>(hf _ z).2.1 rfl) ho,r⟩
 ·refine(I.hok b u e).stay (fun c v hc q=>k c v ?_ q) (fun _ q=>q) fun _ _ q=>q
  rcases hc with z | z
  ·rw[z];exact nit b u e
  ·exact nit c _ z
theorem Inv.turnLaid {h':Heap} {pins:List (Addr×Obj)} {σ:St} {H:Hp} {s:Shared} {t':Nat} {fp:List Addr} {a:Addr} {o:HO} (I:Inv X pins σ H s) (k:∀ b o,b∉fp→s.heap.get? b=some o→h'.get? b=some o) (hf:∀ b∈fp,FpOk X pins H b) (hp:s.heap.objs.size≤a) (new:ObjOk X.prog X.w (upd H a o) h' a o) :
 Inv X pins σ (upd H a o) { s with heap:=h',toks:=t' }:=by
 have hn:H a=none:=I.hok.fresh hp
 have nit:∀ b u,H b=some u→b∉fp:=fun b u e z=>by rw[(hf b z).1]at e;cases e
 have ne:∀ b u,H b=some u→b≠a:=fun b u e=>ne_of_none e hn
 refine I.step (g':=s.gens) (d':=s.drawn) (ch:=fp) (fun b hb=>?_) (fun b o _ _ hc e _=>k b o hc e) (fun b o _ _ hc e _=>⟨o.slots,k b o hc e⟩) (fun b ob _ e n=>?_)
  (fun b o hc e=>⟨o,k b o hc e⟩) (fun b _ e=>by rw[upd_ne (ne b _ e)];exact e) (fun b _ _ e=>by rw[upd_ne (ne b _ e)];exact e) (fun b ps e=>⟨#[],by rw[upd_ne (ne b _ e),e];simp⟩) (fun m hm=>?_) (fun b u e=>?_) I.bare
 ·obtain⟨_,h1,_,h3,h4,h5⟩:=hf b hb
  exact⟨h3,h1,h4,h5⟩
 ·have:b≠a:=Nat.ne_of_lt (Nat.lt_of_lt_of_le (Heap.lt_size e) hp)
  rw[upd_ne this];exact n
 ·obtain⟨o,es,ep,ho,r⟩:=hm
  exact⟨o,es,ep,k _ o (fun z=>(hf _ z).2.1 rfl) ho,r⟩
 ·by_cases hb:b=a
  ·subst hb
   rw[upd_same]at e
   cases e
   exact new
  ·rw[upd_ne hb]at e
   refine(I.hok b u e).stay (fun c v hc q=>k c v ?_ q) (fun c q=>by rw[upd_ne (ne c _ q)];exact q) fun c _ q=>by rw[upd_ne (ne c _ q)];exact q
   rcases hc with z | z
   ·rw[z];exact nit b u e
   ·exact nit c _ z
end
end L2
namespace CW
open PySem L2
noncomputable def LP (H:Hp) (a:Addr) (ps:List (Int×Int)):Prop:=∃ us,H a=some (.lst us)∧Prs H us ps
theorem LP.mono {H H':Hp} (h:Same H H') {a:Addr} {ps:List (Int×Int)} (r:LP H a ps):LP H' a ps:=let ⟨us,e,p⟩:=r;⟨us,h _ _ e,p.mono (TupS.same h)⟩
theorem Prs.len {H:Hp} {us:List V} {ps:List (Int×Int)} (h:Prs H us ps):us.length=ps.length:=Paired.length h
noncomputable def szs (ps:List (Int×Int)):List Int:=ps.map (·.1)
structure Trn (ps:List (Int×Int)):Prop where
 pos:∀ p∈ps,1≤p.1
 few:(szs ps).sum≤60
theorem len_le_sum:∀ {ps:List (Int×Int)},(∀ p∈ps,1≤p.1)→(ps.length:Int)≤(szs ps).sum
 | [],_=>by simp[szs]
 | p :: r,h=>by
  have h1:=h p (List.mem_cons_self)
  have h2:=len_le_sum (ps:=r) fun q hq=>h q (List.mem_cons_of_mem _ hq)
  simp only[szs,List.map_cons,List.sum_cons,List.length_cons]at h2 ⊢
  omega
theorem Trn.len {ps:List (Int×Int)} (h:Trn ps):ps.length≤60:=by
 have h1:=len_le_sum h.pos
 have:=h.few
 omega
theorem paired_at {H:Hp} {us:List V} {ps:List (Int×Int)} (h:Prs H us ps) {i:Nat} {x:V} (e:us[i]?=some x):∃ p t,ps[i]?=some p∧x=.ref t∧H t=some (.tup [.int p.1,.int p.2]):=by
 obtain⟨p,hp,t,e1,e2⟩:=paired_get h e
 exact⟨p,t,hp,e1,e2⟩
theorem snoc_pairs {ps:List (Int×Int)} {i:Nat} {p:Int×Int} (f:Int×Int→Int) (h:ps[i]?=some p):((ps.take i).map f).map V.int++[V.int (f p)]=((ps.take (i+1)).map f).map V.int:=by
 rw[List.take_succ,h]
 simp
end CW
namespace L2
open PySem PySem.Spec PyProof.Rows
section
variable {X:Cx} {tg:Expr}
end
end L2
namespace L2
open PySem PySem.W PySem.Spec PyProof.Rows
section
variable {O:KeyOrd} {key:Nat→O.α} {n:Nat} {cmp:Nat→Nat→(Bool→Shared→Prop)→Shared→Prop} {s:Shared}
noncomputable def Ans (O:KeyOrd) (key:Nat→O.α) (n:Nat) (cmp:Nat→Nat→(Bool→Shared→Prop)→Shared→Prop) (s:Shared):Prop:=∀ i j C,i<n→j<n→C (O.blt (key i) (key j)) s→cmp i j C s
noncomputable def KP (O:KeyOrd) (key:Nat→O.α) (p:Array Nat) (i:Nat):O.α:=key (p.getD i 0)
structure InR (n:Nat) (p:Array Nat):Prop where
 pos:0<n
 size:p.size=n
 mem:∀ x∈p,x<n
theorem InR.at {p:Array Nat} (h:InR n p) (i:Nat):p.getD i 0<n:=by
 unfold Array.getD
 split
 ·exact h.mem _ (Array.getElem_mem _)
 ·exact h.pos
theorem InR.perm {p q:Array Nat} (h:InR n p) (e:q.Perm p):InR n q:=⟨h.pos,e.size_eq.trans h.size,fun x hx=>h.mem x (e.mem_iff.mp hx)⟩
theorem getD_of {p q:Array Nat} {i j:Nat} (h:p[i]?=q[j]?):p.getD i 0=q.getD j 0:=by
 rw[Array.getD_eq_getD_getElem?,Array.getD_eq_getD_getElem?,h]
theorem KP_rev {p:Array Nat} {i j:Nat} (hj:j≤p.size) (k:Nat):KP O key (kas_rev p i j) k=if i≤k∧k<j then KP O key p (i+j - 1 - k)else KP O key p k:=by
 have e:=getElem?_mirror_all (i:=i) hj k
 unfold KP kas_rev
 by_cases h:i≤k∧k<j
 ·rw[if_pos h]at e ⊢;exact congrArg key (getD_of e)
 ·rw[if_neg h]at e ⊢;exact congrArg key (getD_of e)
theorem KP_bub {p:Array Nat} {k d:Nat} (hk:k<p.size) (hd:d≤k) (x:Nat):KP O key (bubble p k d) x=if x=k - d then KP O key p k else if k - d<x∧x≤k then KP O key p (x - 1)else KP O key p x:=by
 have e:=getElem?_bubble hk d hd x
 unfold KP
 by_cases h1:x=k - d
 ·rw[if_pos h1]at e ⊢;exact congrArg key (getD_of e)
 ·rw[if_neg h1]at e ⊢
  by_cases h2:k - d<x∧x≤k
  ·rw[if_pos h2]at e ⊢;exact congrArg key (getD_of e)
  ·rw[if_neg h2]at e ⊢;exact congrArg key (getD_of e)
noncomputable def Up (O:KeyOrd) (key:Nat→O.α) (p:Array Nat) (m:Nat):Prop:=∀ i j,i≤j→j<m→O.kle (KP O key p i) (KP O key p j)
noncomputable def Dn (O:KeyOrd) (key:Nat→O.α) (p:Array Nat) (m:Nat):Prop:=∀ i j,i≤j→j<m→O.kle (KP O key p j) (KP O key p i)
theorem Up.more {p:Array Nat} {m:Nat} (h:Up O key p m) (hm:1≤m) (hl:O.kle (KP O key p (m - 1)) (KP O key p m)):Up O key p (m+1):=fun i j hij hj=>by
 by_cases q:j<m
 ·exact h i j hij q
 ·have:j=m:=by omega
  subst this
  by_cases r:i=j
  ·subst r;exact KeyOrd.kle_refl _
  ·exact KeyOrd.kle_trans (h i (j - 1) (by omega) (by omega)) hl
theorem Dn.more {p:Array Nat} {m:Nat} (h:Dn O key p m) (hm:1≤m) (hl:O.kle (KP O key p m) (KP O key p (m - 1))):Dn O key p (m+1):=fun i j hij hj=>by
 by_cases q:j<m
 ·exact h i j hij q
 ·have:j=m:=by omega
  subst this
  by_cases r:i=j
  ·subst r;exact KeyOrd.kle_refl _
  ·exact KeyOrd.kle_trans hl (h i (j - 1) (by omega) (by omega))
theorem asc_ok (A:Ans O key n cmp s) {p:Array Nat} (hp:InR n p):∀ (f m:Nat) (Q:Nat→Shared→Prop),1≤m→Up O key p m →
 (∀ m',m≤m'→m'≤m+f→Up O key p m'→(m'<m+f→O.klt (KP O key p m') (KP O key p (m' - 1)))→Q m' s)→(kas_asc p f m).kasWp cmp Q s
 | 0,m,Q,hm,hu,hQ=>hQ m (Nat.le_refl _) (Nat.le_refl _) hu fun z=>absurd z (Nat.lt_irrefl _)
 | f+1,m,Q,hm,hu,hQ=>by
  show cmp _ _ _ s
  refine A _ _ _ (hp.at _) (hp.at _) ?_
  cases hb:O.blt (key (p.getD m 0)) (key (p.getD (m - 1) 0))with
  | true =>
   show KasT.kasWp cmp (if true=true then _ else _) Q s
   rw[if_pos rfl]
   exact hQ m (Nat.le_refl _) (Nat.le_add_right _ _) hu fun _=>hb
  | false =>
   show KasT.kasWp cmp (if false=true then _ else _) Q s
   rw[if_neg Bool.false_ne_true]
   exact asc_ok A hp f (m+1) Q (by omega) (hu.more hm hb) fun m' h1 h2 h3 h4=>hQ m' (by omega) (by omega) h3 fun z=>h4 (by omega)
noncomputable def EqRun (O:KeyOrd) (key:Nat→O.α) (p:Array Nat) (m q:Nat):Prop:=∀ k,m - (q+1)≤k→k<m→KP O key p k=KP O key p (m - 1)
theorem rev_same {p:Array Nat} {i j:Nat} (hj:j≤p.size) (h:∀ k,i≤k→k<j→KP O key p k=KP O key p (j - 1)) (k:Nat):KP O key (kas_rev p i j) k=KP O key p k:=by
 rw[KP_rev hj]
 by_cases q:i≤k∧k<j
 ·rw[if_pos q,h _ (by omega) (by omega),h k q.1 q.2]
 ·rw[if_neg q]
theorem Dn.same {p q:Array Nat} {m:Nat} (h:Dn O key p m) (e:∀ k,KP O key q k=KP O key p k):Dn O key q m:=fun i j h1 h2=>by rw[e,e];exact h i j h1 h2
theorem Up.same {p q:Array Nat} {m:Nat} (h:Up O key p m) (e:∀ k,KP O key q k=KP O key p k):Up O key q m:=fun i j h1 h2=>by rw[e,e];exact h i j h1 h2
theorem rev_perm (p:Array Nat) (i j:Nat):(kas_rev p i j).Perm p:=mirror_perm _ _ _ _
theorem desc_ok (A:Ans O key n cmp s):∀ (f:Nat) (p:Array Nat) (m q:Nat) (Q:Array Nat×Nat×Nat→Shared→Prop),InR n p→m+f≤n→1≤m→q+1≤m→Dn O key p m→EqRun O key p m q →
 (∀ p' m' q',p'.Perm p→m≤m'→m'≤n→q'+1≤m'→Dn O key p' m'→EqRun O key p' m' q'→Q (p',m',q') s)→(kas_desc f p m q).kasWp cmp Q s
 | 0,p,m,q,Q,hp,hf,hm,hq,hd,he,hQ=>hQ p m q (Array.Perm.refl _) (Nat.le_refl _) (by omega) hq hd he
 | f+1,p,m,q,Q,hp,hf,hm,hq,hd,he,hQ=>by
  show cmp _ _ _ s
  refine A _ _ _ (hp.at _) (hp.at _) ?_
  have one:∀ p:Array Nat,EqRun O key p (m+1) 0:=fun p k h1 h2=>by rw[show k=m+1 - 1 by omega]
  cases hb:O.blt (key (p.getD m 0)) (key (p.getD (m - 1) 0))with
  | true =>
   show KasT.kasWp cmp (if true=true then _ else _) Q s
   rw[if_pos rfl]
   have hl:O.kle (KP O key p m) (KP O key p (m - 1)):=KeyOrd.kle_of_klt hb
   by_cases q0:q > 0
   ·rw[if_pos q0]
    have sm:=rev_same (O:=O) (key:=key) (p:=p) (i:=m - (q+1)) (j:=m) (by rw[hp.size];omega) he
    refine desc_ok A f _ (m+1) 0 Q (hp.perm (rev_perm ..)) (by omega) (by omega) (by omega) (Dn.same (hd.more hm hl) sm) (one _) fun p' m' q' e h1 h2 h3 h4 h5=>hQ p' m' q' (e.trans (rev_perm ..)) (by omega) h2 h3 h4 h5
   ·rw[if_neg q0]
    exact desc_ok A f p (m+1) 0 Q hp (by omega) (by omega) (by omega) (hd.more hm hl) (one _) fun p' m' q' e h1 h2 h3 h4 h5=>hQ p' m' q' e (by omega) h2 h3 h4 h5
  | false =>
   show KasT.kasWp cmp (if false=true then _ else _) Q s
   rw[if_neg Bool.false_ne_true]
   show cmp _ _ _ s
   refine A _ _ _ (hp.at _) (hp.at _) ?_
   cases hc:O.blt (key (p.getD (m - 1) 0)) (key (p.getD m 0))with
   | true =>
    show KasT.kasWp cmp (if true=true then _ else _) Q s
    rw[if_pos rfl]
    exact hQ p m q (Array.Perm.refl _) (Nat.le_refl _) (by omega) hq hd he
   | false =>
    show KasT.kasWp cmp (if false=true then _ else _) Q s
    rw[if_neg Bool.false_ne_true]
    have eq:KP O key p m=KP O key p (m - 1):=O.total _ _ hb hc
    refine desc_ok A f p (m+1) (q+1) Q hp (by omega) (by omega) (by omega) (hd.more hm hc) (fun k h1 h2=>?_) fun p' m' q' e h1 h2 h3 h4 h5=>hQ p' m' q' e (by omega) h2 h3 h4 h5
    show KP O key p k=KP O key p m
    by_cases z:k=m
    ·rw[z]
    ·rw[eq];exact he k (by omega) (by omega)
theorem tail_ok (A:Ans O key n cmp s) {p:Array Nat} {m:Nat} {Q:Nat×Array Nat→Shared→Prop} (hp:InR n p) (hm:1≤m) (hn:m≤n) (hd:Dn O key p m)
 (hQ:∀ m' p',p'.Perm p→1≤m'→m'≤n→Up O key p' m'→Q (m',p') s):(kas_tail3 m n p).kasWp cmp Q s:=by
 unfold kas_tail3
 rw[KasT.kasWp_bind]
 have up:Up O key (kas_rev p 0 m) m:=fun i j h1 h2=>by
  rw[KP_rev (by rw[hp.size];exact hn),KP_rev (by rw[hp.size];exact hn),if_pos (by omega),if_pos (by omega)]
  exact hd _ _ (by omega) (by omega)
 exact asc_ok A (hp.perm (rev_perm ..)) _ _ _ hm up fun m' h1 h2 h3 _=>hQ m' _ (rev_perm ..) (by omega) (by omega) h3
theorem part_ok (A:Ans O key n cmp s) {p:Array Nat} {m:Nat} {Q:Nat×Array Nat→Shared→Prop} (hp:InR n p) (hn:m+1≤n) (hd:Dn O key p (m+1))
 (hQ:∀ m' p',p'.Perm p→1≤m'→m'≤n→Up O key p' m'→Q (m',p') s):(kas_descPart m n p).kasWp cmp Q s:=by
 unfold kas_descPart
 rw[KasT.kasWp_bind]
 refine desc_ok A _ p (m+1) 0 _ hp (by omega) (by omega) (by omega) hd (fun k h1 h2=>by rw[show k=m+1 - 1 by omega]) fun p' m' q' e h1 h2 h3 h4 h5=>?_
 show KasT.kasWp cmp (if q' > 0 then _ else _) Q s
 by_cases q0:q' > 0
 ·rw[if_pos q0]
  have hp':=hp.perm e
  have sm:=rev_same (O:=O) (key:=key) (p:=p') (i:=m' - (q'+1)) (j:=m') (by rw[hp'.size];exact h2) h5
  exact tail_ok A (hp'.perm (rev_perm ..)) (show 1≤m' by omega) h2 (Dn.same h4 sm) fun m2 p2 e2 a b c=>hQ m2 p2 ((e2.trans (rev_perm ..)).trans e) a b c
 ·rw[if_neg q0]
  exact tail_ok A (hp.perm e) (show 1≤m' by omega) h2 h4 fun m2 p2 e2 a b c=>hQ m2 p2 (e2.trans e) a b c
theorem count_ok (A:Ans O key n cmp s) {p:Array Nat} {Q:Nat×Array Nat→Shared→Prop} (hp:InR n p)
 (hQ:∀ m' p',p'.Perm p→1≤m'→m'≤n→Up O key p' m'→Q (m',p') s):(kas_count n p).kasWp cmp Q s:=by
 have h1n:=hp.pos
 unfold kas_count
 rw[KasT.kasWp_bind]
 refine asc_ok A hp _ 1 _ (Nat.le_refl _) (fun i j h1 h2=>by rw[show i=j by omega];exact KeyOrd.kle_refl _) fun m h1 h2 hu hl=>?_
 show KasT.kasWp cmp (if (m == n)=true then _ else _) Q s
 by_cases e:m=n
 ·rw[if_pos (by simpa using e)]
  exact hQ m p (Array.Perm.refl _) h1 (by omega) hu
 ·rw[if_neg (by simpa using e)]
  have hl:=hl (by omega)
  by_cases g:m > 1
  ·rw[if_pos g]
   show cmp _ _ _ s
   refine A _ _ _ (hp.at _) (hp.at _) ?_
   cases hb:O.blt (key (p.getD 0 0)) (key (p.getD (m - 1) 0))with
   | true =>
    show KasT.kasWp cmp (if true=true then _ else _) Q s
    rw[if_pos rfl]
    exact hQ m p (Array.Perm.refl _) h1 (by omega) hu
   | false =>
    show KasT.kasWp cmp (if false=true then _ else _) Q s
    rw[if_neg Bool.false_ne_true]
    have all:∀ k,0≤k→k<m→KP O key p k=KP O key p (m - 1):=fun k _ hk =>
     KeyOrd.kle_antisymm (hu k (m - 1) (by omega) (by omega)) (KeyOrd.kle_trans (show O.kle (KP O key p (m - 1)) (KP O key p 0) from hb) (hu 0 k (by omega) hk))
    have sm:=rev_same (O:=O) (key:=key) (p:=p) (i:=0) (j:=m) (by rw[hp.size];omega) all
    refine part_ok A (hp.perm (rev_perm ..)) (by omega) (Dn.same (Dn.more (fun i j h1 h2=>?_) h1 (KeyOrd.kle_of_klt hl)) sm) fun m2 p2 e2 a b c=>hQ m2 p2 (e2.trans (rev_perm ..)) a b c
    rw[all i (by omega) (by omega),all j (by omega) h2]
    exact KeyOrd.kle_refl _
  ·rw[if_neg g]
   refine part_ok A hp (by omega) (Dn.more (fun i j h1 h2=>?_) h1 (KeyOrd.kle_of_klt hl)) hQ
   rw[show i=j by omega]
   exact KeyOrd.kle_refl _
theorem place_ok (A:Ans O key n cmp s) {p:Array Nat} (hp:InR n p) {k:Nat}:∀ (f l r:Nat) (Q:Nat→Shared→Prop),Up O key p k→l≤r→r≤k→r - l≤f→(∀ i,i<l→O.kle (KP O key p i) (KP O key p k))→(∀ i,r≤i→i<k→O.kle (KP O key p k) (KP O key p i)) →
 (∀ l',l'≤k→(∀ i,i<l'→O.kle (KP O key p i) (KP O key p k))→(∀ i,l'≤i→i<k→O.kle (KP O key p k) (KP O key p i))→Q l' s)→(kas_place p k f l r).kasWp cmp Q s
 | 0,l,r,Q,hu,h1,h2,h3,h4,h5,hQ=>hQ l (by omega) h4 fun i a b=>h5 i (by omega) b
 | f+1,l,r,Q,hu,h1,h2,h3,h4,h5,hQ=>by
  unfold kas_place
  by_cases e:l≥r
  ·rw[if_pos e]
   exact hQ l (by omega) h4 fun i a b=>h5 i (by omega) b
  ·rw[if_neg e]
   show cmp _ _ _ s
   refine A _ _ _ (hp.at _) (hp.at _) ?_
   have m1:l≤(l+r) / 2:=by omega
   have m2:(l+r) / 2<r:=by omega
   cases hb:O.blt (key (p.getD k 0)) (key (p.getD ((l+r) / 2) 0))with
   | true =>
    show KasT.kasWp cmp (if true=true then _ else _) Q s
    rw[if_pos rfl]
    refine place_ok A hp f l ((l+r) / 2) Q hu m1 (by omega) (by omega) h4 (fun i a b=>?_) hQ
    exact KeyOrd.kle_trans (KeyOrd.kle_of_klt (show O.klt (KP O key p k) (KP O key p ((l+r) / 2)) from hb)) (hu _ i a b)
   | false =>
    show KasT.kasWp cmp (if false=true then _ else _) Q s
    rw[if_neg Bool.false_ne_true]
    refine place_ok A hp f ((l+r) / 2+1) r Q hu (by omega) h2 (by omega) (fun i a=>?_) h5 hQ
    exact KeyOrd.kle_trans (hu i ((l+r) / 2) (by omega) (by omega)) (show O.kle (KP O key p ((l+r) / 2)) (KP O key p k) from hb)
theorem bin_ok (A:Ans O key n cmp s):∀ (f:Nat) (p:Array Nat) (k:Nat) (Q:Array Nat→Shared→Prop),InR n p→1≤k→k+f=n→Up O key p k→(∀ p',p'.Perm p→Up O key p' n→Q p' s)→(kas_bin f p k).kasWp cmp Q s
 | 0,p,k,Q,hp,hk,hf,hu,hQ=>hQ p (Array.Perm.refl _) (by rw[← hf];exact hu)
 | f+1,p,k,Q,hp,hk,hf,hu,hQ=>by
  unfold kas_bin
  rw[KasT.kasWp_bind]
  refine place_ok A hp k 0 k _ hu (Nat.zero_le _) (Nat.le_refl _) (by omega) (fun i a=>absurd a (Nat.not_lt_zero _)) (fun i a b=>by omega) fun l hl h1 h2=>?_
  have bp:(bubble p k (k - l)).Perm p:=bubble_perm _ _ _
  refine bin_ok A f _ (k+1) Q (hp.perm bp) (by omega) (by omega) (fun i j hij hj=>?_) fun p' e u=>hQ p' (e.trans bp) u
  have kb:=fun x=>KP_bub (O:=O) (key:=key) (p:=p) (k:=k) (d:=k - l) (by rw[hp.size];omega) (by omega) x
  rw[kb i,kb j,show k - (k - l)=l by omega]
  by_cases i1:i=l
  ·rw[if_pos i1]
   by_cases j1:j=l
   ·rw[if_pos j1];exact KeyOrd.kle_refl _
   ·rw[if_neg j1,if_pos (by omega)]
    exact h2 (j - 1) (by omega) (by omega)
  ·rw[if_neg i1]
   by_cases i2:l<i∧i≤k
   ·rw[if_pos i2,if_neg (show ¬ j=l by omega),if_pos (by omega)]
    exact hu (i - 1) (j - 1) (by omega) (by omega)
   ·rw[if_neg i2]
    by_cases j1:j=l
    ·rw[if_pos j1];exact h1 i (by omega)
    ·rw[if_neg j1]
     by_cases j2:l<j∧j≤k
     ·rw[if_pos j2];exact hu i (j - 1) (by omega) (by omega)
     ·rw[if_neg j2];exact hu i j hij (by omega)
theorem sort_ok (A:Ans O key n cmp s) (hn:0<n) {Q:Array Nat→Shared→Prop} (hQ:∀ p,p.Perm (List.range n).toArray→Up O key p n→Q p s):(kas_sort n).kasWp cmp Q s:=by
 unfold kas_sort
 rw[KasT.kasWp_bind]
 have hp:InR n (List.range n).toArray:=⟨hn,by simp,fun x hx=>by simpa using hx⟩
 refine count_ok A hp fun m p e h1 h2 hu=>?_
 show KasT.kasWp cmp (if m<n then _ else _) Q s
 by_cases q:m<n
 ·rw[if_pos q]
  have em:max m 1=m:=by omega
  show KasT.kasWp cmp (kas_bin (n - max m 1) p (max m 1)) Q s
  rw[em]
  exact bin_ok A _ p m Q (hp.perm e) h1 (by omega) hu fun p' e' u=>hQ p' (e'.trans e) u
 ·rw[if_neg q]
  have:m=n:=by omega
  subst this
  exact hQ p e hu
end
end L2
namespace CW
open PySem L2
noncomputable def rkP (p q:Int×Int):Prop:=p.2 - p.1≤q.2 - q.1∧p.2 - p.1+1≤q.1 - p.2 - 1
noncomputable def Rnk (ps:List (Int×Int)):Prop:=∀ (j:Nat) (p q:Int×Int),ps[j]?=some p→ps[j+1]?=some q→rkP p q
theorem cutV_from (us:List V) (k:Nat):cutV us (some (k:Int)) none=us.drop k:=by
 unfold cutV
 rw[HT.sIx_none,HT.sIx_nat]
 by_cases h:k≤us.length
 ·rw[Nat.min_eq_left h,List.take_of_length_le (by simp)]
 ·rw[Nat.min_eq_right (by omega),Nat.sub_self,List.take_zero,List.drop_eq_nil_of_le (by omega)]
theorem cutV_to (us:List V) (k:Nat):cutV us none (some (k:Int))=us.take k:=by
 unfold cutV
 rw[HT.sIx_none,HT.sIx_nat,List.drop_zero,Nat.sub_zero]
 by_cases h:k≤us.length
 ·rw[Nat.min_eq_left h]
 ·rw[Nat.min_eq_right (by omega),List.take_of_length_le (by omega),List.take_of_length_le (by omega)]
theorem runsM_append (r s:List Int):runsM (r++s)=s.foldl stepR (runsM r):=by unfold runsM;rw[List.foldl_append]
noncomputable def seg (p:Int) (n:Nat):List Int:=(List.range n).map fun(k:Nat)=>p+(k:Int)
theorem seg_succ (p:Int) (n:Nat):seg p (n+1)=seg p n++[p+n]:=by unfold seg;rw[List.range_succ,List.map_append];rfl
theorem seg_len (p:Int) (n:Nat):(seg p n).length=n:=by simp[seg]
theorem Rnk.nil:Rnk (runsM []):=fun j p q h=>by simp[runsM]at h
theorem Rnk.snoc {ps:List (Int×Int)} {q:Int×Int} (h:Rnk ps) (hl:∀ p,ps.getLast?=some p→rkP p q):Rnk (ps++[q]):=by
 intro j a b ha hb
 have hj:j+1<(ps++[q]).length:=(List.getElem?_eq_some_iff.mp hb).1
 simp only[List.length_append,List.length_singleton]at hj
 by_cases hlt:j+1<ps.length
 ·rw[List.getElem?_append_left (by omega)]at ha
  rw[List.getElem?_append_left hlt]at hb
  exact h j a b ha hb
 ·have e:j+1=ps.length:=by omega
  rw[List.getElem?_append_left (by omega)]at ha
  rw[List.getElem?_append_right (by omega),e,Nat.sub_self]at hb
  have eb:q=b:=by simpa using hb
  subst eb
  refine hl a ?_
  rw[List.getLast?_eq_getElem?,show ps.length - 1=j by omega]
  exact ha
noncomputable def LastOk (ps:List (Int×Int)) (size place:Int):Prop:=∀ q,ps.getLast?=some q→q.1≤q.2∧q.2 - q.1+1≤size∧q.2 - q.1+1≤place - q.2 - 1
theorem LastOk.mono {ps:List (Int×Int)} {size size' place:Int} (h:LastOk ps size place) (hs:size≤size'):LastOk ps size' place:=fun q hq=>by have:=h q hq;omega
noncomputable def RowAt (H:Hp) (u:V):Prop:=∃ l row,u=.ref l∧H l=some (.lst (row.map V.int))∧Row row∧row.length≤60
theorem RowAt.mono {H H':Hp} (h:Same H H') {u:V} (r:RowAt H u):RowAt H' u:=let ⟨l,row,e,q,z⟩:=r;⟨l,row,e,h _ _ q,z⟩
noncomputable def RowsOk (H:Hp) (lr:Addr) (us:List V):Prop:=H lr=some (.lst us)∧(∃ x r,us=.ref x :: r)∧∀ u∈us,RowAt H u
theorem RowsOk.mono {H H':Hp} (h:Same H H') {lr:Addr} {us:List V} (r:RowsOk H lr us):RowsOk H' lr us:=⟨h _ _ r.1,r.2.1,fun u hu=>(r.2.2 u hu).mono h⟩
theorem ints_ne {row:List Int} {x:Addr} {r:List V}:HO.lst (row.map V.int)≠HO.lst (.ref x :: r):=by
 intro z
 cases row with
 | nil=>cases z
 | cons a b=>cases z
theorem RowAt.set {H:Hp} {lr x:Addr} {r vs:List V} (h:H lr=some (.lst (.ref x :: r))) {u:V} (q:RowAt H u):RowAt (upd H lr (.lst vs)) u:=by
 obtain⟨l,row,e,q,z⟩:=q
 exact⟨l,row,e,by rw[upd_ne (ne_of q h ints_ne)];exact q,z⟩
theorem RowsOk.snoc {H:Hp} {lr:Addr} {us:List V} {u:V} (h:RowsOk H lr us) (hu:RowAt H u):RowsOk (upd H lr (.lst (us++[u]))) lr (us++[u]):=by
 obtain⟨e,⟨x,r,rfl⟩,q⟩:=h
 refine⟨upd_same,⟨x,r++[u],rfl⟩,fun v hv=>?_⟩
 rcases List.mem_append.mp hv with z | z
 ·exact(q v z).set e
 ·rw[List.mem_singleton.mp z];exact hu.set e
end CW
namespace CW
open PySem L2
theorem walkM_row' {row:List Int} {c:Int} (h:Row row) (hc:1≤c):Row (walkM row c):=goM_row hc row 0 0 h fun _ _=>.inr rfl
noncomputable def carM (row:List Int) (c:Int):Nat:=((walkM row c).filter fun x=>decide (x∉row)).length
end CW
namespace L2
open PySem PySem.W PySem.Spec PyProof.Rows
noncomputable def plt (a b:Int×Int):Bool:=decide (a.1<b.1) || (decide (a.1=b.1) && decide (a.2<b.2))
theorem plt_iff {a b:Int×Int}:plt a b=true↔a.1<b.1∨(a.1=b.1∧a.2<b.2):=by simp[plt]
theorem plt_not {a b:Int×Int}:plt a b=false↔¬ (a.1<b.1∨(a.1=b.1∧a.2<b.2)):=by rw[← plt_iff];simp
noncomputable def pairO:KeyOrd where
 α:=Int×Int
 blt:=plt
 irrefl a:=by rw[plt_not];omega
 trans a b c h1 h2:=by rw[plt_iff]at *;omega
 negTrans a b c h:=by rw[plt_iff]at *;rw[plt_iff];omega
 total a b h1 h2:=by
  rw[plt_not]at h1 h2
  exact Prod.ext (by omega) (by omega)
noncomputable def PairV (h:Heap) (v:Value) (p:Int×Int):Prop:=∃ t o n k1 k2,v=.ref t∧h.get? t=some o∧o.cls=.type "tuple"∧o.data=.seq #[.int p.1 k1,.int p.2 k2] n
theorem paired_getD {α β:Type} {F:α→β→Prop} {x:α} {y:β}:∀ {l:List α} {m:List β} {i:Nat},Paired F l m→i<l.length→F (l.getD i x) (m.getD i y)
 | _,_,0,.cons r _,_=>r
 | _,_,i+1,.cons _ t,h=>by
  simp only[List.getD_cons_succ]
  exact paired_getD t (by simpa using h)
 | _,_,_,.nil,h=>absurd h (Nat.not_lt_zero _)
section
variable {prog:Program} {w:World} {A:Around} {E:Value→Shared→Prop} {s:Shared}
theorem lt_pairV {x y:Value} {p q:Int×Int} {Q:Bool→Shared→Prop} (hx:PairV s.heap x p) (hy:PairV s.heap y q) (h:Q (plt p q) s):wpAny (model prog w) A (keyLt' (tuples' true) x y) Q E s:=by
 obtain⟨t,o,n,k1,k2,rfl,e1,c1,d1⟩:=hx
 obtain⟨t',o',n',k1',k2',rfl,e2,c2,d2⟩:=hy
 refine kat_lt e1 d1 e2 d2 ?_
 refine kat_cons (wpAny_eqBool_int ?_)
 by_cases g1:p.1=q.1
 ·rw[show (p.1 == q.1)=true by simpa using g1]
  refine kat_yes (kat_cons (wpAny_eqBool_int ?_))
  by_cases g2:p.2=q.2
  ·rw[show (p.2 == q.2)=true by simpa using g2]
   refine kat_yes (kat_nil ?_)
   have e:plt p q=false:=by rw[plt_not];omega
   rw[e]at h
   exact h
  ·rw[show (p.2 == q.2)=false by simpa using g2]
   refine kat_no (kat_one _ _ (lt_int ?_))
   have e:plt p q=decide (p.2<q.2):=by
    rw[Bool.eq_iff_iff,plt_iff];simp;omega
   rw[e]at h
   exact h
 ·rw[show (p.1 == q.1)=false by simpa using g1]
  refine kat_no (oneLt_int ?_)
  have e:plt p q=decide (p.1<q.1):=by
   rw[Bool.eq_iff_iff,plt_iff];simp;omega
  rw[e]at h
  exact h
theorem firsts_of {h:Heap}:∀ {vs:List Value} {ps:List (Int×Int)},Paired (PairV h) vs ps→∃ fs:List Value,KatTups h vs fs∧fs.length=vs.length∧∀ v∈fs,∃ i t,v=Value.int i t
 | _,_,.nil=>⟨[],.nil,rfl,fun v hv=>(by cases hv)⟩
 | _,_,.cons ⟨t,o,n,k1,k2,e,ho,hc,hd⟩ r=>by
  subst e
  obtain⟨fs,a,b,c⟩:=firsts_of r
  refine⟨.int _ k1 :: fs,.cons ho hc hd rfl a,by simp[b],fun v hv=>?_⟩
  rcases List.mem_cons.mp hv with z | z
  ·exact⟨_,_,z⟩
  ·exact c v z
noncomputable abbrev ordL (vs:List Value) (p:Array Nat):List Value:=p.toList.map fun i=>vs.getD i Value.none
theorem ord_short {vs:List Value} (hl:vs.length<2):ordL vs (List.range vs.length).toArray=vs:=by
 cases vs with
 | nil=>rfl
 | cons v t =>
  cases t with
  | nil=>rfl
  | cons w r=>exact absurd hl (by show ¬ r.length+1+1<2;omega)
theorem list_sortP {a:Addr} {vs:List Value} {ps:List (Int×Int)} {n:Nat} {P:Fin→Shared→Prop} (ho:s.heap.get? a=some (seqObj "list" vs.toArray n)) (hv:Paired (PairV s.heap) vs ps) (h64:vs.length<64)
 (h:∀ p:Array Nat,p.Perm (List.range vs.length).toArray→Up pairO (fun i=>ps.getD i (0,0)) p vs.length→P (.done (.ret .none)) { s with heap:=sortedHeap s.heap a vs (ordL vs p).toArray }) :
 wpAny (model prog w) A (Builtin.«list.sort» ⟨[.ref a],[]⟩) P E s:=by
 have ha:a<s.heap.objs.size:=Heap.lt_size ho
 have hbig:vs.length≤sizeLine:=Nat.le_trans (Nat.le_of_lt h64) (by decide)
 rw[list_sort_plain]
 refine wpAny_bind (listItems_at ho rfl (wpAny_bind (listUpdate_at ho rfl ?_ (by rw[List.size_toArray];omega) (Nat.zero_le _))))
 obtain⟨e1,ho1⟩:∃ e1,(s.heap.update a (Obj.mapSeq fun _=>(#[]:Array Value))).get? a=some (seqObj "list" #[] e1):=⟨_,get?_update_seq ho _⟩
 refine wpAny_bind (seqEpoch_at ho1 rfl (wpAny_bind (wpAny_newTuple (wpAny_bind (wpAny_newList (wpAny_holding ?_) (Nat.zero_le _))) (by show vs.length≤_;exact hbig))))
 have k6:∀ b o,b≠a→s.heap.get? b=some o→(((s.heap.update a (Obj.mapSeq fun _=>(#[]:Array Value))).push (seqObj "tuple" vs.toArray 0)).push (seqObj "list" #[] 0)).get? b=some o:=fun b o hb q =>
  Heap.get?_push_of_some _ (Heap.get?_push_of_some _ ((Heap.get?_update_ne _ _ _ _ hb).trans q))
 have ho6:(((s.heap.update a (Obj.mapSeq fun _=>(#[]:Array Value))).push (seqObj "tuple" vs.toArray 0)).push (seqObj "list" #[] 0)).get? a=some (seqObj "list" #[] e1):=Heap.get?_push_of_some _ (Heap.get?_push_of_some _ ho1)
 have hv6:Paired (PairV (((s.heap.update a (Obj.mapSeq fun _=>(#[]:Array Value))).push (seqObj "tuple" vs.toArray 0)).push (seqObj "list" #[] 0))) vs ps:=Paired.mapP hv fun v p ⟨t,o,n,k1,k2,e,q,c,d⟩ =>
  ⟨t,o,n,k1,k2,e,k6 t o (fun z=>by subst z;rw[ho]at q;cases q;exact absurd c (by simp[seqObj])) q,c,d⟩
 show wpAny (model prog w) A _ P E { s with heap:=((s.heap.update a (Obj.mapSeq fun _=>(#[]:Array Value))).push (seqObj "tuple" vs.toArray 0)).push (seqObj "list" #[] 0) }
 have fin:∀ p:Array Nat,p.Perm (List.range vs.length).toArray→Up pairO (fun i=>ps.getD i (0,0)) p vs.length→P (.done (.ret .none)) { s with heap:=sortedHeap s.heap a vs (ordL vs p).toArray }:=h
 clear h
 unfold sortedHeap at fin
 generalize ((s.heap.update a (Obj.mapSeq fun _=>(#[]:Array Value))).push (seqObj "tuple" vs.toArray 0)).push (seqObj "list" #[] 0)=h6 at ho6 hv6 fin
 dsimp only
 by_cases h2:vs.toArray.size<2
 ·rw[if_pos h2,if_pos h2]
  refine wpAny_bind (wpAny_pure ?_)
  rw[StateT.run_pure]
  refine wpAny_bind (wpAny_pure ?_)
  dsimp only
  have eo:ordL vs (List.range vs.length).toArray=vs:=ord_short (by simpa using h2)
  have ea:(arrOf (SortSt.mk' general' (vs.toArray.zip vs.toArray) #[] 7 none)).map (·.2)=vs.toArray:=by
   show (vs.toArray.zip vs.toArray).map (·.2)=vs.toArray
   apply Array.toList_inj.mp
   simp
   exact List.map_snd_zip (Nat.le_refl _)
  rw[ea]
  refine wpAny_bind (seqEpoch_at ho6 rfl (wpAny_bind (listUpdate_at ho6 rfl ?_ (Nat.zero_le _) (by rw[List.size_toArray];omega))))
  simp only[bne_self_eq_false,Bool.false_eq_true,if_false]
  have f:=fin (List.range vs.length).toArray (Array.Perm.refl _) fun i j hij hj=>by
   have:i=j:=by simp at h2;omega
   subst this
   exact KeyOrd.kle_refl _
  rw[eo]at f
  exact wpAny_pure f
 ·rw[if_neg h2,if_neg h2]
  have hl2:2≤vs.length:=by simp at h2;omega
  obtain⟨fs,t6,lf,hf⟩:=firsts_of hv6
  refine wpAny_bind (kat_kind (s:={ s with heap:=h6 }) (T:=.type "int") t6 (by omega) (fun v hv=>?_) rfl ?_)
  ·obtain⟨i,t,rfl⟩:=hf v hv
   exact Looks.now
  have A2:Ans pairO (fun i=>ps.getD i (0,0)) vs.length (kas_ask prog w A (tuples' true) vs) { s with heap:=h6 }:=fun i j C hi hj hC=>by
   unfold kas_ask
   exact lt_pairV (s:={ s with heap:=h6 }) (paired_getD hv6 hi) (paired_getD hv6 hj) hC
  refine wpAny_bind (wpAny_mono (kat_run (s:={ s with heap:=h6 }) (κ:=tuples' true) (ks:=vs) (vs:=vs) (Q:=fun st' s'=>s'={ s with heap:=h6 }∧failedOf st'=none∧∃ p:Array Nat,p.Perm (List.range vs.length).toArray∧Up pairO (fun i=>ps.getD i (0,0)) p vs.length∧(arrOf st').map (·.2)=(ordL vs p).toArray)
   (G:=fun p s'=>s'={ s with heap:=h6 }∧p.Perm (List.range vs.length).toArray∧Up pairO (fun i=>ps.getD i (0,0)) p vs.length) rfl hl2 h64 (fun p st' s' g1 g2 g3 ⟨g4,g5,g6⟩=>⟨g4,g3,p,g5,g6,kat_snds rfl g2⟩) (sort_ok A2 (by omega) fun p e u=>⟨rfl,e,u⟩)) ?_ fun _ _ e=>e)
  rintro ⟨⟨⟩,st'⟩ s' ⟨rfl,hf',p,e,u,ea⟩
  dsimp only
  rw[ea,hf']
  have hsz:(ordL vs p).toArray.size≤sizeLine:=by
   have:=e.size_eq
   simp only[List.size_toArray,List.length_range]at this
   rw[List.size_toArray,List.length_map,Array.length_toList,this]
   exact hbig
  refine wpAny_bind (seqEpoch_at ho6 rfl (wpAny_bind (listUpdate_at ho6 rfl ?_ (Nat.zero_le _) (by omega))))
  simp only[bne_self_eq_false,Bool.false_eq_true,if_false]
  exact wpAny_pure (fin p e u)
theorem sortedP {l:Addr} {vs:List Value} {ps:List (Int×Int)} {Q:Value→Shared→Prop} (hl:s.heap.IsList l vs.toArray) (hv:Paired (PairV s.heap) vs ps) (h64:vs.length<64)
 (h:∀ p:Array Nat,p.Perm (List.range vs.length).toArray→Up pairO (fun i=>ps.getD i (0,0)) p vs.length→Q (.ref (s.heap.objs.size+1)) { s with heap:=sortedAll s.heap vs (ordL vs p).toArray }) :
 wpAny (model prog w) A (call (.builtin "sorted") [.ref l]) Q E s:=by
 have hbig:vs.length≤sizeLine:=Nat.le_trans (Nat.le_of_lt h64) (by decide)
 refine Calls.call_function_entry kind_sorted plain_sorted entry_sorted (args_sorted1 _) ?_
 unfold Builtin.«sorted»
 refine wpAny_bind (m:=checkCount "sorted" 1 1 _) (wpAny_pure (wpAny_bind (collect_list hl (wpAny_bind (wpAny_newList ?_ hbig)) hbig)))
 unfold sortedAll at h
 have z1:((s.heap.push (seqObj "list" #[] 0)).update s.heap.objs.size (Obj.mapSeq (·++vs.toArray))).objs.size=s.heap.objs.size+1:=by rw[Heap.size_update,size_push']
 have oL:(((s.heap.push (seqObj "list" #[] 0)).update s.heap.objs.size (Obj.mapSeq (·++vs.toArray))).push (seqObj "list" vs.toArray 0)).get? (s.heap.objs.size+1)=some (seqObj "list" vs.toArray 0):=z1 ▸ Heap.get?_push_size _ rfl
 have kp:∀ b o,s.heap.get? b=some o→(((s.heap.push (seqObj "list" #[] 0)).update s.heap.objs.size (Obj.mapSeq (·++vs.toArray))).push (seqObj "list" vs.toArray 0)).get? b=some o:=fun b o q =>
  Heap.get?_push_of_some _ ((Heap.get?_update_ne _ _ _ _ (Nat.ne_of_lt (Heap.lt_size q))).trans (Heap.get?_push_of_some _ q))
 show wpAny _ _ _ _ _ { s with heap:=((s.heap.push (seqObj "list" #[] 0)).update s.heap.objs.size (Obj.mapSeq (·++vs.toArray))).push (seqObj "list" vs.toArray 0) }
 rw[z1]
 generalize ((s.heap.push (seqObj "list" #[] 0)).update s.heap.objs.size (Obj.mapSeq (·++vs.toArray))).push (seqObj "list" vs.toArray 0)=h2 at oL kp h
 have hv2:Paired (PairV h2) vs ps:=Paired.mapP hv fun v p ⟨t,o,n,k1,k2,e,q,c,d⟩=>⟨t,o,n,k1,k2,e,kp t o q,c,d⟩
 refine wpAny_bind (wpAny_holding (wpAny_call_entry slot_list_sort ⟨_,oL,rfl⟩ entry_list_sort (list_sortP (s:={ s with heap:=h2 }) oL hv2 h64 fun p e u=>⟨_,rfl,?_⟩) (args_list_sort _)))
 exact wpAny_pure ⟨_,rfl,h p e u⟩
end
noncomputable def ple (a b:Int×Int):Prop:=a.1<b.1∨(a.1=b.1∧a.2≤b.2)
theorem map_getD_perm {α:Type} (d:α) (l:List α) {p:List Nat} (h:p.Perm (List.range l.length)):(p.map fun i=>l.getD i d).Perm l:=by
 have e:(List.range l.length).map (fun i=>l.getD i d)=l:=by
  apply List.ext_getElem
  ·simp
  ·intro i h1 h2
   simp[h2]
 have:=h.map fun i=>l.getD i d
 rwa [e]at this
section
variable {X:Cx}
theorem call_sortedP:CallR X (.builtin "sorted") (fun xs H Q=>∃ (a:Addr) (us:List V) (ps:List (Int×Int)),xs=[.ref a]∧H a=some (.lst us)∧CW.Prs H us ps∧ps.length<64 ∧
 ∀ (l:Addr) (us':List V) (qs:List (Int×Int)),H l=none→CW.Prs H us' qs→qs.Perm ps→qs.Pairwise ple→Q (.ref l) (upd H l (.lst us'))):=by
 intro pins s σ H xs us Q I r h
 obtain⟨a,us0,ps,rfl,ha,pr,h64,q⟩:=h
 obtain⟨u,rfl,rx⟩:=vals1 r
 cases rx
 obtain⟨its,rv,pl,hz⟩:=I.list (SqL.of ha)
 have l1:us0.length=ps.length:=Paired.length pr
 have l2:us0.length=its.length:=rv.length
 have hv:Paired (PairV s.heap) its ps:=by
  have go:∀ (us0:List V) (its:List Value) (ps:List (Int×Int)),Vals us0 its→CW.Prs H us0 ps→Paired (PairV s.heap) its ps:=by
   intro us0
   induction us0 with
   | nil=>intro its ps r p;cases r;cases p;exact .nil
   | cons x xs ih =>
    intro its ps r p
    cases r with
    | cons r1 r2 =>
     cases p with
     | cons p1 p2 =>
      refine .cons ?_ (ih _ _ r2 p2)
      obtain⟨t,e,et⟩:=p1
      subst e
      cases r1
      obtain⟨_,its',rv',o,ho,hc,n,hd⟩:=(show ObjOk X.prog X.w H s.heap t (.tup [.int _,.int _]) from I.hok t _ et)
      obtain⟨u1,u2,rfl,⟨k1,rfl⟩,⟨k2,rfl⟩⟩:=rv'.two
      exact⟨t,o,n,k1,k2,rfl,ho,hc,hd⟩
  exact go us0 its ps rv pr
 refine sortedP pl.isList hv (by omega) fun p e u=>?_
 have pl':p.toList.Perm (List.range its.length):=by
  have:=e.toList
  simpa using this
 have pmem:∀ i∈p.toList,i<its.length:=fun i hi=>by
  have:=pl'.mem_iff.mp hi
  simpa using this
 have psz:p.toList.length=its.length:=by rw[pl'.length_eq,List.length_range]
 have key:∀ (q:List Nat),(∀ i∈q,i<its.length)→Vals (q.map fun i=>us0.getD i V.non) (q.map fun i=>its.getD i Value.none)∧CW.Prs H (q.map fun i=>us0.getD i V.non) (q.map fun i=>ps.getD i (0,0)):=by
  intro q
  induction q with
  | nil=>intro _;exact⟨.nil,.nil⟩
  | cons i q ih =>
   intro hq
   have hi:=hq i List.mem_cons_self
   obtain⟨a1,a2⟩:=ih fun j hj=>hq j (List.mem_cons_of_mem _ hj)
   exact⟨.cons (paired_getD rv (by omega)) a1,.cons (paired_getD pr (by omega)) a2⟩
 obtain⟨k1,k2⟩:=key p.toList pmem
 obtain⟨e0,at0⟩:=sortedAll_at s.heap its (ordL its p).toArray
 have hn:H (s.heap.objs.size+1)=none:=I.hok.fresh (Nat.le_succ _)
 refine⟨.ref (s.heap.objs.size+1),_,I.laid (t':=s.toks) (o:=.lst (p.toList.map fun i=>us0.getD i V.non)) (fun b o e=>sortedAll_old e) (Nat.le_succ _) ⟨?_,ordL its p,e0,k1,at0⟩,rfl,q _ _ (p.toList.map fun i=>ps.getD i (0,0)) hn k2 ?_ ?_⟩
 ·rw[List.length_map,psz]
  exact Nat.le_trans (show its.length≤64 by omega) (by decide)
 ·exact map_getD_perm (0,0) ps (by rw[← l1,l2];exact pl')
 ·rw[List.pairwise_iff_getElem]
  intro i j hi hj hij
  simp only[List.length_map]at hi hj
  have z:=u i j (Nat.le_of_lt hij) (by omega)
  have gd:∀ (k:Nat) (hk:k<p.toList.length),(p.toList.map fun i=>ps.getD i (0,0))[k]'(by simpa using hk)=KP pairO (fun i=>ps.getD i (0,0)) p k:=fun k hk=>by
   unfold KP
   rw[List.getElem_map]
   congr 1
   rw[Array.getElem_toList,Array.getD,dif_pos (by simpa using hk)]
   rfl
  rw[gd i hi,gd j hj]
  have z':plt (KP pairO (fun i=>ps.getD i (0,0)) p j) (KP pairO (fun i=>ps.getD i (0,0)) p i)=false:=z
  generalize KP pairO (fun i=>ps.getD i (0,0)) p j=x at z'
  generalize KP pairO (fun i=>ps.getD i (0,0)) p i=y at z'
  have z2:=plt_not.mp z'
  show (y:Int×Int).1<(x:Int×Int).1∨((y:Int×Int).1=(x:Int×Int).1∧(y:Int×Int).2≤(x:Int×Int).2)
  have z3:¬ ((x:Int×Int).1<(y:Int×Int).1∨((x:Int×Int).1=(y:Int×Int).1∧(x:Int×Int).2<(y:Int×Int).2)):=z2
  omega
theorem call_sortedI:CallR X (.builtin "sorted") (fun xs H Q=>∃ (a:Addr) (ns:List Int),xs=[.ref a]∧H a=some (.lst (ns.map V.int))∧ns.length<64 ∧
 ∀ (l:Addr) (ms:List Int),H l=none→ms.Perm ns→ms.Pairwise (·≤·)→Q (.ref l) (upd H l (.lst (ms.map V.int)))):=by
 intro pins s σ H xs us Q I r h
 obtain⟨a,ns,rfl,ha,h64,q⟩:=h
 obtain⟨u,rfl,rx⟩:=vals1 r
 cases rx
 obtain⟨its,rv,pl,hz⟩:=I.list (SqL.of ha)
 have hl:=rv.length
 rw[List.length_map]at hl
 refine sorted_ints pl.isList (ints_are rv) (by omega) fun out ns' hI hp hs=>?_
 obtain⟨e0,at0⟩:=sortedAll_at s.heap its out
 have hn:H (s.heap.objs.size+1)=none:=I.hok.fresh (Nat.le_succ _)
 refine⟨.ref (s.heap.objs.size+1),_,I.laid (t':=s.toks) (o:=.lst (ns'.map V.int)) (fun b o e=>sortedAll_old e) (Nat.le_succ _) ⟨?_,out.toList,e0,vals_ints hI,at0⟩,rfl,q _ ns' hn hp hs⟩
 rw[List.length_map,hp.length_eq]
 exact Nat.le_trans (show ns.length≤64 by omega) (by decide)
end
end L2
namespace L2
open PySem PySem.Spec PyProof.Rows
section
variable {κ:Type} [DecidableEq κ]
noncomputable def valV (kvs:List (κ×V)) (k:κ):Option V:=(kvs.find? fun kv=>decide (kv.1=k)).map (·.2)
noncomputable def putK (kvs:List (κ×V)) (k:κ) (v:V):List (κ×V) :=
 if (kvs.any fun kv=>decide (kv.1=k))=true then kvs.map (fun kv=>if kv.1=k then (kv.1,v)else kv)else kvs++[(k,v)]
noncomputable def dropK (kvs:List (κ×V)) (k:κ):List (κ×V):=kvs.filter fun kv=>decide (kv.1≠k)
theorem valV_pos {p:κ×V} {r:List (κ×V)} {k:κ} (e:p.1=k):valV (p :: r) k=some p.2:=by simp[valV,List.find?_cons,e]
theorem valV_neg {p:κ×V} {r:List (κ×V)} {k:κ} (e:¬ p.1=k):valV (p :: r) k=valV r k:=by simp[valV,List.find?_cons,e]
theorem valV_any (k:κ):∀ kvs:List (κ×V),(kvs.any fun kv=>decide (kv.1=k))=(valV kvs k).isSome
 | []=>rfl
 | p :: r=>by
  rw[List.any_cons]
  by_cases e:p.1=k
  ·simp only[valV_pos e,decide_eq_true e,Bool.true_or,Option.isSome_some]
  ·rw[valV_neg e,decide_eq_false e,Bool.false_or];exact valV_any k r
theorem RelO.isSome_eq {o:Option V} {u:Option Value} (r:RelO o u):o.isSome=u.isSome:=by
 cases o with
 | none=>cases u with
  | none=>rfl
  | some _=>exact(show False from r).elim
 | some _=>cases u with
  | none=>exact(show False from r).elim
  | some _=>rfl
theorem RelO.getD {o:Option V} {u:Option Value} {d:V} {d':Value} (r:RelO o u) (rd:RelV d d'):RelV (o.getD d) (u.getD d'):=by
 cases o with
 | none=>cases u with
  | none=>exact rd
  | some _=>exact(show False from r).elim
 | some _=>cases u with
  | none=>exact(show False from r).elim
  | some _=>exact r
theorem KV.val {kvs:List (κ×V)} {vs:List (κ×Value)} (r:KV kvs vs) (k:κ):RelO (valV kvs k) (valueAt vs k):=by
 unfold KV at r
 induction r with
 | nil=>exact True.intro
 | @cons p q ps qs h t ih =>
  obtain⟨h1,h2⟩:=h
  by_cases e:p.1=k
  ·have e':q.1=k:=h1.symm.trans e
   have b:valueAt (q :: qs) k=some q.2:=by simp[valueAt,List.find?_cons,e']
   rw[valV_pos e,b];exact h2
  ·have e':¬ q.1=k:=fun z=>e (h1.trans z)
   have b:valueAt (q :: qs) k=valueAt qs k:=by simp[valueAt,List.find?_cons,e']
   rw[valV_neg e,b];exact ih
theorem KV.any {kvs:List (κ×V)} {vs:List (κ×Value)} (r:KV kvs vs) (k:κ):(kvs.any fun kv=>decide (kv.1=k))=vs.any fun kv=>decide (kv.1=k):=by
 unfold KV at r
 induction r with
 | nil=>rfl
 | cons h t ih=>rw[List.any_cons,List.any_cons,ih,h.1]
theorem KV.repl {kvs:List (κ×V)} {vs:List (κ×Value)} (r:KV kvs vs) (k:κ) {y:V} {u:Value} (ry:RelV y u) :
 KV (kvs.map fun kv=>if kv.1=k then (kv.1,y)else kv) (vs.map fun kv=>if kv.1=k then (kv.1,u)else kv):=by
 unfold KV at r ⊢
 induction r with
 | nil=>exact .nil
 | @cons p q ps qs h t ih =>
  rw[List.map_cons,List.map_cons]
  refine .cons ?_ ih
  obtain⟨h1,h2⟩:=h
  by_cases e:p.1=k
  ·rw[if_pos e,if_pos (h1.symm.trans e)];exact⟨h1,ry⟩
  ·rw[if_neg e,if_neg (fun z=>e (h1.trans z))];exact⟨h1,h2⟩
theorem KV.put {kvs:List (κ×V)} {vs:List (κ×Value)} (r:KV kvs vs) (k:κ) {y:V} {u:Value} (ry:RelV y u):KV (putK kvs k y) (stored vs k u):=by
 unfold putK stored
 rw[r.any k]
 by_cases e:(vs.any fun kv=>decide (kv.1=k))=true
 ·rw[if_pos e,if_pos e];exact r.repl k ry
 ·rw[if_neg e,if_neg e];exact Paired.snoc r ⟨rfl,ry⟩
theorem KV.drop {kvs:List (κ×V)} {vs:List (κ×Value)} (r:KV kvs vs) (k:κ):KV (dropK kvs k) (without vs k):=by
 unfold KV at r ⊢
 unfold dropK without
 induction r with
 | nil=>exact .nil
 | @cons p q ps qs h t ih =>
  obtain⟨h1,h2⟩:=h
  rw[List.filter_cons,List.filter_cons]
  by_cases e:p.1=k
  ·have a:¬ decide (p.1≠k)=true:=by simp[e]
   have b:¬ decide (q.1≠k)=true:=by simp[h1.symm.trans e]
   rw[if_neg a,if_neg b];exact ih
  ·have e':¬ q.1=k:=fun z=>e (h1.trans z)
   have a:decide (p.1≠k)=true:=by simp[e]
   have b:decide (q.1≠k)=true:=by simp[e']
   rw[if_pos a,if_pos b];exact .cons ⟨h1,h2⟩ ih
theorem KV.keys {kvs:List (κ×V)} {vs:List (κ×Value)} (r:KV kvs vs):kvs.map (·.1)=vs.map (·.1):=by
 unfold KV at r
 induction r with
 | nil=>rfl
 | cons h t ih=>rw[List.map_cons,List.map_cons,ih,h.1]
theorem KV.length {kvs:List (κ×V)} {vs:List (κ×Value)} (r:KV kvs vs):kvs.length=vs.length:=Paired.length r
end
noncomputable abbrev KT (H:Hp):List (List Key×V)→List (List Key×Addr×Value)→Prop:=Paired fun p q=>p.1=q.1∧H q.2.1=some (.tup (p.1.map kV))∧RelV p.2 q.2.2
theorem KT.val {H:Hp} {kvs:List (List Key×V)} {xs:List (List Key×Addr×Value)} (r:KT H kvs xs) (k:List Key):RelO (valV kvs k) ((atKey xs k).map (·.2)):=by
 induction r with
 | nil=>exact True.intro
 | @cons p q ps qs h t ih =>
  obtain⟨h1,_,h2⟩:=h
  by_cases e:p.1=k
  ·have e':q.1=k:=h1.symm.trans e
   have b:atKey (q :: qs) k=some q.2:=by simp[atKey,List.find?_cons,e']
   rw[valV_pos e,b];exact h2
  ·have e':¬ q.1=k:=fun z=>e (h1.trans z)
   have b:atKey (q :: qs) k=atKey qs k:=by simp[atKey,List.find?_cons,e']
   rw[valV_neg e,b];exact ih
theorem KT.repl {H:Hp} {kvs:List (List Key×V)} {xs:List (List Key×Addr×Value)} (r:KT H kvs xs) (k:List Key) {y:V} {u:Value} (ry:RelV y u) :
 KT H (kvs.map fun kv=>if kv.1=k then (kv.1,y)else kv) (xs.map (putAt k u)):=by
 induction r with
 | nil=>exact .nil
 | @cons p q ps qs h t ih =>
  rw[List.map_cons,List.map_cons]
  refine .cons ?_ ih
  obtain⟨h1,h2,h3⟩:=h
  unfold putAt
  by_cases e:p.1=k
  ·rw[if_pos e,if_pos (h1.symm.trans e)];exact⟨h1,h2,ry⟩
  ·rw[if_neg e,if_neg (fun z=>e (h1.trans z))];exact⟨h1,h2,h3⟩
theorem KT.put {H:Hp} {kvs:List (List Key×V)} {xs:List (List Key×Addr×Value)} (r:KT H kvs xs) (k:List Key) {b:Addr} {y:V} {u:Value} (hb:H b=some (.tup (k.map kV))) (ry:RelV y u) :
 KT H (putK kvs k y) (storedH xs k b u):=by
 have e:(kvs.any fun kv=>decide (kv.1=k))=(atKey xs k).isSome:=by
  rw[valV_any,(r.val k).isSome_eq,Option.isSome_map]
 unfold putK storedH
 rw[e]
 by_cases q:(atKey xs k).isSome=true
 ·rw[if_pos q,if_pos q];exact r.repl k ry
 ·rw[if_neg q,if_neg q];exact Paired.snoc r ⟨rfl,hb,ry⟩
theorem KT.keeps {H H':Hp} {kvs:List (List Key×V)} {xs:List (List Key×Addr×Value)} (r:KT H kvs xs) (ht:∀ b ys,H b=some (.tup ys)→H' b=some (.tup ys)):KT H' kvs xs :=
 Paired.mapP r fun _ _ z=>⟨z.1,ht _ _ z.2.1,z.2.2⟩
section
variable {P:Program} {w:World} {H:Hp} {h:Heap} {a:Addr}
end
section
variable {X:Cx} {pins:List (Addr×Obj)} {σ:St} {H:Hp} {s:Shared} {a:Addr} {y v:V} {u r:Value} {o:Option V} {A:Around} {E:Value→Shared→Prop}
end
section
variable {X:Cx} {pins:List (Addr×Obj)} {σ:St} {H:Hp} {s:Shared} {a:Addr} {kvs:List (Key×V)} {k:Key} {u:Value} {A:Around} {E:Value→Shared→Prop}
end
section
variable {X:Cx} {o i e value:Expr} {pos pos' tpos:Pos} {td ty tv:TE}
end
section
variable {X:Cx} {pos:Pos}
end
structure M1 (X:Cx) (o:Expr) (m:Str) (apos:Pos) (e:Expr) (cpos:Pos):Prop where
 base:attributeBase o m X.env (eval o X.env)=eval o X.env
 few:((backTo cpos (starEach [e] X.env)).all (fun x=>!x.1) && (backToKw cpos (keywordEach [] X.env)).all (fun x=>x.1.isSome)
  && decide (([e]:List Expr).length+([]:List Keyword).length+(if ([]:List Keyword).isEmpty then 0 else 1)<30))=true
 line:(apos.endLine == cpos.line)=true
 trees:backTo cpos (starEach [e] X.env)=[(false,eval e X.env)]
structure M2 (X:Cx) (o:Expr) (m:Str) (apos:Pos) (e f:Expr) (cpos:Pos):Prop where
 base:attributeBase o m X.env (eval o X.env)=eval o X.env
 few:((backTo cpos (starEach [e,f] X.env)).all (fun x=>!x.1) && (backToKw cpos (keywordEach [] X.env)).all (fun x=>x.1.isSome)
  && decide (([e,f]:List Expr).length+([]:List Keyword).length+(if ([]:List Keyword).isEmpty then 0 else 1)<30))=true
 line:(apos.endLine == cpos.line)=true
 trees:backTo cpos (starEach [e,f] X.env)=[(false,eval e X.env),(false,eval f X.env)]
section
variable {X:Cx} {pins:List (Addr×Obj)} {σ:St} {H:Hp} {s:Shared} {a:Addr} {y d:V} {u r:Value} {o:Option V} {A:Around} {E:Value→Shared→Prop}
end
section
variable {X:Cx} {o e f:Expr} {apos cpos:Pos} {td ty tx:TE}
end
section
variable {X:Cx} {pins:List (Addr×Obj)} {σ:St} {H:Hp} {s:Shared} {a:Addr} {kvs:List (Key×V)} {A:Around} {E:Value→Shared→Prop}
end
section
variable {X:Cx} {pins:List (Addr×Obj)} {σ:St} {H:Hp} {s:Shared} {a:Addr} {y:V} {u:Value} {A:Around} {E:Value→Shared→Prop}
end
end L2
namespace L2
open PySem PySem.Spec PyProof.Rows
section
variable {X:Cx} {pins:List (Addr×Obj)} {σ:St} {H:Hp} {s:Shared} {d:Addr} {kvs:List (Key×V)}
end
section
variable {X:Cx} {o e f:Expr} {apos cpos:Pos} {td ty tx:TE}
end
end L2
namespace CW
open PySem L2
noncomputable abbrev Grp:=Int×Addr×List Int
noncomputable def kvG (gs:List Grp):List (Key×V):=gs.map fun g=>((Sum.inl g.1:Key),V.ref g.2.1)
structure DG (H:Hp) (d:Addr) (gs:List Grp):Prop where
 at_:H d=some (.dK (kvG gs))
 lst:∀ g∈gs,H g.2.1=some (.lst (g.2.2.map V.int))
 adr:(gs.map (·.2.1)).Nodup
 key:(gs.map (·.1)).Nodup
noncomputable def SameD (d:Addr) (H H':Hp):Prop:=∀ b o,b≠d→H b=some o→H' b=some o
theorem SameD.trans {d:Addr} {H H1 H2:Hp} (a:SameD d H H1) (b:SameD d H1 H2):SameD d H H2:=fun c o n h=>b c o n (a c o n h)
noncomputable def wgt (f:Int→Int) (gs:List Grp):Int:=(gs.map fun g=>f g.1 * (g.2.2.length:Int)).sum
noncomputable def tot (f:Int→Int) (ps:List (Int×Int)):Int:=(ps.map fun p=>f p.1).sum
section
variable {P:Program} {w:World} {K:PySem.W.Frag} {mg:Str→Option Value} {base:Heap}
end
end CW
namespace L2
open PySem PySem.Spec PyProof.Rows
end L2
namespace L2
open PySem PySem.W PySem.Spec PyProof.Rows
section
variable {X:Cx}
end
end L2
namespace L2
open PySem PySem.Spec PyProof.Rows
end L2
namespace L2
open PySem PySem.Spec PyProof.Rows
section
open PySem.SeqAt
open PySem.AutoSeq1 (wpAny_loadPart')
open PySem.MeetsSeq PySem.MeetsSeq2 PySem.MeetsSeq3
end
section
variable {prog:Program} {w:World} {A:Around} {E:Value→Shared→Prop} {s:Shared}
end
noncomputable def Top (ps:List (Int×Int)) (i:Nat) (j:Nat):Prop:=j<i∧∀ k,k<i→plt (ps.getD j (0,0)) (ps.getD k (0,0))=false
theorem Top.keep {ps:List (Int×Int)} {i j:Nat} (h:Top ps i j) (g:plt (ps.getD j (0,0)) (ps.getD i (0,0))=false):Top ps (i+1) j:=⟨Nat.lt_succ_of_lt h.1,fun k hk=>by
 by_cases e:k=i
 ·rw[e];exact g
 ·exact h.2 k (by omega)⟩
theorem Top.take {ps:List (Int×Int)} {i j:Nat} (h:Top ps i j) (g:plt (ps.getD j (0,0)) (ps.getD i (0,0))=true):Top ps (i+1) i:=⟨Nat.lt_succ_self i,fun k hk=>by
 by_cases e:k=i
 ·rw[e,plt_not];omega
 ·have h1:=h.2 k (by omega)
  rw[plt_not]at h1 ⊢
  rw[plt_iff]at g
  omega⟩
section
variable {prog:Program} {w:World} {A:Around} {R:Result→Shared→Prop} {l it S:Addr} {its:List Value} {ps:List (Int×Int)}
theorem PairV.at {h h':Heap} {v:Value} {p:Int×Int} (x:PairV h v p) (k:∀ t o,v=.ref t→h.get? t=some o→o.cls=.type "tuple"→h'.get? t=some o):PairV h' v p:=by
 obtain⟨t,o,n,k1,k2,e,ho,hc,hd⟩:=x
 exact⟨t,o,n,k1,k2,e,k t o e ho hc,hc,hd⟩
end
end L2
namespace L2
open PySem PySem.Spec PyProof.Rows
section
variable {X:Cx} {pins:List (Addr×Obj)} {σ:St} {H:Hp} {s:Shared}
theorem pairs_at (I:Inv X pins σ H s):∀ {us0:List V} {its:List Value} {ps:List (Int×Int)},Vals us0 its→CW.Prs H us0 ps→Paired (PairV s.heap) its ps:=by
 intro us0
 induction us0 with
 | nil=>intro its ps r p;cases r;cases p;exact .nil
 | cons x xs ih =>
  intro its ps r p
  cases r with
  | cons r1 r2 =>
   cases p with
   | cons p1 p2 =>
    refine .cons ?_ (ih r2 p2)
    obtain⟨t,e,et⟩:=p1
    subst e
    cases r1
    obtain⟨_,its',rv',o,ho,hc,n,hd⟩:=(show ObjOk X.prog X.w H s.heap t (.tup [.int _,.int _]) from I.hok t _ et)
    obtain⟨u1,u2,rfl,⟨k1,rfl⟩,⟨k2,rfl⟩⟩:=rv'.two
    exact⟨t,o,n,k1,k2,rfl,ho,hc,hd⟩
end
end L2
namespace L2
open PySem PySem.Spec PyProof.Rows
end L2
namespace CW
open PySem L2
noncomputable def StayG (d:Addr) (gs:List Grp) (H H':Hp):Prop:=∀ b o,b≠d→(∀ g∈gs,b≠g.2.1)→H b=some o→H' b=some o
section
variable {P:Program} {w:World} {K:PySem.W.Frag} {mg:Str→Option Value} {base:Heap}
end
end CW
namespace CW
open PySem L2
noncomputable def GoodG (gs:List Grp):Prop:=∀ g∈gs,1≤g.1∧g.2.2≠[]
noncomputable def sto (gs:List Grp):Int:=wgt (fun k=>k) gs
theorem GoodG.one {g:Grp} {r:List Grp} (h:GoodG (g :: r)):(g.2.2.length:Int)≤g.1 * (g.2.2.length:Int)∧1≤(g.2.2.length:Int):=by
 obtain⟨h1,h2⟩:=h g List.mem_cons_self
 have h3:0<g.2.2.length:=List.length_pos_iff.mpr h2
 refine⟨?_,by omega⟩
 have:=Int.mul_le_mul_of_nonneg_right h1 (show (0:Int)≤(g.2.2.length:Int)by omega)
 omega
end CW
namespace CW
open PySem L2
section
variable {P:Program} {w:World} {K:PySem.W.Frag} {mg:Str→Option Value} {base:Heap}
end
end CW
namespace CW
open PySem L2
theorem StayG.same {H H1 H2:Hp} {d r:Addr} {gs:List Grp} (st:StayG d gs H1 H2) (sm:Same H H1) (hd:H d=none) (hfr:∀ g∈gs,H g.2.1=none∧g.2.1≠r):Same H H2:=fun b o e =>
 st b o (fun z=>by rw[z,hd]at e;cases e) (fun g hg z=>by rw[z,(hfr g hg).1]at e;cases e) (sm b o e)
end CW
namespace CW
noncomputable abbrev Trs:=List (Int×Int)
noncomputable def les (ps:Trs) (j:Int):Int:=(ps.map fun q=>min j q.1).sum
theorem les_nil (j:Int):les [] j=0:=rfl
theorem les_cons (q:Int×Int) (ps:Trs) (j:Int):les (q :: ps) j=min j q.1+les ps j:=by simp[les]
theorem les_perm {ps qs:Trs} (h:ps.Perm qs) (j:Int):les ps j=les qs j:=by
 unfold les
 induction h with
 | nil=>rfl
 | cons x _ ih=>simp only[List.map_cons,List.sum_cons];omega
 | swap x y l=>simp only[List.map_cons,List.sum_cons];omega
 | trans _ _ h1 h2=>exact h1.trans h2
noncomputable def Bd (ps:Trs) (n:Int):Prop:=∀ q∈ps,1≤q.1∧q.2+2 * les ps q.1≤n
theorem Bd.perm {ps qs:Trs} {n:Int} (h:Bd ps n) (e:ps.Perm qs):Bd qs n:=fun q hq=>by
 have:=h q (e.mem_iff.mpr hq)
 rw[les_perm e]at this
 exact this
theorem Bd.mono {ps:Trs} {n m:Int} (h:Bd ps n) (e:n≤m):Bd ps m:=fun q hq=>⟨(h q hq).1,Int.le_trans (h q hq).2 e⟩
noncomputable def Add (ps:Trs) (p:Int) (qs:Trs):Prop:=∃ (s:Int) (rest:Trs),0≤s∧(s=0∧ps.Perm rest∨1≤s∧ps.Perm ((s,p - 1 - 2 * les ps s) :: rest))∧(∀ q∈ps,s<q.1→q.2+2 * les ps q.1≠p - 1)∧qs.Perm ((s+1,p - 2 * les rest (s+1) - 2 * (s+1)) :: rest)
theorem Add.perm {ps ps' qs qs':Trs} {p:Int} (h:Add ps p qs) (e:ps.Perm ps') (f:qs.Perm qs'):Add ps' p qs':=by
 obtain⟨s,rest,h0,h1,h2,h3⟩:=h
 refine⟨s,rest,h0,?_,fun q hq hs=>?_,f.symm.trans h3⟩
 ·rcases h1 with ⟨a,b⟩ | ⟨a,b⟩
  ·exact .inl ⟨a,e.symm.trans b⟩
  ·refine .inr ⟨a,?_⟩
   rw[← les_perm e]
   exact e.symm.trans b
 ·rw[← les_perm e]
  exact h2 q (e.mem_iff.mpr hq) hs
theorem Add.uniq {ps qs qs':Trs} {p:Int} (h:Add ps p qs) (h':Add ps p qs'):qs.Perm qs':=by
 obtain⟨s,rest,h0,h1,h2,h3⟩:=h
 obtain⟨s',rest',h0',h1',h2',h3'⟩:=h'
 have hs:s=s':=by
  rcases h1 with ⟨a,b⟩ | ⟨a,b⟩ <;> rcases h1' with ⟨a',b'⟩ | ⟨a',b'⟩
  ·omega
  ·exact absurd (show (p - 1 - 2 * les ps s')+2 * les ps s'=p - 1 by omega) (h2 _ (b'.mem_iff.mpr List.mem_cons_self) (show s<s' by omega))
  ·exact absurd (show (p - 1 - 2 * les ps s)+2 * les ps s=p - 1 by omega) (h2' _ (b.mem_iff.mpr List.mem_cons_self) (show s'<s by omega))
  ·rcases Int.lt_trichotomy s s' with l | l | l
   ·exact absurd (show (p - 1 - 2 * les ps s')+2 * les ps s'=p - 1 by omega) (h2 _ (b'.mem_iff.mpr List.mem_cons_self) l)
   ·exact l
   ·exact absurd (show (p - 1 - 2 * les ps s)+2 * les ps s=p - 1 by omega) (h2' _ (b.mem_iff.mpr List.mem_cons_self) l)
 subst hs
 have hr:rest.Perm rest':=by
  rcases h1 with ⟨a,b⟩ | ⟨a,b⟩ <;> rcases h1' with ⟨a',b'⟩ | ⟨a',b'⟩
  ·exact b.symm.trans b'
  ·omega
  ·omega
  ·exact List.Perm.cons_inv (b.symm.trans b')
 refine h3.trans (List.Perm.trans ?_ h3'.symm)
 rw[les_perm hr]
 exact hr.cons _
theorem Add.bd {ps qs:Trs} {p:Int} (h:Add ps p qs) (b:Bd ps (p - 1)):Bd qs p:=by
 obtain⟨s,rest,h0,h1,h2,h3⟩:=h
 have hl:∀ j,1≤j→les qs j=les ps j+if s<j then 1 else 0:=fun j hj=>by
  rw[les_perm h3,les_cons]
  rcases h1 with ⟨a,b⟩ | ⟨a,b⟩
  ·rw[les_perm b]
   simp only
   split <;> omega
  ·rw[les_perm b,les_cons]
   simp only
   split <;> omega
 intro q hq
 rcases List.mem_cons.mp (h3.mem_iff.mp hq)with rfl | hq
 ·refine⟨show 1≤s+1 by omega,?_⟩
  have:les qs (s+1)=s+1+les rest (s+1):=by
   rw[les_perm h3,les_cons]
   simp only
   omega
  show (p - 2 * les rest (s+1) - 2 * (s+1))+2 * les qs (s+1)≤p
  omega
 ·have hm:q∈ps:=by
   rcases h1 with ⟨_,e⟩ | ⟨_,e⟩
   ·exact e.mem_iff.mpr hq
   ·exact e.mem_iff.mpr (List.mem_cons_of_mem _ hq)
  obtain⟨b1,b2⟩:=b q hm
  refine⟨b1,?_⟩
  have:=h2 q hm
  rw[hl q.1 b1]
  split <;> omega
noncomputable def Tak (ps:Trs) (p:Int) (qs:Trs):Prop:=∃ (s:Int) (rest:Trs),1≤s∧ps.Perm ((s,p - 2 * les ps s) :: rest)∧(∀ q∈ps,q.2+2 * les ps q.1≤p)∧(∀ q∈ps,q.1<s→q.2+2 * les ps q.1<p) ∧
 (s=1∧qs.Perm rest∨2≤s∧qs.Perm ((s - 1,p - 1 - 2 * les rest (s - 1) - 2 * (s - 1)) :: rest))
theorem Tak.add {ps qs:Trs} {p:Int} (h:Tak ps p qs) (hp:∀ q∈ps,1≤q.1):Bd qs (p - 1)∧Add qs p ps:=by
 obtain⟨s,rest,h0,h1,h2,h3,h4⟩:=h
 have hl:∀ j,0≤j→les ps j=les qs j+if s≤j then 1 else 0:=fun j hj=>by
  rw[les_perm h1,les_cons]
  rcases h4 with ⟨a,b⟩ | ⟨a,b⟩
  ·rw[les_perm b];simp only;split <;> omega
  ·rw[les_perm b,les_cons];simp only;split <;> omega
 have hold:∀ q∈rest,1≤q.1∧q.2+2 * les qs q.1≤p - 1∧(s≤q.1→q.2+2 * les qs q.1≤p - 2):=fun q hq=>by
  have hm:q∈ps:=h1.mem_iff.mpr (List.mem_cons_of_mem _ hq)
  have a1:=hp q hm
  have a2:=h2 q hm
  have a3:=h3 q hm
  have a4:=hl q.1 (by omega)
  refine⟨a1,?_,fun hs=>?_⟩
  ·by_cases hs:s≤q.1
   ·rw[if_pos hs]at a4;omega
   ·rw[if_neg hs]at a4;have:=a3 (by omega);omega
  ·rw[if_pos hs]at a4;omega
 have hnew:2≤s→les qs (s - 1)=(s - 1)+les rest (s - 1):=fun h=>by
  rcases h4 with ⟨a,b⟩ | ⟨a,b⟩
  ·omega
  ·rw[les_perm b,les_cons];simp only;omega
 refine⟨fun q hq=>?_,s - 1,rest,by omega,?_,fun q hq hs=>?_,?_⟩
 ·rcases h4 with ⟨a,b⟩ | ⟨a,b⟩
  ·have:=hold q (b.mem_iff.mp hq);exact⟨this.1,this.2.1⟩
  ·rcases List.mem_cons.mp (b.mem_iff.mp hq)with rfl | hq
   ·refine⟨show 1≤s - 1 by omega,?_⟩
    have:=hnew a
    show (p - 1 - 2 * les rest (s - 1) - 2 * (s - 1))+2 * les qs (s - 1)≤p - 1
    omega
   ·have:=hold q hq;exact⟨this.1,this.2.1⟩
 ·rcases h4 with ⟨a,b⟩ | ⟨a,b⟩
  ·exact .inl ⟨by omega,b⟩
  ·refine .inr ⟨by omega,?_⟩
   have e:p - 1 - 2 * les qs (s - 1)=p - 1 - 2 * les rest (s - 1) - 2 * (s - 1):=by have:=hnew a;omega
   rw[e]
   exact b
 ·have hq':q∈rest:=by
   rcases h4 with ⟨a,b⟩ | ⟨a,b⟩
   ·exact b.mem_iff.mp hq
   ·rcases List.mem_cons.mp (b.mem_iff.mp hq)with rfl | hq
    ·exact absurd hs (by show ¬ (s - 1<s - 1);omega)
    ·exact hq
  have:=(hold q hq').2.2 (by omega)
  omega
 ·have e:s - 1+1=s:=by omega
  rw[e]
  have e2:p - 2 * les rest s - 2 * s=p - 2 * les ps s:=by rw[les_perm h1,les_cons];simp only;omega
  rw[e2]
  exact h1
theorem Add.tak {ps qs:Trs} {p:Int} (h:Add ps p qs) (b:Bd ps (p - 1)):Tak qs p ps:=by
 have hb:=h.bd b
 obtain⟨s,rest,h0,h1,h2,h3⟩:=h
 have hl:∀ j,0≤j→les qs j=les ps j+if s<j then 1 else 0:=fun j hj=>by
  rw[les_perm h3,les_cons]
  rcases h1 with ⟨a,b⟩ | ⟨a,b⟩
  ·rw[les_perm b];simp only;split <;> omega
  ·rw[les_perm b,les_cons];simp only;split <;> omega
 have e2:p - 2 * les qs (s+1)=p - 2 * les rest (s+1) - 2 * (s+1):=by rw[les_perm h3,les_cons];simp only;omega
 refine⟨s+1,rest,by omega,by rw[e2];exact h3,fun q hq=>(hb q hq).2,fun q hq hs=>?_,?_⟩
 ·rcases List.mem_cons.mp (h3.mem_iff.mp hq)with rfl | hq
  ·exact absurd hs (by show ¬ (s+1<s+1);omega)
  ·have hm:q∈ps:=by
    rcases h1 with ⟨_,e⟩ | ⟨_,e⟩
    ·exact e.mem_iff.mpr hq
    ·exact e.mem_iff.mpr (List.mem_cons_of_mem _ hq)
   obtain⟨b1,b2⟩:=b q hm
   have:=hl q.1 (by omega)
   rw[if_neg (by omega)]at this
   omega
 ·rcases h1 with ⟨a,e⟩ | ⟨a,e⟩
  ·exact .inl ⟨by omega,e⟩
  ·refine .inr ⟨by omega,?_⟩
   have e3:s+1 - 1=s:=by omega
   rw[e3]
   have e4:p - 1 - 2 * les rest s - 2 * s=p - 1 - 2 * les ps s:=by rw[les_perm e,les_cons];simp only;omega
   rw[e4]
   exact e
theorem Tak.uniq {ps ps' qs qs':Trs} {p p':Int} (h:Tak ps p qs) (h':Tak ps' p' qs') (e:ps.Perm ps'):p=p'∧qs.Perm qs':=by
 obtain⟨s,rest,h0,h1,h2,h3,h4⟩:=h
 obtain⟨s',rest',h0',h1',h2',h3',h4'⟩:=h'
 have m1:(s,p - 2 * les ps s)∈ps:=h1.mem_iff.mpr List.mem_cons_self
 have m2:(s',p' - 2 * les ps' s')∈ps':=h1'.mem_iff.mpr List.mem_cons_self
 have a1:=h2' _ (e.mem_iff.mp m1)
 have a2:=h2 _ (e.mem_iff.mpr m2)
 have l1:=les_perm e s
 have l2:=les_perm e s'
 simp only at a1 a2
 have hp:p=p':=by omega
 subst hp
 have b1:=h3' _ (e.mem_iff.mp m1)
 have b2:=h3 _ (e.mem_iff.mpr m2)
 simp only at b1 b2
 have hs:s=s':=by
  rcases Int.lt_trichotomy s s' with l | l | l
  ·have:=b1 l;omega
  ·exact l
  ·have:=b2 l;omega
 subst hs
 rw[← l1]at h1'
 have hr:rest.Perm rest':=List.Perm.cons_inv ((h1.symm.trans e).trans h1')
 refine⟨rfl,?_⟩
 rcases h4 with ⟨a,b⟩ | ⟨a,b⟩ <;> rcases h4' with ⟨a',b'⟩ | ⟨a',b'⟩
 ·exact b.trans (hr.trans b'.symm)
 ·omega
 ·omega
 ·refine b.trans (List.Perm.trans ?_ b'.symm)
  rw[les_perm hr]
  exact hr.cons _
inductive Lst:List Int→Trs→Prop
 | nil:Lst [] []
 | snoc {r:List Int} {ps:Trs} {p:Int} {qs:Trs}:Lst r ps→(∀ x∈r,x<p)→Add ps p qs→Lst (r++[p]) qs
theorem Add.ne {ps qs:Trs} {p:Int} (h:Add ps p qs):qs≠[]:=by
 obtain⟨s,rest,_,_,_,h3⟩:=h
 intro e
 rw[e]at h3
 exact absurd h3.symm.eq_nil (by simp)
theorem Lst.perm {r:List Int} {ps qs:Trs} (h:Lst r ps) (e:ps.Perm qs):Lst r qs:=by
 cases h with
 | nil=>rw[e.symm.eq_nil];exact .nil
 | snoc a b c=>exact .snoc a b (c.perm (.refl _) e)
theorem Lst.inv {r:List Int} {p:Int} {qs:Trs} (h:Lst (r++[p]) qs):∃ ps,Lst r ps∧(∀ x∈r,x<p)∧Add ps p qs:=by
 generalize e:r++[p]=t at h
 cases h with
 | nil=>simp at e
 | snoc a b c =>
  obtain⟨rfl,e2⟩:=List.append_inj' e rfl
  obtain rfl:p=_:=by simpa using e2
  exact⟨_,a,b,c⟩
theorem Lst.nilr {qs:Trs} (h:Lst [] qs):qs=[]:=by
 generalize e:([]:List Int)=t at h
 cases h with
 | nil=>rfl
 | snoc a b c=>simp at e
theorem Lst.bd {r:List Int} {ps:Trs} (h:Lst r ps) {n:Int}:(∀ x∈r,x≤n)→Bd ps n:=by
 induction h generalizing n with
 | nil=>intro _ q hq;cases hq
 | snoc a b c ih =>
  intro hn
  rename_i r ps p qs
  have hp:p≤n:=hn p (by simp)
  have:=ih (n:=p - 1) fun x hx=>by have:=b x hx;omega
  exact(c.bd this).mono hp
theorem Lst.uniq {r:List Int} {ps qs:Trs} (h:Lst r ps) (h':Lst r qs):ps.Perm qs:=by
 induction h generalizing qs with
 | nil=>rw[h'.nilr]
 | snoc a b c ih =>
  obtain⟨ps',a',b',c'⟩:=h'.inv
  exact(c.perm (ih a') (.refl _)).uniq c'
theorem Lst.row {r:List Int} {ps:Trs} (h:Lst r ps) {r':List Int} {qs:Trs} (h':Lst r' qs) (e:ps.Perm qs):r=r':=by
 induction h generalizing r' qs with
 | nil =>
  cases h' with
  | nil=>rfl
  | snoc a b c=>exact absurd e.symm.eq_nil c.ne
 | snoc a b c ih =>
  cases h' with
  | nil=>exact absurd e.eq_nil c.ne
  | snoc a' b' c' =>
   rename_i r ps p qs r' ps' p'
   have bd:=a.bd (n:=p - 1) fun x hx=>by have:=b x hx;omega
   have bd':=a'.bd (n:=p' - 1) fun x hx=>by have:=b' x hx;omega
   obtain⟨rfl,e2⟩:=(c.tak bd).uniq (c'.tak bd') e
   rw[ih a' e2]
theorem Lst.tak {r:List Int} {ps qs:Trs} {p:Int} (h:Lst r qs) (t:Tak ps p qs) (hp:∀ q∈ps,1≤q.1) (hr:∀ x∈r,x<p):Lst (r++[p]) ps:=.snoc h hr (t.add hp).2
noncomputable def siz (ps:Trs):Int:=(ps.map (·.1)).sum
theorem siz_perm {ps qs:Trs} (h:ps.Perm qs):siz ps=siz qs:=by
 unfold siz
 induction h with
 | nil=>rfl
 | cons x _ ih=>simp only[List.map_cons,List.sum_cons];omega
 | swap x y l=>simp only[List.map_cons,List.sum_cons];omega
 | trans _ _ h1 h2=>exact h1.trans h2
theorem siz_cons (q:Int×Int) (ps:Trs):siz (q :: ps)=q.1+siz ps:=by simp[siz]
theorem Add.sizx {ps qs:Trs} {p:Int} (h:Add ps p qs):siz qs=siz ps+1:=by
 obtain⟨s,rest,h0,h1,h2,h3⟩:=h
 rw[siz_perm h3,siz_cons]
 rcases h1 with ⟨a,b⟩ | ⟨a,b⟩
 ·rw[siz_perm b];simp only;omega
 ·rw[siz_perm b,siz_cons];simp only;omega
theorem Lst.sizx {r:List Int} {ps:Trs} (h:Lst r ps):siz ps=(r.length:Int):=by
 induction h with
 | nil=>rfl
 | snoc a b c ih=>rw[c.sizx,ih];simp
theorem Lst.pos {r:List Int} {ps:Trs} (h:Lst r ps):∀ q∈ps,1≤q.1:=by
 obtain⟨n,hn⟩:∃ n:Int,∀ x∈r,x≤n:=by
  clear h
  induction r with
  | nil=>exact⟨0,fun x hx=>(nomatch hx)⟩
  | cons a r ih =>
   obtain⟨n,hn⟩:=ih
   refine⟨max a n,fun x hx=>?_⟩
   rcases List.mem_cons.mp hx with rfl | hx
   ·omega
   ·have:=hn x hx;omega
 exact fun q hq=>(h.bd hn q hq).1
end CW
namespace CW
open PySem L2
end CW
namespace L2
open PySem PySem.Spec PyProof.Rows
end L2
namespace L2
open PySem PySem.Spec PyProof.Rows
section
variable {X:Cx} {pins:List (Addr×Obj)} {σ:St} {inn:Scope} {js:List Nat} {cs ts:List Str} {nt lo:Nat} {elt tg iter t2 i2:Expr} {ifs f2:List Expr} {pos:Pos} {g g2:TG} {tt tt2:TT} {te:TE} {wi wi2:TI}
end
end L2
namespace L2
open PySem PySem.Spec PyProof.Rows
noncomputable def tSeqO (t u:TS):TS:=fun D σ H=>∀ M:St→Hp→Prop,(∀ σ' H',u D σ' H'→M σ' H')→t { D with nx:=M } σ H
theorem pss_consO {X:Cx} {st:Stmt} {rest:List Stmt} {t u:TS} (h1:PS X st t) (h2:PSs X rest u):PSs X (st :: rest) (tSeqO t u):=fun pins s σ H D I h=>pss_cons h1 h2 pins s σ H D I (h (u D) fun _ _ z=>z)
end L2
namespace L2
open PySem
end L2
namespace L2
open PySem PySem.Spec PyProof.Rows PySem.SeqAt PySem.MeetsSeq
open PySem.AutoSeq1 (wpAny_loadPart')
theorem PairV.inj {h:Heap} {v:Value} {p q:Int×Int} (a:PairV h v p) (b:PairV h v q):p=q:=by
 obtain⟨t,o,n,k1,k2,rfl,ho,_,hd⟩:=a
 obtain⟨t',o',n',k1',k2',e,ho',_,hd'⟩:=b
 cases e
 rw[ho]at ho'
 cases ho'
 rw[hd]at hd'
 obtain⟨p1,p2⟩:=p
 obtain⟨q1,q2⟩:=q
 simp only[Data.seq.injEq,Array.mk.injEq,List.cons.injEq,Value.int.injEq,and_true]at hd'
 obtain⟨⟨⟨rfl,_⟩,rfl,_⟩,_⟩:=hd'
 rfl
theorem EqAt.pairs {A:Around} {s:Shared} {x y:Value} {p q:Int×Int} (hx:PairV s.heap x p) (hy:PairV s.heap y q) (hu:A.units+1<cLine):EqAt A s x y (decide (p=q)):=by
 obtain⟨t,o,n,k1,k2,rfl,ho,hc,hd⟩:=id hx
 obtain⟨t',o',n',k1',k2',rfl,ho',hc',hd'⟩:=id hy
 by_cases ht:t=t'
 ·subst ht
  have:p=q:=hx.inj hy
  rw[decide_eq_true this]
  exact EqAt.same _
 ·refine EqAt.of_refs ht ?_
  have h:=RcAt.tuples (A:=A) (s:=s) (l:=t) (b:=t') (e:=fun j=>if j=0 then p.1 == q.1 else p.2 == q.2) ⟨o,ho,hc,n,hd⟩ ⟨o',ho',hc',n',hd'⟩ (by omega) fun j h1 h2=>?_
  ·have e:((List.range (min (#[Value.int p.1 k1,Value.int p.2 k2]:Array Value).size (#[Value.int q.1 k1',Value.int q.2 k2']:Array Value).size)).all (fun j=>if j=0 then p.1 == q.1 else p.2 == q.2) && (#[Value.int p.1 k1,Value.int p.2 k2]:Array Value).size == (#[Value.int q.1 k1',Value.int q.2 k2']:Array Value).size)=decide (p=q):=by
    show ((p.1 == q.1) && ((p.2 == q.2) && true) && true)=decide (p=q)
    obtain⟨p1,p2⟩:=p
    obtain⟨q1,q2⟩:=q
    rw[Bool.eq_iff_iff]
    simp
   rw[e]at h
   exact h
  ·match j,h1,h2 with
   | 0,_,_=>exact EqAt.int_int p.1 k1 q.1 k1'
   | 1,_,_=>exact EqAt.int_int p.2 k2 q.2 k2'
section
variable {X:Cx}
end
end L2
namespace CW
open PySem L2
section
variable {P:Program} {w:World} {K:PySem.W.Frag} {mg:Str→Option Value} {base:Heap}
end
end CW
namespace CW
open PySem L2
theorem foldl_max_spec:∀ (r:List Int) (n:Int),(r.foldl max n=n∨r.foldl max n∈r)∧n≤r.foldl max n∧∀ x∈r,x≤r.foldl max n
 | [],n=>⟨.inl rfl,Int.le_refl _,fun x hx=>(nomatch hx)⟩
 | a :: r,n=>by
  obtain⟨h1,h2,h3⟩:=foldl_max_spec r (max n a)
  rw[List.foldl_cons]
  refine⟨?_,by omega,fun x hx=>?_⟩
  ·rcases h1 with h1 | h1
   ·rcases Int.le_total n a with c | c
    ·right;rw[h1];rw[show max n a=a by omega];exact List.mem_cons_self
    ·left;rw[h1];omega
   ·exact .inr (List.mem_cons_of_mem _ h1)
  ·rcases List.mem_cons.mp hx with rfl | hx
   ·omega
   ·exact h3 x hx
end CW
namespace CW
open PySem L2
end CW
namespace CW
open PySem L2
theorem Lst.few {row:List Int} {qs:Trs} (h:Lst row qs) (hl:row.length≤60):qs.length≤60:=by
 have h3:=len_le_sum h.pos
 have h4:(szs qs).sum=siz qs:=rfl
 have h5:=h.sizx
 omega
end CW
namespace L2
open PySem PySem.Spec PyProof.Rows
section
variable {prog:Program} {w:World} {A:Around} {R:Result→Shared→Prop} {l it S:Addr} {its:List Value} {ns:List Int}
end
section
variable {X:Cx}
end
end L2
namespace CW
open PySem L2
theorem Lst.rowp {r:List Int} {ps:Trs} (h:Lst r ps):Row r:=by
 induction h with
 | nil=>exact List.Pairwise.nil
 | snoc a b c ih=>exact row_snoc ih b
theorem Tak.pos {ps qs:Trs} {p:Int} (h:Tak ps p qs) (hp:∀ q∈ps,1≤q.1):∀ q∈qs,1≤q.1:=fun q hq=>((h.add hp).1 q hq).1
section
variable {P:Program} {w:World} {K:PySem.W.Frag} {mg:Str→Option Value} {base:Heap}
end
end CW
namespace CW
open PySem L2
end CW
namespace CW
open PySem L2
end CW
namespace CW
noncomputable def tr (s o:Int) (rest:Trs):Trs:=if s=0 then rest else (s,o) :: rest
theorem les_tr {s o:Int} {rest:Trs} {j:Int} (hs:0≤s) (hj:0≤j):les (tr s o rest) j=min j s+les rest j:=by
 unfold tr
 split
 ·omega
 ·rw[les_cons]
theorem mem_tr {s o:Int} {rest:Trs} {q:Int×Int} (h:q∈tr s o rest):q=(s,o)∧s≠0∨q∈rest:=by
 unfold tr at h
 split at h
 ·exact .inr h
 ·rcases List.mem_cons.mp h with h | h
  ·exact .inl ⟨h,by assumption⟩
  ·exact .inr h
theorem tr_mem {s o:Int} {rest:Trs} {q:Int×Int} (h:q∈rest):q∈tr s o rest:=by
 unfold tr
 split
 ·exact h
 ·exact List.mem_cons_of_mem _ h
theorem tr_perm {s o:Int} {a b:Trs} (h:a.Perm b):(tr s o a).Perm (tr s o b):=by
 unfold tr
 split
 ·exact h
 ·exact h.cons _
theorem add_tr {ps qs:Trs} {p s:Int} {rest:Trs} (h0:0≤s) (h1:ps.Perm (tr s (p - 1 - 2 * les ps s) rest)) (h2:∀ q∈ps,s<q.1→q.2+2 * les ps q.1≠p - 1) (h3:qs.Perm ((s+1,p - 2 * les rest (s+1) - 2 * (s+1)) :: rest)):Add ps p qs:=by
 refine⟨s,rest,h0,?_,h2,h3⟩
 unfold tr at h1
 split at h1
 ·exact .inl ⟨by assumption,h1⟩
 ·exact .inr ⟨by omega,h1⟩
theorem Add.tr' {ps qs:Trs} {p:Int} (h:Add ps p qs):∃ (s:Int) (rest:Trs),0≤s∧ps.Perm (tr s (p - 1 - 2 * les ps s) rest)∧(∀ q∈ps,s<q.1→q.2+2 * les ps q.1≠p - 1)∧qs.Perm ((s+1,p - 2 * les rest (s+1) - 2 * (s+1)) :: rest):=by
 obtain⟨s,rest,h0,h1,h2,h3⟩:=h
 refine⟨s,rest,h0,?_,h2,h3⟩
 unfold tr
 rcases h1 with ⟨a,b⟩ | ⟨a,b⟩
 ·rw[if_pos a];exact b
 ·rw[if_neg (by omega)];exact b
theorem Tak.tr' {ps qs:Trs} {p:Int} (h:Tak ps p qs):∃ (s:Int) (rest:Trs),1≤s∧ps.Perm ((s,p - 2 * les ps s) :: rest)∧(∀ q∈ps,q.2+2 * les ps q.1≤p)∧(∀ q∈ps,q.1<s→q.2+2 * les ps q.1<p)∧qs.Perm (tr (s - 1) (p - 1 - 2 * les rest (s - 1) - 2 * (s - 1)) rest):=by
 obtain⟨s,rest,h0,h1,h2,h3,h4⟩:=h
 refine⟨s,rest,h0,h1,h2,h3,?_⟩
 unfold tr
 rcases h4 with ⟨a,b⟩ | ⟨a,b⟩
 ·rw[if_pos (by omega)];exact b
 ·rw[if_neg (by omega)];exact b
noncomputable def rnn (p:Int) (k:Nat):List Int:=(List.range k).map fun(j:Nat)=>p+(j:Int)
theorem rnn_succ (p:Int) (k:Nat):rnn p (k+1)=rnn p k++[p+(k:Int)]:=by unfold rnn;rw[List.range_succ,List.map_append];rfl
theorem rnn_zero (p:Int):rnn p 0=[]:=rfl
theorem mem_rnn {p:Int} {k:Nat} {x:Int} (h:x∈rnn p k):p≤x∧x≤p+(k:Int) - 1:=by
 unfold rnn at h
 obtain⟨j,hj,rfl⟩:=List.mem_map.mp h
 have:=List.mem_range.mp hj
 omega
theorem rnn_le {fs:List Int} {p:Int} {k:Nat} (hf:∀ x∈fs,x<p):∀ x∈fs++rnn p k,x≤p+(k:Int) - 1:=fun x hx=>by
 rcases List.mem_append.mp hx with h | h
 ·have:=hf x h;omega
 ·have:=mem_rnn h;omega
theorem rnn_out {fs:List Int} {p:Int} {k:Nat} {Y:Trs} (h:Lst (fs++rnn p (k+1)) Y):∃ Y',Lst (fs++rnn p k) Y'∧Tak Y (p+(k:Int)) Y':=by
 rw[rnn_succ,← List.append_assoc]at h
 obtain⟨Y',h1,h2,h3⟩:=h.inv
 exact⟨Y',h1,h3.tak (h1.bd fun x hx=>by have:=h2 x hx;omega)⟩
theorem rnn_in {fs:List Int} {p:Int} {k:Nat} {X X':Trs} (hf:∀ x∈fs,x<p) (h:Lst (fs++rnn p k) X') (a:Add X' (p+(k:Int)) X):Lst (fs++rnn p (k+1)) X:=by
 rw[rnn_succ,← List.append_assoc]
 exact .snoc h (fun x hx=>by have:=rnn_le hf x hx;omega) a
theorem phase2 {fs:List Int} {p:Int} (hf:∀ x∈fs,x<p):∀ (k:Nat) (Y rest X:Trs),Lst (fs++rnn p k) Y→(∀ q∈Y,q.1≤(k:Int)→q.2+2 * les Y q.1≤p - 1+q.1) →
 Y.Perm (tr (k:Int) (p - 1+(k:Int) - 2 * les Y (k:Int)) rest)→X.Perm (tr (k:Int) (p+(k:Int) - 2 * les Y (k:Int)) rest)→Lst (fs++rnn (p+1) k) X:=by
 intro k
 induction k with
 | zero =>
  intro Y rest X hY hC hp hx
  have e:∀ o,tr ((0:Nat):Int) o rest=rest:=fun o=>rfl
  rw[e]at hp hx
  exact hY.perm (hp.trans hx.symm)
 | succ k ih =>
  intro Y rest X hY hC hp hx
  obtain⟨Y',hY',hT⟩:=rnn_out hY
  obtain⟨t,rT,ht1,hTp,hTm,hTs,hT'⟩:=hT.tr'
  have hk0:((k+1:Nat):Int)≠0:=by omega
  have hmem:(((k+1:Nat):Int),p - 1+((k+1:Nat):Int) - 2 * les Y ((k+1:Nat):Int))∈Y:=hp.mem_iff.mpr (by unfold tr;rw[if_neg hk0];exact List.mem_cons_self)
  have htm:(t,p+(k:Int) - 2 * les Y t)∈Y:=hTp.mem_iff.mpr List.mem_cons_self
  have a1:=hTs _ hmem
  have a2:=hC _ htm
  simp only at a1 a2
  have htk:t=((k+1:Nat):Int):=by
   rcases Int.lt_trichotomy t ((k+1:Nat):Int)with c | c | c
   ·have:=a2 (by omega);omega
   ·exact c
   ·have:=a1 c;omega
  subst htk
  have hrr:rT.Perm rest:=by
   have h5:=hTp.symm.trans hp
   unfold tr at h5
   rw[if_neg hk0,show p - 1+((k+1:Nat):Int) - 2 * les Y ((k+1:Nat):Int)=p+(k:Int) - 2 * les Y ((k+1:Nat):Int)by omega]at h5
   exact List.Perm.cons_inv h5
  have e1:((k+1:Nat):Int) - 1=(k:Int):=by omega
  rw[e1]at hT'
  have hlY:∀ j,0≤j→les Y j=min j ((k+1:Nat):Int)+les rest j:=fun j hj=>by
   rw[les_perm hTp,les_cons,les_perm hrr]
  have hlY':∀ j,0≤j→les Y' j=min j (k:Int)+les rest j:=fun j hj=>by
   rw[les_perm hT',les_tr (by omega) hj,les_perm hrr]
  have hbd:=hY.bd (rnn_le hf)
  have hpos:=hY.pos
  have hrY:∀ q∈rest,q∈Y:=fun q hq=>hp.mem_iff.mpr (tr_mem hq)
  have hX':=ih Y' rest (tr (k:Int) (p+(k:Int) - 2 * les Y' (k:Int)) rest) hY' (fun q hq hle=>by
   rcases mem_tr (hT'.mem_iff.mp hq)with ⟨e,hne⟩ | h
   ·rw[e]
    simp only
    have h6:=hlY' (k:Int) (by omega)
    have h7:=les_perm hrr (k:Int)
    omega
   ·have hq':=hrY q (hrr.mem_iff.mp h)
    have h5:=hC q hq' (by omega)
    have h6:=hpos q hq'
    have h7:=hlY q.1 (by omega)
    have h8:=hlY' q.1 (by omega)
    omega) (hT'.trans (by
     have h6:=hlY' (k:Int) (by omega)
     have h7:=les_perm hrr (k:Int)
     rw[show p+(k:Int) - 1 - 2 * les rT (k:Int) - 2 * (k:Int)=p - 1+(k:Int) - 2 * les Y' (k:Int)by omega]
     exact tr_perm hrr)) (.refl _)
  refine rnn_in (fun x hx=>by have:=hf x hx;omega) hX' (add_tr (s:=(k:Int)) (rest:=rest) (by omega) ?_ ?_ ?_)
  ·have hlX:les (tr (k:Int) (p+(k:Int) - 2 * les Y' (k:Int)) rest) (k:Int)=les Y' (k:Int):=by rw[les_tr (by omega) (by omega),hlY' _ (by omega)]
   rw[hlX,show p+1+(k:Int) - 1 - 2 * les Y' (k:Int)=p+(k:Int) - 2 * les Y' (k:Int)by omega]
  ·intro q hq hgt
   rcases mem_tr hq with ⟨e,hne⟩ | h
   ·rw[e]at hgt;exact absurd hgt (by simp)
   ·have hq':=hrY q h
    have h5:=(hbd q hq').2
    have h6:=hpos q hq'
    have h7:=hlY q.1 (by omega)
    rw[les_tr (by omega) (by omega)]
    omega
  ·have h8:=hlY ((k+1:Nat):Int) (by omega)
   have e3:(k:Int)+1=((k+1:Nat):Int):=by omega
   refine hx.trans ?_
   unfold tr
   rw[if_neg hk0,e3]
   rw[show p+((k+1:Nat):Int) - 2 * les Y ((k+1:Nat):Int)=p+1+(k:Int) - 2 * les rest ((k+1:Nat):Int) - 2 * ((k+1:Nat):Int)by omega]
theorem phase1 {fs:List Int} {p:Int} (hf:∀ x∈fs,x<p) (s:Nat):∀ (d:Nat) (Y rest X:Trs),Lst (fs++rnn p (s+d)) Y→(∀ q∈Y,(q.1≤(s:Int)→q.2+2 * les Y q.1≤p - 1+q.1)∧((s:Int)<q.1→q.2+2 * les Y q.1≤p - 1+q.1 - 1)) →
 Y.Perm (tr (s:Int) (p - 1+(s:Int) - 2 * les Y (s:Int)) rest)→X.Perm (((s:Int)+1,p+1+(s:Int) - 2 * les rest ((s:Int)+1) - 2 * ((s:Int)+1)) :: rest)→Lst (fs++rnn (p+1) (s+d+1)) X:=by
 intro d
 induction d with
 | zero =>
  intro Y rest X hY hC hp hx
  rw[Nat.add_zero]at hY ⊢
  have hlY:∀ j,0≤j→les Y j=min j (s:Int)+les rest j:=fun j hj=>by rw[les_perm hp,les_tr (by omega) hj]
  have hX':=phase2 hf s Y rest (tr (s:Int) (p+(s:Int) - 2 * les Y (s:Int)) rest) hY (fun q hq hle=>(hC q hq).1 hle) hp (.refl _)
  have hbd:=hY.bd (rnn_le hf)
  refine rnn_in (fun x hx=>by have:=hf x hx;omega) hX' (add_tr (s:=(s:Int)) (rest:=rest) (by omega) ?_ ?_ ?_)
  ·have hlX:les (tr (s:Int) (p+(s:Int) - 2 * les Y (s:Int)) rest) (s:Int)=les Y (s:Int):=by rw[les_tr (by omega) (by omega),hlY _ (by omega)]
   rw[hlX,show p+1+(s:Int) - 1 - 2 * les Y (s:Int)=p+(s:Int) - 2 * les Y (s:Int)by omega]
  ·intro q hq hgt
   rcases mem_tr hq with ⟨e,hne⟩ | h
   ·rw[e]at hgt;exact absurd hgt (by simp)
   ·have hq':=hp.mem_iff.mpr (tr_mem h)
    have h5:=(hbd q hq').2
    have h7:=hlY q.1 (by omega)
    rw[les_tr (by omega) (by omega)]
    omega
  ·exact hx
 | succ d ih =>
  intro Y rest X hY hC hp hx
  have e0:s+(d+1)=(s+d)+1:=by omega
  rw[e0]at hY ⊢
  obtain⟨Y',hY',hT⟩:=rnn_out hY
  obtain⟨t,rT,ht1,hTp,hTm,hTs,hT'⟩:=hT.tr'
  have htm:(t,p+((s+d:Nat):Int) - 2 * les Y t)∈Y:=hTp.mem_iff.mpr List.mem_cons_self
  have hc:=hC _ htm
  simp only at hc
  have hts:(s:Int)+2≤t:=by
   rcases Int.lt_or_le (s:Int) t with c | c
   ·have:=hc.2 c;omega
   ·have:=hc.1 c;omega
  have hpos:=hY.pos
  have htr:(t,p+((s+d:Nat):Int) - 2 * les Y t)∈rest:=by
   rcases mem_tr (hp.mem_iff.mp htm)with ⟨e,_⟩ | h
   ·have:=congrArg Prod.fst e
    simp only at this
    omega
   ·exact h
  obtain⟨r2,hr2⟩:∃ r2:Trs,rest.Perm ((t,p+((s+d:Nat):Int) - 2 * les Y t) :: r2):=⟨rest.erase _,List.perm_cons_erase htr⟩
  have hlY:∀ j,0≤j→les Y j=min j (s:Int)+(min j t+les r2 j):=fun j hj=>by rw[les_perm hp,les_tr (by omega) hj,les_perm hr2,les_cons]
  have hrT:rT.Perm (tr (s:Int) (p - 1+(s:Int) - 2 * les Y (s:Int)) r2):=by
   refine List.Perm.cons_inv (a:=(t,p+((s+d:Nat):Int) - 2 * les Y t)) (hTp.symm.trans (hp.trans ?_))
   unfold tr
   split
   ·exact hr2
   ·exact(hr2.cons _).trans (List.Perm.swap _ _ _)
  have hlrT:∀ j,0≤j→les rT j=min j (s:Int)+les r2 j:=fun j hj=>by rw[les_perm hrT,les_tr (by omega) hj]
  have ht0:t - 1≠0:=by omega
  obtain⟨rest',hrest'⟩:∃ rest':Trs,rest'=(t - 1,p+((s+d:Nat):Int) - 1 - 2 * les rT (t - 1) - 2 * (t - 1)) :: r2:=⟨_,rfl⟩
  have hY'p:Y'.Perm (tr (s:Int) (p - 1+(s:Int) - 2 * les Y (s:Int)) rest'):=by
   refine hT'.trans ?_
   rw[hrest']
   unfold tr at hrT ⊢
   rw[if_neg ht0]
   split at hrT
   ·rw[if_pos (by assumption)];exact hrT.cons _
   ·rw[if_neg (by assumption)];exact(hrT.cons _).trans (List.Perm.swap _ _ _)
  have hlY':∀ j,0≤j→les Y' j=min j (s:Int)+(min j (t - 1)+les r2 j):=fun j hj=>by rw[les_perm hY'p,les_tr (by omega) hj,hrest',les_cons]
  have hles:les Y' (s:Int)=les Y (s:Int):=by rw[hlY' _ (by omega),hlY _ (by omega)];omega
  rw[← hles]at hY'p
  have hX':=ih Y' rest' (((s:Int)+1,p+1+(s:Int) - 2 * les rest' ((s:Int)+1) - 2 * ((s:Int)+1)) :: rest') hY' (fun q hq=>by
   have hq2:=hY'p.mem_iff.mp hq
   rw[hrest']at hq2
   rcases mem_tr hq2 with ⟨e,hne⟩ | h
   ·rw[e];simp only;omega
   ·rcases List.mem_cons.mp h with e | h
    ·rw[e]
     simp only
     have h6:=hlY' (t - 1) (by omega)
     have h7:=hlrT (t - 1) (by omega)
     omega
    ·have hq':q∈Y:=hp.mem_iff.mpr (tr_mem (hr2.mem_iff.mpr (List.mem_cons_of_mem _ h)))
     have h5:=hC q hq'
     have h6:=hpos q hq'
     have h7:=hlY q.1 (by omega)
     have h8:=hlY' q.1 (by omega)
     omega) hY'p (.refl _)
  have hlX':∀ j,0≤j→les (((s:Int)+1,p+1+(s:Int) - 2 * les rest' ((s:Int)+1) - 2 * ((s:Int)+1)) :: rest') j=min j ((s:Int)+1)+(min j (t - 1)+les r2 j):=fun j hj=>by
   have h1:les rest' j=min j (t - 1)+les r2 j:=by rw[hrest',les_cons]
   rw[les_cons,h1]
  have hrl:les rest' ((s:Int)+1)=((s:Int)+1)+les r2 ((s:Int)+1):=by rw[hrest',les_cons];simp only;omega
  have hrl2:les rest ((s:Int)+1)=((s:Int)+1)+les r2 ((s:Int)+1):=by rw[les_perm hr2,les_cons];simp only;omega
  refine rnn_in (fun x hx=>by have:=hf x hx;omega) hX' (add_tr (s:=t - 1) (rest:=((s:Int)+1,p+1+(s:Int) - 2 * les rest' ((s:Int)+1) - 2 * ((s:Int)+1)) :: r2) (by omega) ?_ ?_ ?_)
  ·unfold tr
   rw[if_neg ht0]
   have h9:=hlX' (t - 1) (by omega)
   have h7:=hlrT (t - 1) (by omega)
   generalize les (((s:Int)+1,p+1+(s:Int) - 2 * les rest' ((s:Int)+1) - 2 * ((s:Int)+1)) :: rest') (t - 1)=L at h9 ⊢
   refine(List.Perm.cons _ ?_).trans (List.Perm.swap _ _ _)
   rw[hrest',show p+((s+d:Nat):Int) - 1 - 2 * les rT (t - 1) - 2 * (t - 1)=p+1+((s+d+1:Nat):Int) - 1 - 2 * L by omega]
  ·intro q hq hgt
   have hq2:q∈r2:=by
    rcases List.mem_cons.mp hq with e | h
    ·rw[e]at hgt;simp only at hgt;omega
    ·rw[hrest']at h
     rcases List.mem_cons.mp h with e | h
     ·rw[e]at hgt;exact absurd hgt (by simp)
     ·exact h
   have hq':q∈Y:=hp.mem_iff.mpr (tr_mem (hr2.mem_iff.mpr (List.mem_cons_of_mem _ hq2)))
   have h5:=hTm q hq'
   have h6:=hpos q hq'
   have h7:=hlY q.1 (by omega)
   rw[hlX' q.1 (by omega)]
   omega
  ·have e4:t - 1+1=t:=by omega
   rw[e4]
   have h9:les (((s:Int)+1,p+1+(s:Int) - 2 * les rest' ((s:Int)+1) - 2 * ((s:Int)+1)) :: r2) t=((s:Int)+1)+les r2 t:=by rw[les_cons];simp only;omega
   have h10:=hlY t (by omega)
   rw[h9,hrl]
   refine hx.trans ?_
   rw[hrl2]
   refine(hr2.cons _).trans ?_
   rw[show p+((s+d:Nat):Int) - 2 * les Y t=p+1+((s+d+1:Nat):Int) - 2 * ((s:Int)+1+les r2 t) - 2 * t by omega]
   exact List.Perm.swap _ _ _
end CW
namespace CW
theorem rnn_cons (n:Int) (k:Nat):rnn n (k+1)=n :: rnn (n+1) k:=range_map_succ k n
theorem goM_gapn {c:Int} {r:List Int}:∀ (k h:Nat) (m:Int),(∀ x∈r,m+(k:Int)≤x)→goM c r h m=rnn m (min h k)++goM c r (h - min h k) (m+(k:Int))
 | 0,h,m,_=>by simp[rnn]
 | k+1,0,m,hr=>by
  simp only[Nat.zero_min,Nat.zero_sub,rnn_zero,List.nil_append]
  exact goM_zero
 | k+1,h+1,m,hr=>by
  have e1:min (h+1) (k+1)=min h k+1:=by omega
  have e2:h+1 - (min h k+1)=h - min h k:=by omega
  have ih:=goM_gapn (c:=c) (r:=r) k h (m+1) fun x hx=>by have:=hr x hx;omega
  have e3:goM c r (h+1) m=m :: goM c r h (m+1):=by
   cases r with
   | nil=>exact goM_nil_succ c h m
   | cons p r'=>exact goM_gap (by have:=hr p List.mem_cons_self;omega)
  rw[e3,ih,e1,e2,rnn_cons,show m+((k+1:Nat):Int)=m+1+(k:Int)by omega]
  rfl
theorem carry {c:Int} (hc:1≤c):∀ (r0:List Int) (h:Nat) (m n:Int),RowP r0→(∀ x∈r0,x<n∧(m≤x∨h=0))→(m≤n∨h=0)→(h:Int)≤c →
 ∃ (fs:List Int) (ld:Nat),(∀ x∈fs,x<n)∧(ld:Int)≤c∧∀ r,(∀ x∈r,n≤x)→goM c (r0++r) h m=fs++goM c r ld n
 | [],h,m,n,_,_,hmn,hh=>by
  rcases Nat.eq_zero_or_pos h with e | e
  ·subst e
   exact⟨[],0,fun x hx=>(nomatch hx),by omega,fun r _=>by rw[List.nil_append,List.nil_append];exact goM_zero⟩
  ·have hmn':m≤n:=by omega
   refine⟨rnn m (min h (n - m).toNat),h - min h (n - m).toNat,fun x hx=>by have:=mem_rnn hx;omega,by omega,fun r hr=>?_⟩
   have:=goM_gapn (c:=c) (r:=r) (n - m).toNat h m fun x hx=>by have:=hr x hx;omega
   rw[List.nil_append,this,show m+((n - m).toNat:Int)=n by omega]
 | p :: r0,h,m,n,hrow,hx,hmn,hh=>by
  obtain⟨h1,h2⟩:=List.pairwise_cons.mp hrow
  have hp:=hx p List.mem_cons_self
  have hm:min h (p - m).toNat≤h:=Nat.min_le_left _ _
  have key:∀ r,goM c ((p :: r0)++r) h m=rnn m (min h (p - m).toNat)++(if ((h - min h (p - m).toNat:Nat):Int)<c then goM c (r0++r) (h - min h (p - m).toNat+1) (p+1)else p :: goM c (r0++r) (h - min h (p - m).toNat) (p+1)):=fun r=>rfl
  have hrnn:∀ x∈rnn m (min h (p - m).toNat),x<n:=fun x hx=>by
   have:=mem_rnn hx
   rcases hp.2 with q | q
   ·omega
   ·rw[q]at hx;simp[rnn]at hx
  have hr0:∀ x∈r0,x<n∧p+1≤x:=fun x hx'=>⟨(hx x (List.mem_cons_of_mem _ hx')).1,by have:=h1 x hx';omega⟩
  by_cases hlt:((h - min h (p - m).toNat:Nat):Int)<c
  ·obtain⟨fs,ld,a1,a2,a3⟩:=carry hc r0 (h - min h (p - m).toNat+1) (p+1) n h2 (fun x hx=>⟨(hr0 x hx).1,.inl (hr0 x hx).2⟩) (.inl (by omega)) (by omega)
   refine⟨rnn m (min h (p - m).toNat)++fs,ld,fun x hx=>?_,a2,fun r hr=>by rw[key,if_pos hlt,a3 r hr,List.append_assoc]⟩
   rcases List.mem_append.mp hx with q | q
   ·exact hrnn x q
   ·exact a1 x q
  ·obtain⟨fs,ld,a1,a2,a3⟩:=carry hc r0 (h - min h (p - m).toNat) (p+1) n h2 (fun x hx=>⟨(hr0 x hx).1,.inl (hr0 x hx).2⟩) (.inl (by omega)) (by omega)
   refine⟨rnn m (min h (p - m).toNat)++p :: fs,ld,fun x hx=>?_,a2,fun r hr=>by rw[key,if_neg hlt,a3 r hr,List.append_assoc];rfl⟩
   rcases List.mem_append.mp hx with q | q
   ·exact hrnn x q
   ·rcases List.mem_cons.mp q with e | q
    ·rw[e];exact hp.1
    ·exact a1 x q
noncomputable def shf (l:Int) (ps:Trs):Trs:=ps.map fun q=>(q.1,q.2+min l q.1)
theorem les_shf (l:Int) (ps:Trs) (j:Int):les (shf l ps) j=les ps j:=by
 unfold les shf
 rw[List.map_map]
 rfl
theorem shf_perm {l:Int} {a b:Trs} (h:a.Perm b):(shf l a).Perm (shf l b):=h.map _
theorem shf_tr {l s o:Int} {rest:Trs}:shf l (tr s o rest)=tr s (o+min l s) (shf l rest):=by
 unfold tr
 split <;> rfl
theorem mem_shf {l:Int} {ps:Trs} {q:Int×Int} (h:q∈shf l ps):∃ q'∈ps,q=(q'.1,q'.2+min l q'.1):=by
 obtain⟨q',h1,h2⟩:=List.mem_map.mp h
 exact⟨q',h1,h2.symm⟩
theorem shift_step {l p:Int} (hl:1≤l) {ps0 ps:Trs} (hb:Bd ps0 (p - 1)) (ha:Add ps0 p ps) {fs:List Int} {ld:Nat} (hf:∀ x∈fs,x<p) (hld:(ld:Int)≤l) (hY:Lst (fs++rnn p ld) (shf l ps0)) :
 Lst (if (ld:Int)<l then fs++rnn (p+1) (ld+1)else fs++rnn p (ld+1)) (shf l ps)∧∃ s rest,0≤s∧ps0.Perm (tr s (p - 1 - 2 * les ps0 s) rest)∧ps.Perm ((s+1,p - 2 * les rest (s+1) - 2 * (s+1)) :: rest)∧((ld:Int)<l↔s<l):=by
 obtain⟨s,rest,h0,h1,h2,h3⟩:=ha.tr'
 have hsm:s≠0→(s,p - 1 - 2 * les ps0 s)∈ps0:=fun h=>h1.mem_iff.mpr (by unfold tr;rw[if_neg h];exact List.mem_cons_self)
 by_cases hc:(ld:Int)<l
 ·rw[if_pos hc]
  have hbd:=hY.bd (rnn_le hf)
  have hs:s≤(ld:Int):=by
   by_cases hs0:s=0
   ·omega
   ·have:=(hbd (s,p - 1 - 2 * les ps0 s+min l s) (List.mem_map.mpr ⟨_,hsm hs0,rfl⟩)).2
    simp only[les_shf]at this
    omega
  obtain⟨sn,rfl⟩:∃ sn:Nat,s=(sn:Int):=⟨s.toNat,by omega⟩
  obtain⟨d,hd⟩:∃ d:Nat,ld=sn+d:=⟨ld - sn,by omega⟩
  subst hd
  refine⟨phase1 hf sn d (shf l ps0) (shf l rest) (shf l ps) hY (fun q hq=>?_) ?_ ?_,(sn:Int),rest,h0,h1,h3,by constructor <;> intro _ <;> omega⟩
  ·obtain⟨q',hq',rfl⟩:=mem_shf hq
   have h5:=hb q' hq'
   have h6:=h2 q' hq'
   simp only[les_shf]
   refine⟨fun _=>by omega,fun h=>?_⟩
   have:=h6 h
   omega
  ·rw[les_shf]
   refine(shf_perm h1).trans ?_
   rw[shf_tr,show p - 1 - 2 * les ps0 (sn:Int)+min l (sn:Int)=p - 1+(sn:Int) - 2 * les ps0 (sn:Int)by omega]
  ·rw[les_shf]
   refine(shf_perm h3).trans ?_
   unfold shf
   rw[List.map_cons]
   simp only
   rw[show p - 2 * les rest ((sn:Int)+1) - 2 * ((sn:Int)+1)+min l ((sn:Int)+1)=p+1+(sn:Int) - 2 * les rest ((sn:Int)+1) - 2 * ((sn:Int)+1)by omega]
 ·rw[if_neg hc]
  have hll:(ld:Int)=l:=by omega
  obtain⟨k,hk⟩:∃ k,ld=k+1:=⟨ld - 1,by omega⟩
  have hY2:=hY
  rw[hk]at hY2
  obtain⟨Y',_,hT⟩:=rnn_out hY2
  obtain⟨t,rT,ht1,hTp,_⟩:=hT
  obtain⟨q',hq',e⟩:=mem_shf (hTp.mem_iff.mpr List.mem_cons_self)
  have e1:=congrArg Prod.fst e
  have e2:=congrArg Prod.snd e
  simp only[les_shf]at e1 e2
  have h5:=(hb q' hq').2
  have h6:=h2 q' hq'
  rw[e1]at e2
  have hs:l≤s:=by
   rcases Int.lt_or_le s q'.1 with c | c
   ·have:=h6 c;omega
   ·omega
  refine⟨rnn_in hf hY (add_tr (s:=s) (rest:=shf l rest) h0 ?_ ?_ ?_),s,rest,h0,h1,h3,by constructor <;> intro _ <;> omega⟩
  ·rw[les_shf]
   refine(shf_perm h1).trans ?_
   rw[shf_tr,show p - 1 - 2 * les ps0 s+min l s=p+(ld:Int) - 1 - 2 * les ps0 s by omega]
  ·intro q hq hgt
   obtain⟨q2,hq2,rfl⟩:=mem_shf hq
   have:=h2 q2 hq2
   simp only[les_shf]at hgt ⊢
   have:=this hgt
   omega
  ·rw[les_shf]
   refine(shf_perm h3).trans ?_
   unfold shf
   rw[List.map_cons]
   simp only
   rw[show p - 2 * les rest (s+1) - 2 * (s+1)+min l (s+1)=p+(ld:Int) - 2 * les rest (s+1) - 2 * (s+1)by omega]
theorem Lst.rowP {r:List Int} {ps:Trs} (h:Lst r ps):RowP r:=by
 induction h with
 | nil=>exact List.Pairwise.nil
 | snoc a b c ih=>exact List.pairwise_append.mpr ⟨ih,by simp,fun x hx y hy=>by rw[List.mem_singleton.mp hy];exact b x hx⟩
theorem walk_snoc {l:Int} (hl:1≤l) {r:List Int} {p:Int} (hr:RowP r) (hp:∀ x∈r,x<p):∃ (fs:List Int) (ld:Nat),(∀ x∈fs,x<p)∧(ld:Int)≤l∧walkM r l=fs++rnn p ld∧walkM (r++[p]) l=if (ld:Int)<l then fs++rnn (p+1) (ld+1)else fs++rnn p (ld+1):=by
 obtain⟨fs,ld,a1,a2,a3⟩:=carry hl r 0 0 p hr (fun x hx=>⟨hp x hx,.inr rfl⟩) (.inr rfl) (by omega)
 refine⟨fs,ld,a1,a2,?_,?_⟩
 ·have:=a3 [] fun x hx=>(nomatch hx)
  rw[List.append_nil]at this
  exact this
 ·have:=a3 [p] fun x hx=>by rw[List.mem_singleton.mp hx];exact Int.le_refl _
  unfold walkM
  rw[this,goM_hit (.inr (Int.le_refl _))]
  split
  ·rfl
  ·rw[rnn_cons];rfl
theorem Lst.walk {l:Int} (hl:1≤l) {r:List Int} {ps:Trs} (h:Lst r ps):Lst (walkM r l) (shf l ps):=by
 induction h with
 | nil=>exact .nil
 | snoc a b c ih =>
  rename_i r ps0 p ps
  obtain⟨fs,ld,a1,a2,a3,a4⟩:=walk_snoc hl a.rowP b
  rw[a3]at ih
  rw[a4]
  exact(shift_step hl (a.bd fun x hx=>by have:=b x hx;omega) c a1 a2 ih).1
end CW
namespace L2
open PySem PySem.Spec PyProof.Rows
end L2
namespace CW
open PySem L2
theorem max_ex:∀ {l:List Int},l≠[]→∃ m∈l,∀ x∈l,x≤m:=fun {l} h=>by
 cases l with
 | nil=>exact absurd rfl h
 | cons n r =>
  obtain⟨a1,a2,a3⟩:=foldl_max_spec r n
  refine⟨r.foldl max n,?_,fun x hx=>?_⟩
  ·rcases a1 with h | h
   ·rw[h];exact List.mem_cons_self
   ·exact List.mem_cons_of_mem _ h
  ·rcases List.mem_cons.mp hx with rfl | hx
   ·exact a2
   ·exact a3 x hx
theorem Add.ex (ps:Trs) (hp:∀ q∈ps,1≤q.1) (p:Int):∃ qs,Add ps p qs:=by
 by_cases h:(ps.filter fun q=>decide (q.2+2 * les ps q.1=p - 1))=[]
 ·refine⟨_,0,ps,Int.le_refl _,.inl ⟨rfl,.refl _⟩,fun q hq _ e=>?_,.refl _⟩
  have:q∈ps.filter fun q=>decide (q.2+2 * les ps q.1=p - 1):=List.mem_filter.mpr ⟨hq,by simpa using e⟩
  rw[h]at this
  cases this
 ·obtain⟨s,hs,hmax⟩:=max_ex (l:=(ps.filter fun q=>decide (q.2+2 * les ps q.1=p - 1)).map (·.1)) (by simpa using h)
  obtain⟨q,hq,e⟩:=List.mem_map.mp hs
  obtain⟨h1,h2⟩:=List.mem_filter.mp hq
  have h3:q.2+2 * les ps q.1=p - 1:=by simpa using h2
  have e':q.1=s:=e
  have hm:(s,p - 1 - 2 * les ps s)∈ps:=by
   have:(s,p - 1 - 2 * les ps s)=q:=by rw[← e',← h3];exact Prod.ext rfl (by show _=q.2;omega)
   rw[this];exact h1
  have hs1:=hp _ hm
  have hs1':1≤s:=hs1
  refine⟨_,s,ps.erase (s,p - 1 - 2 * les ps s),by omega,.inr ⟨hs1',List.perm_cons_erase hm⟩,fun x hx hlt e2=>?_,.refl _⟩
  have:=hmax x.1 (List.mem_map.mpr ⟨x,List.mem_filter.mpr ⟨hx,by simpa using e2⟩,rfl⟩)
  omega
theorem Lst.ex:∀ (r:List Int),Row r→∃ ps,Lst r ps:=by
 have go:∀ (n:Nat) (r:List Int),r.length=n→Row r→∃ ps,Lst r ps:=by
  intro n
  induction n with
  | zero=>intro r h _;exact⟨[],by rw[List.length_eq_zero_iff.mp h];exact .nil⟩
  | succ n ih =>
   intro r h hr
   have hne:r≠[]:=fun e=>by rw[e]at h;cases h
   have e:=List.dropLast_concat_getLast hne
   rw[← e]at hr
   obtain⟨h1,_,h2⟩:=List.pairwise_append.mp hr
   obtain⟨ps,hps⟩:=ih r.dropLast (by rw[List.length_dropLast];omega) h1
   obtain⟨qs,hqs⟩:=Add.ex ps hps.pos (r.getLast hne)
   refine⟨qs,?_⟩
   rw[← e]
   exact .snoc hps (fun x hx=>h2 x hx _ (by simp)) hqs
 exact fun r hr=>go r.length r rfl hr
section
variable {P:Program} {w:World} {K:PySem.W.Frag} {mg:Str→Option Value} {base:Heap}
end
end CW
namespace CW
open PySem L2
noncomputable def Near (b:Int) (r:List Int):Prop:=∀ x∈r,-b≤x∧x≤b
theorem Near.mono {b c:Int} {r:List Int} (h:Near b r) (e:b≤c):Near c r:=fun x hx=>by have:=h x hx;omega
section
variable {P:Program} {w:World} {K:PySem.W.Frag} {mg:Str→Option Value} {base:Heap}
end
end CW
namespace CW
open PySem L2
end CW
namespace L2
open PySem PySem.Spec PyProof.Rows
noncomputable def DK {α:Type}:Sem α→Prop
 | .pure _=>True
 | .raise _=>True
 | .unsupported _=>True
 | .finish _=>True
 | .rule _ k=>∀ u,DK (k u)
 | .at _ k=>∀ u,DK (k u)
 | .load _ _ k=>∀ o,DK (k o)
 | .update _ _ f k=>(∀ o,(f o).dict=o.dict∧(f o).cls=o.cls∧(o.isFreed=false→(f o).isFreed=false))∧∀ u,DK (k u)
 | .alloc _ k=>∀ a,DK (k a)
 | .loadIfAlive _ k=>∀ o,DK (k o)
 | .point _ k=>∀ u,DK (k u)
 | .register _ _=>True
 | .fresh k=>∀ t,DK (k t)
 | .ask k=>∀ x,DK (k x)
 | .choose _ _ k=>∀ n,DK (k n)
 | .os _ _ _=>False
 | .call _ _ _ _ _=>False
 | .handled _ k=>∀ h,DK (k h)
 | .newGen _ _=>False
 | .genState _ k=>∀ g,DK (k g)
 | .resume _ _ _ _=>False
 | .yield _ _ _ _=>False
 | .stack k=>∀ l,DK (k l)
 | .fork _ _=>False
 | .thread k=>∀ n,DK (k n)
 | .await _ _ _ _ _=>False
theorem DK.bind {α β:Type} {f:α→Sem β}:∀ {t:Sem α},DK t→(∀ a,DK (f a))→DK (t.bind f):=by
 intro t
 induction t with
 | pure a=>intro _ hf;exact hf a
 | raise e=>intro _ _;trivial
 | unsupported w=>intro _ _;trivial
 | finish e=>intro _ _;trivial
 | rule tag k ih=>intro h hf u;exact ih u (h u) hf
 | «at» pos k ih=>intro h hf u;exact ih u (h u) hf
 | load a part k ih=>intro h hf o;exact ih o (h o) hf
 | update a part g k ih=>intro h hf;exact⟨h.1,fun u=>ih u (h.2 u) hf⟩
 | alloc o k ih=>intro h hf a;exact ih a (h a) hf
 | loadIfAlive a k ih=>intro h hf o;exact ih o (h o) hf
 | point live k ih=>intro h hf u;exact ih u (h u) hf
 | register a k ih=>intro _ _;trivial
 | fresh k ih=>intro h hf t;exact ih t (h t) hf
 | ask k ih=>intro h hf x;exact ih x (h x) hf
 | choose src n k ih=>intro h hf x;exact ih x (h x) hf
 | os req live k ih=>intro h _;exact h.elim
 | call c hd gd live k ih=>intro h _;exact h.elim
 | handled own k ih=>intro h hf x;exact ih x (h x) hf
 | newGen c k ih=>intro h _;exact h.elim
 | genState g k ih=>intro h hf x;exact ih x (h x) hf
 | resume g r live k ih=>intro h _;exact h.elim
 | yield v gd live k ih=>intro h _;exact h.elim
 | stack k ih=>intro h hf x;exact ih x (h x) hf
 | fork c k ih=>intro h _;exact h.elim
 | thread k ih=>intro h hf x;exact ih x (h x) hf
 | await a take timed live k ih=>intro h _;exact h.elim
noncomputable def HD (h0 h:Heap):Prop:=∀ b o,h0.get? b=some o→∃ o',h.get? b=some o'∧o'.dict=o.dict∧o'.cls=o.cls
theorem HD.refl (h:Heap):HD h h:=fun b o e=>⟨o,e,rfl,rfl⟩
theorem HD.trans {a b c:Heap} (x:HD a b) (y:HD b c):HD a c:=fun d o e=>by
 obtain⟨o1,e1,d1,c1⟩:=x d o e
 obtain⟨o2,e2,d2,c2⟩:=y d o1 e1
 exact⟨o2,e2,d2.trans d1,c2.trans c1⟩
theorem freed_none {h:Heap} {a:Addr} {o:Obj} (e:h.get? a=some o):o.isFreed=false:=(Heap.get?_some_iff.mp e).2
theorem HD.update {h:Heap} {a:Addr} {f:Obj→Obj} (hf:∀ o,(f o).dict=o.dict∧(f o).cls=o.cls∧(o.isFreed=false→(f o).isFreed=false)):HD h (h.update a f):=fun b o e=>by
 by_cases q:b=a
 ·subst q
  exact⟨f o,Heap.get?_update_self f e ((hf o).2.2 (freed_none e)),(hf o).1,(hf o).2.1⟩
 ·exact⟨o,(Heap.get?_update_ne _ _ _ _ q).trans e,rfl,rfl⟩
end L2
namespace L2
open PySem PySem.Spec PyProof.Rows
theorem ObjOk.there {P:Program} {w:World} {H:Hp} {h:Heap} {a:Addr} {u:HO} (x:ObjOk P w H h a u):∃ o,h.get? a=some o:=by
 cases u with
 | lst xs=>obtain⟨_,_,_,_,e⟩:=x;exact⟨_,e⟩
 | tup xs=>obtain⟨_,_,_,o,e,_⟩:=x;exact⟨_,e⟩
 | dK kvs=>obtain⟨_,_,_,_,o,_,_,e,_⟩:=x;exact⟨_,e⟩
 | dT kvs=>obtain⟨_,_,_,_,o,_,_,e,_⟩:=x;exact⟨_,e⟩
 | set S n=>obtain⟨o,_,_,_,e,_⟩:=x;exact⟨_,e⟩
 | ins C dx fs=>obtain⟨_,_,_,e,_⟩:=x;exact⟨_,e⟩
 | own y=>exact x
 | xd fs=>obtain⟨_,⟨_,_,_,e,_⟩,_⟩:=x;exact⟨_,e⟩
 | rng lo hi=>obtain⟨_,_,_,e⟩:=x;exact⟨_,e⟩
 | frz ob u=>obtain⟨e,_⟩:=x;exact⟨_,e⟩
 | tbl ps=>exact⟨_,show h.get? a=some _ from x⟩
 | met f y=>exact⟨_,show h.get? a=some _ from x⟩
 | ext φ=>obtain⟨_,e,_⟩:=x;exact e
section
variable {X:Cx} {pins:List (Addr×Obj)} {σ:St} {H:Hp} {s:Shared} {E:XK}
structure Body (X:Cx):Prop where
 ex:X.ex=[]
 stk:X.stack=X.env :: X.outer
 fr:X.env.frame=some X.env.locals
theorem Body.mem (b:Body X) {c:Addr}:c∈frs X.stack↔c=X.env.locals∨c∈X.fs:=by
 rw[b.stk]
 unfold frs
 rw[List.filterMap_cons,b.fr,List.mem_cons]
 rfl
end
end L2
namespace L2
open PySem PySem.Spec PyProof.Rows
section
variable {X:Cx}
end
section
variable {X:Cx}
end
end L2
namespace L2
open PySem PySem.Spec PyProof.Rows
open Sem (wp)
section
variable {prog:Program} {w:World} {A:Around} {E:Value→Shared→Prop} {h:Heap} {g:Array GenState} {d:Drawn} {t:Nat} {os:OsState}
variable {nm q:Str} {C N:Addr} {bs bm bmB:List Value} {hdct:Bool} {sn:List Str} {sub:List Value} {ab:Bool} {col:Option Bool} {dd:Option Addr} {k0 k1 k2 k3 k5:Option Value} {B newId initId:String}
end
end L2
namespace L2
open PySem PySem.Spec PyProof.Rows
open Sem (wp)
open Builtin Builtin.ObjectAttr
section
variable {prog:Program} {w:World} {A:Around} {E:Value→Shared→Prop} {h:Heap} {g:Array GenState} {d:Drawn} {t:Nat} {os:OsState} {K:PySem.W.Frag} {C e:Addr} {name:Str} {v:Value} {vs:Array Value}
end
end L2
namespace L2
open PySem PySem.Spec PyProof.Rows
noncomputable def XO (C e:Addr) (od:Option Addr):HO:=.ext fun h=>∃ t,h.get? e=some { cls:=.ref C,dict:=od,data:=.fields #[.ref t,.none,.none,.none,.bool false,.none] }
theorem XO.mk {P:Program} {w:World} {H:Hp} {h:Heap} {C e t:Addr} {od:Option Addr} (x:h.get? e=some { cls:=.ref C,dict:=od,data:=.fields #[.ref t,.none,.none,.none,.bool false,.none] }):ObjOk P w H h e (XO C e od) :=
 ⟨⟨t,x⟩,⟨_,x⟩,fun h1 h2 ⟨t,z⟩ k=>⟨t,k _ z⟩⟩
section
variable {X:Cx} {pins:List (Addr×Obj)} {σ:St} {H:Hp} {s:Shared} {h':Heap} {C e dx:Addr} {od:Option Addr} {φ:Heap→Prop}
end
end L2
namespace L2
open PySem PySem.Spec PyProof.Rows
section
variable {X:Cx}
end
end L2
namespace L2
open PySem PySem.Spec PyProof.Rows
section
variable {P:Program} {w:World} {l:List Env} {H:Hp} {s s':Shared} {E:XK} {e:Addr}
structure Fly (P:Program) (w:World) (l:List Env) (H:Hp) (s:Shared) (e:Addr) (cls a0:Value) (od:Option Addr) (H':Hp) (B:Heap) (s':Shared):Prop where
 os:s'.os=s.os
 bare:AllBare s'.gens
 un:Un (frs l) [] H H' s.heap s'.heap
 hok:HOk P w H' s'.heap
 no:H' e=none
 at_:∃ oe,s'.heap.get? e=some oe∧oe.dict=od
 fl:Heap.FlyingW B l e cls a0 s'.heap
 cov:∀ b u,H' b=some u→∃ o,B.get? b=some o
 olds:∀ b o,s.heap.get? b=some o→b∉frs l→∃ o',B.get? b=some o'
variable {cls a0:Value} {od:Option Addr} {H':Hp} {B:Heap}
theorem Fly.frame (f:Fly P w l H s e cls a0 od H' B s') {b:Addr} (hb:b∈frs l) {o:Obj} (ho:s'.heap.get? b=some o):∀ vs,o.data≠.fields vs:=by
 obtain⟨_,o',ho',hnf⟩:=f.fl.2.2.1.mem hb
 rw[ho]at ho'
 cases ho'
 exact hnf
theorem Fly.fresh (f:Fly P w l H s e cls a0 od H' B s') {b:Addr} {o:Obj} (e1:s.heap.get? b=some o):b≠e:=fun z=>by
 subst z
 by_cases hb:b∈frs l
 ·obtain⟨o',e2⟩:=f.un.there b o e1 (by simp)
  obtain⟨oe,vs,he,_,hd,_⟩:=f.fl.first
  exact f.frame hb he vs hd
 ·obtain⟨o',eB⟩:=f.olds b o e1 hb
  rw[f.fl.2.1]at eB
  cases eB
end
section
variable {X:Cx} {pins:List (Addr×Obj)} {σ:St} {H:Hp} {s s':Shared} {e:Addr} {cls a0:Value} {od:Option Addr} {H':Hp} {B:Heap}
theorem Fly.inv (I:Inv X pins σ H s) (f:Fly X.prog X.w X.stack H s e cls a0 od H' B s'):Inv X pins σ H' s':=I.call' f.os f.un f.hok f.bare fun b z=>absurd z (by simp)
end
end L2
namespace L2
open PySem PySem.Spec PyProof.Rows
section
variable {X:Cx} {pins:List (Addr×Obj)} {σ:St} {H:Hp} {s s':Shared} {e:Addr} {cls a0:Value} {od:Option Addr} {H':Hp} {B:Heap}
end
noncomputable abbrev HR:=Value→Option Addr→Addr→Ends→St→Hp→Prop
section
variable {X:Cx} {x:Str} {c:Value} {np pos:Pos} {b₀:Stmt} {suite:List Stmt} {rest:List ExceptHandler} {ts:TS} {r:HR}
end
end L2
namespace L2
open PySem PySem.Spec PyProof.Rows
section
variable {X:Cx} {pins:List (Addr×Obj)} {σ:St} {H:Hp} {s:Shared}
end
section
variable {X:Cx} {x n:Str} {c:Value} {np pos:Pos} {b₀:Stmt} {suite:List Stmt} {rest:List ExceptHandler} {ts:TS} {r:HR} {i:Nat}
end
end L2
namespace L2
open PySem PySem.Spec PyProof.Rows
end L2
namespace L2
open PySem PySem.Spec PyProof.Rows
section
variable {X:Cx} {x:Str} {j k:Nat} {ps:List Str} {sp:Sp} {t:TA} {e:Expr} {es:List Expr} {p pos:Pos}
end
end L2
namespace L2
open PySem PySem.Spec PyProof.Rows
noncomputable def BMain (mg:Str→Option Value) (h:Heap):Prop:=∃ bm ob,mg "__builtins__"=some (.ref bm)∧bm≠builtinsNs∧h.get? bm=some ob∧ob.cls=.type "module"∧ob.dict=some builtinsNs∧ob.data=.plain
section
variable {X:Cx}
end
end L2
namespace L2
open PySem PySem.Spec PyProof.Rows
theorem law_callT {Pr:Program} {w:World} {K:PySem.W.Frag} {mg mb:Str→Option Value} {CX:CXT} {k:Nat} {fa a c P:Addr} {fd:FuncData} {x:Str} {sp:Sp} {s₁:Shared} {vs:List Value} {ns:List Int}
 (KX:K.In s₁.heap) (hns:s₁.heap.Ns mainGlobals mg) (hb:s₁.heap.Ns builtinsNs mb) (hbb:∀ x:Str,x≠"__name__"→mb x=bootBuiltins x) (hlim:s₁.heap.NoLimit) (hg:s₁.gens=#[])
 (ha:s₁.heap.get? a=some { cls:=.type "list",data:=.seq vs.toArray }) (hi:IntsAre vs ns) (hl:ns.length≤sizeLine) (hr:Room k callerA)
 (hC:PySem.W.CodeHd s₁.heap c P) (hT:s₁.heap.TableAt c P #[]) (hKP:K.lookup P=none) (hbm:BMain mg s₁.heap)
 (F:∀ base:Heap,K.In base→base.Ns mainGlobals mg→BMain mg base→PySem.W.CodeHd base c P→FnOk Pr w K mg base CX k fa fd [x] sp) (hbind:∀ (s:Shared) (u:Value),BindsTo s fd ⟨[u],[]⟩ [(x,u)])
 (hsp:∀ H:Hp,H P=some (.tbl #[])→SqL K H a (ns.map V.int)→sp [.ref a] H (fun v _=>v=.bl true) fun _ _ _=>False)
 (hCX:∀ H e s',CX [] H s₁ (fun _ _ _=>False) e s'→False) :
 codeAny (model Pr w) callerA (.call (.ref fa) ⟨[.ref a],[]⟩) (fun r s'=>r=.ok (.ret (.bool true))∧OldK s₁.heap s'.heap∧s'.os=s₁.os∧AllBare s'.gens) s₁:=by
 have rv:=vals_ints hi
 have lenV:=hi.length
 have hP:s₁.heap.get? P=some (PySem.W.tabObj #[]):=hT.2
 have hPa:P≠a:=fun z=>by rw[z,ha]at hP;cases hP
 have core:∀ H:Hp,H P=some (.tbl #[])→(∀ b,b≠P→H b=none∨∃ ob xs,H b=some (.frz ob (.lst xs)))→SqL K H a (ns.map V.int)→HOk Pr w H s₁.heap→(∀ b,H b≠none→b=a∨b=P)→(H a≠none→K.lookup a=none) →
  codeAny (model Pr w) callerA (.call (.ref fa) ⟨[.ref a],[]⟩) (fun r s'=>r=.ok (.ret (.bool true))∧OldK s₁.heap s'.heap∧s'.os=s₁.os∧AllBare s'.gens) s₁:=by
  intro H hHP hO hS hok hA hK
  have base_of:∀ {b:Addr} {o:Obj},s₁.heap.get? b=some o→H b=none→(hidT s₁.heap H).get? b=some o:=fun e n=>hidT_get e n
  have free:∀ {b:Addr},b≠a→b≠P→H b=none:=fun {b} n1 n2=>by
   cases q:H b with
   | none=>rfl
   | some u=>rcases hA b (by rw[q];simp)with z | z <;> contradiction
  have noA:∀ {b:Addr} {o:Obj} {es:Array DictEntry} {ep:Nat},s₁.heap.get? b=some o→o.data=.dict es ep→H b=none:=fun {b o es ep} e d =>
   free (fun z=>by rw[z,ha]at e;cases e;cases d) fun z=>by rw[z,hP]at e;cases e;cases d
  have nsK:∀ {b:Addr} {m:Str→Option Value},s₁.heap.Ns b m→(hidT s₁.heap H).Ns b m:=fun {b m} ⟨o,es,ep,e,d,r⟩=>⟨o,es,ep,base_of e (noA e d),d,r⟩
  have hKb:K.In (hidT s₁.heap H):=fun b o e=>base_of (KX b o e) (by
   cases q:H b with
   | none=>rfl
   | some u =>
    rcases hA b (by rw[q];simp)with z | z
    ·subst z;rw[hK (by rw[q];simp)]at e;cases e
    ·subst z;rw[hKP]at e;cases e)
  have hM:Mod K mg (hidT s₁.heap H):=⟨hKb,nsK hns,⟨mb,nsK hb,hbb⟩,let ⟨mc,h1,h2⟩:=hlim;⟨mc,nsK h1,h2⟩⟩
  have e0:Env0 Pr w K mg (hidT s₁.heap H) callerA [] s₁ H:=⟨rfl,hM,fun b o e=>of_hidT e,Nat.le_of_eq (hidT_size _ _),trivial,fun b hb=>absurd (show b∈([]:List Addr) from hb) (by simp),hok,.of_eq hg⟩
  have hbm':BMain mg (hidT s₁.heap H):=by
   obtain⟨bm,ob,b1,b2,b3,b4,b5⟩:=hbm
   refine⟨bm,ob,b1,b2,base_of b3 (free (fun z=>?_) fun z=>?_),b4,b5⟩
   ·rw[z,ha]at b3;cases b3;exact absurd (show Value.type "list"=Value.type "module" from b4) (by decide)
   ·rw[z,hP]at b3;cases b3;cases b4
  have hC':PySem.W.CodeHd (hidT s₁.heap H) c P:=by
   obtain⟨o,vs',file,tf,flags,tg,inF,text,tt,e1,e2,r⟩:=hC
   refine⟨o,vs',file,tf,flags,tg,inF,text,tt,base_of e1 (free (fun z=>?_) fun z=>?_),e2,r⟩
   ·rw[z,ha]at e1;cases e1;exact absurd (show Value.type "list"=Value.type "code" from e2) (by decide)
   ·rw[z,hP]at e1;cases e1;cases e2
  refine codeAny_mono ((F _ hKb (nsK hns) hbm' hC').run callerA [] s₁ H ⟨[.ref a],[]⟩ [.ref a] [.ref a] _ _ hr e0 (hbind s₁ (.ref a)) (.cons rfl .nil) (hsp H hHP hS)) fun r s' h=>?_
  cases r with
  | error e=>exact(hCX H e s' h).elim
  | ok fl =>
   cases fl with
   | next=>exact False.elim h
   | brk=>exact False.elim h
   | cont=>exact False.elim h
   | ret u =>
    obtain⟨v,H',os,bare,un,hok',r',q⟩:=h
    have q':v=.bl true:=q
    subst q'
    obtain rfl:u=Value.bool true:=r'
    refine⟨rfl,⟨fun b o e=>?_,fun b o e=>un.there b o e (by simp)⟩,os,bare⟩
    by_cases hbP:b=P
    ·subst hbP
     rw[hP]at e
     cases e
     obtain⟨more,hm⟩:=un.tbls _ _ hHP
     exact .inr (.inl ⟨hT.isCodeTable,rfl,#[],more,rfl,hok' _ _ hm⟩)
    ·refine .inl ?_
     cases q:H b with
     | none=>exact un.keep b o e q (by intro z;exact absurd (show b∈([]:List Addr) from z) (by simp)) (by simp)
     | some u =>
      rcases hO b hbP with z | ⟨ob,xs,z⟩
      ·rw[q]at z;cases z
      ·have z2:=un.frzs b ob _ z
       obtain⟨e1,_⟩:=hok b _ z
       obtain⟨e2,_⟩:=hok' b _ z2
       rw[e]at e1;cases e1
       exact e2
 cases hk:K.lookup a with
 | some o =>
  have e:=KX a o hk
  rw[ha]at e
  cases e
  refine core (upd (fun _=>none) P (.tbl #[])) upd_same (fun b n=>.inl (by rw[upd_ne n])) (.inr ⟨_,vs.toArray,_,hk,rfl,rfl,rfl,by rw[List.size_toArray,lenV];exact hl,by simpa using rv⟩) (fun b u z=>?_) (fun b z=>?_) fun z=>absurd (upd_ne (Ne.symm hPa)) z
  ·by_cases hb':b=P
   ·subst hb';rw[upd_same]at z;cases z;exact hP
   ·rw[upd_ne hb']at z;cases z
  ·by_cases hb':b=P
   ·exact .inr hb'
   ·exact absurd (upd_ne hb') z
 | none =>
  refine core (upd (upd (fun _=>none) a (.frz { cls:=.type "list",data:=.seq vs.toArray } (.lst (ns.map V.int)))) P (.tbl #[])) upd_same (fun b n=>?_) (.inl (.inr ⟨{ cls:=.type "list",data:=.seq vs.toArray },by rw[upd_ne (Ne.symm hPa),upd_same]⟩)) (fun b u z=>?_) (fun b z=>?_) fun _=>hk
  ·by_cases hb':b=a
   ·subst hb';exact .inr ⟨_,_,by rw[upd_ne n,upd_same]⟩
   ·exact .inl (by rw[upd_ne n,upd_ne hb'])
  ·by_cases hb':b=P
   ·subst hb';rw[upd_same]at z;cases z;exact hP
   ·rw[upd_ne hb']at z
    by_cases hc':b=a
    ·subst hc'
     rw[upd_same]at z
     cases z
     exact⟨ha,by rw[List.length_map];exact hl,vs,_,rv,ha⟩
    ·rw[upd_ne hc']at z;cases z
  ·by_cases hb':b=P
   ·exact .inr hb'
   ·by_cases hc':b=a
    ·exact .inl hc'
    ·exact absurd (by rw[upd_ne hb',upd_ne hc']) z
theorem walk_ofT {l:PySem.W.OpenLaw} {n k:Nat} {q:Program} {loose:List Str} {XP:(Str→Option Value)→Heap→Prop} {YP:World→Heap→Prop} {d:DefRec} {K:Params→PySem.W.Frag} {CX:World→CXT} {sp:World→Addr→Sp} {x:Str}
 (hn:l.most=some n) (hn2:n≤sizeLine) (hdf:d.params.defaults=[]) (hr:Room k callerA) {ts:List Addr}
 (hY:∀ (w:World) (h:Heap),YP w h→(K w.params).In h) (hTab:∀ (w:World) (h:Heap),YP w h→∀ P∈ts,h.get? P=some (PySem.W.tabObj #[]))
 (F:∀ (w:World) (mg:Str→Option Value) (fa:Addr) (h:Heap),(K w.params).In h→h.Ns mainGlobals mg→mg d.name=some (.ref fa) →
  ∃ (fd:FuncData) (c P:Addr),P∈ts∧PySem.W.codeHdIn (K w.params) c P=true∧(K w.params).lookup P=none∧(∀ (s:Shared) (u:Value),BindsTo s fd ⟨[u],[]⟩ [(x,u)]) ∧
   ∀ base:Heap,(K w.params).In base→base.Ns mainGlobals mg→BMain mg base→PySem.W.CodeHd base c P→FnOk l.prog w (K w.params) mg base (CX w) k fa fd [x] (sp w P))
 (hsp:∀ (w:World) (P:Addr) (H:Hp) (a:Addr) (ns:List Int),ns.length≤n→H P=some (.tbl #[])→SqL (K w.params) H a (ns.map V.int)→sp w P [.ref a] H (fun v _=>v=.bl true) fun _ _ _=>False)
 (hCX:∀ (w:World) (H:Hp) (s:Shared) (e:Value) (s':Shared),CX w [] H s (fun _ _ _=>False) e s'→False) :
 PySem.W.WalkO q loose XP YP l.row.toRowW d [] (fun f vs=>PySem.call f vs):=by
 refine Att.attach_call hn hdf fun w s₀ s₁ mg mb fa o pm cd doc a vs ns G Y ho hd hcd hmg hobj hints hlen hg=>?_
 have KX:=hY w _ Y
 obtain⟨fd,c,P,hPt,hcode,hKP,hb,hF⟩:=F w mg fa _ KX G.T.g hmg
 have hC:=PySem.W.codeHd_of_K KX hcode
 have t6:=hC.tab (hTab w _ Y P hPt)
 exact law_callT KX G.T.g G.T.b G.T.builtins G.T.nolimit hg hobj hints (Nat.le_trans hlen hn2) hr hC t6 hKP G.T.bmain hF hb (fun H h1 h2=>hsp w _ H a ns hlen h1 h2) fun H e s'=>hCX w H s₁ e s'
end L2
namespace L2
open PySem PySem.Spec PyProof.Rows
section
variable {prog:Program} {w:World} {A:Around} {E:Value→Shared→Prop} {s:Shared} {K:PySem.W.Frag} {x C:Addr} {ox:Obj} {od:Option Obj} {name:Str} {expr:Bool} {Q:Value→Shared→Prop}
end
end L2
namespace L2
open PySem PySem.Spec PyProof.Rows
section
variable {P:Program} {w:World} {K:PySem.W.Frag} {mg:Str→Option Value} {base:Heap}
end
end L2
namespace L2
open PySem PySem.Spec PyProof.Rows
open Sem (wp)
open Builtin Builtin.ObjectAttr
section
variable {prog:Program} {w:World} {A:Around} {E:Value→Shared→Prop} {h:Heap} {g:Array GenState} {d:Drawn} {t:Nat} {os:OsState} {K:PySem.W.Frag} {C e:Addr} {name:Str} {v:Value} {vs:Array Value}
end
section
variable {X:Cx} {pins:List (Addr×Obj)} {σ:St} {H:Hp} {s:Shared} {h':Heap} {dx:Addr}
end
section
variable {X:Cx}
end
structure FunD (K:PySem.W.Frag) (x qual:Str) (st:Stmt) (f:Addr) (fd:FuncData):Prop where
 ex:∃ (oc:Value) (od:Option Addr) (dV kV doc pm:Value) (an:Option Addr) (cdv ct:Value) (osl:Array (Option Value)),
  fd=PySem.W.fnOf x qual (defArgs st) (defBody st) (defScope st) dV kV doc pm an cdv ct∧K.lookup f=some ⟨oc,od,.func fd,osl⟩∧PySem.W.codeIn K cdv qual=true
 kp:PySem.W.keepIn K (.ref f)=true
section
variable {P:Program} {w:World} {K:PySem.W.Frag} {mg:Str→Option Value} {base:Heap}
theorem FunD.ok {x qual:Str} {st:Stmt} {f:Addr} {fd:FuncData} {N ps:List Str} {k:Nat} {sp:Sp} (F:FunD K x qual st f fd) (S:FnScope N ps (defScope st)) (len:∀ vs H Q E,sp vs H Q E→vs.length=ps.length)
 (hbody:∀ (cdv:Value) (A:Around) (outer:List Env) (s:Shared) (H:Hp) (vs:List V) (Q:VK) (E:XK),Room k (A.deeper (envOfC qual (defScope st) s.heap.objs.size f cdv))→sp vs H Q E →
  ∃ t,PSs (cxOf CX0 P w K mg base N qual (defScope st) f cdv A outer s H E).nox (defBody st) t∧t { nx:=fun _ H'=>Q .non H',rt:=Q } (start N vs) H):FnOk P w K mg base CX0 (k+1) f fd ps sp:=by
 obtain⟨oc,od,dV,kV,doc,pm,an,cdv,ct,osl,rfl,lk,hcd⟩:=F.ex
 refine fn_of lk hcd S len fun A outer s H vs Q E hr hsp=>?_
 obtain⟨t,h,q⟩:=hbody cdv A outer s H vs Q E hr hsp
 exact⟨t,h.nox,q⟩
end
end L2
namespace L2
open PySem PySem.Spec PyProof.Rows
open PySem.W PySem.Calls
section
variable {K:PySem.W.Frag} {x t c:Value}
end
section
variable {X:Cx}
end
end L2
namespace L2
open PySem PySem.Spec PyProof.Rows
noncomputable def CodeX (c:Addr) (qual:Str):HO:=.ext fun h=>∃ oc vs t,h.get? c=some oc∧oc.data=.fields vs∧vs[1]?=some (.str qual t)
theorem CodeX.mk {P:Program} {w:World} {H:Hp} {h:Heap} {c:Addr} {qual:Str} {oc:Obj} {vs:Array Value} {t:Tok} (h1:h.get? c=some oc) (h2:oc.data=.fields vs) (h3:vs[1]?=some (.str qual t)):ObjOk P w H h c (CodeX c qual) :=
 ⟨⟨oc,vs,t,h1,h2,h3⟩,⟨_,h1⟩,fun g1 g2 ⟨oc,vs,t,a,b,d⟩ k=>⟨oc,vs,t,k _ a,b,d⟩⟩
section
variable {X:Cx} {pins:List (Addr×Obj)} {σ:St} {H:Hp} {s:Shared}
theorem Inv.trackX {a:Addr} {φ:Heap→Prop} (I:Inv X pins σ H s) (hn:H a=none) (ho:ObjOk X.prog X.w (upd H a (.ext φ)) s.heap a (.ext φ)) (hf:∀ o,X.s₀.heap.get? a=some o→X.H₀ a=none→a∉X.ex→False)
 (hl:a≠X.env.locals) (hc:∀ x c,X.env.cells.lookup x=some c→c≠a) (hp:∀ p∈X.pn++pins,p.1≠a):Inv X pins σ (upd H a (.ext φ)) s:=by
 have up:∀ b u,H b=some u→upd H a (.ext φ) b=some u:=fun b u q=>by rw[upd_ne (fun z=>by rw[z,hn]at q;cases q)];exact q
 refine⟨I.ok,I.os,I.bare,⟨I.base.keep,I.base.slot,fun b o q n x=>?_,I.base.there,fun b xs q=>up b _ (I.base.tups b xs q),fun b o u q=>up b _ (I.base.frzs b o u q),fun b ps q=>?_⟩,I.loc,I.cell,by rw[upd_ne (Ne.symm hl)];exact I.free,fun x c q=>by rw[upd_ne (hc x c q)];exact I.freeC x c q,fun p q=>?_,fun b u q=>?_,I.len⟩
 ·by_cases hb:b=a
  ·subst hb
   exact(hf o q n x).elim
  ·rw[upd_ne hb]
   exact I.base.free b o q n x
 ·obtain⟨more,e⟩:=I.base.tbls b ps q
  exact⟨more,up b _ e⟩
 ·obtain⟨e,n,ne,nf,d⟩:=I.pin p q
  exact⟨e,by rw[upd_ne (hp p q)];exact n,ne,nf,d⟩
 ·by_cases hb:b=a
  ·subst hb
   rw[upd_same]at q
   cases q
   exact ho
  ·rw[upd_ne hb]at q
   exact(I.hok b u q).stay (fun _ _ _ z=>z) (fun c z=>up c _ z) fun c xs z=>up c _ z
end
section
variable {X:Cx}
end
end L2
namespace L2
open PySem PySem.W PySem.Spec PyProof.Rows
structure CmpOk (prog:Program) (w:World) (A:Around) (O:KeyOrd) (key:Nat→O.α) (ks:List Value) (κ:SortKind) (s:Shared):Prop where
 kind:2≤ks.length→∀ (E:Value→Shared→Prop) (Q:SortKind→Shared→Prop),Q κ s→wpAny (model prog w) A (keyKind' ks.toArray) Q E s
 ans:Ans O key ks.length (kas_ask prog w A κ ks) s
section
variable {prog:Program} {w:World} {A:Around} {E:Value→Shared→Prop} {s:Shared} {O:KeyOrd} {key:Nat→O.α} {κ:SortKind}
theorem up_short {n:Nat} (h:n<2) {p:Array Nat}:Up O key p n:=fun i j hij hj=>by
 have:i=j:=by omega
 subst this
 exact KeyOrd.kle_refl _
theorem list_sortG {a:Addr} {vs:List Value} {n:Nat} {P:Fin→Shared→Prop} (ho:s.heap.get? a=some (seqObj "list" vs.toArray n)) (h64:vs.length<64)
 (hC:∀ h6:Heap,(∀ b o,b≠a→s.heap.get? b=some o→h6.get? b=some o)→CmpOk prog w A O key vs κ { s with heap:=h6 })
 (h:∀ p:Array Nat,p.Perm (List.range vs.length).toArray→Up O key p vs.length→P (.done (.ret .none)) { s with heap:=sortedHeap s.heap a vs (ordL vs p).toArray }) :
 wpAny (model prog w) A (Builtin.«list.sort» ⟨[.ref a],[]⟩) P E s:=by
 have ha:a<s.heap.objs.size:=Heap.lt_size ho
 have hbig:vs.length≤sizeLine:=Nat.le_trans (Nat.le_of_lt h64) (by decide)
 rw[list_sort_plain]
 refine wpAny_bind (listItems_at ho rfl (wpAny_bind (listUpdate_at ho rfl ?_ (by rw[List.size_toArray];omega) (Nat.zero_le _))))
 obtain⟨e1,ho1⟩:∃ e1,(s.heap.update a (Obj.mapSeq fun _=>(#[]:Array Value))).get? a=some (seqObj "list" #[] e1):=⟨_,get?_update_seq ho _⟩
 refine wpAny_bind (seqEpoch_at ho1 rfl (wpAny_bind (wpAny_newTuple (wpAny_bind (wpAny_newList (wpAny_holding ?_) (Nat.zero_le _))) (by show vs.length≤_;exact hbig))))
 have k6:∀ b o,b≠a→s.heap.get? b=some o→(((s.heap.update a (Obj.mapSeq fun _=>(#[]:Array Value))).push (seqObj "tuple" vs.toArray 0)).push (seqObj "list" #[] 0)).get? b=some o:=fun b o hb q =>
  Heap.get?_push_of_some _ (Heap.get?_push_of_some _ ((Heap.get?_update_ne _ _ _ _ hb).trans q))
 have ho6:(((s.heap.update a (Obj.mapSeq fun _=>(#[]:Array Value))).push (seqObj "tuple" vs.toArray 0)).push (seqObj "list" #[] 0)).get? a=some (seqObj "list" #[] e1):=Heap.get?_push_of_some _ (Heap.get?_push_of_some _ ho1)
 have C6:=hC _ k6
 show wpAny (model prog w) A _ P E { s with heap:=((s.heap.update a (Obj.mapSeq fun _=>(#[]:Array Value))).push (seqObj "tuple" vs.toArray 0)).push (seqObj "list" #[] 0) }
 have fin:∀ p:Array Nat,p.Perm (List.range vs.length).toArray→Up O key p vs.length→P (.done (.ret .none)) { s with heap:=sortedHeap s.heap a vs (ordL vs p).toArray }:=h
 clear h hC k6
 unfold sortedHeap at fin
 generalize ((s.heap.update a (Obj.mapSeq fun _=>(#[]:Array Value))).push (seqObj "tuple" vs.toArray 0)).push (seqObj "list" #[] 0)=h6 at ho6 C6 fin
 dsimp only
 by_cases h2:vs.toArray.size<2
 ·rw[if_pos h2,if_pos h2]
  refine wpAny_bind (wpAny_pure ?_)
  rw[StateT.run_pure]
  refine wpAny_bind (wpAny_pure ?_)
  dsimp only
  have eo:ordL vs (List.range vs.length).toArray=vs:=ord_short (by simpa using h2)
  have ea:(arrOf (SortSt.mk' general' (vs.toArray.zip vs.toArray) #[] 7 none)).map (·.2)=vs.toArray:=by
   show (vs.toArray.zip vs.toArray).map (·.2)=vs.toArray
   apply Array.toList_inj.mp
   simp
   exact List.map_snd_zip (Nat.le_refl _)
  rw[ea]
  refine wpAny_bind (seqEpoch_at ho6 rfl (wpAny_bind (listUpdate_at ho6 rfl ?_ (Nat.zero_le _) (by rw[List.size_toArray];omega))))
  simp only[bne_self_eq_false,Bool.false_eq_true,if_false]
  have f:=fin (List.range vs.length).toArray (Array.Perm.refl _) (up_short (by simpa using h2))
  rw[eo]at f
  exact wpAny_pure f
 ·rw[if_neg h2,if_neg h2]
  have hl2:2≤vs.length:=by simp at h2;omega
  refine wpAny_bind (C6.kind hl2 _ _ ?_)
  refine wpAny_bind (wpAny_mono (kat_run (s:={ s with heap:=h6 }) (κ:=κ) (ks:=vs) (vs:=vs) (Q:=fun st' s'=>s'={ s with heap:=h6 }∧failedOf st'=none∧∃ p:Array Nat,p.Perm (List.range vs.length).toArray∧Up O key p vs.length∧(arrOf st').map (·.2)=(ordL vs p).toArray)
   (G:=fun p s'=>s'={ s with heap:=h6 }∧p.Perm (List.range vs.length).toArray∧Up O key p vs.length) rfl hl2 h64 (fun p st' s' g1 g2 g3 ⟨g4,g5,g6⟩=>⟨g4,g3,p,g5,g6,kat_snds rfl g2⟩) (sort_ok C6.ans (by omega) fun p e u=>⟨rfl,e,u⟩)) ?_ fun _ _ e=>e)
  rintro ⟨⟨⟩,st'⟩ s' ⟨rfl,hf',p,e,u,ea⟩
  dsimp only
  rw[ea,hf']
  have hsz:(ordL vs p).toArray.size≤sizeLine:=by
   have:=e.size_eq
   simp only[List.size_toArray,List.length_range]at this
   rw[List.size_toArray,List.length_map,Array.length_toList,this]
   exact hbig
  refine wpAny_bind (seqEpoch_at ho6 rfl (wpAny_bind (listUpdate_at ho6 rfl ?_ (Nat.zero_le _) (by omega))))
  simp only[bne_self_eq_false,Bool.false_eq_true,if_false]
  exact wpAny_pure (fin p e u)
theorem sortedG {l:Addr} {vs:List Value} {Q:Value→Shared→Prop} (hl:s.heap.IsList l vs.toArray) (h64:vs.length<64)
 (hC:∀ h6:Heap,(∀ b o,s.heap.get? b=some o→h6.get? b=some o)→CmpOk prog w A.in1.in1 O key vs κ { s with heap:=h6 })
 (h:∀ p:Array Nat,p.Perm (List.range vs.length).toArray→Up O key p vs.length→Q (.ref (s.heap.objs.size+1)) { s with heap:=sortedAll s.heap vs (ordL vs p).toArray }) :
 wpAny (model prog w) A (call (.builtin "sorted") [.ref l]) Q E s:=by
 have hbig:vs.length≤sizeLine:=Nat.le_trans (Nat.le_of_lt h64) (by decide)
 refine Calls.call_function_entry kind_sorted plain_sorted entry_sorted (args_sorted1 _) ?_
 unfold Builtin.«sorted»
 refine wpAny_bind (m:=checkCount "sorted" 1 1 _) (wpAny_pure (wpAny_bind (collect_list hl (wpAny_bind (wpAny_newList ?_ hbig)) hbig)))
 unfold sortedAll at h
 have z1:((s.heap.push (seqObj "list" #[] 0)).update s.heap.objs.size (Obj.mapSeq (·++vs.toArray))).objs.size=s.heap.objs.size+1:=by rw[Heap.size_update,size_push']
 have oL:(((s.heap.push (seqObj "list" #[] 0)).update s.heap.objs.size (Obj.mapSeq (·++vs.toArray))).push (seqObj "list" vs.toArray 0)).get? (s.heap.objs.size+1)=some (seqObj "list" vs.toArray 0):=z1 ▸ Heap.get?_push_size _ rfl
 have kp:∀ b o,s.heap.get? b=some o→(((s.heap.push (seqObj "list" #[] 0)).update s.heap.objs.size (Obj.mapSeq (·++vs.toArray))).push (seqObj "list" vs.toArray 0)).get? b=some o:=fun b o q =>
  Heap.get?_push_of_some _ ((Heap.get?_update_ne _ _ _ _ (Nat.ne_of_lt (Heap.lt_size q))).trans (Heap.get?_push_of_some _ q))
 show wpAny _ _ _ _ _ { s with heap:=((s.heap.push (seqObj "list" #[] 0)).update s.heap.objs.size (Obj.mapSeq (·++vs.toArray))).push (seqObj "list" vs.toArray 0) }
 rw[z1]
 generalize ((s.heap.push (seqObj "list" #[] 0)).update s.heap.objs.size (Obj.mapSeq (·++vs.toArray))).push (seqObj "list" vs.toArray 0)=h2 at oL kp h
 refine wpAny_bind (wpAny_holding (wpAny_call_entry slot_list_sort ⟨_,oL,rfl⟩ entry_list_sort (list_sortG (s:={ s with heap:=h2 }) (O:=O) (key:=key) (κ:=κ) oL h64 (fun h6 k6=>hC h6 fun b o q=>k6 b o (Nat.ne_of_lt (Nat.lt_succ_of_lt (Heap.lt_size q))) (kp b o q)) fun p e u=>⟨_,rfl,?_⟩) (args_list_sort _)))
 exact wpAny_pure ⟨_,rfl,h p e u⟩
end
section
variable {X:Cx}
noncomputable def CmpH (X:Cx) (H:Hp) (us:List V) (O:KeyOrd) (key:Nat→O.α) (κ:SortKind):Prop :=
 ∀ (pins:List (Addr×Obj)) (σ:St) (s:Shared) (vs:List Value),Inv X pins σ H s→Vals us vs→CmpOk X.prog X.w X.A.in1.in1 O key vs κ s
noncomputable abbrev ordV (us:List V) (p:List Nat):List V:=p.map fun i=>us.getD i V.non
theorem ord_vals {us:List V} {vs:List Value} (r:Vals us vs):∀ {q:List Nat},(∀ i∈q,i<vs.length)→Vals (ordV us q) (q.map fun i=>vs.getD i Value.none)
 | [],_=>.nil
 | i :: q,h=>.cons (paired_getD r (by rw[r.length];exact h i List.mem_cons_self)) (ord_vals r fun j hj=>h j (List.mem_cons_of_mem _ hj))
theorem call_sortedG:CallR X (.builtin "sorted") (fun xs H Q=>∃ (a:Addr) (us:List V) (O:KeyOrd) (key:Nat→O.α) (κ:SortKind),xs=[.ref a]∧H a=some (.lst us)∧us.length<64∧CmpH X H us O key κ ∧
 ∀ (l:Addr) (p:Array Nat),H l=none→p.toList.Perm (List.range us.length)→Up O key p us.length→Q (.ref l) (upd H l (.lst (ordV us p.toList)))):=by
 intro pins s σ H xs us Q I r h
 obtain⟨a,us0,O,key,κ,rfl,ha,h64,hC,q⟩:=h
 obtain⟨u,rfl,rx⟩:=vals1 r
 cases rx
 obtain⟨its,rv,pl,hz⟩:=I.list (SqL.of ha)
 have l2:us0.length=its.length:=rv.length
 refine sortedG (O:=O) (key:=key) (κ:=κ) pl.isList (by omega) (fun h6 k6=>hC pins σ _ its (I.kept (t':=s.toks) k6) rv) fun p e u=>?_
 have pl':p.toList.Perm (List.range its.length):=by
  have:=e.toList
  simpa using this
 have pmem:∀ i∈p.toList,i<its.length:=fun i hi=>by
  have:=pl'.mem_iff.mp hi
  simpa using this
 have psz:p.toList.length=its.length:=by rw[pl'.length_eq,List.length_range]
 obtain⟨e0,at0⟩:=sortedAll_at s.heap its (ordL its p).toArray
 have hn:H (s.heap.objs.size+1)=none:=I.hok.fresh (Nat.le_succ _)
 refine⟨.ref (s.heap.objs.size+1),_,I.laid (t':=s.toks) (o:=.lst (ordV us0 p.toList)) (fun b o e=>sortedAll_old e) (Nat.le_succ _) ⟨?_,ordL its p,e0,ord_vals rv pmem,at0⟩,rfl,q _ p hn (by rw[l2];exact pl') (by rw[l2];exact u)⟩
 rw[List.length_map,psz]
 exact Nat.le_trans (show its.length≤64 by omega) (by decide)
end
end L2
namespace L2
open PySem PySem.Spec PyProof.Rows
noncomputable def LamY (f:Addr) (qual:Str) (params:Arguments) (body:Expr) (scope:Scope) (clos:List (Str×Addr)) (c:Addr):HO:=.ext fun h=>∃ pm ctv,h.get? f=some (PySem.W.kla_obj "<lambda>" qual params body scope clos pm c ctv)
theorem LamY.mk {P:Program} {w:World} {H:Hp} {h:Heap} {f c:Addr} {qual:Str} {params:Arguments} {body:Expr} {scope:Scope} {clos:List (Str×Addr)} {pm ctv:Value} (h1:h.get? f=some (PySem.W.kla_obj "<lambda>" qual params body scope clos pm c ctv)):ObjOk P w H h f (LamY f qual params body scope clos c) :=
 ⟨⟨pm,ctv,h1⟩,⟨_,h1⟩,fun g1 g2 ⟨pm,ctv,a⟩ k=>⟨pm,ctv,k _ a⟩⟩
noncomputable def tLamY (qual:Str) (P:Addr) (lpos:Pos) (params:Arguments) (body:Expr) (scope:Scope) (clos:List (Str×Addr)):TE:=fun σ H Q=>∃ ps,H P=some (.tbl ps)∧TriplesOk ps.toList ∧
 ((codeAmong lpos ps.toList=none∧∀ c' f,H c'=none→H f=none→f≠c'→Q (.ref f) (upd (upd (upd H P (.tbl (ps++#[rawInt lpos.line,rawInt lpos.col,.ref c']))) c' (CodeX c' qual)) f (LamY f qual params body scope clos c'))) ∨
 (∃ c',codeAmong lpos ps.toList=some (.ref c')∧H c'=some (CodeX c' qual)∧∀ f,H f=none→Q (.ref f) (upd H f (LamY f qual params body scope clos c'))))
noncomputable def LamX (f:Addr) (qual:Str) (params:Arguments) (body:Expr) (scope:Scope) (c:Addr):HO:=LamY f qual params body scope [] c
noncomputable def tLam (qual:Str) (P:Addr) (lpos:Pos) (params:Arguments) (body:Expr) (scope:Scope):TE:=fun σ H Q=>∃ ps,H P=some (.tbl ps)∧TriplesOk ps.toList ∧
 ((codeAmong lpos ps.toList=none∧∀ c' f,H c'=none→H f=none→f≠c'→Q (.ref f) (upd (upd (upd H P (.tbl (ps++#[rawInt lpos.line,rawInt lpos.col,.ref c']))) c' (CodeX c' qual)) f (LamX f qual params body scope c'))) ∨
 (∃ c',codeAmong lpos ps.toList=some (.ref c')∧H c'=some (CodeX c' qual)∧∀ f,H f=none→Q (.ref f) (upd H f (LamX f qual params body scope c'))))
section
variable {X:Cx}
theorem pe_lamY {params:Arguments} {body:Expr} {scope:Scope} {clos:List (Str×Addr)} {lpos:Pos} {c P:Addr} (Bd:Body X) (hcode:X.env.code=.ref c) (hC:PySem.W.CodeHd X.base c P) (hbm:BMain X.mg X.base) (hdef:defaultsOf params X.env=([],[])) (hcl:closureFor scope X.env=pure clos) :
 PE X (.Lambda params body scope lpos) (tLamY (X.env.qual++"<lambda>") P lpos params body scope clos):=by
 intro pins s σ H Q I h
 obtain⟨ps,hPH,htr,h⟩:=h
 have hP:s.heap.get? P=some (PySem.W.tabObj ps):=I.hok P _ hPH
 obtain⟨bm,ob,b1,b2,b3,b4,b5,b6⟩:=hbm
 have hgs:=I.mod.glob.keeps I.bk
 have hgP:mainGlobals≠P:=fun z=>by
  obtain⟨o,es,ep,e,hd,_⟩:=hgs
  rw[z,hP]at e;cases e;cases hd
 have hbP:bm≠P:=fun z=>by
  have e:=I.bk _ _ b3
  rw[z,hP]at e;cases e;cases b4
 have hbG:bm≠mainGlobals:=fun z=>by
  obtain⟨o,es,ep,e,hd,_⟩:=I.mod.glob
  rw[z,e]at b3;cases b3;rw[hd]at b6;cases b6
 rcases h with ⟨hnf,h⟩ | ⟨c',hfd,hcH,h⟩
 ·refine PySem.W.kla_eval hdef (PySem.W.kla_makeFunction (mg:=X.mg) hcl I.ok.glob hgs hcode (hC.keeps I.bk) hP htr hnf hgP ⟨bm,ob,b1,b2,hbG,hbP,I.bk _ _ b3,b4,b5,b6⟩ fun c' ctv h' tk ext hge hlt hrec htb=>?_)
  obtain⟨c₂,oc,vs,t,e2,hoc,hocd,hocv⟩:=hrec
  cases e2
  generalize hfo:PySem.W.kla_obj "<lambda>" (X.env.qual++"<lambda>") params body scope clos ((X.mg "__name__").getD .none) c' ctv=fo
  have kp:∀ b o,b≠P→s.heap.get? b=some o→(h'.push fo).get? b=some o:=fun b o n e=>Heap.get?_push_of_some _ (ext b o n e)
  have hP':(h'.push fo).get? P=some (PySem.W.tabObj (ps++#[rawInt lpos.line,rawInt lpos.col,.ref c'])):=Heap.get?_push_of_some _ htb
  have nP:∀ b,H b=none→b≠P:=fun b q z=>by rw[z,hPH]at q;cases q
  have nT:∀ b u,H b=some u→(∀ qs,u≠.tbl qs)→b≠P:=fun b u q n z=>by rw[z,hPH]at q;cases q;exact n _ rfl
  have un:Un X.fs [] H (upd H P (.tbl (ps++#[rawInt lpos.line,rawInt lpos.col,.ref c']))) s.heap (h'.push fo):=by
   refine⟨fun b o q n _ _=>kp b o (nP b n) q,fun b o q n _ _=>⟨o.slots,kp b o (nP b n) q⟩,fun b o q n _=>by rw[upd_ne (nP b n)];exact n,fun b o q _=>?_,fun b xs q=>?_,fun b o u q=>?_,fun b qs q=>?_⟩
   ·by_cases hb':b=P
    ·rw[hb'];exact⟨_,hP'⟩
    ·exact⟨o,kp b o hb' q⟩
   ·rw[upd_ne (nT b _ q fun _ z=>by cases z)];exact q
   ·rw[upd_ne (nT b _ q fun _ z=>by cases z)];exact q
   ·by_cases hb':b=P
    ·subst hb'
     rw[hPH]at q
     cases q
     exact⟨_,upd_same⟩
    ·exact⟨#[],by rw[upd_ne hb',q];simp⟩
  have hok:HOk X.prog X.w (upd H P (.tbl (ps++#[rawInt lpos.line,rawInt lpos.col,.ref c']))) (h'.push fo):=fun b u q=>by
   by_cases hb':b=P
   ·subst hb'
    rw[upd_same]at q
    cases q
    exact hP'
   ·rw[upd_ne hb']at q
    refine(I.hok b u q).stay (fun d v hd' z=>kp d v (fun z'=>?_) z) (fun d z=>by rw[upd_ne (nT d _ z fun _ z=>by cases z)];exact z) fun d xs z=>by rw[upd_ne (nT d _ z fun _ z=>by cases z)];exact z
    subst z'
    rcases hd' with z1 | z1
    ·exact hb' z1.symm
    ·rw[hPH]at z1;cases z1
  have I1:=I.un (t':=tk) un hok
  have hPs:P<s.heap.objs.size:=Heap.lt_size hP
  have hle:s.heap.objs.size≤h'.objs.size:=Nat.le_trans hge (Nat.le_of_lt hlt)
  have hHP:∀ b,s.heap.objs.size≤b→upd H P (.tbl (ps++#[rawInt lpos.line,rawInt lpos.col,.ref c'])) b=none:=fun b hb'=>by
   rw[upd_ne (Nat.ne_of_gt (Nat.lt_of_lt_of_le hPs hb'))];exact I.hok.fresh hb'
  have hne:h'.objs.size≠c':=Nat.ne_of_gt hlt
  have tr:∀ {H':Hp} {b:Addr} {φ:Heap→Prop},Inv X pins σ H' { s with heap:=h'.push fo,toks:=tk }→s.heap.objs.size≤b→H' b=none→ObjOk X.prog X.w (upd H' b (.ext φ)) (h'.push fo) b (.ext φ)→Inv X pins σ (upd H' b (.ext φ)) { s with heap:=h'.push fo,toks:=tk }:=fun {H' b φ} J hb hn ho=>by
   have nw:∀ d o,s.heap.get? d=some o→d≠b:=fun d o e z=>by rw[z]at e;exact absurd (Heap.lt_size e) (Nat.not_lt.mpr hb)
   refine Inv.trackX J hn ho (fun o e _ _=>?_) ?_ (fun x d e z=>?_) (fun p hp z=>?_)
   ·obtain⟨o',e'⟩:=I.base.there b o e (by rw[Bd.ex];simp)
    exact nw _ _ e' rfl
   ·obtain⟨m,⟨o,es,ep,ho,_⟩,_⟩:=I.loc
    exact Ne.symm (nw _ _ ho)
   ·obtain⟨u',o,ho,_⟩:=I.cell x d e
    exact nw _ _ ho z
   ·exact nw _ _ (I.pin p hp).1 z
  have I2:=tr I1 hge (hHP _ hge) (CodeX.mk (P:=X.prog) (w:=X.w) (qual:=X.env.qual++"<lambda>") (Heap.get?_push_of_some _ hoc) hocd hocv)
  have I3:=tr I2 hle (by show upd (upd H P _) c' _ _=none;rw[upd_ne hne];exact hHP _ hle) (LamY.mk (P:=X.prog) (w:=X.w) (params:=params) (body:=body) (scope:=scope) (clos:=clos) (qual:=X.env.qual++"<lambda>") (c:=c') (pm:=(X.mg "__name__").getD .none) (ctv:=ctv) (by rw[← hfo];exact Heap.get?_push_size _ rfl))
  exact⟨.ref h'.objs.size,_,I3,rfl,h c' _ (I.hok.fresh hge) (I.hok.fresh hle) hne⟩
 ·refine PySem.W.kla_eval hdef (PySem.W.kla_makeFunctionHit (mg:=X.mg) hcl I.ok.glob hgs hcode (hC.keeps I.bk) hP htr hfd ⟨bm,ob,b1,b2,hbG,hbP,I.bk _ _ b3,b4,b5,b6⟩ fun ctv h' tk ext hle=>?_)
  exact⟨.ref h'.objs.size,_,I.laid (t':=tk) (fun b o e=>Heap.get?_push_of_some _ (ext b o e)) hle (LamY.mk (Heap.get?_push_size _ rfl)),rfl,h _ (I.hok.fresh hle)⟩
theorem pe_lam {params:Arguments} {body:Expr} {scope:Scope} {lpos:Pos} {c P:Addr} (Bd:Body X) (hcode:X.env.code=.ref c) (hC:PySem.W.CodeHd X.base c P) (hbm:BMain X.mg X.base) (hdef:defaultsOf params X.env=([],[])) (hcl:closureFor scope X.env=pure []) :
 PE X (.Lambda params body scope lpos) (tLam (X.env.qual++"<lambda>") P lpos params body scope):=pe_lamY Bd hcode hC hbm hdef hcl
theorem lam_run {CX:CXT} {P:Program} {w:World} {K:PySem.W.Frag} {mg:Str→Option Value} {base:Heap} {k:Nat} {f c:Addr} {qual x:Str} {params:Arguments} {body:Expr} {scope:Scope} {N:List Str} {tb:Around→Shared→TE} (S:FnScope N [x] scope)
 (hb:∀ pm c' ctv u,bindArgs (PySem.W.kla_fn "<lambda>" qual params body scope [] pm (.ref c') ctv) ⟨[u],[]⟩=pure [(x,u)])
 {A:Around} {outer:List Env} {s:Shared} {H:Hp} {v:V} {u:Value} {Q:VK} {E:XK} (hr:Room (k+1) A) (e0:Env0 P w K mg base A outer s H) (hf:H f=some (LamX f qual params body scope c)) (hc:H c=some (CodeX c qual)) (rv:RelV v u)
 (hbody:∃ te,PE (cxOf CX P w K mg base N qual scope f (.ref c) A outer s H E) body te∧te (start N [v]) H Q) :
 codeAny (model P w) A (.call (.ref f) ⟨[u],[]⟩) (CR CX outer P w H s Q E) s:=by
 have kp:∀ b o,base.get? b=some o→s.heap.get? b=some o:=fun b o e=>(e0.bs b o e).1
 obtain⟨⟨pm,ctv,hfo⟩,_⟩:=e0.hok f _ hf
 obtain⟨⟨oc,vs,t,hoc,hd,hv⟩,_⟩:=e0.hok c _ hc
 refine PySem.W.kla_callFunE hr.depth hfo rfl S.co S.gen rfl ⟨c,oc,vs,t,rfl,hoc,hd,hv⟩ ?_
 rw[hb]
 refine wpAny_pure (wpAny_newFunctionEnv_cells S.kind (fun y hy=>?_) fun env he s1 x1=>?_)
 ·rw[List.mem_singleton.mp hy]
  exact(S.par x List.mem_cons_self).imp (fun q=>q) fun q=>⟨q,PySem.W.cellsFrom_some _ _ _ (.inl q)⟩
 subst he
 obtain⟨te,ht,hq⟩:=hbody
 have I:Inv (cxOf CX P w K mg base N qual scope f (.ref c) A outer s H E) [] (start N [v]) H s1:=inv_start (us:=[u]) S hr.hd e0 rfl (.cons rv .nil) x1
 refine⟨(e0.mod.nolimit.keeps kp).keeps x1.toInCall.keep,PySem.W.kla_codeExpr (wpAny_mono (ht [] s1 (start N [v]) H _ I hq) (fun u' s' hs=>?_) fun _ _ hs=>hs)⟩
 obtain⟨v',H',J,rv',q⟩:=hs
 exact⟨v',H',J.os,J.bare,J.base,J.hok,rv',q⟩
end
end L2
namespace L2
open PySem PySem.W PySem.Spec PyProof.Rows
noncomputable def KeyRun (tb:TE) (N:List Str) (f c ao kS:Addr) (LX CXo EX:HO):List V→List V→Hp→(List V→Hp→Prop)→Prop
 | [],kus,H,K=>K kus H
 | v :: r,kus,H,K=>tb (start N [v]) H fun k H'=>H' f=some LX∧H' c=some CXo∧H' ao=some EX∧H' kS=some (.lst kus)∧KeyRun tb N f c ao kS LX CXo EX r (kus++[k]) (upd H' kS (.lst (kus++[k]))) K
noncomputable def EmpX (a:Addr) (e:Nat):HO:=.ext fun h=>h.get? a=some (seqObj "list" #[] e)
theorem EmpX.mk {P:Program} {w:World} {H:Hp} {h:Heap} {a:Addr} {e:Nat} (h1:h.get? a=some (seqObj "list" #[] e)):ObjOk P w H h a (EmpX a e):=⟨h1,⟨_,h1⟩,fun g1 g2 x k=>k _ x⟩
noncomputable def srtK (X:Cx) (qual:Str) (params:Arguments) (body:Expr) (scope:Scope) (N:List Str) (tb:TE) (x y:V) (H2:Hp) (Q:VK):Prop:=∃ (a:Addr) (us:List V) (f c:Addr),x=.ref a∧y=.ref f∧H2 a=some (.lst us)∧us.length<64 ∧
 H2 f=some (LamX f qual params body scope c)∧H2 c=some (CodeX c qual)∧∀ ao kS EX,H2 ao=none→H2 kS=none→ao≠kS→KeyRun tb N f c ao kS (LamX f qual params body scope c) (CodeX c qual) EX us [] (upd (upd H2 ao EX) kS (.lst [])) fun ks H3 =>
  H3 ao=some EX∧H3 kS=some (.lst ks)∧∃ (O:KeyOrd) (key:Nat→O.α) (κ:SortKind),CmpH X H3 ks O key κ∧∀ p:Array Nat,p.toList.Perm (List.range us.length)→Up O key p us.length→Q (.ref ao) (upd (upd H3 kS (.lst [])) ao (.lst (ordV us p.toList)))
noncomputable def tSrtK (X:Cx) (qual:Str) (params:Arguments) (body:Expr) (scope:Scope) (N:List Str) (tb te tl:TE):TE:=fun σ H Q=>te σ H fun x H1=>tl σ H1 fun y H2=>srtK X qual params body scope N tb x y H2 Q
theorem vals_append:∀ {a:List V} {b:List Value} {a':List V} {b':List Value},Vals a b→Vals a' b'→Vals (a++a') (b++b')
 | _,_,_,_,.nil,h=>h
 | _,_,_,_,.cons r t,h=>.cons r (vals_append t h)
section
variable {X:Cx}
theorem sortedKey {k:Nat} {f c:Addr} {qual x:Str} {params:Arguments} {body:Expr} {scope:Scope} {N:List Str} {tb:TE} (S:FnScope N [x] scope)
 (hb:∀ pm c' ctv u,bindArgs (PySem.W.kla_fn "<lambda>" qual params body scope [] pm (.ref c') ctv) ⟨[u],[]⟩=pure [(x,u)])
 (hbody:∀ (f c:Addr) (A:Around) (outer:List Env) (s:Shared) (H:Hp) (E:XK),Room k (A.deeper (envOfC qual scope s.heap.objs.size f (.ref c)))→PE (cxOf CX0 X.prog X.w X.K X.mg X.base N qual scope f (.ref c) A outer s H E) body tb)
 (hr:Room (k+3) X.A) {pins:List (Addr×Obj)} {s:Shared} {σ:St} {H:Hp} {Q:VK} (I:Inv X pins σ H s) {l:Addr} {us:List V} (hl:H l=some (.lst us)) (h64:us.length<64)
 (hf:H f=some (LamX f qual params body scope c)) (hc:H c=some (CodeX c qual))
 (h:∀ ao kS EX,H ao=none→H kS=none→ao≠kS→KeyRun tb N f c ao kS (LamX f qual params body scope c) (CodeX c qual) EX us [] (upd (upd H ao EX) kS (.lst [])) fun ks H3 =>
  H3 ao=some EX∧H3 kS=some (.lst ks)∧∃ (O:KeyOrd) (key:Nat→O.α) (κ:SortKind),CmpH X H3 ks O key κ∧∀ p:Array Nat,p.toList.Perm (List.range us.length)→Up O key p us.length→Q (.ref ao) (upd (upd H3 kS (.lst [])) ao (.lst (ordV us p.toList)))) :
 wpAny (model X.prog X.w) X.A (call (.builtin "sorted") [.ref l] [(Str.ofString "key",.ref f)]) (EP X pins σ Q) X.xe s:=by
 obtain⟨vs,rv,pl,hz⟩:=I.list (SqL.of hl)
 have l2:us.length=vs.length:=rv.length
 have h64s:(64:Nat)≤sizeLine:=by decide
 have hbig:vs.length≤sizeLine:=Nat.le_trans (show vs.length≤64 by omega) (by decide)
 refine call_function_entry_kw kind_sorted plain_sorted entry_sorted (ksk_s1 _ _) ?_
 unfold Builtin.«sorted»
 refine wpAny_bind (m:=checkCount "sorted" 1 1 _) (wpAny_pure ?_)
 refine wpAny_bind (collect_list pl.isList ?_ hbig)
 refine wpAny_bind (wpAny_newList ?_ hbig)
 have z1:((s.heap.push (seqObj "list" #[] 0)).update s.heap.objs.size (Obj.mapSeq (·++vs.toArray))).objs.size=s.heap.objs.size+1:=by rw[Heap.size_update,size_push']
 have oL:(((s.heap.push (seqObj "list" #[] 0)).update s.heap.objs.size (Obj.mapSeq (·++vs.toArray))).push (seqObj "list" vs.toArray 0)).get? (s.heap.objs.size+1)=some (seqObj "list" vs.toArray 0):=z1 ▸ Heap.get?_push_size _ rfl
 have kp:∀ b o,s.heap.get? b=some o→(((s.heap.push (seqObj "list" #[] 0)).update s.heap.objs.size (Obj.mapSeq (·++vs.toArray))).push (seqObj "list" vs.toArray 0)).get? b=some o:=fun b o q =>
  Heap.get?_push_of_some _ ((Heap.get?_update_ne _ _ _ _ (Nat.ne_of_lt (Heap.lt_size q))).trans (Heap.get?_push_of_some _ q))
 show wpAny _ _ _ _ _ { s with heap:=((s.heap.push (seqObj "list" #[] 0)).update s.heap.objs.size (Obj.mapSeq (·++vs.toArray))).push (seqObj "list" vs.toArray 0) }
 rw[z1]
 generalize ((s.heap.push (seqObj "list" #[] 0)).update s.heap.objs.size (Obj.mapSeq (·++vs.toArray))).push (seqObj "list" vs.toArray 0)=h2 at oL kp
 obtain⟨ao,hao⟩:∃ ao,s.heap.objs.size+1=ao:=⟨_,rfl⟩
 have hlo:s.heap.objs.size≤ao:=by omega
 rw[hao]at oL ⊢
 clear hao z1
 refine wpAny_bind (wpAny_holding (wpAny_call_entry_kw slot_list_sort ⟨_,oL,rfl⟩ entry_list_sort ?body (ksk_l1 _ _)))
 case body =>
  show wpAny (model X.prog X.w) X.A.in1.in1 (Builtin.«list.sort» ⟨[.ref ao],[(Str.ofString "key",.ref f)]⟩) _ _ _
  rw[ksk_t1]
  unfold ksk_tree
  refine wpAny_bind (listItems_at oL rfl ?_)
  refine wpAny_bind (listUpdate_at oL rfl ?_ (by rw[List.size_toArray];omega) (Nat.zero_le _))
  obtain⟨e1,ho1⟩:∃ e1,(h2.update ao (Obj.mapSeq fun _=>(#[]:Array Value))).get? ao=some (seqObj "list" #[] e1):=⟨_,get?_update_seq oL _⟩
  refine wpAny_bind (seqEpoch_at ho1 rfl ?_)
  refine wpAny_bind (wpAny_newTuple ?_ (by show vs.length≤_;exact hbig))
  refine wpAny_bind (wpAny_newList ?_ (Nat.zero_le _))
  refine wpAny_holding ?_
  have nao:∀ b o,s.heap.get? b=some o→b≠ao:=fun b o q z=>by rw[z]at q;exact absurd (Heap.lt_size q) (Nat.not_lt.mpr hlo)
  have k3:∀ b o,s.heap.get? b=some o→((h2.update ao (Obj.mapSeq fun _=>(#[]:Array Value))).push (seqObj "tuple" vs.toArray 0)).get? b=some o:=fun b o q =>
   Heap.get?_push_of_some _ ((Heap.get?_update_ne _ _ _ _ (nao b o q)).trans (kp b o q))
  have ho3:((h2.update ao (Obj.mapSeq fun _=>(#[]:Array Value))).push (seqObj "tuple" vs.toArray 0)).get? ao=some (seqObj "list" #[] e1):=Heap.get?_push_of_some _ ho1
  show wpAny _ _ _ _ _ { s with heap:=((h2.update ao (Obj.mapSeq fun _=>(#[]:Array Value))).push (seqObj "tuple" vs.toArray 0)).push (seqObj "list" #[] 0) }
  generalize (h2.update ao (Obj.mapSeq fun _=>(#[]:Array Value))).push (seqObj "tuple" vs.toArray 0)=h3 at k3 ho3
  have I3:Inv X pins σ (upd H ao (EmpX ao e1)) { s with heap:=h3,toks:=s.toks }:=I.laid k3 hlo (EmpX.mk ho3)
  have hks:s.heap.objs.size≤h3.objs.size:=Nat.le_of_lt (Nat.lt_of_le_of_lt hlo (Heap.lt_size ho3))
  have hna:H ao=none:=I.hok.fresh hlo
  have hnk:H h3.objs.size=none:=I.hok.fresh hks
  have hne:ao≠h3.objs.size:=Nat.ne_of_lt (Heap.lt_size ho3)
  have I4:Inv X pins σ (upd (upd H ao (EmpX ao e1)) h3.objs.size (.lst [])) { s with heap:=h3.push (seqObj "list" #[] 0),toks:=s.toks }:=I3.laid (fun b o q=>Heap.get?_push_of_some _ q) (Nat.le_refl _) ⟨Nat.zero_le _,[],0,.nil,Heap.get?_push_size _ rfl⟩
  have h':=h ao h3.objs.size (EmpX ao e1) (I.hok.fresh hlo) (I.hok.fresh hks) hne
  generalize h3.objs.size=kS at I4 h' hne hnk ⊢
  unfold ksk_rest
  refine wpAny_bind (wpAny_rule ?_)
  first
   | rw[List.forIn_toArray]
   | (rw[← Array.forIn_toList];simp only[List.toList_toArray])
   | rw[← Array.forIn_toList]
  refine wpAny_bind (ksk_fold (fun i s'=>∃ (H':Hp) (kus:List V),Inv X pins σ H' s'∧kus.length=i∧H' kS=some (.lst kus)∧H' f=some (LamX f qual params body scope c)∧H' c=some (CodeX c qual)∧H' ao=some (EmpX ao e1) ∧
   KeyRun tb N f c ao kS (LamX f qual params body scope c) (CodeX c qual) (EmpX ao e1) (us.drop i) kus H' fun ks H3 =>
    H3 ao=some (EmpX ao e1)∧H3 kS=some (.lst ks)∧∃ (O:KeyOrd) (key:Nat→O.α) (κ:SortKind),CmpH X H3 ks O key κ∧∀ p:Array Nat,p.toList.Perm (List.range us.length)→Up O key p us.length→Q (.ref ao) (upd (upd H3 kS (.lst [])) ao (.lst (ordV us p.toList)))) vs 0 _ ?cst ?csp ?cdn)
  case cst=>exact⟨_,[],I4,rfl,upd_same,by rw[upd_ne (ne_of_none hf hnk),upd_ne (ne_of_none hf hna)];exact hf,by rw[upd_ne (ne_of_none hc hnk),upd_ne (ne_of_none hc hna)];exact hc,by rw[upd_ne hne];exact upd_same,h'⟩
  case csp =>
   rintro j v s' hj ⟨H',kus,J,hkl,ek,ef,ec,ea,run⟩
   simp only[Nat.zero_add]at hkl run ⊢
   have hjl:j<us.length:=by rw[l2];exact(List.getElem?_eq_some_iff.mp hj).1
   have hv:v=vs.getD j Value.none:=by rw[List.getD_eq_getElem?_getD,hj];rfl
   have rvu:RelV (us.getD j V.non) v:=by rw[hv];exact paired_getD rv hjl
   have dj:us.drop j=us.getD j V.non :: us.drop (j+1):=by
    rw[List.drop_eq_getElem_cons hjl]
    simp[hjl]
   rw[dj]at run
   have call1:wpAny (model X.prog X.w) X.A.in1.in1 (call (.ref f) [v]) (EP X pins σ fun k H'=>H' f=some (LamX f qual params body scope c)∧H' c=some (CodeX c qual)∧H' ao=some (EmpX ao e1)∧H' kS=some (.lst kus) ∧
    KeyRun tb N f c ao kS (LamX f qual params body scope c) (CodeX c qual) (EmpX ao e1) (us.drop (j+1)) (kus++[k]) (upd H' kS (.lst (kus++[k]))) fun ks H3 =>
    H3 ao=some (EmpX ao e1)∧H3 kS=some (.lst ks)∧∃ (O:KeyOrd) (key:Nat→O.α) (κ:SortKind),CmpH X H3 ks O key κ∧∀ p:Array Nat,p.toList.Perm (List.range us.length)→Up O key p us.length→Q (.ref ao) (upd (upd H3 kS (.lst [])) ao (.lst (ordV us p.toList)))) (fun _ _=>False) s' :=
    wpAny_call (codeAny_mono (lam_run (k:=k) (CX:=CX0) (tb:=fun _ _=>tb) (E:=fun _ _ _=>False) S hb hr.in1.in1 J.env0.in1.in1 ef ec rvu ⟨tb,hbody _ _ _ _ _ _ _ ((hr.in1.in1).deeper _),run⟩) fun r s'' hq=>by
     cases r with
     | error ev=>exact hq
     | ok fl =>
      cases fl with
      | ret u=>exact J.after hq
      | next=>exact hq.elim
      | brk=>exact hq.elim
      | cont=>exact hq.elim)
   clear run
   refine wpAny_bind (wpAny_attempt (wpAny_mono call1 (fun u s'' he=>?_) fun _ _ hF=>hF.elim))
   obtain⟨k1,H1,J1,r1,f1,c1,a1,ek1,run⟩:=he
   try dsimp only
   obtain⟨z1,its,n1,ri,hil,hg⟩:=J1.lstM ek1
   have hkj:its.length=j:=by omega
   obtain⟨c2,hc2⟩:∃ c2,(s''.heap.update kS (Obj.mapSeq (·.push u))).get? kS=some (seqObj "list" (its.toArray.push u) c2):=⟨_,get?_update_seq hg (·.push u)⟩
   refine wpAny_bind (listUpdate_at hg rfl ?_ (by rw[List.size_toArray];omega) (by rw[Array.size_push,List.size_toArray];have:=h64s;omega))
   refine wpAny_pure ⟨rfl,upd H1 kS (.lst (kus++[k1])),kus++[k1],J1.write (t':=s''.toks) (by rw[ek1];trivial) (.inl rfl) (fun b o hb e=>(Heap.get?_update_ne _ _ _ _ hb).trans e) ⟨_,hc2⟩ ⟨?_,its++[u],c2,vals_append ri (.cons r1 .nil),?_⟩,by simp[hkl],upd_same,by rw[upd_ne (ne_of_none hf hnk)];exact f1,by rw[upd_ne (ne_of_none hc hnk)];exact c1,by rw[upd_ne hne];exact a1,run⟩
   ·rw[List.length_append,hkl]
    show j+1≤_
    omega
   ·rw[hc2]
    simp[seqObj]
  case cdn =>
   rintro s' ⟨H',kus,J,hkl,ek,ef,ec,ea,run⟩
   rw[Nat.zero_add,← l2,List.drop_length]at run
   rw[Nat.zero_add]at hkl
   obtain⟨_,_,O,key,κ,hC,hQ⟩:=run
   try dsimp only
   obtain⟨z1,ks,n1,ri,hil,hg⟩:=J.lstM ek
   obtain⟨hga,_⟩:=J.hok ao _ ea
   refine wpAny_bind (listItems_at hg rfl ?_)
   have hkv:ks.length=vs.length:=by omega
   have hCo:CmpOk X.prog X.w X.A.in1.in1 O key ks κ s':=hC pins σ s' ks J ri
   have tail:∀ (st:SortSt) (p:Array Nat),failedOf st=none→(arrOf st).map (·.2)=(ordL vs p).toArray→p.toList.Perm (List.range vs.length)→Up O key p us.length→wpAny (model X.prog X.w) X.A.in1.in1 (ksk_tail ao false e1 (.ref kS) st) (fun r s=>∃ v,r=.done (.ret v)∧wpAny (model X.prog X.w) X.A.in1 (ret (.ref ao)) (fun r s=>∃ v,r=.done (.ret v)∧EP X pins σ Q v s) X.xe s) X.xe s':=fun st p hfl hsn hp hup=>by
    unfold ksk_tail
    try dsimp only
    obtain⟨c2,hc2⟩:∃ c2,(s'.heap.update kS (Obj.mapSeq fun _=>(#[]:Array Value))).get? kS=some (seqObj "list" #[] c2):=⟨_,get?_update_seq hg fun _=>#[]⟩
    have J2:Inv X pins σ (upd H' kS (.lst [])) { s' with heap:=s'.heap.update kS (Obj.mapSeq fun _=>(#[]:Array Value)),toks:=s'.toks }:=J.write (by rw[ek];trivial) (.inl rfl) (fun b o hb e=>(Heap.get?_update_ne _ _ _ _ hb).trans e) ⟨_,hc2⟩ ⟨Nat.zero_le _,[],c2,.nil,hc2⟩
    have hga2:(s'.heap.update kS (Obj.mapSeq fun _=>(#[]:Array Value))).get? ao=some (seqObj "list" #[] e1):=(Heap.get?_update_ne _ _ _ _ hne).trans hga
    have hpl:p.toList.length=vs.length:=by rw[hp.length_eq,List.length_range]
    have hsz:(ordL vs p).toArray.size≤sizeLine:=by
     rw[List.size_toArray,List.length_map,hpl]
     exact hbig
    rw[hsn,hfl]
    refine wpAny_bind (listUpdate_at hg rfl ?_ (by rw[List.size_toArray];omega) (Nat.zero_le _))
    refine wpAny_bind (wpAny_letGo ?_)
    refine wpAny_bind (seqEpoch_at hga2 rfl ?_)
    simp only[Bool.false_eq_true,if_false]
    refine wpAny_bind (listUpdate_at hga2 rfl ?_ (Nat.zero_le _) (Nat.le_succ_of_le hsz))
    simp only[bne_self_eq_false,Bool.false_eq_true,if_false]
    obtain⟨c3,hc3⟩:∃ c3,((s'.heap.update kS (Obj.mapSeq fun _=>(#[]:Array Value))).update ao (Obj.mapSeq fun _=>(ordL vs p).toArray)).get? ao=some (seqObj "list" (ordL vs p).toArray c3):=⟨_,get?_update_seq hga2 fun _=>(ordL vs p).toArray⟩
    refine wpAny_pure ⟨_,rfl,wpAny_pure ⟨_,rfl,.ref ao,upd (upd H' kS (.lst [])) ao (.lst (ordV us p.toList)),J2.write (t':=s'.toks) (by rw[upd_ne hne,ea];trivial) (.inl rfl) (fun b o hb e=>(Heap.get?_update_ne _ _ _ _ hb).trans e) ⟨_,hc3⟩ ⟨?_,ordL vs p,c3,ord_vals rv (fun i hi=>?_),hc3⟩,rfl,hQ p (by rw[l2];exact hp) hup⟩⟩
    ·rw[List.length_map,hpl]
     exact hbig
    ·have:=hp.mem_iff.mp hi
     simpa using this
   unfold ksk_end
   try dsimp only
   simp only[Bool.false_eq_true,if_false]
   by_cases h2':vs.toArray.size<2
   ·rw[if_pos h2',if_pos h2']
    refine wpAny_bind (wpAny_pure ?_)
    refine wpAny_bind (wpAny_pure ?_)
    try dsimp only
    have h2'':vs.length<2:=by simpa using h2'
    have ea:(arrOf (SortSt.mk' general' (ks.toArray.zip vs.toArray) #[] 7 none)).map (·.2)=(ordL vs (List.range vs.length).toArray).toArray:=by
     rw[ord_short h2'']
     show (ks.toArray.zip vs.toArray).map (·.2)=vs.toArray
     apply Array.toList_inj.mp
     simp
     exact List.map_snd_zip (Nat.le_of_eq hkv.symm)
    refine wpAny_mono (tail _ (List.range vs.length).toArray rfl ea (by simp) (up_short (by omega))) (fun _ _ z=>z) fun _ _ z=>z
   ·rw[if_neg h2',if_neg h2']
    have hl2:2≤vs.length:=by simp at h2';omega
    refine wpAny_bind (hCo.kind (by omega) _ _ ?_)
    refine wpAny_bind (wpAny_mono (kat_run (s:=s') (κ:=κ) (ks:=ks) (vs:=vs) (Q:=fun st' s''=>s''=s'∧failedOf st'=none∧∃ p:Array Nat,p.Perm (List.range vs.length).toArray∧Up O key p vs.length∧(arrOf st').map (·.2)=(ordL vs p).toArray)
     (G:=fun p s''=>s''=s'∧p.Perm (List.range vs.length).toArray∧Up O key p vs.length) hkv hl2 (by omega) (fun p st' s'' g1 g2 g3 ⟨g4,g5,g6⟩=>⟨g4,g3,p,g5,g6,kat_snds hkv g2⟩) (sort_ok (n:=vs.length) (by rw[← hkv];exact hCo.ans) (by omega) fun p e u=>⟨rfl,e,u⟩)) ?_ fun _ _ e=>e)
    rintro ⟨⟨⟩,st'⟩ s'' ⟨rfl,hf',p,e,u,ea⟩
    try dsimp only
    refine wpAny_mono (tail _ p hf' ea (by have:=e.toList;simpa using this) (by rw[l2];exact u)) (fun _ _ z=>z) fun _ _ z=>z
end
end L2
namespace L2
open PySem PySem.W PySem.Spec PyProof.Rows
section
variable {X:Cx} {e lam:Expr} {te tl:TE} {p pos kp:Pos}
theorem pe_sortK {k j:Nat} {qual x:Str} {params:Arguments} {body:Expr} {scope:Scope} {N:List Str} {tb:TE} (hr:Room j X.A) (hg:Gl X "sorted") (hm:X.mg "sorted"=none) (he:PE X e te) (hl:PE X lam tl) (S:FnScope N [x] scope)
 (hb:∀ pm c' ctv u,bindArgs (PySem.W.kla_fn "<lambda>" qual params body scope [] pm (.ref c') ctv) ⟨[u],[]⟩=pure [(x,u)])
 (hbody:∀ (f c:Addr) (A:Around) (outer:List Env) (s:Shared) (H:Hp) (E:XK),Room k (A.deeper (envOfC qual scope s.heap.objs.size f (.ref c)))→PE (cxOf CX0 X.prog X.w X.K X.mg X.base N qual scope f (.ref c) A outer s H E) body tb)
 (hj:k+3≤j:=by decide)
 (hs:starEach [e] X.env=(false,eval e X.env) :: starEach [] X.env:=by rfl) (he1:backTo pos (starEach [e] X.env)=(false,eval e X.env) :: backTo pos (starEach [] X.env):=by rfl) (hp1:(backTo pos (starEach [e] X.env)).any (·.1)=false:=by rfl)
 (ha1:(backToKw pos (keywordEach [⟨some "key",lam,kp⟩] X.env)).all (·.1.isSome)=true:=by rfl) (hk1:(backToKw pos (keywordEach [⟨some "key",lam,kp⟩] X.env)).any (·.1.isNone)=false:=by rfl) (hks:(backToKw pos (keywordEach [⟨some "key",lam,kp⟩] X.env)).filterMap (·.1)=([Str.ofString "key"]:List Str):=by rfl) :
 PE X (.Call (.Name "sorted" p) [e] [⟨some "key",lam,kp⟩] pos) (tSrtK X qual params body scope N tb te tl):=by
 intro pins s σ H Q I h
 refine wpAny_Call_Name_kw (ld_blt I hg hm boot_sorted ?_)
 refine callWith_kw ?_ he1 hp1 ha1 hk1
 refine thn ((pa_cons he pa_nil hs) pos pins s σ H (fun vs H1=>match vs with | [x]=>tl σ H1 fun y H2=>srtK X qual params body scope N tb x y H2 Q | _=>False) I h) fun us s1 ⟨vs,H1,I1,r1,q1⟩=>?_
 obtain⟨x,rfl⟩:∃ x,vs=[x]:=by
  rcases vs with _ | ⟨x,_ | ⟨_,_⟩⟩
  ·exact q1.elim
  ·exact⟨x,rfl⟩
  ·exact q1.elim
 refine thn ((pk_cons hl pk_nil) pos pins s1 σ H1 (fun ks H2=>match ks with | [y]=>srtK X qual params body scope N tb x y H2 Q | _=>False) I1 q1) fun ws s2 ⟨zs,H2,I2,r2,q2⟩=>?_
 obtain⟨y,rfl⟩:∃ y,zs=[y]:=by
  rcases zs with _ | ⟨x,_ | ⟨_,_⟩⟩
  ·exact q2.elim
  ·exact⟨x,rfl⟩
  ·exact q2.elim
 obtain⟨a,us,f,c,rfl,rfl,ha,h64,hf,hc,q2⟩:=q2
 obtain⟨u,rfl,ru⟩:=r1.one
 obtain⟨v,rfl,rv⟩:=r2.one
 cases ru
 cases rv
 rw[hks]
 exact sortedKey (k:=k) S hb hbody (hr.mono hj) I2 ha h64 hf hc q2
theorem pe_sortL {k j:Nat} {x:Str} {params:Arguments} {body:Expr} {scope:Scope} {lpos:Pos} {c P:Addr} {N:List Str} {tb:TE} (hr:Room j X.A) (hg:Gl X "sorted") (hm:X.mg "sorted"=none) (he:PE X e te)
 (Bd:Body X) (hcode:X.env.code=.ref c) (hC:PySem.W.CodeHd X.base c P) (hbm:BMain X.mg X.base) (hdef:defaultsOf params X.env=([],[])) (hcl:closureFor scope X.env=pure []) (S:FnScope N [x] scope)
 (hb:∀ pm c' ctv u,bindArgs (PySem.W.kla_fn "<lambda>" (X.env.qual++"<lambda>") params body scope [] pm (.ref c') ctv) ⟨[u],[]⟩=pure [(x,u)])
 (hbody:∀ (f c:Addr) (A:Around) (outer:List Env) (s:Shared) (H:Hp) (E:XK),Room k (A.deeper (envOfC (X.env.qual++"<lambda>") scope s.heap.objs.size f (.ref c)))→PE (cxOf CX0 X.prog X.w X.K X.mg X.base N (X.env.qual++"<lambda>") scope f (.ref c) A outer s H E) body tb)
 (hj:k+3≤j:=by decide)
 (hs:starEach [e] X.env=(false,eval e X.env) :: starEach [] X.env:=by rfl) (he1:backTo pos (starEach [e] X.env)=(false,eval e X.env) :: backTo pos (starEach [] X.env):=by rfl) (hp1:(backTo pos (starEach [e] X.env)).any (·.1)=false:=by rfl)
 (ha1:(backToKw pos (keywordEach [⟨some "key",.Lambda params body scope lpos,kp⟩] X.env)).all (·.1.isSome)=true:=by rfl) (hk1:(backToKw pos (keywordEach [⟨some "key",.Lambda params body scope lpos,kp⟩] X.env)).any (·.1.isNone)=false:=by rfl) (hks:(backToKw pos (keywordEach [⟨some "key",.Lambda params body scope lpos,kp⟩] X.env)).filterMap (·.1)=([Str.ofString "key"]:List Str):=by rfl) :
 PE X (.Call (.Name "sorted" p) [e] [⟨some "key",.Lambda params body scope lpos,kp⟩] pos) (tSrtK X (X.env.qual++"<lambda>") params body scope N tb te (tLam (X.env.qual++"<lambda>") P lpos params body scope)) :=
 pe_sortK hr hg hm he (pe_lam Bd hcode hC hbm hdef hcl) S hb hbody hj hs he1 hp1 ha1 hk1 hks
end
end L2
namespace CW
open PySem L2
theorem filter_app (p:Int→Bool) (a b:List Int):((a++b).filter p).length=(a.filter p).length+(b.filter p).length:=by rw[List.filter_append,List.length_append]
theorem les_trI (s o l:Int) (rest:Trs) (h0:0≤s) (hl:1≤l):les (tr s o rest) l=min l s+les rest l:=by
 unfold tr
 split
 ·rename_i e
  rw[e]
  have:min l 0=0:=by omega
  omega
 ·rw[les_cons]
theorem Lst.car {l:Int} (hl:1≤l) {r:List Int} {ps:Trs} (h:Lst r ps):(carM r l:Int)=les ps l:=by
 induction h with
 | nil=>rfl
 | snoc a b c ih =>
  rename_i r ps0 p ps
  obtain⟨fs,ld,a1,a2,a3,a4⟩:=walk_snoc hl a.rowP b
  have hw:=a.walk hl
  rw[a3]at hw
  obtain⟨_,s,rest,s0,s1,s2,s3⟩:=shift_step hl (a.bd fun x hx=>by have:=b x hx;omega) c a1 a2 hw
  rw[les_perm s1,les_trI s _ l rest s0 hl]at ih
  rw[les_perm s2,les_cons]
  simp only
  have old:carM r l=(fs.filter fun x=>decide (x∉r)).length+ld:=by
   unfold carM
   rw[a3,filter_app]
   congr 1
   rw[List.filter_eq_self.mpr]
   ·simp[rnn]
   ·intro x hx
    have:=mem_rnn hx
    exact decide_eq_true fun z=>by have:=b x z;omega
  have efs:(fs.filter fun x=>decide (x∉r++[p]))=fs.filter fun x=>decide (x∉r):=List.filter_congr fun x hx=>by
   have hne:x≠p:=by have:=a1 x hx;omega
   simp[hne]
  by_cases hc:(ld:Int)<l
  ·have new:carM (r++[p]) l=(fs.filter fun x=>decide (x∉r)).length+(ld+1):=by
    unfold carM
    rw[a4,if_pos hc,filter_app,efs]
    congr 1
    rw[List.filter_eq_self.mpr]
    ·simp[rnn]
    ·intro x hx
     have:=mem_rnn hx
     refine decide_eq_true fun z=>?_
     rcases List.mem_append.mp z with z | z
     ·have:=b x z;omega
     ·have:=List.mem_singleton.mp z;omega
   have:=s3.mp hc
   omega
  ·have new:carM (r++[p]) l=(fs.filter fun x=>decide (x∉r)).length+ld:=by
    unfold carM
    rw[a4,if_neg hc,filter_app,efs]
    congr 1
    rw[rnn_cons,List.filter_cons,if_neg (by simp),List.filter_eq_self.mpr]
    ·simp[rnn]
    ·intro x hx
     have:=mem_rnn hx
     refine decide_eq_true fun z=>?_
     rcases List.mem_append.mp z with z | z
     ·have:=b x z;omega
     ·have:=List.mem_singleton.mp z;omega
   have:=mt s3.mpr hc
   omega
noncomputable def ldG (c:Nat):List Int→Nat→Int→Nat
 | [],_,_=>0
 | p :: r,h,n=>if h - min h (p - n).toNat<c then 1+ldG c r (h - min h (p - n).toNat+1) (p+1)else ldG c r (h - min h (p - n).toNat) (p+1)
noncomputable def peelG (a:Int):List Int→List Int
 | []=>[]
 | [_]=>[]
 | x :: y :: r=>if y=x+1 then (x - 2 * a) :: peelG a (y :: r)else peelG (a+1) (y :: r)
noncomputable def stG:List Int→Nat
 | []=>0
 | [_]=>1
 | x :: y :: r=>if y=x+1 then stG (y :: r)else stG (y :: r)+1
theorem ldG_gap (c:Nat) {r:List Int} {h:Nat} {n:Int} (d:Nat) (hr:∀ x∈r,n+(d:Int)≤x):ldG c r h n=ldG c r (h - min h d) (n+(d:Int)):=by
 cases r with
 | nil=>rfl
 | cons p r =>
  have hp:=hr p List.mem_cons_self
  show (if h - min h (p - n).toNat<c then _ else _)=if h - min h d - min (h - min h d) (p - (n+(d:Int))).toNat<c then _ else _
  have e:h - min h d - min (h - min h d) (p - (n+(d:Int))).toNat=h - min h (p - n).toNat:=by omega
  rw[e]
theorem peel_ge:∀ (r:List Int) (a x:Int),Row (x :: r)→∀ z∈peelG a (x :: r),x - 2 * a≤z
 | [],a,x,_,z,hz=>by simp[peelG]at hz
 | y :: r,a,x,h,z,hz=>by
  have h':=List.pairwise_cons.mp h
  have hxy:=h'.1 y List.mem_cons_self
  unfold peelG at hz
  split at hz
  ·rename_i e
   rcases List.mem_cons.mp hz with q | q
   ·omega
   ·have:=peel_ge r a y h'.2 z q
    omega
  ·have:=peel_ge r (a+1) y h'.2 z hz
   omega
theorem peel_ld (c:Nat):∀ (r:List Int) (x a:Int) (h:Nat),Row (x :: r)→h≤c+1→ldG (c+1) (x :: r) h x+(if h=c+1 then 1 else 0)=ldG c (peelG a (x :: r)) (min h c) (x - 2 * a)+stG (x :: r)
 | [],x,a,h,_,hh=>by
  show (if h - min h (x - x).toNat<c+1 then 1+0 else 0)+_=0+1
  rw[show h - min h (x - x).toNat=h by omega]
  split <;> split <;> omega
 | y :: r,x,a,h,hr,hh=>by
  have h':=List.pairwise_cons.mp hr
  have hxy:=h'.1 y List.mem_cons_self
  have e0:h - min h (x - x).toNat=h:=by omega
  have lhs:ldG (c+1) (x :: y :: r) h x=if h<c+1 then 1+ldG (c+1) (y :: r) (h+1) (x+1)else ldG (c+1) (y :: r) h (x+1):=by
   show (if h - min h (x - x).toNat<c+1 then _ else _)=_
   rw[e0]
  rw[lhs]
  by_cases hy:y=x+1
  ·have ep:peelG a (x :: y :: r)=(x - 2 * a) :: peelG a (y :: r):=if_pos hy
   have es:stG (x :: y :: r)=stG (y :: r):=if_pos hy
   have rhs:ldG c ((x - 2 * a) :: peelG a (y :: r)) (min h c) (x - 2 * a)=if min h c<c then 1+ldG c (peelG a (y :: r)) (min h c+1) (x - 2 * a+1)else ldG c (peelG a (y :: r)) (min h c) (x - 2 * a+1):=by
    show (if min h c - min (min h c) (x - 2 * a - (x - 2 * a)).toNat<c then _ else _)=_
    rw[show min h c - min (min h c) (x - 2 * a - (x - 2 * a)).toNat=min h c by omega]
   rw[ep,es,rhs,show x+1=y by omega,show x - 2 * a+1=y - 2 * a by omega]
   by_cases k1:h<c
   ·have ih:=peel_ld c r y a (h+1) h'.2 (by omega)
    rw[if_pos (show h<c+1 by omega),if_pos (show min h c<c by omega),if_neg (show ¬ h=c+1 by omega),show min h c+1=min (h+1) c by omega]
    rw[if_neg (show ¬ h+1=c+1 by omega)]at ih
    omega
   ·by_cases k2:h=c
    ·have ih:=peel_ld c r y a (h+1) h'.2 (by omega)
     rw[if_pos (show h<c+1 by omega),if_neg (show ¬ min h c<c by omega),if_neg (show ¬ h=c+1 by omega),show min h c=min (h+1) c by omega]
     rw[if_pos (show h+1=c+1 by omega)]at ih
     omega
    ·have ih:=peel_ld c r y a h h'.2 (by omega)
     rw[if_neg (show ¬ h<c+1 by omega),if_neg (show ¬ min h c<c by omega)]
     omega
  ·have ep:peelG a (x :: y :: r)=peelG (a+1) (y :: r):=if_neg hy
   have es:stG (x :: y :: r)=stG (y :: r)+1:=if_neg hy
   obtain⟨g,hg⟩:∃ g:Nat,y=x+2+(g:Int):=⟨(y - x - 2).toNat,by omega⟩
   have hge:∀ z∈peelG (a+1) (y :: r),x - 2 * a+(g:Int)≤z:=fun z hz=>by
    have:=peel_ge r (a+1) y h'.2 z hz
    omega
   have hrow:∀ z∈y :: r,x+1+((g+1:Nat):Int)≤z:=fun z hz=>by
    rcases List.mem_cons.mp hz with q | q
    ·omega
    ·have:=(List.pairwise_cons.mp h'.2).1 z q;omega
   rw[ep,es,ldG_gap c (h:=min h c) (n:=x - 2 * a) g hge,show x - 2 * a+(g:Int)=y - 2 * (a+1)by omega]
   have key:∀ h2:Nat,h2=(if h<c+1 then h+1 else h)→ldG (c+1) (y :: r) h2 (x+1)=ldG c (peelG (a+1) (y :: r)) (min h c - min (min h c) g) (y - 2 * (a+1))+stG (y :: r):=fun h2 e=>by
    rw[ldG_gap (c+1) (n:=x+1) (g+1) hrow,show x+1+((g+1:Nat):Int)=y by omega]
    have e1:h2=min h c+1:=by rw[e];split <;> omega
    have ih:=peel_ld c r y (a+1) (h2 - min h2 (g+1)) h'.2 (by omega)
    rw[if_neg (by omega),show min (h2 - min h2 (g+1)) c=min h c - min (min h c) g by omega]at ih
    exact ih
   by_cases k1:h<c+1
   ·rw[if_pos k1,if_neg (show ¬ h=c+1 by omega),key (h+1) (by rw[if_pos k1])]
    omega
   ·rw[if_neg k1,if_pos (show h=c+1 by omega),key h (by rw[if_neg k1])]
    omega
end CW
namespace CW
open PySem L2
noncomputable def endsG:List Int→List Int
 | []=>[]
 | [x]=>[x]
 | x :: y :: r=>if y=x+1 then endsG (y :: r)else x :: endsG (y :: r)
theorem runs_from:∀ (r:List Int) (A:List (Int×Int)) (f z:Int),(r.foldl stepR (A++[(f,z)])).length=A.length+stG (z :: r)∧(r.foldl stepR (A++[(f,z)])).map (·.2)=A.map (·.2)++endsG (z :: r)
 | [],A,f,z=>by
  refine⟨?_,?_⟩
  ·show (A++[(f,z)]).length=A.length+1
   simp
  ·show (A++[(f,z)]).map (·.2)=A.map (·.2)++[z]
   simp
 | y :: r,A,f,z=>by
  show ((r.foldl stepR (stepR (A++[(f,z)]) y)).length=_∧_)
  rw[show List.foldl stepR (A++[(f,z)]) (y :: r)=r.foldl stepR (stepR (A++[(f,z)]) y) from rfl,stepR_snoc]
  by_cases hy:y=z+1
  ·rw[if_pos (show (f,z).2=y - 1 by show z=y - 1;omega)]
   have e1:stG (z :: y :: r)=stG (y :: r):=if_pos hy
   have e2:endsG (z :: y :: r)=endsG (y :: r):=if_pos hy
   rw[e1,e2]
   exact runs_from r A f y
  ·rw[if_neg (show ¬ (f,z).2=y - 1 by show ¬ z=y - 1;omega)]
   have e1:stG (z :: y :: r)=stG (y :: r)+1:=if_neg hy
   have e2:endsG (z :: y :: r)=z :: endsG (y :: r):=if_neg hy
   obtain⟨k1,k2⟩:=runs_from r (A++[(f,z)]) y y
   rw[e1,e2,k1,k2]
   refine⟨?_,?_⟩
   ·rw[List.length_append,List.length_singleton];omega
   ·simp
theorem runs_st (row:List Int):(runsM row).length=stG row:=by
 cases row with
 | nil=>rfl
 | cons x r=>exact(runs_from r [] x x).1.trans (by simp)
theorem runs_ends (row:List Int):(runsM row).map (·.2)=endsG row:=by
 cases row with
 | nil=>rfl
 | cons x r=>exact(runs_from r [] x x).2
theorem ends_ge:∀ (r:List Int) (x:Int),Row (x :: r)→∀ z∈endsG (x :: r),x≤z
 | [],x,_,z,hz=>by rw[List.mem_singleton.mp hz];exact Int.le_refl _
 | y :: r,x,h,z,hz=>by
  have h':=List.pairwise_cons.mp h
  have hxy:=h'.1 y List.mem_cons_self
  unfold endsG at hz
  split at hz
  ·have:=ends_ge r y h'.2 z hz
   omega
  ·rcases List.mem_cons.mp hz with q | q
   ·omega
   ·have:=ends_ge r y h'.2 z q
    omega
theorem peel_len:∀ (row:List Int) (a:Int),(peelG a row).length+stG row=row.length
 | [],a=>rfl
 | [x],a=>rfl
 | x :: y :: r,a=>by
  by_cases hy:y=x+1
  ·have e1:stG (x :: y :: r)=stG (y :: r):=if_pos hy
   have e2:peelG a (x :: y :: r)=(x - 2 * a) :: peelG a (y :: r):=if_pos hy
   have:=peel_len (y :: r) a
   rw[e1,e2,List.length_cons,List.length_cons]
   omega
  ·have e1:stG (x :: y :: r)=stG (y :: r)+1:=if_neg hy
   have e2:peelG a (x :: y :: r)=peelG (a+1) (y :: r):=if_neg hy
   have:=peel_len (y :: r) (a+1)
   rw[e1,e2,List.length_cons]
   omega
theorem peel_row:∀ (row:List Int) (a:Int),Row row→Row (peelG a row)
 | [],a,_=>List.Pairwise.nil
 | [x],a,_=>List.Pairwise.nil
 | x :: y :: r,a,h=>by
  have h':=List.pairwise_cons.mp h
  by_cases hy:y=x+1
  ·have e2:peelG a (x :: y :: r)=(x - 2 * a) :: peelG a (y :: r):=if_pos hy
   rw[e2]
   refine List.pairwise_cons.mpr ⟨fun z hz=>?_,peel_row (y :: r) a h'.2⟩
   have:=peel_ge r a y h'.2 z hz
   omega
  ·have e2:peelG a (x :: y :: r)=peelG (a+1) (y :: r):=if_neg hy
   rw[e2]
   exact peel_row (y :: r) (a+1) h'.2
theorem ldG_zero (c:Nat) {r:List Int} {n m:Int}:ldG c r 0 n=ldG c r 0 m:=by
 cases r with
 | nil=>rfl
 | cons p r =>
  show (if 0 - min 0 (p - n).toNat<c then _ else _)=if 0 - min 0 (p - m).toNat<c then _ else _
  simp
theorem ldG_none:∀ (r:List Int) (h:Nat) (n:Int),ldG 0 r h n=0
 | [],_,_=>rfl
 | p :: r,h,n=>by
  show (if _<0 then _ else _)=0
  rw[if_neg (Nat.not_lt_zero _)]
  exact ldG_none r _ _
theorem peel_load (c:Nat) {row:List Int} (h:Row row):ldG (c+1) row 0 0=ldG c (peelG 0 row) 0 0+stG row:=by
 cases row with
 | nil=>rfl
 | cons x r =>
  have:=peel_ld c r x 0 0 h (by omega)
  rw[if_neg (by omega),show min 0 c=0 by omega]at this
  rw[ldG_zero (c+1) (m:=x),ldG_zero c (r:=peelG 0 (x :: r)) (m:=x - 2 * 0)]
  exact this
theorem st_load {row:List Int} (h:Row row):stG row=ldG 1 row 0 0:=by
 rw[peel_load 0 h,ldG_none]
 omega
theorem carry2 {c:Nat} (hc:1≤c):∀ (r0:List Int) (h:Nat) (m n:Int),RowP r0→(∀ x∈r0,x<n∧(m≤x∨h=0))→(m≤n∨h=0)→h≤c →
 ∃ (fs:List Int) (ld k:Nat),(∀ x∈fs,x<n)∧ld≤c∧∀ r,(∀ x∈r,n≤x)→goM c (r0++r) h m=fs++goM c r ld n∧ldG c (r0++r) h m=k+ldG c r ld n
 | [],h,m,n,_,_,hmn,hh=>by
  rcases Nat.eq_zero_or_pos h with e | e
  ·subst e
   exact⟨[],0,0,fun x hx=>(nomatch hx),by omega,fun r _=>⟨by rw[List.nil_append,List.nil_append];exact goM_zero,by rw[List.nil_append,Nat.zero_add];exact ldG_zero c⟩⟩
  ·have hmn':m≤n:=by omega
   refine⟨rnn m (min h (n - m).toNat),h - min h (n - m).toNat,0,fun x hx=>by have:=mem_rnn hx;omega,by omega,fun r hr=>⟨?_,?_⟩⟩
   ·have:=goM_gapn (c:=c) (r:=r) (n - m).toNat h m fun x hx=>by have:=hr x hx;omega
    rw[List.nil_append,this,show m+((n - m).toNat:Int)=n by omega]
   ·have:=ldG_gap c (r:=r) (h:=h) (n:=m) (n - m).toNat fun x hx=>by have:=hr x hx;omega
    rw[List.nil_append,this,show m+((n - m).toNat:Int)=n by omega]
    omega
 | p :: r0,h,m,n,hrow,hx,hmn,hh=>by
  obtain⟨h1,h2⟩:=List.pairwise_cons.mp hrow
  have hp:=hx p List.mem_cons_self
  have hm:min h (p - m).toNat≤h:=Nat.min_le_left _ _
  have key:∀ r,goM c ((p :: r0)++r) h m=rnn m (min h (p - m).toNat)++(if ((h - min h (p - m).toNat:Nat):Int)<(c:Int)then goM c (r0++r) (h - min h (p - m).toNat+1) (p+1)else p :: goM c (r0++r) (h - min h (p - m).toNat) (p+1)):=fun r=>rfl
  have key2:∀ r,ldG c ((p :: r0)++r) h m=if h - min h (p - m).toNat<c then 1+ldG c (r0++r) (h - min h (p - m).toNat+1) (p+1)else ldG c (r0++r) (h - min h (p - m).toNat) (p+1):=fun r=>rfl
  have hrnn:∀ x∈rnn m (min h (p - m).toNat),x<n:=fun x hx=>by
   have:=mem_rnn hx
   rcases hp.2 with q | q
   ·omega
   ·rw[q]at hx;simp[rnn]at hx
  have hr0:∀ x∈r0,x<n∧p+1≤x:=fun x hx'=>⟨(hx x (List.mem_cons_of_mem _ hx')).1,by have:=h1 x hx';omega⟩
  by_cases hlt:h - min h (p - m).toNat<c
  ·obtain⟨fs,ld,k,a1,a2,a3⟩:=carry2 hc r0 (h - min h (p - m).toNat+1) (p+1) n h2 (fun x hx=>⟨(hr0 x hx).1,.inl (hr0 x hx).2⟩) (.inl (by omega)) (by omega)
   refine⟨rnn m (min h (p - m).toNat)++fs,ld,k+1,fun x hx=>?_,a2,fun r hr=>⟨by rw[key,if_pos (by omega),(a3 r hr).1,List.append_assoc],by rw[key2,if_pos hlt,(a3 r hr).2];omega⟩⟩
   rcases List.mem_append.mp hx with q | q
   ·exact hrnn x q
   ·exact a1 x q
  ·obtain⟨fs,ld,k,a1,a2,a3⟩:=carry2 hc r0 (h - min h (p - m).toNat) (p+1) n h2 (fun x hx=>⟨(hr0 x hx).1,.inl (hr0 x hx).2⟩) (.inl (by omega)) (by omega)
   refine⟨rnn m (min h (p - m).toNat)++p :: fs,ld,k,fun x hx=>?_,a2,fun r hr=>⟨by rw[key,if_neg (by omega),(a3 r hr).1,List.append_assoc];rfl,by rw[key2,if_neg hlt,(a3 r hr).2]⟩⟩
   rcases List.mem_append.mp hx with q | q
   ·exact hrnn x q
   ·rcases List.mem_cons.mp q with e | q
    ·rw[e];exact hp.1
    ·exact a1 x q
theorem Lst.load {c:Nat} (hc:1≤c) {r:List Int} {ps:Trs} (h:Lst r ps):(ldG c r 0 0:Int)=les ps c:=by
 induction h with
 | nil=>rfl
 | snoc a b d ih =>
  rename_i r ps0 p ps
  obtain⟨fs,ld,k,a1,a2,a3⟩:=carry2 hc r 0 0 p a.rowP (fun x hx=>⟨b x hx,.inr rfl⟩) (.inr rfl) (by omega)
  have o:=a3 [] fun x hx=>(nomatch hx)
  have w:=a3 [p] fun x hx=>by rw[List.mem_singleton.mp hx];exact Int.le_refl _
  rw[List.append_nil]at o
  have ow:walkM r c=fs++rnn p ld:=o.1
  have ol:ldG c r 0 0=k:=o.2
  have nl:ldG c (r++[p]) 0 0=k+(if ld<c then 1 else 0):=by
   rw[w.2]
   congr 1
   show (if ld - min ld (p - p).toNat<c then 1+0 else 0)=_
   rw[show ld - min ld (p - p).toNat=ld by omega]
  have hw:=a.walk (l:=c) (by omega)
  rw[ow]at hw
  obtain⟨_,s,rest,s0,s1,s2,s3⟩:=shift_step (l:=c) (by omega) (a.bd fun x hx=>by have:=b x hx;omega) d a1 (by omega) hw
  rw[les_perm s1,les_trI s _ c rest s0 (by omega),ol]at ih
  rw[les_perm s2,les_cons,nl]
  simp only
  by_cases hl:ld<c
  ·have:=s3.mp (by omega)
   rw[if_pos hl]
   omega
  ·have:=mt s3.mpr (by omega)
   rw[if_neg hl]
   omega
end CW
namespace CW
open PySem L2
noncomputable def peelN:Nat→List Int→List Int
 | 0,r=>r
 | k+1,r=>peelG 0 (peelN k r)
theorem peelN_row {row:List Int} (h:Row row):∀ k,Row (peelN k row)
 | 0=>h
 | k+1=>peel_row _ 0 (peelN_row h k)
theorem les_zeroP {ps:Trs} (h:∀ q∈ps,1≤q.1):les ps 0=0:=by
 induction ps with
 | nil=>rfl
 | cons q ps ih =>
  have:=h q List.mem_cons_self
  rw[les_cons,ih fun x hx=>h x (List.mem_cons_of_mem _ hx)]
  omega
theorem peelN_load {row:List Int} {ps:Trs} (h:Lst row ps):∀ (k c:Nat),(ldG c (peelN k row) 0 0:Int)=les ps ((c+k:Nat):Int) - les ps (k:Int)
 | 0,c=>by
  rw[show ((0:Nat):Int)=0 from rfl,les_zeroP h.pos,Nat.add_zero]
  rcases Nat.eq_zero_or_pos c with e | e
  ·rw[e,ldG_none]
   show (0:Int)=les ps 0 - 0
   rw[les_zeroP h.pos]
   rfl
  ·show (ldG c row 0 0:Int)=_
   rw[h.load e]
   omega
 | k+1,c=>by
  have hr:=peelN_row h.rowp k
  have e1:=peelN_load h k (c+1)
  have e2:=peelN_load h k 1
  have e3:=peel_load c hr
  have e4:=st_load hr
  show (ldG c (peelG 0 (peelN k row)) 0 0:Int)=_
  rw[show c+(k+1)=c+1+k by omega,show k+1=1+k by omega]
  omega
theorem peelN_st {row:List Int} {ps:Trs} (h:Lst row ps) (k:Nat):(stG (peelN k row):Int)=les ps ((k+1:Nat):Int) - les ps (k:Int):=by
 rw[st_load (peelN_row h.rowp k),peelN_load h k 1,show 1+k=k+1 by omega]
theorem peelN_len {row:List Int} {ps:Trs} (h:Lst row ps):∀ k:Nat,((peelN k row).length:Int)=siz ps - les ps (k:Int)
 | 0=>by
  show (row.length:Int)=_
  rw[show ((0:Nat):Int)=0 from rfl,les_zeroP h.pos,h.sizx]
  omega
 | k+1=>by
  have e1:=peelN_len h k
  have e2:=peelN_st h k
  have e3:=peel_len (peelN k row) 0
  show ((peelG 0 (peelN k row)).length:Int)=_
  omega
noncomputable def geN (ss:List Int) (k:Int):Nat:=(ss.filter fun s=>decide (k≤s)).length
theorem les_ge (k:Int):∀ ps:Trs,les ps (k+1) - les ps k=(geN (ps.map (·.1)) (k+1):Int)
 | []=>rfl
 | q :: ps=>by
  have ih:=les_ge k ps
  rw[les_cons,les_cons]
  unfold geN at *
  rw[List.map_cons,List.filter_cons]
  by_cases c:k+1≤q.1
  ·rw[if_pos (by simpa using c),List.length_cons]
   omega
  ·rw[if_neg (by simpa using c)]
   omega
theorem geN_cons (s:Int) (ss:List Int) (k:Int):geN (s :: ss) k=(if k≤s then 1 else 0)+geN ss k:=by
 unfold geN
 rw[List.filter_cons]
 by_cases c:k≤s
 ·rw[if_pos (by simpa using c),if_pos c,List.length_cons]
  omega
 ·rw[if_neg (by simpa using c),if_neg c]
  omega
theorem geN_le (ss:List Int) (k:Int):geN ss (k+1)≤geN ss k:=by
 induction ss with
 | nil=>exact Nat.le_refl _
 | cons s ss ih =>
  rw[geN_cons,geN_cons]
  split <;> split <;> omega
theorem geN_all {ss:List Int} {k:Int} (h:∀ s∈ss,k≤s):geN ss k=ss.length:=by
 induction ss with
 | nil=>rfl
 | cons s ss ih =>
  rw[geN_cons,if_pos (h s List.mem_cons_self),ih fun x hx=>h x (List.mem_cons_of_mem _ hx),List.length_cons]
  omega
theorem sizes_cut {ss:List Int} (hs:ss.Pairwise (·≤·)) (k:Int):(ss.filter fun s=>decide (s≤k+1))=(ss.filter fun s=>decide (s≤k))++List.replicate (geN ss (k+1) - geN ss (k+2)) (k+1):=by
 induction ss with
 | nil=>rfl
 | cons s ss ih =>
  obtain⟨h1,h2⟩:=List.pairwise_cons.mp hs
  have ih:=ih h2
  rw[List.filter_cons,List.filter_cons,geN_cons,geN_cons]
  by_cases c1:s≤k
  ·rw[if_pos (by simp;omega),if_pos (by simp;omega),if_neg (by omega),if_neg (by omega),Nat.zero_add,Nat.zero_add,ih]
   rfl
  ·by_cases c2:s=k+1
   ·rw[if_pos (by simp;omega),if_neg (by simp;omega),if_pos (by omega),if_neg (by omega),Nat.zero_add,ih]
    have e:(ss.filter fun s=>decide (s≤k))=[]:=List.filter_eq_nil_iff.mpr fun x hx=>by
     have:=h1 x hx
     simp
     omega
    have hle:=geN_le ss (k+1)
    rw[show k+1+1=k+2 by omega]at hle
    rw[e,List.nil_append,List.nil_append,show 1+geN ss (k+1) - geN ss (k+2)=(geN ss (k+1) - geN ss (k+2))+1 by omega,List.replicate_succ,c2]
   ·rw[if_neg (by simp;omega),if_neg (by simp;omega),if_pos (by omega),if_pos (by omega),ih]
    have e1:geN ss (k+1)=ss.length:=geN_all fun x hx=>by have:=h1 x hx;omega
    have e2:geN ss (k+2)=ss.length:=geN_all fun x hx=>by have:=h1 x hx;omega
    rw[e1,e2,Nat.sub_self,Nat.sub_self]
end CW
namespace CW
open PySem L2
theorem ends_ne:∀ (r:List Int) (x:Int),∃ z t,endsG (x :: r)=z :: t
 | [],x=>⟨x,[],rfl⟩
 | y :: r,x=>by
  by_cases hy:y=x+1
  ·rw[show endsG (x :: y :: r)=endsG (y :: r) from if_pos hy]
   exact ends_ne r y
  ·exact⟨x,endsG (y :: r),if_neg hy⟩
theorem drop_at {α:Type} {l t:List α} {i:Nat} {x:α} (h:l.drop i=x :: t):l[i]?=some x∧l.drop (i+1)=t:=by
 refine⟨?_,?_⟩
 ·have:=congrArg (fun z:List α=>z[0]?) h
  simpa[List.getElem?_drop]using this
 ·rw[← List.drop_drop,h]
  rfl
theorem pl_step {E row stays P:List Int} {i a:Nat} {x:Int} (hr:Row row) (hx:row[i]?=some x) (hE:E.drop a=endsG (row.drop i)) (hs:stays++peelG a (row.drop i)=P) :
 ∃ z,E[a]?=some z∧((x=z∧E.drop (a+1)=endsG (row.drop (i+1))∧stays++peelG ((a+1:Nat):Int) (row.drop (i+1))=P)∨(x≠z∧E.drop a=endsG (row.drop (i+1))∧(stays++[x - 2 * (a:Int)])++peelG a (row.drop (i+1))=P)):=by
 obtain⟨hi,ex⟩:=List.getElem?_eq_some_iff.mp hx
 have hd:row.drop i=x :: row.drop (i+1):=by rw[List.drop_eq_getElem_cons hi,ex]
 have hrd:Row (row.drop i):=List.Pairwise.sublist (List.drop_sublist i row) hr
 rw[hd]at hE hs hrd
 generalize row.drop (i+1)=t at hE hs hrd ⊢
 cases t with
 | nil =>
  obtain⟨k1,k2⟩:=drop_at (t:=[]) (x:=x) hE
  exact⟨x,k1,.inl ⟨rfl,k2,hs⟩⟩
 | cons y r =>
  have h':=List.pairwise_cons.mp hrd
  have hxy:=h'.1 y List.mem_cons_self
  by_cases hy:y=x+1
  ·rw[show endsG (x :: y :: r)=endsG (y :: r) from if_pos hy]at hE
   rw[show peelG (a:Int) (x :: y :: r)=(x - 2 * (a:Int)) :: peelG a (y :: r) from if_pos hy]at hs
   obtain⟨z,t,ez⟩:=ends_ne r y
   have hz:=ends_ge r y h'.2 z (by rw[ez];exact List.mem_cons_self)
   obtain⟨k1,k2⟩:=drop_at (hE.trans ez)
   exact⟨z,k1,.inr ⟨by omega,hE,by rw[List.append_assoc];exact hs⟩⟩
  ·rw[show endsG (x :: y :: r)=x :: endsG (y :: r) from if_neg hy]at hE
   rw[show peelG (a:Int) (x :: y :: r)=peelG ((a:Int)+1) (y :: r) from if_neg hy]at hs
   obtain⟨k1,k2⟩:=drop_at hE
   exact⟨x,k1,.inl ⟨rfl,k2,by rw[show ((a+1:Nat):Int)=(a:Int)+1 by omega];exact hs⟩⟩
theorem st_pos:∀ (r:List Int) (x:Int),1≤stG (x :: r)
 | [],x=>Nat.le_refl _
 | y :: r,x=>by
  by_cases hy:y=x+1
  ·rw[show stG (x :: y :: r)=stG (y :: r) from if_pos hy]
   exact st_pos r y
  ·rw[show stG (x :: y :: r)=stG (y :: r)+1 from if_neg hy]
   omega
inductive spPeeled (vs:List V) (H:Hp) (Q:VK) (E_:XK):Prop
 | mk (a:Addr) (row:List Int) (h0_:vs=[.ref a]) (h1_:H a=some (.lst (row.map V.int))) (h2_:Row row) (h3_:row.length≤60) (h4_:RetL H Q (peelG 0 row)):spPeeled vs H Q E_
inductive spRounds (vs:List V) (H:Hp) (Q:VK) (E_:XK):Prop
 | mk (a:Addr) (row:List Int) (h0_:vs=[.ref a]) (h1_:H a=some (.lst (row.map V.int))) (h2_:Row row) (h3_:row.length≤60) (h4_:∀ n:Nat,peelN n row=[]→(∀ k,k<n→peelN k row≠[])→RetL H Q ((List.range n).map fun k=>(stG (peelN k row):Int))):spRounds vs H Q E_
end CW
namespace L2
open PySem PySem.Spec PyProof.Rows
section
variable {K:PySem.W.Frag} {x qual:Str} {st:Stmt} {f:Addr} {fd:FuncData} {p1 p2 p3 p4:Str}
theorem Fun.binds1 (F:Fun K x qual st f fd) (h:∀ (kV doc pm:Value) (an:Option Addr) (cdv ct u:Value),bindArgs (PySem.W.fnOf x qual (defArgs st) (defBody st) (defScope st) .none kV doc pm an cdv ct) ⟨[u],[]⟩=pure [(p1,u)]):Binds K fd [p1] [] :=
 F.binds fun a b c d e g us hl=>match us,hl with | [u],_=>h a b c d e g u
theorem Fun.binds2 (F:Fun K x qual st f fd) (h:∀ (kV doc pm:Value) (an:Option Addr) (cdv ct u v:Value),bindArgs (PySem.W.fnOf x qual (defArgs st) (defBody st) (defScope st) .none kV doc pm an cdv ct) ⟨[u,v],[]⟩=pure [(p1,u),(p2,v)]):Binds K fd [p1,p2] [] :=
 F.binds fun a b c d e g us hl=>match us,hl with | [u,v],_=>h a b c d e g u v
end
end L2
namespace L2
open PySem PySem.Spec PyProof.Rows
section
variable {M:Model} {A:Around} {E:Value→Shared→Prop} {s:Shared}
end
section
variable {X:Cx} {pins:List (Addr×Obj)} {σ:St} {H H':Hp} {s:Shared} {inn:Scope} {js:List Nat} {cs ts:List Str} {nt:Nat}
end
section
variable {X:Cx} {pins:List (Addr×Obj)} {σ:St} {inn:Scope} {js:List Nat} {cs ts:List Str} {nt:Nat} {elt tg iter:Expr} {ifs:List Expr} {pos:Pos} {g:TG} {tt:TT} {te:TE}
end
section
variable {X:Cx} {inn:Scope} {js:List Nat} {cs ts:List Str} {nt:Nat} {elt tg iter:Expr} {ifs:List Expr} {pos:Pos} {g:TG} {tt:TT} {te:TE} {wi:TI}
end
end L2
namespace CW
open PySem L2
inductive PlI (row:List Int) (i:Nat) (stays:List Int):Prop
 | mk (ah:Nat) (h1_:(endsG row).drop ah=endsG (row.drop i)) (h2_:stays++peelG ah (row.drop i)=peelG 0 row) (h3_:∀ z∈(endsG row).take ah,∀ y∈row.drop i,z<y):PlI row i stays
theorem PlI.init (row:List Int):PlI row 0 []:=⟨0,rfl,rfl,fun z hz=>by simp at hz⟩
theorem PlI.done {row stays:List Int} {i:Nat} (hi:row.length≤i) (h:PlI row i stays):stays=peelG 0 row:=by
 obtain⟨ah,h1,h2,_⟩:=h
 rw[List.drop_eq_nil_of_le hi]at h2
 rw[← h2]
 exact(List.append_nil _).symm
end CW
namespace CW
open PySem L2
noncomputable def emitG:Nat→List Int→Int→List (Int×Int)
 | 0,_,_=>[]
 | _+1,[],_=>[]
 | k+1,x :: st,n=>(x,n) :: emitG k st (n+1)
noncomputable def closG:List Int→List Int→Int→List (Int×Int)
 | [],st,n=>emitG st.length st n
 | p :: r,st,n=>emitG (min st.length (p - n).toNat) st n++closG r (p :: st.drop (min st.length (p - n).toNat)) (p+1)
noncomputable def closM (row:List Int):List (Int×Int):=closG row [] 0
theorem closG_hit {p:Int} {r st:List Int} {n:Int} (h:st=[]∨p≤n):closG (p :: r) st n=closG r (p :: st) (p+1):=by
 have e:min st.length (p - n).toNat=0:=by
  rcases h with h | h
  ·subst h;simp
  ·omega
 simp only[closG,e,emitG,List.nil_append,List.drop_zero]
theorem closG_gap {p x:Int} {r st:List Int} {n:Int} (h:n<p):closG (p :: r) (x :: st) n=(x,n) :: closG (p :: r) st (n+1):=by
 have e:min (x :: st).length (p - n).toNat=min st.length (p - (n+1)).toNat+1:=by rw[List.length_cons];omega
 rw[closG,closG,e,emitG,List.drop_succ_cons]
 rfl
theorem closG_end (x:Int) (st:List Int) (n:Int):closG [] (x :: st) n=(x,n) :: closG [] st (n+1):=rfl
theorem emit_snd:∀ (k:Nat) (st:List Int) (n:Int),k≤st.length→(emitG k st n).map (·.2)=(List.range k).map fun(j:Nat)=>n+(j:Int)
 | 0,_,_,_=>rfl
 | k+1,[],_,h=>by simp at h
 | k+1,x :: st,n,h=>by
  rw[emitG,List.map_cons,emit_snd k st (n+1) (by simpa using h),range_map_succ]
theorem closG_snd {c:Int}:∀ (row st:List Int) (n:Int),((st.length+row.length:Nat):Int)≤c→(closG row st n).map (·.2)=goM c row st.length n
 | [],st,n,_=>by rw[closG,emit_snd _ _ _ (Nat.le_refl _)];rfl
 | p :: r,st,n,h=>by
  have hk:min st.length (p - n).toNat≤st.length:=Nat.min_le_left _ _
  rw[closG,List.map_append,emit_snd _ _ _ hk,goM]
  rw[List.length_cons]at h
  rw[if_pos (by omega)]
  congr 1
  have e:(p :: st.drop (min st.length (p - n).toNat)).length=st.length - min st.length (p - n).toNat+1:=by rw[List.length_cons,List.length_drop]
  rw[closG_snd (c:=c) r _ (p+1) (by rw[e];omega),e]
theorem closM_snd {row:List Int} {c:Int} (h:(row.length:Int)≤c):(closM row).map (·.2)=walkM row c:=closG_snd row [] 0 (by simpa using h)
theorem closM_len (row:List Int):(closM row).length=row.length:=by
 have e:=closM_snd (row:=row) (c:=row.length) (Int.le_refl _)
 have:=congrArg List.length e
 rw[List.length_map,walkM_len]at this
 exact this
inductive spClosings (vs:List V) (H:Hp) (Q:VK) (E_:XK):Prop
 | mk (a:Addr) (row:List Int) (h0_:vs=[.ref a]) (h1_:H a=some (.lst (row.map V.int))) (h2_:Row row) (h3_:row.length≤60) (h4_:∀ qs:List (Int×Int),qs.Perm (closM row)→qs.Pairwise ple→RetP H Q qs):spClosings vs H Q E_
theorem sorted_unique:∀ {a b:List Int},a.Perm b→a.Pairwise (·≤·)→b.Pairwise (·≤·)→a=b
 | [],b,h,_,_=>by rw[h.symm.eq_nil]
 | x :: a,[],h,_,_=>by have:=h.eq_nil;cases this
 | x :: a,y :: b,h,ha,hb=>by
  have ha':=List.pairwise_cons.mp ha
  have hb':=List.pairwise_cons.mp hb
  have hx:x∈y :: b:=h.mem_iff.mp List.mem_cons_self
  have hy:y∈x :: a:=h.mem_iff.mpr List.mem_cons_self
  have e:x=y:=by
   rcases List.mem_cons.mp hx with q | q
   ·exact q
   ·rcases List.mem_cons.mp hy with r | r
    ·exact r.symm
    ·have h1:=ha'.1 y r
     have h2:=hb'.1 x q
     omega
  subst e
  rw[sorted_unique (List.perm_cons x |>.mp h) ha'.2 hb'.2]
theorem row_le {row:List Int} (h:Row row):row.Pairwise (·≤·):=h.imp fun {x y} q=>by omega
end CW
namespace L2
open PySem PySem.Spec PyProof.Rows
noncomputable def UpA (xs:Array Nat):Prop:=xs.toList.Pairwise (·<·)
theorem UpA.lt {xs:Array Nat} (h:UpA xs) {i j a b:Nat} (hij:i<j) (hi:xs[i]?=some a) (hj:xs[j]?=some b):a<b:=by
 rw[← Array.getElem?_toList]at hi hj
 obtain⟨h1,e1⟩:=List.getElem?_eq_some_iff.mp hi
 obtain⟨h2,e2⟩:=List.getElem?_eq_some_iff.mp hj
 have:=(List.pairwise_iff_getElem.mp h) i j h1 h2 hij
 rw[e1,e2]at this;exact this
theorem below_go {xs:Array Nat} (j:Nat) (U:UpA xs):∀ (fuel lo hi:Nat),hi≤xs.size→lo≤hi→hi - lo≤fuel→(∀ k a,k<lo→xs[k]?=some a→a<j)→(∀ k a,hi≤k→xs[k]?=some a→j≤a) →
 SetTable.below.go xs j fuel lo hi≤xs.size∧(∀ k a,k<SetTable.below.go xs j fuel lo hi→xs[k]?=some a→a<j)∧(∀ k a,SetTable.below.go xs j fuel lo hi≤k→xs[k]?=some a→j≤a)
 | 0,lo,hi,h1,h2,h3,h4,h5=>by
  have e:hi=lo:=by omega
  subst e
  exact⟨h1,h4,h5⟩
 | fuel+1,lo,hi,h1,h2,h3,h4,h5=>by
  unfold SetTable.below.go
  by_cases q:lo<hi
  ·rw[if_pos q]
   have hm:(lo+hi) / 2<xs.size:=by omega
   have hg:xs.getD ((lo+hi) / 2) j=xs[(lo+hi) / 2]:=by rw[Array.getD,dif_pos hm];rfl
   have hs:xs[(lo+hi) / 2]?=some xs[(lo+hi) / 2]:=Array.getElem?_eq_getElem hm
   dsimp only
   rw[hg]
   by_cases z:xs[(lo+hi) / 2]<j
   ·rw[if_pos z]
    refine below_go j U fuel _ _ h1 (by omega) (by omega) (fun k a hk ha=>?_) h5
    rcases Nat.lt_or_ge k ((lo+hi) / 2)with y | y
    ·exact Nat.lt_trans (U.lt y ha hs) z
    ·have:k=(lo+hi) / 2:=by omega
     subst this
     rw[hs]at ha;cases ha;exact z
   ·rw[if_neg z]
    refine below_go j U fuel _ _ (by omega) (by omega) (by omega) h4 (fun k a hk ha=>?_)
    rcases Nat.lt_or_ge ((lo+hi) / 2) k with y | y
    ·have:=U.lt y hs ha;omega
    ·have:k=(lo+hi) / 2:=by omega
     subst this
     rw[hs]at ha;cases ha;omega
  ·rw[if_neg q]
   have e:hi=lo:=by omega
   subst e
   exact⟨h1,h4,h5⟩
theorem below_at {xs:Array Nat} (j:Nat) (U:UpA xs):SetTable.below xs j≤xs.size∧(∀ k a,k<SetTable.below xs j→xs[k]?=some a→a<j)∧(∀ k a,SetTable.below xs j≤k→xs[k]?=some a→j≤a) :=
 below_go j U xs.size 0 xs.size (Nat.le_refl _) (Nat.zero_le _) (by omega) (fun k a hk=>absurd hk (by omega)) (fun k a hk ha=>by
  have:=(Array.getElem?_eq_some_iff.mp ha).1;omega)
theorem slot_or {t:SetTable} (hd:t.dummies=#[]) (j:Nat):t.slot j=.empty∨∃ i,t.slot j=.live i:=by
 unfold SetTable.slot
 rw[hd]
 dsimp only
 split
 ·exact .inr ⟨_,rfl⟩
 ·left
  rw[if_neg (by unfold SetTable.has;simp)]
theorem slot_free {t:SetTable} (hd:t.dummies=#[]) {j:Nat} (h:j∉t.place.toList):t.slot j=.empty:=by
 unfold SetTable.slot
 rw[hd]
 dsimp only
 rw[if_neg,if_neg (by unfold SetTable.has;simp)]
 intro e
 rw[beq_iff_eq]at e
 rw[← Array.getElem?_toList]at e
 exact h (List.mem_of_getElem? e)
theorem slot_not {t:SetTable} {j:Nat} (e:t.slot j=.empty):t.place[SetTable.below t.place j]?≠some j:=by
 intro h
 unfold SetTable.slot at e
 dsimp only at e
 rw[if_pos (by rw[h];simp)]at e
 cases e
theorem put_up {t:SetTable} (U:UpA t.place) {j:Nat} (e:t.slot j=.empty):UpA (t.put j).1.place:=by
 obtain⟨b0,b1,b2⟩:=below_at j U
 have hn:=slot_not e
 show (SetTable.insertAt t.place (SetTable.below t.place j) j).toList.Pairwise (·<·)
 rw[SetTable.toList_insertAt]
 have U':t.place.toList.Pairwise (·<·):=U
 rw[List.pairwise_append]
 refine⟨U'.sublist (List.take_sublist ..),?_,?_⟩
 ·rw[List.pairwise_cons]
  refine⟨fun a ha=>?_,U'.sublist (List.drop_sublist ..)⟩
  obtain⟨k,hk⟩:=List.mem_iff_getElem?.mp ha
  rw[List.getElem?_drop,Array.getElem?_toList]at hk
  have h1:=b2 _ _ (Nat.le_add_right _ k) hk
  rcases Nat.eq_zero_or_pos k with z | z
  ·subst z
   have:j≠a:=fun q=>hn (by rw[q]at hk ⊢;simpa using hk)
   omega
  ·have hb:SetTable.below t.place j<t.place.size:=by
    have:=(Array.getElem?_eq_some_iff.mp hk).1;omega
   have hs:t.place[SetTable.below t.place j]?=some t.place[SetTable.below t.place j]:=Array.getElem?_eq_getElem hb
   have h2:=b2 _ _ (Nat.le_refl _) hs
   have h3:=U.lt (by omega) hs hk
   omega
 ·intro a ha b hb
  obtain⟨k,hk⟩:=List.mem_iff_getElem?.mp ha
  have hlt:a<j:=by
   rw[List.getElem?_take]at hk
   split at hk
   ·rename_i q
    rw[Array.getElem?_toList]at hk
    exact b1 _ _ q hk
   ·cases hk
  rcases List.mem_cons.mp hb with q | q
  ·rw[q];exact hlt
  ·obtain⟨k2,hk2⟩:=List.mem_iff_getElem?.mp q
   rw[List.getElem?_drop,Array.getElem?_toList]at hk2
   have:=b2 _ _ (Nat.le_add_right _ k2) hk2
   omega
noncomputable def stepL (m i:Nat):Nat:=(i * 5+1) % (m+1)
noncomputable def distL (m:Nat):Nat→Nat→Nat→Nat
 | 0,_,_=>0
 | f+1,i,j=>if i=j then 0 else distL m f (stepL m i) j+1
noncomputable def FullL (m:Nat):Prop:=∀ i j:Fin (m+1),i.val≠j.val→distL m (m+1) i j=distL m (m+1) (stepL m i) j+1
noncomputable instance (m:Nat):Decidable (FullL m):=by unfold FullL;infer_instance
theorem full7:FullL 7:=by decide +kernel
theorem full31:FullL 31:=by decide +kernel
theorem dist_le (m:Nat):∀ f i j,distL m f i j≤f
 | 0,_,_=>Nat.le_refl _
 | f+1,i,j=>by unfold distL;split;omega;have:=dist_le m f (stepL m i) j;omega
theorem dist_zero {m i j:Nat} (h:distL m (m+1) i j=0):i=j:=by
 unfold distL at h;split at h;assumption;omega
section
variable {t:SetTable} {h:Int}
noncomputable def baseP (m i perturb:Nat):SetTable.Probe:={ j:=i,more:=SetTable.runEnd m i - i,i:=i,perturb:=perturb,dummy:=none }
noncomputable def FoundE (t:SetTable) (r:Option SetTable.Met):Prop:=∃ j,r=some (.empty j none)∧t.slot j=.empty
theorem run_or (hd:t.dummies=#[]):∀ (more fuel j i perturb:Nat),more<fuel →
 FoundE t ((SetTable.probe.go t (fun _=>h+1) h) fuel { j:=j,more:=more,i:=i,perturb:=perturb,dummy:=none }) ∨
 (SetTable.probe.go t (fun _=>h+1) h) fuel { j:=j,more:=more,i:=i,perturb:=perturb,dummy:=none }=(SetTable.probe.go t (fun _=>h+1) h) (fuel - (more+1)) (baseP t.mask (SetTable.leap t.mask i perturb).1 (SetTable.leap t.mask i perturb).2)
 | more,0,j,i,perturb,hf=>absurd hf (by omega)
 | 0,fuel+1,j,i,perturb,hf=>by
  rw[SetTable.probe.go]
  rcases slot_or hd j with e | ⟨x,e⟩
  ·left;dsimp only;rw[e];exact⟨j,rfl,e⟩
  ·right
   dsimp only;rw[e]
   dsimp only
   rw[if_neg (by simp;omega)]
   rfl
 | more+1,fuel+1,j,i,perturb,hf=>by
  rw[SetTable.probe.go]
  rcases slot_or hd j with e | ⟨x,e⟩
  ·left;dsimp only;rw[e];exact⟨j,rfl,e⟩
  ·dsimp only;rw[e]
   dsimp only
   rw[if_neg (by simp;omega)]
   have ea:t.advance { j:=j,more:=more+1,i:=i,perturb:=perturb,dummy:=none }={ j:=j+1,more:=more,i:=i,perturb:=perturb,dummy:=none }:=by
    unfold SetTable.advance
    rw[if_pos (by simp)]
    simp
   rw[ea]
   have:=run_or hd more fuel (j+1) i perturb (by omega)
   rw[show fuel+1 - (more+1+1)=fuel - (more+1)by omega]
   exact this
theorem runEnd_le (m i:Nat):SetTable.runEnd m i - i≤9:=by unfold SetTable.runEnd;split <;> omega
theorem cyc (hd:t.dummies=#[]) (F:FullL t.mask) {j0:Nat} (hj:j0≤t.mask) (hs:t.slot j0=.empty):∀ (d fuel i:Nat),i≤t.mask→distL t.mask (t.mask+1) i j0=d→10 * d<fuel→FoundE t ((SetTable.probe.go t (fun _=>h+1) h) fuel (baseP t.mask i 0))
 | 0,0,i,hi,e,hf=>absurd hf (by omega)
 | 0,fuel+1,i,hi,e,hf=>by
  have q:=dist_zero e
  subst q
  rw[SetTable.probe.go,show t.slot (baseP t.mask i 0).j=.empty from hs]
  exact⟨i,rfl,hs⟩
 | d+1,fuel,i,hi,e,hf=>by
  have hr:=runEnd_le t.mask i
  rcases run_or (t:=t) (h:=h) hd (SetTable.runEnd t.mask i - i) fuel i i 0 (by omega)with q | q
  ·exact q
  ·show FoundE t ((SetTable.probe.go t (fun _=>h+1) h) fuel { j:=i,more:=SetTable.runEnd t.mask i - i,i:=i,perturb:=0,dummy:=none })
   rw[q]
   have el:SetTable.leap t.mask i 0=(stepL t.mask i,0):=rfl
   rw[el]
   have ne:i≠j0:=fun z=>by subst z;unfold distL at e;rw[if_pos rfl]at e;cases e
   have:=F ⟨i,by omega⟩ ⟨j0,by omega⟩ ne
   dsimp only at this
   have hl:stepL t.mask i≤t.mask:=by have:=Nat.mod_lt (i * 5+1) (show 0<t.mask+1 by omega);unfold stepL;omega
   exact cyc hd F hj hs d _ (stepL t.mask i) hl (by omega) (by omega)
theorem probe_lev (hd:t.dummies=#[]) (F:FullL t.mask) {j0:Nat} (hj:j0≤t.mask) (hs:t.slot j0=.empty):∀ (k fuel i perturb:Nat),i≤t.mask→perturb<32 ^ k→10 * (k+t.mask+1)<fuel→FoundE t ((SetTable.probe.go t (fun _=>h+1) h) fuel (baseP t.mask i perturb))
 | 0,fuel,i,perturb,hi,hp,hf=>by
  have:perturb=0:=by simp at hp;exact hp
  subst this
  exact cyc hd F hj hs _ fuel i hi rfl (by have:=dist_le t.mask (t.mask+1) i j0;omega)
 | k+1,fuel,i,perturb,hi,hp,hf=>by
  have hr:=runEnd_le t.mask i
  rcases run_or (t:=t) (h:=h) hd (SetTable.runEnd t.mask i - i) fuel i i perturb (by omega)with q | q
  ·exact q
  ·show FoundE t ((SetTable.probe.go t (fun _=>h+1) h) fuel { j:=i,more:=SetTable.runEnd t.mask i - i,i:=i,perturb:=perturb,dummy:=none })
   rw[q]
   have hpp:perturb / 32<32 ^ k:=by rw[Nat.div_lt_iff_lt_mul (by decide)];rw[Nat.pow_succ]at hp;exact hp
   exact probe_lev hd F hj hs k _ _ _ (by have:=Nat.mod_lt (i * 5+1+perturb / 32) (show 0<t.mask+1 by omega);show (i * 5+1+perturb / 32) % (t.mask+1)≤t.mask;omega) hpp (by omega)
theorem bits_lt (h:Int):SetTable.bits h<32 ^ 13:=by
 unfold SetTable.bits
 have h1:=Int.emod_lt_of_pos h (show (0:Int)<2 ^ 64 by decide)
 have h2:=Int.emod_nonneg h (show (2 ^ 64:Int)≠0 by decide)
 have:(32:Nat) ^ 13=36893488147419103232:=by decide
 rw[this]
 have e:(2:Int) ^ 64=18446744073709551616:=by decide
 rw[e]at h1 h2 ⊢
 omega
theorem spare {t:SetTable} (hn:t.place.size≤t.mask):∃ j,j≤t.mask∧j∉t.place.toList:=by
 apply Classical.byContradiction
 intro hc
 have hsub:List.range (t.mask+1) ⊆ t.place.toList:=fun j hj=>Classical.byContradiction fun q=>hc ⟨j,by have:=List.mem_range.mp hj;omega,q⟩
 have:=List.nodup_range.length_le_of_subset hsub
 rw[List.length_range,Array.length_toList]at this
 omega
theorem freeSlot_some (hd:t.dummies=#[]) (F:FullL t.mask) (hn:t.place.size≤t.mask):∃ j,t.freeSlot h=some (j,false)∧t.slot j=.empty:=by
 obtain⟨j0,hj,hm⟩:=spare hn
 have:=probe_lev (h:=h) hd F hj (slot_free hd hm) 13 (10 * SetTable.turns t.mask) (SetTable.bits h % (t.mask+1)) (SetTable.bits h) (by have:=Nat.mod_lt (SetTable.bits h) (show 0<t.mask+1 by omega);omega) (bits_lt h) (by unfold SetTable.turns;omega)
 obtain⟨j,e,hs⟩:=this
 refine⟨j,?_,hs⟩
 unfold SetTable.freeSlot
 have e2:t.probe (fun _=>h+1) h (t.probeStart h)=some (.empty j none):=e
 rw[e2]
 rfl
end
end L2
namespace L2
open PySem PySem.Spec PyProof.Rows
structure TabG (w:World) (t:SetTable) (n:Nat):Prop where
 plain:t.plain=true
 led:t.led=true∨w.params.followText "set-order"=true
 dum:t.dummies=#[]
 up:UpA t.place
 sz:t.place.size=n
 msk:(t.mask=7∧n≤4)∨(t.mask=31∧n≤18)
theorem TabG.fresh {w:World} {led:Bool} (h:led=true∨w.params.followText "set-order"=true):TabG w (.fresh 0 0 led) 0 :=
 ⟨rfl,h,rfl,.nil,rfl,.inl ⟨rfl,by decide⟩⟩
theorem TabG.full {w:World} {t:SetTable} {n:Nat} (T:TabG w t n):FullL t.mask:=by
 rcases T.msk with ⟨e,_⟩ | ⟨e,_⟩
 ·rw[e];exact full7
 ·rw[e];exact full31
theorem TabG.lay {w:World} {t:SetTable} {n:Nat} (T:TabG w t n) (es:Array (Int×Value)) (hn:es.size=n) (h:Int) (x:Value) :
 ∃ es' t',layNew t es h x=(es',t',false,false)∧t'.plain=true∧t'.led=t.led∧t'.dummies=#[]∧UpA t'.place∧t'.place.size=n+1∧t'.mask=t.mask:=by
 have hm:t.place.size≤t.mask:=by rw[T.sz];rcases T.msk with ⟨e,q⟩ | ⟨e,q⟩ <;> omega
 obtain⟨j,e,hs⟩:=freeSlot_some (h:=h) T.dum T.full hm
 have hz:(t.put j).1.place.size=n+1:=by
  show (SetTable.insertAt t.place (SetTable.below t.place j) j).size=n+1
  rw[← Array.length_toList,(SetTable.insertAt_perm ..).length_eq,Array.length_toList,Array.size_push,T.sz]
 have hd:(t.put j).1.dummies=#[]:=by
  show (if SetTable.has t.dummies j then _ else t.dummies)=#[]
  rw[T.dum,if_neg (by unfold SetTable.has;simp)]
 have hez:(SetTable.insertAt es (t.put j).2 (h,x)).size=n+1:=by
  rw[← Array.length_toList,(SetTable.insertAt_perm ..).length_eq,Array.length_toList,Array.size_push,hn]
 have hmk:(t.put j).1.mask=t.mask:=rfl
 have hf:(t.put j).1.fits (SetTable.insertAt es (t.put j).2 (h,x)).size=true:=by
  unfold SetTable.fits SetTable.fill
  rw[hez,hz,hd,hmk]
  rcases T.msk with ⟨e,q⟩ | ⟨e,q⟩
  ·rw[e];simp;omega
  ·rw[e];simp;omega
 refine⟨SetTable.insertAt es (t.put j).2 (h,x),(t.put j).1,?_,T.plain,rfl,hd,put_up T.up hs,hz,rfl⟩
 unfold layNew
 rw[e]
 dsimp only
 unfold SetTable.orStandIn
 rw[if_pos hf,hf]
 rfl
end L2
namespace L2
open PySem PySem.Spec PyProof.Rows
section
variable {prog:Program} {w:World} {A:Around} {E:Value→Shared→Prop} {s:Shared}
theorem TabG.fits {t:SetTable} {n:Nat} (T:TabG w t n):t.fits n=true:=by
 unfold SetTable.fits SetTable.fill
 rw[T.sz,T.dum]
 rcases T.msk with ⟨e,q⟩ | ⟨e,q⟩ <;> (rw[e];simp;omega)
end
end L2
namespace L2
open PySem PySem.Spec PyProof.Rows
section
variable {prog:Program} {w:World} {A:Around} {R:Result→Shared→Prop} {I:Addr} {fp wr:List Addr} {G:Array GenState→Array GenState→Prop} {n:Nat} {P:Nat→Value→Prop} {St:Nat→Shared→Prop}
end
section
variable {prog:Program} {w:World} {A:Around} {E:Value→Shared→Prop} {s:Shared}
end
end L2
namespace L2
open PySem PySem.Spec PyProof.Rows
section
variable {prog:Program} {w:World} {A:Around} {E:Value→Shared→Prop} {s:Shared}
end
end L2
namespace L2
open PySem PySem.Spec PyProof.Rows
section
variable {prog:Program} {w:World} {A:Around} {E:Value→Shared→Prop} {s:Shared}
end
end L2
namespace L2
open PySem PySem.Spec PyProof.Rows
noncomputable def dedupI (ns:List Int):List Int:=firstMet (fun i=>ns.getD i 0) ns.length
section
variable {X:Cx}
end
end L2
namespace L2
open PySem PySem.Spec PyProof.Rows
theorem perm_of_sub {α:Type} [DecidableEq α]:∀ {l1 l2:List α},l1.Nodup→l1 ⊆ l2→l2.length≤l1.length→l1.Perm l2
 | [],l2,_,_,h=>by
  have:l2=[]:=List.eq_nil_of_length_eq_zero (by simpa using h)
  rw[this]
 | x :: l1,l2,hn,hs,h=>by
  rw[List.nodup_cons]at hn
  have hx:x∈l2:=hs List.mem_cons_self
  refine(List.Perm.cons x (perm_of_sub hn.2 (fun y hy=>?_) ?_)).trans (List.perm_cons_erase hx).symm
  ·have hne:y≠x:=fun e=>hn.1 (e ▸ hy)
   exact(List.mem_erase_of_ne hne).mpr (hs (List.mem_cons_of_mem _ hy))
  ·rw[List.length_erase_of_mem hx]
   simp only[List.length_cons]at h
   omega
theorem firstMet_nodup (val:Nat→Int):∀ i,(firstMet val i).Nodup
 | 0=>by rw[firstMet_zero];exact .nil
 | i+1=>by
  rw[firstMet_succ];unfold step_dedup
  split
  ·exact firstMet_nodup val i
  ·rename_i h
   rw[List.nodup_append]
   refine⟨firstMet_nodup val i,by simp,fun a ha b hb e=>h ?_⟩
   rw[List.mem_singleton]at hb
   rw[List.any_eq_true]
   exact⟨a,ha,by rw[e,hb];simp⟩
theorem dedup_nodup (ns:List Int):(dedupI ns).Nodup:=firstMet_nodup _ _
theorem dedup_mem (ns:List Int) (k:Int):k∈dedupI ns↔k∈ns:=by
 have e:=firstMet_any (fun i=>ns.getD i 0) ns.length k
 have h1:k∈dedupI ns↔(dedupI ns).any (· == k)=true:=by
  rw[List.any_eq_true]
  exact⟨fun h=>⟨k,h,by simp⟩,fun⟨x,h,q⟩=>by rw[beq_iff_eq]at q;exact q ▸ h⟩
 rw[h1]
 show (firstMet (fun i=>ns.getD i 0) ns.length).any (· == k)=true↔_
 rw[e,List.any_eq_true]
 constructor
 ·rintro ⟨x,hx,q⟩
  rw[beq_iff_eq]at q
  obtain⟨i,hi,rfl⟩:=List.mem_map.mp hx
  have hi2:=List.mem_range.mp hi
  rw[← q]
  show ns.getD i 0∈ns
  rw[List.getD_eq_getElem?_getD,List.getElem?_eq_getElem hi2]
  exact List.getElem_mem hi2
 ·intro h
  obtain⟨i,hi,e⟩:=List.getElem_of_mem h
  exact⟨k,List.mem_map.mpr ⟨i,List.mem_range.mpr hi,by show ns.getD i 0=k;rw[List.getD_eq_getElem?_getD,List.getElem?_eq_getElem hi];exact e⟩,by simp⟩
section
variable {prog:Program} {w:World} {A:Around} {E:Value→Shared→Prop} {s:Shared}
variable {X:Cx} {e:Expr} {es:List Expr} {t:TA} {x y:Str} {p p2 pos pos2:Pos}
end
end L2
namespace L2
open PySem PySem.Spec PyProof.Rows
section
variable {X:Cx}
end
end L2
namespace L2
open PySem PySem.Spec PyProof.Rows PySem.MeetsSeq
section
variable {X:Cx}
end
end L2
namespace L2
open PySem PySem.Spec PyProof.Rows
section
variable {X:Cx}
noncomputable def CMulB (i j:Int):Prop:=(0≤i∧i<2 ^ 20000)∧(0≤j∧j<2 ^ 20000)
theorem bits_b {i:Int} (h0:0≤i) (h1:i<2 ^ 20000):Builtin.Int.intBits i≤2 ^ 20:=by
 unfold Builtin.Int.intBits
 split
 ·omega
 ·have h2:i.natAbs<2 ^ 20000:=by
   have e:((i.natAbs:Nat):Int)<((2 ^ 20000:Nat):Int):=by
    rw[Int.natAbs_of_nonneg h0,Int.natCast_pow]
    exact h1
   exact Int.ofNat_lt.mp e
  have hne:i.natAbs≠0:=fun e=>by
   have:i=0:=Int.natAbs_eq_zero.mp e
   subst this
   rename_i q
   exact q rfl
  have:=(Nat.log2_lt hne).mpr h2
  have e:(2:Nat) ^ 20=1048576:=by decide
  omega
theorem CMulB.ok {i j:Int} (h:CMulB i j):IntMulOk i j:=.of_bits (bits_b h.1.1 h.1.2) (bits_b h.2.1 h.2.2)
end
end L2
namespace CW
open PySem L2
noncomputable def chW (room:Int):Nat→Int
 | 0=>1
 | n+1=>chW room n * (room+((n:Int)+1)) / ((n:Int)+1)
noncomputable def chO (n:Nat) (room:Int):Int:=if room<0 then 0 else chW room n
noncomputable def lesN (ns:List Int) (m:Int):Int:=(ns.map fun o=>if o<m then o else m).sum
noncomputable def roomM (niches:Int) (ns:List Int) (m:Int):Int:=niches - 2 * lesN ns m
noncomputable def howM (niches:Int) (ns ms:List Int):Int:=ms.foldl (fun a m=>a * chO (ns.count m) (roomM niches ns m)) 1
structure SzOk (ns:List Int):Prop where
 pos:∀ n∈ns,1≤n
 sum:ns.sum≤60
 len:ns.length≤60
 few:(dedupI ns).length≤18
structure Dst (ns ms:List Int):Prop where
 perm:ms.Perm (dedupI ns)
 up:ms.Pairwise (·<·)
theorem Dst.mem {ns ms:List Int} (d:Dst ns ms) {m:Int}:m∈ms↔m∈ns:=d.perm.mem_iff.trans (dedup_mem ns m)
theorem Dst.eq {ns ns' ms ms':List Int} (d:Dst ns ms) (d':Dst ns' ms') (h:∀ m,m∈ns↔m∈ns'):ms=ms':=by
 have p:ms.Perm ms':=perm_of_sub (d.up.imp fun h=>Int.ne_of_lt h) (fun m hm=>d'.mem.mpr ((h m).mp (d.mem.mp hm))) (by
  rw[d'.perm.length_eq,d.perm.length_eq]
  exact(dedup_nodup ns').length_le_of_subset fun m hm=>(dedup_mem ns m).mpr ((h m).mpr ((dedup_mem ns' m).mp hm)))
 exact sorted_unique p (d.up.imp Int.le_of_lt) (d'.up.imp Int.le_of_lt)
theorem Dst.pos {ns ms:List Int} (d:Dst ns ms) (h:SzOk ns):∀ m∈ms,1≤m:=fun m hm=>h.pos m (d.mem.mp hm)
theorem Dst.len {ns ms:List Int} (d:Dst ns ms) (h:SzOk ns):ms.length≤18:=by rw[d.perm.length_eq];exact h.few
end CW
namespace CW
open PySem L2
theorem SzOk.nil:SzOk []:=⟨fun n hn=>absurd hn List.not_mem_nil,by decide,by decide,by decide⟩
theorem Dst.nil {ms:List Int} (d:Dst [] ms):ms=[]:=by
 apply List.eq_nil_iff_forall_not_mem.mpr
 intro m hm
 have:=d.mem.mp hm
 cases this
end CW
namespace CW
open PySem L2
noncomputable def Sob (r:List Int):Prop:=∀ (i:Nat) (x:Int),r[i]?=some x→2 * ((i:Int)+1)≤x
theorem Sob.snoc {r:List Int} {p:Int}:Sob (r++[p])↔Sob r∧2 * ((r.length:Int)+1)≤p:=by
 constructor
 ·intro h
  refine⟨fun i x e=>h i x ?_,h r.length p ?_⟩
  ·rw[List.getElem?_append_left (List.getElem?_eq_some_iff.mp e).1];exact e
  ·rw[List.getElem?_append_right (Nat.le_refl _),Nat.sub_self];rfl
 ·rintro ⟨h1,h2⟩ i x e
  rw[List.getElem?_append]at e
  split at e
  ·exact h1 i x e
  ·rename_i q
   rcases Nat.lt_or_ge (i - r.length) 1 with z | z
   ·have:i=r.length:=by omega
    subst this
    rw[Nat.sub_self]at e
    cases e
    exact h2
   ·rw[List.getElem?_eq_none (by simpa using z)]at e;cases e
theorem lesN_les (ps:Trs) (m:Int):lesN (ps.map (·.1)) m=les ps m:=by
 unfold lesN les
 rw[List.map_map]
 congr 1
 refine List.map_congr_left fun q _=>?_
 simp only[Function.comp]
 split <;> omega
end CW
namespace CW
open PySem L2
noncomputable def hlf (ws:Trs):Trs:=ws.map fun q=>(q.1,q.2 / 3)
end CW
namespace CW
open PySem L2
section
variable {P:Program} {w:World} {K:PySem.W.Frag} {mg:Str→Option Value} {base:Heap}
noncomputable def Rf (E:XK) (C:Addr) (fs:List (Str×V)) (H:Hp):Prop:=∀ dx,H dx=none→E (.ref C) (some dx) (upd H dx (.xd fs))
noncomputable def Rf0 (E:XK) (C:Addr) (nm:Str) (H:Hp):Prop:=Rf E C [("word",.str nm)] H
noncomputable def RfI (E:XK) (C:Addr) (nm:Str) (i:Int) (H:Hp):Prop:=Rf E C [("at",.int i),("word",.str nm)] H
noncomputable def xgIn (K:PySem.W.Frag) (C:Addr) (f:Str):Bool:=PySem.W.findIn K (.ref C) "__getattribute__" == some (some (.builtin "BaseException.__getattribute__")) && PySem.W.findIn K (.ref C) "__getattr__" == some none &&
 PySem.W.subIn K (.ref C) (.type "BaseException") == some true && PySem.W.hasDictIn K C && PySem.W.findIn K (.ref C) f == some none
structure Errs (K:PySem.W.Frag) (mg:Str→Option Value) where
 row:Addr
 trains:Addr
 sizes:Addr
 many:Addr
 creel:Addr
 number:Addr
 near:Addr
 bare:Addr
 err:Addr
 m_row:mg "BadRow"=some (.ref row)
 m_trains:mg "BadTrains"=some (.ref trains)
 m_sizes:mg "BadSizes"=some (.ref sizes)
 m_many:mg "TooMany"=some (.ref many)
 m_creel:mg "BadCreel"=some (.ref creel)
 m_number:mg "BadNumber"=some (.ref number)
 m_near:mg "TooNear"=some (.ref near)
 m_bare:mg "Bare"=some (.ref bare)
 m_err:mg "CreelError"=some (.ref err)
noncomputable def metIn (K:PySem.W.Frag):List Addr→Bool
 | []=>true
 | a :: l=>PySem.W.exmOne K (.ref a) (.ref a) == some true && l.all (fun b=>PySem.W.exmOne K (.ref b) (.ref a) == some false) && metIn K l
structure Sees (X:Errs K mg):Prop where
 met:metIn K [X.row,X.trains,X.sizes,X.many,X.creel,X.number,X.near,X.bare]=true
 g1:xgIn K X.row "at"=true
 g2:xgIn K X.trains "at"=true
 g3:xgIn K X.sizes "at"=true
 e1:PySem.W.exmOne K (.ref X.row) (.ref X.err)=some true
 e4:PySem.W.exmOne K (.ref X.many) (.ref X.err)=some true
theorem Sees.all {X:Errs K mg} (Z:Sees X):PySem.W.exmOne K (.ref X.row) (.ref X.row)=some true∧PySem.W.exmOne K (.ref X.trains) (.ref X.trains)=some true∧PySem.W.exmOne K (.ref X.sizes) (.ref X.sizes)=some true∧PySem.W.exmOne K (.ref X.many) (.ref X.many)=some true∧PySem.W.exmOne K (.ref X.creel) (.ref X.creel)=some true∧PySem.W.exmOne K (.ref X.number) (.ref X.number)=some true∧PySem.W.exmOne K (.ref X.near) (.ref X.near)=some true∧PySem.W.exmOne K (.ref X.bare) (.ref X.bare)=some true∧PySem.W.exmOne K (.ref X.trains) (.ref X.row)=some false∧PySem.W.exmOne K (.ref X.sizes) (.ref X.row)=some false∧PySem.W.exmOne K (.ref X.sizes) (.ref X.trains)=some false∧PySem.W.exmOne K (.ref X.many) (.ref X.row)=some false∧PySem.W.exmOne K (.ref X.many) (.ref X.trains)=some false∧PySem.W.exmOne K (.ref X.many) (.ref X.sizes)=some false∧PySem.W.exmOne K (.ref X.creel) (.ref X.row)=some false∧PySem.W.exmOne K (.ref X.creel) (.ref X.trains)=some false∧PySem.W.exmOne K (.ref X.creel) (.ref X.sizes)=some false∧PySem.W.exmOne K (.ref X.creel) (.ref X.many)=some false∧PySem.W.exmOne K (.ref X.number) (.ref X.row)=some false∧PySem.W.exmOne K (.ref X.number) (.ref X.trains)=some false∧PySem.W.exmOne K (.ref X.number) (.ref X.sizes)=some false∧PySem.W.exmOne K (.ref X.number) (.ref X.many)=some false∧PySem.W.exmOne K (.ref X.number) (.ref X.creel)=some false∧PySem.W.exmOne K (.ref X.near) (.ref X.row)=some false∧PySem.W.exmOne K (.ref X.near) (.ref X.trains)=some false∧PySem.W.exmOne K (.ref X.near) (.ref X.sizes)=some false∧PySem.W.exmOne K (.ref X.near) (.ref X.many)=some false∧PySem.W.exmOne K (.ref X.near) (.ref X.creel)=some false∧PySem.W.exmOne K (.ref X.near) (.ref X.number)=some false∧PySem.W.exmOne K (.ref X.bare) (.ref X.row)=some false∧PySem.W.exmOne K (.ref X.bare) (.ref X.trains)=some false∧PySem.W.exmOne K (.ref X.bare) (.ref X.sizes)=some false∧PySem.W.exmOne K (.ref X.bare) (.ref X.many)=some false∧PySem.W.exmOne K (.ref X.bare) (.ref X.creel)=some false∧PySem.W.exmOne K (.ref X.bare) (.ref X.number)=some false∧PySem.W.exmOne K (.ref X.bare) (.ref X.near)=some false:=by
 have h:=Z.met
 simp only[metIn,List.all_cons,List.all_nil,Bool.and_eq_true,Bool.and_true,beq_iff_eq]at h
 simp only[h,and_self]
noncomputable def Good (row:List Int):Prop:=∀ j,1≤j→j<row.length→row.getD (j - 1) 0<row.getD j 0
noncomputable def BadAt (row:List Int) (i:Nat):Prop:=1≤i∧i<row.length∧row.getD i 0≤row.getD (i - 1) 0∧∀ j,1≤j→j<i→row.getD (j - 1) 0<row.getD j 0
inductive WhyRow (row:List Int):Str→Int→Prop where
 | many:60<row.length→WhyRow row "TooMany" 0
 | good:row.length≤60→Good row→WhyRow row "" 0
 | bad {i:Nat}:row.length≤60→BadAt row i→WhyRow row "BadRow" i
structure FunC (K:PySem.W.Frag) (x qual:Str) (st:Stmt) (f:Addr) (fd:FuncData) (c:Addr):Prop where
 ex:∃ (oc:Value) (od:Option Addr) (kV doc pm:Value) (an:Option Addr) (ct:Value) (osl:Array (Option Value)),
  fd=PySem.W.fnOf x qual (defArgs st) (defBody st) (defScope st) .none kV doc pm an (.ref c) ct∧K.lookup f=some ⟨oc,od,.func fd,osl⟩∧PySem.W.codeIn K (.ref c) qual=true
theorem FunC.ok {x qual:Str} {st:Stmt} {f c:Addr} {fd:FuncData} {N ps:List Str} {k:Nat} {sp:Sp} (F:FunC K x qual st f fd c) (S:FnScope N ps (defScope st)) (len:∀ vs H Q E,sp vs H Q E→vs.length=ps.length)
 (hbody:∀ (A:Around) (outer:List Env) (s:Shared) (H:Hp) (vs:List V) (Q:VK) (E:XK),Room k (A.deeper (PyProof.Rows.envOfC qual (defScope st) s.heap.objs.size f (.ref c)))→sp vs H Q E →
  ∃ t,PSs (cxOf CX0 P w K mg base N qual (defScope st) f (.ref c) A outer s H E).nox (defBody st) t∧t { nx:=fun _ H'=>Q .non H',rt:=Q } (start N vs) H):FnOk P w K mg base CX0 (k+1) f fd ps sp:=by
 obtain⟨oc,od,kV,doc,pm,an,ct,osl,rfl,lk,hcd⟩:=F.ex
 refine fn_of lk hcd S len fun A outer s H vs Q E hr hsp=>?_
 obtain⟨t,h,q⟩:=hbody A outer s H vs Q E hr hsp
 exact⟨t,h.nox,q⟩
noncomputable def SameP (P:Addr) (H H':Hp):Prop:=∀ b o,b≠P→H b=some o→H' b=some o
theorem _root_.L2.Same.toP {P:Addr} {H H':Hp} (h:Same H H'):SameP P H H':=fun b o _ e=>h b o e
theorem SameP.trans {P:Addr} {H H1 H2:Hp} (a:SameP P H H1) (b:SameP P H1 H2):SameP P H H2:=fun c o n h=>b c o n (a c o n h)
theorem SameP.tbl {P:Addr} {H:Hp} {o:HO}:SameP P H (upd H P o):=fun b o n h=>by rw[upd_ne n];exact h
theorem tbl_ne {H:Hp} {P b:Addr} {ps:Array Value} {o:HO} (h:H P=some (.tbl ps)) (e:H b=some o) (n:∀ qs,o≠.tbl qs):b≠P:=fun z=>by rw[z,h]at e;cases e;exact n _ rfl
noncomputable def spLawT (K:PySem.W.Frag) (P:Addr):Sp:=fun vs H Q _=>∃ (a:Addr) (ns:List Int),vs=[.ref a]∧H P=some (.tbl #[])∧SqL K H a (ns.map V.int)∧ns.length≤63∧∀ H',Q (.bl true) H'
theorem WhyRow.ok {row:List Int} {nm:Str} {i:Int} (W:WhyRow row nm i):PyData.strOk nm=true:=by
 cases W <;> decide +kernel
theorem WhyRow.eqv {row:List Int} {nm:Str} {i:Int} (W:WhyRow row nm i):PyData.eqv (.str nm) (.str "")=decide (nm=""):=by
 cases W <;> decide +kernel
end
end CW
namespace CW
open PySem L2
inductive Ref where
 | ok | many | row (i:Int) | trains (i:Int) | sizes (i:Int) | creel | number | near | bare
noncomputable def Ref.nm:Ref→Str
 | .ok=>"" | .many=>"TooMany" | .row _=>"BadRow" | .trains _=>"BadTrains" | .sizes _=>"BadSizes" | .creel=>"BadCreel" | .number=>"BadNumber" | .near=>"TooNear" | .bare=>"Bare"
noncomputable def Ref.at:Ref→Int
 | .row i=>i | .trains i=>i | .sizes i=>i | _=>0
theorem Ref.strOk (r:Ref):PyData.strOk r.nm=true:=by cases r <;> simp only[Ref.nm] <;> decide +kernel
section
variable {P:Program} {w:World} {K:PySem.W.Frag} {mg:Str→Option Value} {base:Heap}
noncomputable def Ref.go (X:Errs K mg) (E:XK) (H:Hp):Ref→Prop
 | .ok=>False
 | .many=>Rf0 E X.many "TooMany" H
 | .row i=>RfI E X.row "BadRow" i H
 | .trains i=>RfI E X.trains "BadTrains" i H
 | .sizes i=>RfI E X.sizes "BadSizes" i H
 | .creel=>Rf0 E X.creel "BadCreel" H
 | .number=>Rf0 E X.number "BadNumber" H
 | .near=>Rf0 E X.near "TooNear" H
 | .bare=>Rf0 E X.bare "Bare" H
section
variable {X:Errs K mg} {row:List Int} {c p:Int} {H:Hp} {Q:VK} {lh t0:Addr}
end
end
end CW
namespace CW
open PySem L2
section
variable {P:Program} {w:World} {K:PySem.W.Frag} {mg:Str→Option Value} {base:Heap}
end
end CW
namespace CW
open PySem L2
section
variable {P:Program} {w:World} {K:PySem.W.Frag} {mg:Str→Option Value} {base:Heap}
end
end CW
namespace CW
open PySem L2
end CW
namespace L2
open PySem PySem.W PySem.Spec PyProof.Rows
section
variable {prog:Program} {w:World} {A:Around} {R:Result→Shared→Prop} {I S:Addr} {fp:List Addr} {P:Nat→Value→Prop} {St:Nat→Heap→Prop} {d:Value} {ns:List Int}
end
section
variable {X:Cx} {e f:Expr} {te tf:TE} {p pos kp:Pos}
end
end L2
namespace L2
open PySem PySem.Spec PyProof.Rows
end L2
namespace CW
open PySem L2
end CW
namespace CW
open PySem L2
end CW
namespace CW
end CW
namespace CW
open PySem L2
section
variable {P:Program} {w:World} {K:PySem.W.Frag} {mg:Str→Option Value} {base:Heap}
noncomputable def TabOk (PT:Addr) (lpos:Pos) (qual:Str) (H:Hp):Prop:=∃ ps,H PT=some (.tbl ps)∧TriplesOk ps.toList∧(codeAmong lpos ps.toList=none∨∃ c',codeAmong lpos ps.toList=some (.ref c')∧H c'=some (CodeX c' qual))
noncomputable def SameL (PT:Addr) (H H':Hp):Prop:=∀ b o,b≠PT→(∀ φ,o≠.ext φ)→H b=some o→H' b=some o
theorem SameL.trans {PT:Addr} {H H1 H2:Hp} (a:SameL PT H H1) (b:SameL PT H1 H2):SameL PT H H2:=fun c o n x h=>b c o n x (a c o n x h)
theorem TabOk.mono {PT:Addr} {lpos:Pos} {qual:Str} {H H':Hp} (h:Same H H') (t:TabOk PT lpos qual H):TabOk PT lpos qual H':=by
 obtain⟨ps,h1,h2,h3⟩:=t
 exact⟨ps,h _ _ h1,h2,h3.imp id fun⟨c',e1,e2⟩=>⟨c',e1,h _ _ e2⟩⟩
end
end CW
namespace CW
open PySem L2
section
variable {P:Program} {w:World} {K:PySem.W.Frag} {mg:Str→Option Value} {base:Heap}
end
end CW
namespace CW
open PySem L2
end CW
namespace CW
open PySem L2
end CW
namespace CW
open PySem L2
noncomputable def offs (ps:Trs) (s:Int):List Int:=(ps.filter fun p=>decide (p.1=s)).map (·.2)
theorem offs_cons (p:Int×Int) (ps:Trs) (s:Int):offs (p :: ps) s=if p.1=s then p.2 :: offs ps s else offs ps s:=by
 unfold offs
 rw[List.filter_cons]
 by_cases h:p.1=s
 ·rw[if_pos (by simpa using h),if_pos h];rfl
 ·rw[if_neg (by simpa using h),if_neg h]
end CW
namespace CW
open PySem L2
end CW
namespace CW
open PySem L2
end CW
namespace CW
open PySem L2
theorem DG.keep {H H':Hp} {d:Addr} {gs:List Grp} (dg:DG H d gs) (s:Same H H'):DG H' d gs:=⟨s _ _ dg.at_,fun g hg=>s _ _ (dg.lst g hg),dg.adr,dg.key⟩
end CW
namespace CW
open PySem L2
end CW
namespace CW
open PySem L2
end CW
namespace CW
open PySem L2
end CW
namespace L2
open PySem PySem.Spec PyProof.Rows
section
variable {X:Cx}
end
end L2
namespace L2
open PySem PySem.Spec PyProof.Rows
section
variable {X:Cx} {pins:List (Addr×Obj)} {σ:St} {H H':Hp} {s:Shared} {h':Heap}
theorem Inv.many {t':Nat} (I:Inv X pins σ H s) (k:∀ b u,s.heap.get? b=some u→h'.get? b=some u) (ext:∀ b o,H b=some o→H' b=some o) (new:∀ b o,H' b=some o→H b=none→s.heap.objs.size≤b) (hok:∀ b o,H' b=some o→H b=none→ObjOk X.prog X.w H' h' b o)
 (old:∀ b o,H b=some o→ObjOk X.prog X.w H' h' b o):Inv X pins σ H' { s with heap:=h',toks:=t' }:=by
 refine I.un (H':=H') ⟨fun b o e n _ _=>k b o e,fun b o e n _ _=>⟨o.slots,k b o e⟩,fun b o e n _=>?_,fun b o e _=>⟨o,k b o e⟩,fun b xs e=>ext b _ e,fun b o u e=>ext b _ e,fun b ps e=>⟨#[],by rw[ext b _ e];simp⟩⟩ (fun b o e=>?_)
 ·cases q:H' b with
  | none=>rfl
  | some o'=>exact absurd (Heap.lt_size e) (Nat.not_lt.mpr (new b o' q n))
 ·cases q:H b with
  | none=>exact hok b o e q
  | some o' =>
   have:=ext b o' q
   rw[e]at this
   cases this
   exact old b o q
end
end L2
namespace L2
open PySem PySem.Spec PyProof.Rows
section
variable {prog:Program} {w:World} {A:Around} {E:Value→Shared→Prop} {s:Shared}
end
end L2
namespace L2
open PySem PySem.Spec PyProof.Rows
structure TsOk (h:Heap) (b0:Nat) (no:List Addr) (xs ys:Array Value) (Ts:List Addr):Prop where
 at_:∀ (j:Nat) (T:Addr),Ts[j]?=some T→∃ x y,xs[j]?=some x∧ys[j]?=some y∧IsPair h T x y
 new:∀ T∈Ts,b0≤T∧T∉no
 nd:Ts.Nodup
theorem TsOk.keep {h h':Heap} {b0:Nat} {no:List Addr} {xs ys:Array Value} {Ts:List Addr} (t:TsOk h b0 no xs ys Ts) (k:∀ c o,c∉no→h.get? c=some o→h'.get? c=some o):TsOk h' b0 no xs ys Ts :=
 ⟨fun j T e=>let ⟨x,y,h1,h2,h3⟩:=t.at_ j T e;⟨x,y,h1,h2,k T _ (t.new T (List.mem_of_getElem? e)).2 h3⟩,t.new,t.nd⟩
theorem TsOk.lt {h:Heap} {b0:Nat} {no:List Addr} {xs ys:Array Value} {Ts:List Addr} (t:TsOk h b0 no xs ys Ts) {T:Addr} (e:T∈Ts):T<h.objs.size:=by
 obtain⟨j,hj⟩:=List.mem_iff_getElem?.mp e
 obtain⟨x,y,_,_,h3⟩:=t.at_ j T hj
 exact Heap.lt_size h3
theorem TsOk.snoc {h:Heap} {b0:Nat} {no:List Addr} {xs ys:Array Value} {Ts:List Addr} {T:Addr} {x y:Value} (t:TsOk h b0 no xs ys Ts) (hx:xs[Ts.length]?=some x) (hy:ys[Ts.length]?=some y) (hT:IsPair h T x y) (hb:b0≤T) (hno:T∉no) (hn:T∉Ts):TsOk h b0 no xs ys (Ts++[T]):=by
 refine⟨fun j T' e=>?_,fun T' e=>?_,?_⟩
 ·rw[List.getElem?_append]at e
  split at e
  ·exact t.at_ j T' e
  ·rename_i q
   have:j=Ts.length:=by
    rcases Nat.lt_or_ge (j - Ts.length) 1 with z | z
    ·omega
    ·rw[List.getElem?_eq_none (by simpa using z)]at e;cases e
   subst this
   rw[Nat.sub_self]at e
   cases e
   exact⟨x,y,hx,hy,hT⟩
 ·rcases List.mem_append.mp e with q | q
  ·exact t.new T' q
  ·rw[List.mem_singleton.mp q];exact⟨hb,hno⟩
 ·rw[List.nodup_append]
  exact⟨t.nd,by simp,fun a ha b hb' e=>hn (by rw[List.mem_singleton]at hb';rw[← hb',← e];exact ha)⟩
section
variable {prog:Program} {w:World} {A:Around} {R:Result→Shared→Prop}
end
end L2
namespace L2
open PySem PySem.W PySem.Spec PyProof.Rows
section
variable {prog:Program} {w:World} {A:Around} {E:Value→Shared→Prop} {R:Result→Shared→Prop} {s:Shared}
end
end L2
namespace L2
open PySem PySem.W PySem.Spec PyProof.Rows
structure ZS (h:Heap) (z TI TO i1 i2 l1 l2:Addr) (xs ys:Array Value) (a b:Value):Prop where
 hz:IsZip h z TI TO .none
 hTI:IsPair h TI (.ref i1) (.ref i2)
 hTO:IsPair h TO a b
 h1:h.IsListIter i1 l1 0
 h2:h.IsListIter i2 l2 0
 hl1:h.IsList l1 xs
 hl2:h.IsList l2 ys
theorem ZS.keep {h h':Heap} {z TI TO i1 i2 l1 l2 S:Addr} {xs ys:Array Value} {a b:Value} (q:ZS h z TI TO i1 i2 l1 l2 xs ys a b) (hS:S≠z∧S≠TI∧S≠i1∧S≠i2∧S≠l1∧S≠l2) (hTS:S≠TO)
 (k:∀ c o,c≠S→h.get? c=some o→h'.get? c=some o):ZS h' z TI TO i1 i2 l1 l2 xs ys a b :=
 ⟨k _ _ hS.1.symm q.hz,k _ _ hS.2.1.symm q.hTI,k _ _ hTS.symm q.hTO,q.h1.at fun o e=>k _ o hS.2.2.1.symm e,q.h2.at fun o e=>k _ o hS.2.2.2.1.symm e,q.hl1.at fun o e=>k _ o hS.2.2.2.2.1.symm e,q.hl2.at fun o e=>k _ o hS.2.2.2.2.2.symm e⟩
section
variable {prog:Program} {w:World} {A:Around} {E:Value→Shared→Prop} {R:Result→Shared→Prop} {s:Shared}
end
end L2
namespace L2
open PySem PySem.W PySem.Spec PyProof.Rows
section
variable {X:Cx} {x y:Str} {a b:Expr} {ta:TA} {p p2 pos pos2:Pos}
end
end L2
namespace L2
open PySem PySem.W PySem.Spec PyProof.Rows
end L2
namespace CW
open PySem L2
noncomputable def BarAt (H:Hp) (v:V) (b:Str×Int):Prop:=∃ t,v=.ref t∧H t=some (.tup [.str b.1,.int b.2])
noncomputable abbrev Brs (H:Hp):List V→List (Str×Int)→Prop:=Paired (BarAt H)
theorem Brs.mono {H H':Hp} (h:TupS H H') {vs:List V} {ps:List (Str×Int)} (r:Brs H vs ps):Brs H' vs ps:=Paired.mapP r fun _ _ ⟨t,e,q⟩=>⟨t,e,h _ _ q⟩
noncomputable def bD (p:Str×Int):PyData:=.tuple [.str p.1,.int p.2]
theorem Brs.dens {H:Hp}:∀ {vs:List V} {ps:List (Str×Int)},Brs H vs ps→Dens H vs (ps.map bD)
 | _,_,.nil=>.nil
 | _,_,.cons ⟨t,e,q⟩ r=>by subst e;exact .cons (.tup q (.cons (.str _) (.cons (.int _) .nil))) (Brs.dens r)
theorem eqvI (x y:Int):PyData.eqv (.int x) (.int y)=decide (x=y):=by
 show (x == y)=decide (x=y)
 rw[Bool.eq_iff_iff];simp
section
variable {P:Program} {w:World} {K:PySem.W.Frag} {mg:Str→Option Value} {base:Heap} {CX:CXT}
end
end CW
namespace CW
open PySem L2
end CW
namespace CW
open PySem L2
end CW
namespace CW
open PySem L2
noncomputable def RwsA (H:Hp) (us:List V):Prop:=∀ v∈us,∃ (a:Addr) (r:List Int),v=.ref a∧H a=some (.lst (r.map V.int))∧Row r∧r.length≤40
theorem RwsA.mono {H H':Hp} {us:List V} (h:RwsA H us) (k:∀ (a:Addr) (r:List Int),H a=some (.lst (r.map V.int))→V.ref a∈us→H' a=some (.lst (r.map V.int))):RwsA H' us:=fun v hv=>by
 obtain⟨a,r,rfl,e,x⟩:=h v hv
 exact⟨a,r,rfl,k a r e hv,x⟩
end CW
namespace CW
open PySem L2
end CW
namespace CW
open PySem L2
theorem RwsA.add {Hx Hy:Hp} {us:List V} {r:List Int} {p l5:Addr} (e5:Hx l5=some (.lst us)) (hR:RwsA Hx us) (hp:Hx p=none) (g:Same Hx Hy) (ep:Hy p=some (.lst (r.map V.int))) (hrr:Row r) (hr40:r.length≤40) :
 RwsA (upd Hy l5 (.lst (us++[V.ref p]))) (us++[V.ref p]):=fun v hv=>by
 rcases List.mem_append.mp hv with h | h
 ·obtain⟨a,r',rfl,e,x⟩:=hR v h
  refine⟨a,r',rfl,?_,x⟩
  rw[upd_ne fun z=>?_]
  ·exact g _ _ e
  ·rw[z,e5]at e
   have e2:=Option.some.inj e
   have e3:us=r'.map V.int:=by injection e2
   rw[e3]at h
   obtain⟨n,_,hn⟩:=List.mem_map.mp h
   cases hn
 ·rw[List.mem_singleton.mp h]
  refine⟨p,r,rfl,?_,hrr,hr40⟩
  rw[upd_ne fun z=>by rw[z,e5]at hp;cases hp]
  exact ep
end CW
namespace CW
open PySem L2
end CW
namespace CW
open PySem L2
noncomputable def sw (room:Int) (k:Nat) (l:Int):Nat→Int
 | 0=>0
 | m+1=>sw room k l m+chO k (room - (l+(m:Int)))
noncomputable def rk (room:Int):Int→List Int→Int
 | _,[]=>0
 | l,o :: os=>sw room os.length l (o - l).toNat+rk room o os
noncomputable def Vld (room:Int):Int→List Int→Prop
 | _,[]=>True
 | l,o :: os=>l≤o∧o≤room∧Vld room o os
theorem offs_count (ps:Trs) (m:Int):(offs ps m).length=(ps.map (·.1)).count m:=by
 induction ps with
 | nil=>rfl
 | cons p ps ih =>
  rw[offs_cons,List.map_cons,List.count_cons]
  by_cases c:p.1=m
  ·rw[if_pos c,List.length_cons,ih];simp[c]
  ·rw[if_neg c,ih];simp[c]
end CW
namespace L2
open PySem PySem.Spec PyProof.Rows
end L2
namespace CW
open PySem L2
section
variable {P:Program} {w:World} {K:PySem.W.Frag} {mg:Str→Option Value} {base:Heap}
noncomputable def AllIn (niches:Int) (ps:Trs):Prop:=∀ q∈ps,0≤q.2∧q.2≤roomM niches (ps.map (·.1)) q.1
theorem AllIn.perm {niches:Int} {ps qs:Trs} (h:ps.Perm qs):AllIn niches ps→AllIn niches qs:=fun a q hq=>by
 have:=a q (h.mem_iff.mpr hq)
 unfold roomM at this ⊢
 rw[lesN_les]at this ⊢
 rw[← les_perm h]
 exact this
end
end CW
namespace CW
open PySem L2
end CW
namespace CW
open PySem L2
section
variable {K:PySem.W.Frag} {mg:Str→Option Value}
noncomputable def RwsC (H:Hp) (us:List V):Prop:=∀ v∈us,∃ (a:Addr) (r:List Int),v=.ref a∧H a=some (.lst (r.map V.int))∧Row r∧r.length≤60
theorem RwsC.same {H H':Hp} {us:List V} (h:RwsC H us) (s:Same H H'):RwsC H' us:=fun v hv=>by
 obtain⟨a,r,rfl,e,x⟩:=h v hv
 exact⟨a,r,rfl,s _ _ e,x⟩
theorem RwsC.add {Hx Hy:Hp} {us:List V} {r:List Int} {p l5:Addr} (e5:Hx l5=some (.lst us)) (hR:RwsC Hx us) (hp:Hx p=none) (g:Same Hx Hy) (ep:Hy p=some (.lst (r.map V.int))) (hrr:Row r) (hr40:r.length≤60) :
 RwsC (upd Hy l5 (.lst (us++[V.ref p]))) (us++[V.ref p]):=fun v hv=>by
 rcases List.mem_append.mp hv with h | h
 ·obtain⟨a,r',rfl,e,x⟩:=hR v h
  refine⟨a,r',rfl,?_,x⟩
  rw[upd_ne fun z=>?_]
  ·exact g _ _ e
  ·rw[z,e5]at e
   have e2:=Option.some.inj e
   have e3:us=r'.map V.int:=by injection e2
   rw[e3]at h
   obtain⟨n,_,hn⟩:=List.mem_map.mp h
   cases hn
 ·rw[List.mem_singleton.mp h]
  refine⟨p,r,rfl,?_,hrr,hr40⟩
  rw[upd_ne fun z=>by rw[z,e5]at hp;cases hp]
  exact ep
end
end CW
namespace CW
theorem Lst.lay {r:List Int} {ps:Trs} (h1:Lst r ps) {e g:Int} (he:∀ x∈r,x≤e) (hg:∀ q∈ps,q.1≤g) (hg1:1≤g):∀ L:Nat,Lst (r++rnn (e+g+1) L) (tr (L:Int) (e+g+(L:Int) - 2 * les ps (L:Int) - 2 * (L:Int)) ps)
 | 0=>by simpa[rnn,tr]using h1
 | L+1=>by
  have ih:=Lst.lay h1 he hg hg1 L
  have hb1:Bd ps e:=h1.bd he
  refine rnn_in (fun x hx=>by have:=he x hx;omega) ih (add_tr (s:=(L:Int)) (rest:=ps) (by omega) ?_ ?_ ?_)
  ·rw[les_tr (by omega) (by omega),show e+g+1+(L:Int) - 1 - 2 * (min (L:Int) (L:Int)+les ps (L:Int))=e+g+(L:Int) - 2 * les ps (L:Int) - 2 * (L:Int)by omega]
  ·intro q hq hgt
   rcases mem_tr hq with ⟨z,_⟩ | z
   ·rw[z]at hgt;exact absurd hgt (by simp)
   ·have h5:=(hb1 q z)
    have h6:=hg q z
    rw[les_tr (by omega) (by omega)]
    omega
  ·unfold tr
   rw[if_neg (by omega),show ((L+1:Nat):Int)=(L:Int)+1 by omega,show e+g+((L:Int)+1) - 2 * les ps ((L:Int)+1) - 2 * ((L:Int)+1)=e+g+1+(L:Int) - 2 * les ps ((L:Int)+1) - 2 * ((L:Int)+1)by omega]
theorem Lst.one (f:Int) (L:Nat):Lst (rnn f L) (tr (L:Int) (f - (L:Int) - 1) []):=by
 have:=Lst.lay Lst.nil (e:=f - 2) (g:=1) (fun x hx=>(nomatch hx)) (fun q hq=>(nomatch hq)) (Int.le_refl _) L
 rw[List.nil_append,les_nil,show f - 2+1+1=f by omega,show f - 2+1+(L:Int) - 2 * 0 - 2 * (L:Int)=f - (L:Int) - 1 by omega]at this
 exact this
end CW
namespace CW
open PySem L2
noncomputable def rr (S:Int):Trs→List Int
 | []=>[]
 | q :: B=>rnn (q.2+2 * S+q.1+1) q.1.toNat++rr (S+q.1) B
end CW
namespace CW
open PySem L2
theorem top_mark:∀ {ps:Trs} (f:Int×Int→Int),ps≠[]→∃ q∈ps,(∀ x∈ps,f x≤f q)∧∀ x∈ps,x.1<q.1→f x<f q
 | [],_,h=>absurd rfl h
 | [q],f,_=>⟨q,List.mem_cons_self,fun x hx=>by rw[List.mem_singleton.mp hx];exact Int.le_refl _,fun x hx h=>by rw[List.mem_singleton.mp hx]at h;exact absurd h (Int.lt_irrefl _)⟩
 | p :: q :: ps,f,_=>by
  obtain⟨m,hm,h1,h2⟩:=top_mark (ps:=q :: ps) f (by simp)
  by_cases c:f m<f p∨(f m=f p∧p.1≤m.1)
  ·refine⟨p,List.mem_cons_self,fun x h=>?_,fun x h hl=>?_⟩
   ·rcases List.mem_cons.mp h with e | e
    ·rw[e];exact Int.le_refl _
    ·have:=h1 x e;omega
   ·rcases List.mem_cons.mp h with e | e
    ·rw[e]at hl;exact absurd hl (Int.lt_irrefl _)
    ·have a:=h1 x e
     rcases c with c | ⟨c,d⟩
     ·omega
     ·have:=h2 x e (by omega);omega
  ·refine⟨m,List.mem_cons_of_mem _ hm,fun x h=>?_,fun x h hl=>?_⟩
   ·rcases List.mem_cons.mp h with e | e
    ·rw[e];omega
    ·exact h1 x e
   ·rcases List.mem_cons.mp h with e | e
    ·rw[e]at hl ⊢;omega
    ·exact h2 x e hl
theorem Tak.ex {ps:Trs} (hne:ps≠[]) (hp:∀ q∈ps,1≤q.1):∃ p qs,Tak ps p qs∧siz qs=siz ps - 1∧∀ q∈qs,1≤q.1:=by
 obtain⟨q,hq,h1,h2⟩:=top_mark (fun q=>q.2+2 * les ps q.1) hne
 have hq1:=hp q hq
 have e:(q.1,(q.2+2 * les ps q.1) - 2 * les ps q.1)=q:=Prod.ext rfl (by show _ - _=q.2;omega)
 have hper:ps.Perm ((q.1,(q.2+2 * les ps q.1) - 2 * les ps q.1) :: ps.erase q):=by rw[e];exact List.perm_cons_erase hq
 by_cases c:q.1=1
 ·refine⟨q.2+2 * les ps q.1,ps.erase q,⟨q.1,ps.erase q,hq1,hper,h1,h2,?_⟩,?_,fun x hx=>hp x (List.mem_of_mem_erase hx)⟩
  ·exact .inl ⟨c,.refl _⟩
  ·rw[siz_perm hper,siz_cons];omega
 ·refine⟨q.2+2 * les ps q.1,(q.1 - 1,(q.2+2 * les ps q.1) - 1 - 2 * les (ps.erase q) (q.1 - 1) - 2 * (q.1 - 1)) :: ps.erase q,⟨q.1,ps.erase q,hq1,hper,h1,h2,?_⟩,?_,fun x hx=>?_⟩
  ·exact .inr ⟨by omega,.refl _⟩
  ·rw[siz_perm hper,siz_cons,siz_cons];omega
  ·rcases List.mem_cons.mp hx with e | e
   ·rw[e];show 1≤q.1 - 1;omega
   ·exact hp x (List.mem_of_mem_erase e)
noncomputable def nmG (niches:Int) (ns:List Int) (ps:Trs) (ms:List Int):Int:=ms.foldl (fun a m=>a * chO (ns.count m) (roomM niches ns m)+rk (roomM niches ns m) 0 (offs ps m)) 0
end CW
namespace CW
open PySem L2
noncomputable def badN (n:Int):Prop:=n<0∨200<n
noncomputable instance (n:Int):Decidable (badN n):=by unfold badN;exact inferInstance
section
variable {P:Program} {w:World} {K:PySem.W.Frag} {mg:Str→Option Value} {base:Heap}
section
variable {X:Errs K mg} {H:Hp} {Q:VK} {lh t0:Addr}
end
end
end CW
namespace CW
open PySem L2
end CW
namespace L2
open PySem PySem.Spec PyProof.Rows
section
variable {X:Cx}
noncomputable def CDivB (j:Int):Prop:=0<j∧j<2 ^ 9000
theorem CDivB.ne {j:Int} (h:CDivB j):j≠0:=fun e=>by
 have:=h.1
 rw[e]at this
 exact absurd this (by decide)
end
end L2
namespace CW
open PySem L2
theorem offs_none {ps:Trs} {m:Int} (h:∀ p∈ps,p.1≠m):offs ps m=[]:=by
 unfold offs
 rw[List.filter_eq_nil_iff.mpr fun p hp=>by simpa using h p hp]
 rfl
structure NumI (niches N:Int) (ns pre suf:List Int) (ps:Trs) (rest:Int):Prop where
 sub:∀ p∈ps,p.1∈pre
 ok:∀ m∈pre,(offs ps m).length=ns.count m∧Vld (roomM niches ns m) 0 (offs ps m)
 r0:0≤rest
 r1:rest<howM niches ns suf
 few:howM niches ns suf<10 ^ 55
 sm:nmG niches ns ps pre * howM niches ns suf+rest=N
 srt:ps.Pairwise ple
 fl:ps=pre.flatMap fun m=>(offs ps m).map fun o=>(m,o)
end CW
namespace CW
open PySem L2
end CW
namespace L2
open PySem PySem.Spec PyProof.Rows
section
variable {prog:Program} {w:World} {A:Around} {E:Value→Shared→Prop} {s:Shared}
theorem callType_kw {T nid iid:String} {B1 B2:Builtin} {vs:List Value} {kw:List (Str×Value)} {S:PySem.Spec} {Q Q1:Value→Shared→Prop} (ft:TypeCalled T nid iid)
 (h1:checkTypeCall T ⟨vs,kw⟩=pure ()) (h2:checkBuiltinCall nid ⟨.type T :: vs,kw⟩=pure ()) (e1:entryFor table nid=some B1) (e2:entryFor table iid=some B2)
 (g:Meets (B1 ⟨.type T :: vs,kw⟩) S) (h:S A.in1 (wants Q1 E) s)
 (hn:∀ obj t,Q1 obj t→t.TypeIs obj T∧argsOk iid ⟨obj :: vs,kw⟩∧∃ Si,Meets (B2 ⟨obj :: vs,kw⟩) Si∧Si A.in1 (wants (fun r t2=>r=.none∧Q obj t2) E) t):wpAny (model prog w) A (call (.type T) vs kw) Q E s:=by
 obtain⟨c,tl,hmro⟩:=ft.mro
 have hmade:=ft.made
 have hsub:=ft.sub
 refine wpAny_call (codeAny_of_tree (show wpAny _ _ (callAny (.type T) _) _ _ _ from wpAny_pure ⟨Code.quiet_builtin _ (by decide +kernel),codeAny_builtin PySem.F.entry_type_call ?_⟩))
 rw[Around.under_plain (weight_type_call_type T vs kw) (units_type_call_type T vs kw)]
 have n1:=ft.notType
 have n2:=ft.canCreate
 repeat (any_goals (first | assumption | wp_step))
 refine codeAny_mono (codeAny_call_builtin ft.plain e1 (wpAny_of_eq h2 (g prog w A.in1 _ s h))) fun r t hr=>?_
 cases r with
 | error e=>exact hr
 | ok fl =>
  cases fl with
  | ret obj =>
   obtain⟨hT,hok,Si,gi,hsi⟩:=hn _ _ hr
   have hli:=ft.init.lookup
   have hbi:=ft.init.bind obj
   repeat (any_goals (first | assumption | wp_step))
   refine codeAny_mono (codeAny_call_builtin ft.init.plain e2 (ft.init.check _ _ _ _ _ _ _ _ hT hok (gi prog w A.in1 _ t hsi))) fun r2 t2 hr2=>?_
   cases r2 with
   | error e=>exact hr2
   | ok fl2 =>
    cases fl2 with
    | ret r =>
     obtain⟨rfl,hq⟩:=hr2
     repeat (any_goals (first | assumption | wp_step))
    | _=>exact hr2.elim
  | _=>exact hr.elim
theorem oinit_kw {T nid:String} {v:Value} {vs:List Value} {kw:List (Str×Value)} (hl:typeLookup (.type T) "__init__"=pure (some (.builtin "object.__init__"))) (hm:Bind.madeBy (.type T)=pure (some nid)) (hne:(some nid != some "object.__new__")=true) :
 Meets (Builtin.«object.__init__» ⟨v :: vs,kw⟩) (fun _ R t=>t.TypeIs v T∧R (.ok (.ret .none)) t):=by
 refine Meets.of_wp fun prog w A R t ht=>?_
 obtain⟨hT,hq⟩:=ht
 cases vs with
 | nil =>
  cases kw with
  | nil=>exact wpAny_pure ⟨_,rfl,hq⟩
  | cons a kw =>
   repeat (any_goals (first | assumption | wp_step))
   exact⟨_,rfl,hq⟩
 | cons a vs =>
  repeat (any_goals (first | assumption | wp_step))
  exact⟨_,rfl,hq⟩
theorem en_type (a b:Value):checkTypeCall "enumerate" ⟨[a],[(Str.ofString "start",b)]⟩=pure ():=by kernel_rfl
theorem en_new (a b:Value):checkBuiltinCall "enumerate.__new__" ⟨[.type "enumerate",a],[(Str.ofString "start",b)]⟩=pure ():=by kernel_rfl
theorem en_init (o a b:Value):argsOk "object.__init__" ⟨[o,a],[(Str.ofString "start",b)]⟩:=by
 unfold argsOk
 rw[signature?_of (id:="object.__init__") (n:=['_','_','t','i','n','i','_','_']) (o:=['t','c','e','j','b','o']) (by kernel_rfl) PySem.F.owner_object]
 kernel_rfl
theorem en_made (m:Int) (tm:Tok) (hf:Builtin.SmallTypes.fitsIndex m=true) (l:Addr) (its:Array Value) (n:Nat) (dct:Option Addr) (sl:Array (Option Value)) :
 Meets (Builtin.«enumerate.__new__» ⟨[.type "enumerate",.ref l],[(Str.ofString "start",.int m tm)]⟩) (fun _ R t=>t.heap.get? l=some { cls:=.type "list",dict:=dct,data:=.seq its n,slots:=sl } ∧
  R (.ok (.ret (.ref (t.heap.push { cls:=.type "list_iterator",data:=.fields #[.ref l,.int 0 0] }).objs.size)))
   { t with heap:=(t.heap.push { cls:=.type "list_iterator",data:=.fields #[.ref l,.int 0 0] }).push { cls:=.type "enumerate",data:=.fields #[.none,.bool false,.ref t.heap.objs.size,rawInt m,.none,.none] } }) :=
 .of_wp fun prog w A R t h=>by
  obtain⟨hp,g,d,tk,os⟩:=t
  obtain⟨hl,h⟩:=h
  have hsub:=sub_enumerate
  have hL:Heap.IsList (Shared.heap ⟨hp,g,d,tk,os⟩) l its:=⟨_,hl,rfl,n,rfl⟩
  wp_walk using AutoSeq1.wpAny_loadPart' hl
  refine wpAny_stack_any fun st=>wpAny_pure ?_
  split
  ·rename_i c _ _ _ _ _
   cases (c == Value.type "enumerate")
   all_goals
    wp_walk using AutoSeq1.wpAny_loadPart' hl,wpAny_pyIter_list hL
    exact⟨_,rfl,h⟩
  ·wp_walk using AutoSeq1.wpAny_loadPart' hl,wpAny_pyIter_list hL
   exact⟨_,rfl,h⟩
theorem call_enS {m:Int} {tm:Tok} {l:Addr} {its:Array Value} {Q:Value→Shared→Prop} (hf:Builtin.SmallTypes.fitsIndex m=true) (hL:s.heap.IsList l its)
 (h:∀ h',IsEnum h' (s.heap.objs.size+1) s.heap.objs.size m .none→h'.IsListIter s.heap.objs.size l 0→(∀ b o,s.heap.get? b=some o→h'.get? b=some o)→Q (.ref (s.heap.objs.size+1)) { s with heap:=h' }) :
 wpAny (model prog w) A (call (.type "enumerate") [.ref l] [(Str.ofString "start",.int m tm)]) Q E s:=by
 obtain⟨⟨c,dct,dt,sl⟩,hl,hc,n,hd⟩:=hL
 cases (show c=.type "list" from hc)
 cases (show dt=.seq its n from hd)
 have hz:(s.heap.push { cls:=.type "list_iterator",data:=.fields #[.ref l,.int 0 0] }).objs.size=s.heap.objs.size+1:=Heap.size_push ..
 refine callType_kw (Q1:=fun obj t=>t.TypeIs obj "enumerate"∧Q obj t) PySem.F.called_enumerate (en_type _ _) (en_new _ _) PySem.F.entry_enumerate_new PySem.F.entry_object_init (en_made m tm hf l its n dct sl) ⟨hl,?_⟩ fun obj t hq=>⟨hq.1,en_init _ _ _,_,oinit_kw PySem.F.called_enumerate.init.lookup PySem.F.called_enumerate.made (by decide),hq.1,rfl,hq.2⟩
 show _∧_
 rw[hz]
 have he:IsEnum ((s.heap.push { cls:=.type "list_iterator",data:=.fields #[.ref l,.int 0 0] }).push { cls:=.type "enumerate",data:=.fields #[.none,.bool false,.ref s.heap.objs.size,rawInt m,.none,.none] }) (s.heap.objs.size+1) s.heap.objs.size m .none:=by
  have q:=Heap.get?_push_size (s.heap.push { cls:=.type "list_iterator",data:=.fields #[.ref l,.int 0 0] }) (o:={ cls:=.type "enumerate",data:=.fields #[.none,.bool false,.ref s.heap.objs.size,rawInt m,.none,.none] }) rfl
  rw[hz]at q
  exact q
 exact⟨⟨_,he,rfl⟩,h _ he ⟨_,Heap.get?_push_of_some _ (Heap.get?_push_size _ rfl),rfl,rfl⟩ fun b o x=>Heap.get?_push_of_some _ (Heap.get?_push_of_some _ x)⟩
theorem next_enS {e it l:Addr} {i:Nat} {m:Int} {its:Array Value} {x old:Value} {Q:Option Value→Shared→Prop} (he:IsEnum s.heap e it m old) (hit:s.heap.IsListIter it l i) (hl:s.heap.IsList l its) (hx:its[i]?=some x) (hne:e≠it)
 (hQ:∀ h',IsEnumOut h' e it (m+1) x s.heap.objs.size→h'.IsListIter it l (i+1)→h'.get? s.heap.objs.size=some { cls:=.type "tuple",data:=.seq #[.int m s.toks,x] } →
  (∀ b o,b≠e→b≠it→s.heap.get? b=some o→h'.get? b=some o)→Q (some (.ref s.heap.objs.size)) { s with heap:=h',toks:=s.toks+1 }):wpAny (model prog w) A (pyNext (.ref e)) Q E s:=by
 have hT:s.TypeIs (.ref e) "enumerate":=⟨_,he,rfl⟩
 unfold pyNext
 refine wpAny_bind (wpAny_attempt (wpAny_callSpecial?_slot (name:=Str.ofString "__next__") hT PySem.F.slot_enumerate_next (wpAny_call_entry PySem.F.slot_enumerate_next hT PySem.F.entry_enumerate_next ?_ (PySem.F.args_enumerate_next_1 _))))
 obtain⟨hp,g,d,tk,os⟩:=s
 show wpAny _ _ (field (.ref e) 2 >>= _) _ _ _
 refine wpAny_bind (wpAny_field he rfl (x:=.ref it) rfl (wpAny_bind (wpAny_nextOf_list_item hit hl hx fun h1 it1 s1=>?_)))
 replace s1:Heap.SameBut it hp h1:=s1
 have e1:IsEnum h1 e it m old:=(s1.2 e hne).trans he
 show wpAny _ _ (field (.ref e) 3 >>= _) _ _ ⟨h1,g,d,tk,os⟩
 refine wpAny_bind (wpAny_field e1 rfl (x:=rawInt m) rfl ?_)
 show wpAny _ _ (field (.ref e) 4 >>= _) _ _ ⟨h1,g,d,tk,os⟩
 refine wpAny_bind (wpAny_field e1 rfl (x:=.none) rfl ?_)
 show wpAny _ _ (mkInt m >>= _) _ _ ⟨h1,g,d,tk,os⟩
 refine wpAny_bind (wpAny_mkInt ?_)
 show wpAny _ _ (setField (.ref e) 3 (rawInt (m+1)) >>= _) _ _ ⟨h1,g,d,tk+1,os⟩
 refine wpAny_bind (wpAny_setField_rec e1 (by simp) fun h2 e2 s2=>?_)
 replace s2:Heap.SameBut e h1 h2:=s2
 replace e2:IsEnum h2 e it (m+1) old:=e2
 show wpAny _ _ (setField (.ref e) 4 .none >>= _) _ _ ⟨h2,g,d,tk+1,os⟩
 refine wpAny_bind (wpAny_setField_rec e2 (by simp) fun h3 e3 s3=>?_)
 replace s3:Heap.SameBut e h2 h3:=s3
 replace e3:IsEnum h3 e it (m+1) old:=e3
 show wpAny _ _ (newTuple [.int m tk,x] >>= _) _ _ ⟨h3,g,d,tk+1,os⟩
 refine wpAny_bind (wpAny_newTuple ?_)
 have e4:IsEnum (h3.push { cls:=.type "tuple",data:=.seq #[.int m tk,x] }) e it (m+1) old:=Heap.get?_push_of_some _ e3
 generalize z4:h3.push { cls:=.type "tuple",data:=.seq #[.int m tk,x] }=h4 at e4
 have hs:h3.objs.size=hp.objs.size:=by rw[s3.1,s2.1,s1.1]
 have lt:e<hp.objs.size:=Heap.lt_size he
 have t4:h4.get? hp.objs.size=some { cls:=.type "tuple",data:=.seq #[.int m tk,x] }:=by
  rw[← z4,← hs]
  exact Heap.get?_push_size _ rfl
 have k4:∀ b o,b≠e→b≠it→hp.get? b=some o→h4.get? b=some o:=fun b o n1 n2 hb=>by
  rw[← z4]
  exact Heap.get?_push_of_some _ (s3.extBut b o n1 (s2.extBut b o n1 (s1.extBut b o n2 hb)))
 have i4:h4.IsListIter it l (i+1):=by
  rw[← z4]
  obtain⟨o,ho,r⟩:=(it1.extBut s2.extBut (Ne.symm hne)).extBut s3.extBut (Ne.symm hne)
  exact⟨o,Heap.get?_push_of_some _ ho,r⟩
 show wpAny _ _ (Builtin.SmallTypes.ownedTupleIsFree (.ref e) >>= _) _ _ ⟨h4,g,d,tk+1,os⟩
 rw[hs]
 clear z4 e3 s3 e2 s2 e1 s1 it1 hs h3 h2 h1
 refine wpAny_bind ?_
 unfold Builtin.SmallTypes.ownedTupleIsFree
 refine wpAny_bind (wpAny_field e4 rfl (x:=.none) rfl (wpAny_pure ?_))
 simp only[if_true]
 refine wpAny_bind (wpAny_rule (wpAny_bind (wpAny_field e4 rfl (x:=old) rfl (wpAny_bind (wpAny_setField_rec e4 (by simp) fun h5 e5 s5=>?_)))))
 replace s5:Heap.SameBut e h4 h5:=s5
 replace e5:IsEnum h5 e it (m+1) x:=e5
 show wpAny _ _ (Builtin.SmallTypes.ownedTupleHandOut (.ref e) (.ref hp.objs.size) >>= _) _ _ ⟨h5,g,d,tk+1,os⟩
 refine wpAny_bind ?_
 unfold Builtin.SmallTypes.ownedTupleHandOut
 refine wpAny_bind (wpAny_setField_rec e5 (by simp) fun h6 e6 s6=>?_)
 replace s6:Heap.SameBut e h5 h6:=s6
 replace e6:IsEnumOut h6 e it (m+1) x hp.objs.size:=e6
 refine wpAny_setField_rec e6 (by simp) fun h7 e7 s7=>?_
 replace s7:Heap.SameBut e h6 h7:=s7
 replace e7:IsEnumOut h7 e it (m+1) x hp.objs.size:=e7
 refine wpAny_bind (wpAny_letGo (wpAny_pure ⟨_,rfl,wpAny_pure (hQ h7 e7 ?_ ?_ ?_)⟩))
 ·exact((i4.extBut s5.extBut (Ne.symm hne)).extBut s6.extBut (Ne.symm hne)).extBut s7.extBut (Ne.symm hne)
 ·exact s7.extBut _ _ (Nat.ne_of_gt lt) (s6.extBut _ _ (Nat.ne_of_gt lt) (s5.extBut _ _ (Nat.ne_of_gt lt) t4))
 ·exact fun b o n1 n2 hb=>s7.extBut b o n1 (s6.extBut b o n1 (s5.extBut b o n1 (k4 b o n1 n2 hb)))
theorem stop_enS {e it l:Addr} {i:Nat} {m:Int} {its:Array Value} {old:Value} {Q:Option Value→Shared→Prop} (hh:A.handled=none) (he:IsEnum s.heap e it m old) (hit:s.heap.IsListIter it l i) (hl:s.heap.IsList l its) (hx:its[i]?=none)
 (hQ:∀ h',Heap.ExtBut it s.heap h'→Q none { s with heap:=h' }):wpAny (model prog w) A (pyNext (.ref e)) Q E s:=by
 have hT:s.TypeIs (.ref e) "enumerate":=⟨_,he,rfl⟩
 unfold pyNext
 refine wpAny_bind (wpAny_attempt (wpAny_callSpecial?_slot (name:=Str.ofString "__next__") hT PySem.F.slot_enumerate_next (wpAny_call_entry PySem.F.slot_enumerate_next hT PySem.F.entry_enumerate_next ?_ (PySem.F.args_enumerate_next_1 _))))
 show wpAny _ _ (field (.ref e) 2 >>= _) _ _ _
 refine wpAny_bind (wpAny_field he rfl (x:=.ref it) rfl (wpAny_bind (wpAny_nextOf_list_end hh hit hl hx fun h' y he' hy=>?_)))
 obtain⟨o,ho,hc⟩:=hy
 exact wpAny_bind (wpAny_isInstance (T:="StopIteration") (b:=true) ⟨o,ho,hc⟩ isSubtype_stop (wpAny_pure (hQ _ he')))
theorem callWith_tkw {env:PySem.Env} {pos:Pos} {T:String} {e:Expr} {rest:List Expr} {kws:List Keyword} {Q:Value→Shared→Prop} {M:Model}
 (h:wpAny M A (spliced (backTo pos (starEach (e :: rest) env))) (fun vs t=>wpAny M A (evalAll ((backToKw pos (keywordEach kws env)).map (·.2)))
  (fun kvs t2=>wpAny M A (call (.type T) vs (((backToKw pos (keywordEach kws env)).filterMap (·.1)).zip kvs)) Q E t2) E t) E s)
 (he:backTo pos (starEach (e :: rest) env)=(false,eval e env) :: backTo pos (starEach rest env)) (hplain:(backTo pos (starEach (e :: rest) env)).any (·.1)=false)
 (hall:(backToKw pos (keywordEach kws env)).all (·.1.isSome)=true) (hkw:(backToKw pos (keywordEach kws env)).any (·.1.isNone)=false) :
 wpAny M A (callWith pos (.type T) [] (backTo pos (starEach (e :: rest) env)) (backToKw pos (keywordEach kws env))) Q E s:=by
 unfold callWith
 refine wpAny_bind (wpAny_holding (wpAny_mono (Q:=fun a t=>wpAny M A (call (.type T) ([]++a.pos) a.kw) Q E t) ?_ (fun a t h1=>wpAny_bind (wpAny_standAt ?_)) fun _ _ x=>x))
 ·rw[he]at h ⊢
  exact evalArgs_kwB hall h
 ·simp only[hplain,hkw,Bool.or_false]
  exact wpAny_bind (wpAny_pure (wpAny_bind (wpAny_mono h1 (fun r t2 hr=>wpAny_bind (wpAny_holding (wpAny_point (wpAny_pure hr)))) fun _ _ x=>x)))
end
noncomputable def Its (K:PySem.W.Frag) (m:Int) (a:Addr):It :=
 ⟨fun i H=>∃ xs x,SqL K H a xs∧xs[i]?=some x,fun i H v H'=>∃ t x,v=.ref t∧H t=none∧(∀ xs,SqL K H a xs→xs[i]?=some x)∧H'=upd H t (.tup [.int (m+i),x]),fun i H=>∃ xs,SqL K H a xs∧xs.length≤i⟩
theorem turn_enS {P:Program} {w:World} {K:PySem.W.Frag} {elts:List Expr} {x1} {pos:Pos} (m:Int) (a e it:Addr) (hne:e≠it):Turn P w K (.Tuple elts x1 pos) (Its K m a) [e,it] e (fun i h=>(∃ old,IsEnum h e it (m+i) old)∧h.IsListIter it a i) where
 mem:=by simp
 obj:=fun i h st b hb=>by
  obtain⟨⟨old,he⟩,o,ho,c,d⟩:=st
  rcases List.mem_cons.mp hb with z | z
  ·subst z;exact⟨_,he,fun v z=>by have z':Data.fields _=Data.cell v:=z;cases z'⟩
  ·have z:b=it:=by simpa using z
   subst z;exact⟨o,ho,fun v z=>by rw[d]at z;cases z⟩
 keep:=fun i h h' st k=>⟨let ⟨old,he⟩:=st.1;⟨old,k e (by simp) _ he⟩,st.2.at fun o e=>k it (by simp) o e⟩
 item:=by
  intro X hP hw hK hc i pins s σ H E I hf st hg
  subst hP hw hK
  obtain⟨xs,x,hq,hx⟩:=hg
  obtain⟨its,rv,p,hz⟩:=I.list hq
  obtain⟨u,hu,ru⟩:=rv.get hx
  obtain⟨⟨old,he⟩,hit⟩:=st
  have le:e<s.heap.objs.size:=Heap.lt_size he
  have li:it<s.heap.objs.size:=by obtain⟨_,z,_⟩:=hit;exact Heap.lt_size z
  refine next_enS he hit p.isList (x:=u) (by simpa using hu) hne fun h' e1 e2 e3 kp=>?_
  refine⟨_,rfl,?_⟩
  have hn:H s.heap.objs.size=none:=I.hok.fresh (Nat.le_refl _)
  have k1:∀ b o,b∉[e,it]→s.heap.get? b=some o→h'.get? b=some o:=fun b o hb q=>kp b o (fun z=>hb (by simp[z])) (fun z=>hb (by simp[z])) q
  have tupOk:∀ h2:Heap,h2.get? s.heap.objs.size=some { cls:=.type "tuple",data:=.seq #[.int (m+i) s.toks,u] }→ObjOk X.prog X.w (upd H s.heap.objs.size (.tup [.int (m+i),x])) h2 s.heap.objs.size (.tup [.int (m+i),x]):=fun h2 q =>
   ⟨by show 2≤sizeLine;decide,[.int (m+i) s.toks,u],.cons ⟨_,rfl⟩ (.cons ru .nil),_,q,rfl,_,rfl⟩
  refine wpAny_letOwnedTupleGo_enum (i:=m+i+1) e1 fun h2 f1 sb=>?_
  have k2:∀ b o,b∉[e,it]→s.heap.get? b=some o→h2.get? b=some o:=fun b o hb q=>sb.extBut b o (fun z=>hb (by simp[z])) (k1 b o hb q)
  have n1:s.heap.objs.size≠e:=Nat.ne_of_gt le
  refine⟨.ref s.heap.objs.size,_,I.turnLaid (t':=s.toks+1) (h':=h2) (o:=.tup [.int (m+i),x]) k2 hf (Nat.le_refl _) (tupOk _ (sb.extBut _ _ n1 e3)),rfl,⟨_,x,rfl,hn,fun ys hy=>by rw[I.list_inj hy hq];exact hx,rfl⟩,⟨⟨u,?_⟩,?_⟩,fun b hb=>?_⟩
  ·rw[show m+((i+1:Nat):Int)=m+i+1 by omega];exact f1
  ·exact e2.extBut sb.extBut (Ne.symm hne)
  ·have hb':b≠s.heap.objs.size:=by
    rcases List.mem_cons.mp hb with z | z
    ·subst z;exact Nat.ne_of_lt le
    ·have z:b=it:=by simpa using z
     subst z;exact Nat.ne_of_lt li
   rw[upd_ne hb'];exact(hf b hb).1
 done:=by
  intro X hP hw hK hc i pins s σ H E I hf st hg
  subst hP hw hK
  obtain⟨xs,hq,hx⟩:=hg
  obtain⟨its,rv,p,hz⟩:=I.list hq
  have hl:=rv.length
  obtain⟨⟨old,he⟩,hit⟩:=st
  exact stop_enS (I.ok.hd hc) he hit p.isList (by simp;omega) fun h' eb=>⟨rfl,I.turnedF (fp:=[e,it]) (t':=s.toks) (fun b o hb e=>eb b o (fun z=>hb (by simp[z])) e) hf⟩
 self:=fun _ _ _ _ _ st h=>let ⟨_,he⟩:=st.1;wpAny_pyIter_enum he h
noncomputable def iEnS (K:PySem.W.Frag) (m:Int) (ta:TA):TI:=fun σ H R=>ta σ H fun vs H1=>∃ a xs,vs=[.ref a]∧SqL K H1 a xs∧R (Its K m a) H1
theorem pi_enS {X:Cx} {elts:List Expr} {x1} {tpos:Pos} {a f:Expr} {ta:TA} {p pos kp:Pos} {m:Int} (hg:Gl X "enumerate") (hm:X.mg "enumerate"=none) (ha:PA X [a] ta) (hfv:PE X f (tC (.int m))) (hfit:Builtin.SmallTypes.fitsIndex m=true:=by decide)
 (he1:backTo pos (starEach [a] X.env)=(false,eval a X.env) :: backTo pos (starEach [] X.env):=by rfl) (hp1:(backTo pos (starEach [a] X.env)).any (·.1)=false:=by rfl)
 (ha1:(backToKw pos (keywordEach [⟨some "start",f,kp⟩] X.env)).all (·.1.isSome)=true:=by rfl) (hk1:(backToKw pos (keywordEach [⟨some "start",f,kp⟩] X.env)).any (·.1.isNone)=false:=by rfl) (hks:(backToKw pos (keywordEach [⟨some "start",f,kp⟩] X.env)).filterMap (·.1)=([Str.ofString "start"]:List Str):=by rfl) :
 PI X (.Tuple elts x1 tpos) (.Call (.Name "enumerate" p) [a] [⟨some "start",f,kp⟩] pos) (iEnS X.K m ta):=by
 intro pins s σ H R I h
 refine wpAny_Call_Name_kw (ld_blt I hg hm boot_enumerate ?_)
 refine callWith_tkw ?_ he1 hp1 ha1 hk1
 refine thn (ha pos pins s σ H _ I h) fun us s1 ⟨vs,H1,I1,r1,q1⟩=>?_
 obtain⟨a,xs,e,hq,q⟩:=q1
 subst e
 refine thn ((pk_cons hfv pk_nil) pos pins s1 σ H1 (fun ks H2=>ks=[.int m]∧H2=H1) I1 ⟨rfl,rfl⟩) fun ws s2 ⟨zs,H2,I2,r2,q2⟩=>?_
 obtain⟨rfl,rfl⟩:=q2
 obtain⟨u,rfl,rx⟩:=vals1 r1
 obtain⟨v,rfl,rv'⟩:=vals1 r2
 cases rx
 obtain⟨tm,rfl⟩:=rv'
 rw[hks]
 obtain⟨its,rv,pl,hz⟩:=I2.list hq
 refine call_enS hfit pl.isList fun h' g1 g2 kp=>?_
 have I3:Inv X pins σ H2 { s2 with heap:=h' }:=I2.kept (t':=s2.toks) kp
 refine wpAny_pyIter_enum g1 ?_
 refine⟨s2.heap.objs.size+1,[s2.heap.objs.size+1,s2.heap.objs.size],_,_,H2,rfl,I3,turn_enS m a _ _ (Nat.ne_of_gt (Nat.lt_succ_self _)),⟨⟨_,by rw[show m+((0:Nat):Int)=m by omega];exact g1⟩,g2⟩,fun b hb=>?_,q⟩
 have e:s2.heap.objs.size≤b:=by
  rcases List.mem_cons.mp hb with z | z
  ·rw[z];exact Nat.le_succ _
  ·have z:b=s2.heap.objs.size:=by simpa using z
   rw[z];exact Nat.le_refl _
 exact I2.fpOk e (I2.hok.fresh e)
theorem for_enS {K:PySem.W.Frag} {m:Int} {a:Addr} {xs:List V} {g:TG} {tb:TS} {D:Ends} {σ:St} {H:Hp} (Pv:Nat→St→Hp→Prop) (h0:Pv 0 σ H) (hl:∀ i σ H,i≤xs.length→Pv i σ H→SqL K H a xs)
 (hs:∀ i x σ H t,xs[i]?=some x→Pv i σ H→H t=none→g (.ref t) σ (upd H t (.tup [.int (m+i),x])) fun σ2 H2=>tb { D with nx:=Pv (i+1),ct:=Pv (i+1),bk:=D.nx } σ2 H2) (hd:∀ σ H,Pv xs.length σ H→D.nx σ H) :
 ∃ W:Nat→Nat→St→Hp→Prop,(∃ n,W 0 n σ H)∧∀ i n σ H,W i n σ H →
  ((Its K m a).stop i H∧D.nx σ H)∨((Its K m a).go i H∧∃ N:St→Hp→Prop,(∀ σ' H',N σ' H'→∃ n',n'<n∧W (i+1) n' σ' H')∧∀ x H',(Its K m a).yld i H x H'→g x σ H' fun σ2 H2=>tb { D with nx:=N,ct:=N,bk:=D.nx } σ2 H2):=by
 refine⟨fun i n σ H=>n=xs.length - i∧i≤xs.length∧Pv i σ H,⟨xs.length,by simp,Nat.zero_le _,h0⟩,?_⟩
 rintro i n σ H ⟨rfl,hi,p⟩
 have q:=hl i σ H hi p
 by_cases hlt:i<xs.length
 ·refine .inr ⟨⟨xs,xs[i],q,by simp[hlt]⟩,Pv (i+1),fun σ' H' p'=>⟨xs.length - (i+1),by omega,rfl,hlt,p'⟩,fun x H' y=>?_⟩
  obtain⟨t,x,rfl,hn,y,rfl⟩:=y
  exact hs i x σ _ t (y xs q) p hn
 ·have e:i=xs.length:=by omega
  subst e
  exact .inl ⟨⟨xs,q,Nat.le_refl _⟩,hd σ H p⟩
end L2
namespace CW
open PySem L2
inductive Szs (row ss:List Int):Prop
 | mk (ps:Trs) (h0_:Lst row ps) (h1_:ss.Perm (ps.map (·.1))) (h2_:ss.Pairwise (·≤·)):Szs row ss
theorem geN_perm {a b:List Int} (h:a.Perm b) (k:Int):geN a k=geN b k:=(h.filter _).length_eq
theorem geN_none {ss:List Int} {k:Int} (h:∀ s∈ss,s<k):geN ss k=0:=by
 unfold geN
 rw[List.filter_eq_nil_iff.mpr fun s hs=>by have:=h s hs;simp;omega]
 rfl
theorem geN_len (ss:List Int) (k:Int):geN ss k≤ss.length:=List.length_filter_le _ _
noncomputable def cntL (ss:List Int) (n:Nat):List Int:=(List.range n).map fun k:Nat=>(geN ss ((k:Int)+1):Int)
theorem cntL_at (ss:List Int) {n k:Nat} (h:k<n):(cntL ss n)[k]?=some (geN ss ((k:Int)+1):Int):=by
 unfold cntL
 rw[List.getElem?_map,List.getElem?_range h]
 rfl
theorem cntL_len (ss:List Int) (n:Nat):(cntL ss n).length=n:=by unfold cntL;rw[List.length_map,List.length_range]
theorem les_siz (j:Int):∀ ps:Trs,les ps j≤siz ps
 | []=>Int.le_refl _
 | q :: ps=>by
  have ih:=les_siz j ps
  rw[les_cons]
  unfold siz at *
  rw[List.map_cons,List.sum_cons]
  omega
theorem les_full {j:Int}:∀ {ps:Trs},les ps j=siz ps→∀ q∈ps,q.1≤j
 | [],_,_,hq=>nomatch hq
 | p :: ps,h,q,hq=>by
  have h1:=les_siz j ps
  rw[les_cons]at h
  unfold siz at *
  rw[List.map_cons,List.sum_cons]at h
  rcases List.mem_cons.mp hq with e | e
  ·rw[e];omega
  ·exact les_full (show les ps j=siz ps by unfold siz;omega) q e
theorem Szs.rowp {row ss:List Int} (h:Szs row ss):Row row:=by
 obtain⟨ps,h,_,_⟩:=h
 exact h.rowp
theorem Szs.pos {row ss:List Int} (h:Szs row ss):∀ s∈ss,1≤s:=fun s hs=>by
 obtain⟨ps,h,hp,_⟩:=h
 obtain⟨q,hq,rfl⟩:=List.mem_map.mp (hp.mem_iff.mp hs)
 exact h.pos q hq
theorem Szs.few {row ss:List Int} (h:Szs row ss) (hl:row.length≤60):ss.length≤60:=by
 obtain⟨ps,h,hp,_⟩:=h
 rw[hp.length_eq,List.length_map]
 exact h.few hl
theorem Szs.up {row ss:List Int} (h:Szs row ss):ss.Pairwise (·≤·):=by
 obtain⟨ps,_,_,h⟩:=h
 exact h
theorem Szs.rounds {row ss:List Int} (h:Szs row ss) (n:Nat):((List.range n).map fun k=>(stG (peelN k row):Int))=cntL ss n:=by
 obtain⟨ps,h,hp,_⟩:=h
 refine List.map_congr_left fun k _=>?_
 rw[peelN_st h k,show ((k+1:Nat):Int)=(k:Int)+1 by omega,les_ge,geN_perm hp]
theorem Szs.top {row ss:List Int} (h:Szs row ss) {n:Nat} (hn:peelN n row=[]):∀ s∈ss,s≤n:=fun s hs=>by
 obtain⟨ps,h,hp,_⟩:=h
 have e:=peelN_len h n
 rw[hn]at e
 obtain⟨q,hq,rfl⟩:=List.mem_map.mp (hp.mem_iff.mp hs)
 exact les_full (show les ps n=siz ps by simp at e;omega) q hq
theorem sum_perm {a b:List Int} (h:a.Perm b):a.sum=b.sum:=by
 induction h with
 | nil=>rfl
 | cons x _ ih=>rw[List.sum_cons,List.sum_cons,ih]
 | swap x y l=>rw[List.sum_cons,List.sum_cons,List.sum_cons,List.sum_cons];omega
 | trans _ _ h1 h2=>exact h1.trans h2
theorem min_sum (c:Int):∀ ps:Trs,((ps.map (·.1)).map fun s=>min c s).sum=les ps c
 | []=>rfl
 | q :: ps=>by
  rw[List.map_cons,List.map_cons,List.sum_cons,min_sum c ps,les_cons]
theorem Szs.car {row ss:List Int} (h:Szs row ss) {c:Int} (hc:1≤c):(carM row c:Int)=(ss.map fun s=>min c s).sum:=by
 obtain⟨ps,h,hp,_⟩:=h
 rw[h.car hc,sum_perm (hp.map _),min_sum]
theorem Szs.load {row ss:List Int} (h:Szs row ss) (k:Nat):(carM row ((k:Int)+1):Int)=(cntL ss (k+1)).sum:=by
 obtain⟨ps,h,hp,_⟩:=h
 rw[h.car (by omega)]
 have go:∀ n:Nat,les ps (n:Int)=(cntL ss n).sum:=by
  intro n
  induction n with
  | zero=>exact les_zeroP h.pos
  | succ n ih =>
   have e:=les_ge (n:Int) ps
   unfold cntL at *
   rw[List.range_succ,List.map_append,List.sum_append,← ih]
   show les ps ((n+1:Nat):Int)=les ps n+([(geN ss ((n:Int)+1):Int)]:List Int).sum
   rw[List.sum_cons,List.sum_nil,geN_perm hp,← e,show ((n+1:Nat):Int)=(n:Int)+1 by omega]
   omega
 rw[← go,show ((k+1:Nat):Int)=(k:Int)+1 by omega]
inductive spCounts (vs:List V) (H:Hp) (Q:VK) (E_:XK):Prop
 | mk (a:Addr) (ss:List Int) (n:Nat) (h0_:vs=[.ref a]) (h1_:H a=some (.lst ((cntL ss n).map V.int))) (h2_:ss.Pairwise (·≤·)) (h3_:∀ s∈ss,1≤s) (h4_:∀ s∈ss,s≤n) (h5_:ss.length≤60) (h6_:RetL H Q ss):spCounts vs H Q E_
inductive spSizes (vs:List V) (H:Hp) (Q:VK) (E_:XK):Prop
 | mk (a:Addr) (row ss:List Int) (h0_:vs=[.ref a]) (h1_:H a=some (.lst (row.map V.int))) (h2_:Szs row ss) (h3_:row.length≤60) (h4_:RetL H Q ss):spSizes vs H Q E_
end CW
namespace CW
open PySem L2
theorem NumI.sizes {niches N:Int} {ns ms:List Int} {ps:Trs} {rest:Int} (I:NumI niches N ns ms [] ps rest) (d:Dst ns ms):(ps.map (·.1)).Perm ns:=by
 rw[List.perm_iff_count]
 intro m
 rw[← offs_count]
 by_cases hm:m∈ms
 ·exact(I.ok m hm).1
 ·rw[offs_none (m:=m) fun p hp z=>hm (by rw[← z];exact I.sub p hp),List.count_eq_zero_of_not_mem fun z=>hm (d.mem.mpr z)]
  rfl
theorem len_of_counts:∀ {l l':List Int},(∀ m,l.count m≤l'.count m)→l.length≤l'.length
 | [],_,_=>Nat.zero_le _
 | x :: t,l',h=>by
  have hx:x∈l':=List.count_pos_iff.mp (Nat.lt_of_lt_of_le (List.count_pos_iff.mpr List.mem_cons_self) (h x))
  have ih:=len_of_counts (l:=t) (l':=l'.erase x) fun m=>by
   have z:=h m
   rw[List.count_cons]at z
   rw[List.count_erase]
   omega
  rw[List.length_erase_of_mem hx]at ih
  have:=List.length_pos_of_mem hx
  rw[List.length_cons]
  omega
theorem NumI.len {niches N:Int} {ns pre suf:List Int} {ps:Trs} {rest:Int} (I:NumI niches N ns pre suf ps rest):ps.length≤ns.length:=by
 rw[← List.length_map (f:=(·.1)) (as:=ps)]
 refine len_of_counts fun m=>?_
 rw[← offs_count]
 by_cases hm:m∈pre
 ·exact Nat.le_of_eq (I.ok m hm).1
 ·rw[offs_none (m:=m) fun p hp z=>hm (by rw[← z];exact I.sub p hp)]
  exact Nat.zero_le _
end CW
namespace L2
open PySem PySem.Spec PyProof.Rows
open PySem.SeqAt
open PySem.AutoSeq1 (wpAny_loadPart')
open PySem.MeetsSeq PySem.MeetsSeq2 PySem.MeetsSeq3
noncomputable def lexP:List (Int×Int)→List (Int×Int)→Bool
 | [],[]=>false
 | [],_ :: _=>true
 | _ :: _,[]=>false
 | p :: ps,q :: qs=>if p=q then lexP ps qs else plt p q
theorem lexLt_pair (p q:Int×Int):HT.lexLt [p.1,p.2] [q.1,q.2]=plt p q:=by
 rw[HT.lexLt_cons,HT.lexLt_cons,HT.lexLt_nil_nil]
 by_cases h1:p.1=q.1
 ·rw[if_pos h1]
  by_cases h2:p.2=q.2
  ·rw[if_pos h2];symm;rw[plt_not];omega
  ·rw[if_neg h2,Bool.eq_iff_iff,plt_iff];simp;omega
 ·rw[if_neg h1,Bool.eq_iff_iff,plt_iff];simp;omega
theorem rcLt_pairs {A:Around} {s:Shared} {x y:Value} {p q:Int×Int} (hx:PairV s.heap x p) (hy:PairV s.heap y q) (hu:A.units<cLine) (prog:Program) (w:World) (E:Value→Shared→Prop) (Q:Value→Shared→Prop) (h:Q (.bool (plt p q)) s) :
 wpAny (model prog w) A (richCompare .Lt x y) Q E s:=by
 obtain⟨t,o,n,k1,k2,rfl,ho,hc,hd⟩:=hx
 obtain⟨t',o',n',k1',k2',rfl,ho',hc',hd'⟩:=hy
 exact HT.lt_tupInts (items:=#[Value.int p.1 k1,Value.int p.2 k2]) (items2:=#[Value.int q.1 k1',Value.int q.2 k2']) (ns:=[p.1,p.2]) (ms:=[q.1,q.2]) ⟨o,ho,hc,n,hd⟩ ⟨o',ho',hc',n',hd'⟩ (.cons _ _ (.cons _ _ .nil)) (.cons _ _ (.cons _ _ .nil)) hu (by rw[lexLt_pair];exact h)
theorem pairs_size {h:Heap} {items:Array Value} {ps:List (Int×Int)} (r:Paired (PairV h) items.toList ps):items.size=ps.length:=by
 have:=r.length
 simpa using this
theorem pairs_get {h:Heap} {items:Array Value} {ps:List (Int×Int)} (r:Paired (PairV h) items.toList ps) {i:Nat} (hi:i<ps.length):∃ x,items[i]?=some x∧PairV h x ps[i]:=by
 have hs:=pairs_size r
 refine⟨items[i]'(by omega),by simp[hs,hi],?_⟩
 have:=paired_getD (x:=Value.none) (y:=((0:Int),(0:Int))) r (i:=i) (by simpa[hs]using hi)
 simpa[List.getD,hi,hs]using this
theorem lt_loopP (l b:Addr) (items items2:Array Value) (n n2:Nat) (ps qs:List (Int×Int)) (k:Nat) :
 ∀ i:Nat,ps.length - i=k→i≤ps.length→i≤qs.length→Meets (Builtin.«list.__eq__.loop» ⟨[.ref l,.ref b,rawInt i,rawInt 0],[]⟩)
  (fun A R s=>s.heap.get? l=some { cls:=.type "list",dict:=none,data:=.seq items n,slots:=#[] }∧s.heap.get? b=some { cls:=.type "list",dict:=none,data:=.seq items2 n2,slots:=#[] } ∧
   Paired (PairV s.heap) items.toList ps∧Paired (PairV s.heap) items2.toList qs∧A.in1.units+1<cLine ∧
   R (.ok (.ret (.bool (lexP (ps.drop i) (qs.drop i))))) s):=by
 induction k with
 | zero =>
  intro i hk hi hi' prog w A R s h
  obtain⟨hp,g,d,tk,os⟩:=s;obtain⟨hl,hb,r1,r2,hu,h⟩:=h
  have z1:=pairs_size r1
  have z2:=pairs_size r2
  wp_walk using wpAny_loadPart' hl,wpAny_loadPart' hb
  have hi1:items[((i:Nat):Int).toNat]?=none:=by simp;omega
  rw[hi1]
  wp_walk using wpAny_loadPart' hl,wpAny_loadPart' hb
  show R (.ok (.ret (.bool (decide (items.size<items2.size))))) _
  have e:lexP (ps.drop i) (qs.drop i)=decide (items.size<items2.size):=by
   rw[List.drop_eq_nil_of_le (show ps.length≤i by omega)]
   cases hq:qs.drop i with
   | nil =>
    have:=List.drop_eq_nil_iff.mp hq
    exact(decide_eq_false (by omega)).symm
   | cons q t =>
    have:i<qs.length:=by
     apply Decidable.byContradiction
     intro z
     rw[List.drop_eq_nil_of_le (by omega)]at hq
     cases hq
    exact(decide_eq_true (by omega)).symm
  rw[e]at h
  exact h
 | succ k ih =>
  intro i hk hi hi' prog w A R s h
  obtain⟨hp,g,d,tk,os⟩:=s;obtain⟨hl,hb,r1,r2,hu,h⟩:=h
  have z1:=pairs_size r1
  have z2:=pairs_size r2
  have hlt:i<ps.length:=by omega
  obtain⟨x,ex,vx⟩:=pairs_get r1 hlt
  have ex':items[((i:Nat):Int).toNat]?=some x:=by rw[Int.toNat_natCast];exact ex
  have hc:((i:Int)+1)=((i+1:Nat):Int):=by push_cast;rfl
  by_cases hlt2:i<qs.length
  ·obtain⟨y,ey,vy⟩:=pairs_get r2 hlt2
   have ey':items2[((i:Nat):Int).toNat]?=some y:=by rw[Int.toNat_natCast];exact ey
   have hd:lexP (ps.drop i) (qs.drop i)=if ps[i]=qs[i]then lexP (ps.drop (i+1)) (qs.drop (i+1))else plt ps[i] qs[i]:=by
    rw[List.drop_eq_getElem_cons hlt,List.drop_eq_getElem_cons hlt2];rfl
   rw[hd]at h
   wp_walk using wpAny_loadPart' hl,wpAny_loadPart' hb
   rw[ex',ey']
   refine wpAny_bind (EqAt.pairs (A:=A.in1) vx vy hu prog w _ _ ?_)
   by_cases hpq:ps[i]=qs[i]
   ·rw[if_pos hpq]at h
    rw[decide_eq_true hpq]
    wp_walk
    rw[hc]
    exact⟨plainId_quiet plain_eq_loop _,codeAny_builtin entry_eq_loop (by
     rw[Around.under_plainId plain_eq_loop _]
     exact ih (i+1) (by omega) (by omega) (by omega) prog w A R _ ⟨hl,hb,r1,r2,hu,h⟩)⟩
   ·rw[if_neg hpq]at h
    rw[decide_eq_false hpq]
    have hri:=rcLt_pairs (A:=A.in1) (s:=⟨hp,g,d,tk,os⟩) vx vy (by omega) prog w
    wp_walk using wpAny_loadPart' hl,wpAny_loadPart' hb
    rw[ex',ey']
    wp_walk using hri
    exact h
  ·have ey':items2[((i:Nat):Int).toNat]?=none:=by simp;omega
   wp_walk using wpAny_loadPart' hl,wpAny_loadPart' hb
   rw[ex',ey']
   wp_walk using wpAny_loadPart' hl,wpAny_loadPart' hb
   show R (.ok (.ret (.bool (decide (items.size<items2.size))))) _
   have e:lexP (ps.drop i) (qs.drop i)=decide (items.size<items2.size):=by
    rw[List.drop_eq_nil_of_le (show qs.length≤i by omega),List.drop_eq_getElem_cons hlt]
    exact(decide_eq_false (by omega)).symm
   rw[e]at h
   exact h
theorem list_ltP (l b:Addr) (items items2:Array Value) (n n2:Nat) (ps qs:List (Int×Int)) :
 Meets (Builtin.«list.__lt__» ⟨[.ref l,.ref b],[]⟩)
  (fun A R s=>s.heap.get? l=some { cls:=.type "list",dict:=none,data:=.seq items n,slots:=#[] }∧s.heap.get? b=some { cls:=.type "list",dict:=none,data:=.seq items2 n2,slots:=#[] } ∧
   Paired (PairV s.heap) items.toList ps∧Paired (PairV s.heap) items2.toList qs∧A.in1.units+1<cLine ∧
   R (.ok (.ret (.bool (lexP ps qs)))) s):=by
 intro prog w A R s h
 obtain⟨hp,g,d,tk,os⟩:=s;obtain⟨hl,hb,r1,r2,hu,h⟩:=h
 have f3:=AutoSeq1.sub_list_list
 wp_walk using wpAny_loadPart' hl,wpAny_loadPart' hb
 exact⟨plainId_quiet plain_eq_loop _,codeAny_builtin entry_eq_loop (by
  rw[Around.under_plainId plain_eq_loop _]
  exact lt_loopP l b items items2 n n2 ps qs _ 0 rfl (Nat.zero_le _) (Nat.zero_le _) prog w A R _ ⟨hl,hb,r1,r2,hu,h⟩)⟩
section
variable {X:Cx}
end
end L2
namespace CW
open PySem L2
end CW
namespace L2
open PySem PySem.W PySem.Spec PyProof.Rows PySem.SeqAt PySem.MeetsSeq
section
variable {X:Cx} {H:Hp}
noncomputable def IsLp (H:Hp) (v:V) (ps:List (Int×Int)):Prop:=∃ l us,v=.ref l∧H l=some (.lst us)∧CW.Prs H us ps
noncomputable def IsNl (H:Hp) (v:V) (p:Int×List (Int×Int)):Prop:=∃ t x,v=.ref t∧H t=some (.tup [.int p.1,x])∧IsLp H x p.2
theorem IsLp.same {H':Hp} {v:V} {ps:List (Int×Int)} (g:Same H H') (h:IsLp H v ps):IsLp H' v ps:=by
 obtain⟨l,us,e,h1,h2⟩:=h
 exact⟨l,us,e,g _ _ h1,h2.mono (CW.TupS.same g)⟩
theorem IsNl.same {H':Hp} {v:V} {p:Int×List (Int×Int)} (g:Same H H') (h:IsNl H v p):IsNl H' v p:=by
 obtain⟨t,x,e,h1,h2⟩:=h
 exact⟨t,x,e,g _ _ h1,h2.same g⟩
theorem IsLp.eq {pins:List (Addr×Obj)} {σ:St} {s:Shared} {A:Around} {x y:V} {u v:Value} {ps:List (Int×Int)} (I:Inv X pins σ H s) (hu:A.units+64<cLine) (hx:IsLp H x ps) (hy:IsLp H y ps) (rx:RelV x u) (ry:RelV y v):EqAt A s u v true:=by
 obtain⟨l,us,rfl,h1,h2⟩:=hx
 obtain⟨l',us',rfl,h1',h2'⟩:=hy
 cases rx
 cases ry
 by_cases e:l=l'
 ·subst e;exact EqAt.same _
 ·obtain⟨as,r1⟩:=(Den.lst h1 (CW.Prs.dens h2)).reads I.hok (u:=.ref l) rfl
  obtain⟨bs,r2⟩:=(Den.lst h1' (CW.Prs.dens h2')).reads I.hok (u:=.ref l') rfl
  refine EqAt.of_refs e fun prog w E Q hq=>?_
  refine eq_dataH r1 r2 (CW.shaped_pairs ps) (CW.shaped_pairs ps) hu ?_
  rw[CW.eqv_self (CW.shaped_pairs ps)]
  exact hq
theorem IsLp.lt {pins:List (Addr×Obj)} {σ:St} {s:Shared} {A:Around} {x y:V} {u v:Value} {ps qs:List (Int×Int)} (I:Inv X pins σ H s) (hu:A.units+64<cLine) (hx:IsLp H x ps) (hy:IsLp H y qs) (rx:RelV x u) (ry:RelV y v) {E:Value→Shared→Prop} {Q:Bool→Shared→Prop} (hq:Q (lexP ps qs) s) :
 wpAny (model X.prog X.w) A (oneLt' true u v) Q E s:=by
 obtain⟨l,us,rfl,h1,h2⟩:=hx
 obtain⟨l',us',rfl,h1',h2'⟩:=hy
 cases rx
 cases ry
 obtain⟨z,its,n,r,hl,e⟩:=I.lstM h1
 obtain⟨z2,its2,n2,r2,hl2,e2⟩:=I.lstM h1'
 have hv:=pairs_at I r h2
 have hv2:=pairs_at I r2 h2'
 rw[oneLt'_eq]
 simp only[if_true]
 refine wpAny_bind (wpAny_cRoomFor (by omega) ?_)
 refine wpAny_bind (wpAny_callSpecialIfBound?_slot ⟨_,e,rfl⟩ PySem.F.slot_list_lt (call_meets PySem.F.slot_list_lt ⟨_,e,rfl⟩ PySem.F.entry_list_lt (PySem.F.args_list_lt_2 _ _) (list_ltP l l' its.toArray its2.toArray n n2 ps qs) ⟨e,e2,hv,hv2,by show A.units+1+1<cLine;omega,?_⟩))
 exact wpAny_truthy_bool hq
theorem paired_all {α β:Type} {F:α→β→Prop}:∀ {l:List α} {m:List β},Paired F l m→∀ x∈l,∃ y∈m,F x y
 | _,_,.cons r t,x,h=>by
  rcases List.mem_cons.mp h with rfl | h
  ·exact⟨_,List.mem_cons_self,r⟩
  ·obtain⟨y,hy,hf⟩:=paired_all t x h
   exact⟨y,List.mem_cons_of_mem _ hy,hf⟩
end
end L2
namespace CW
open PySem L2
noncomputable def rlen (ps:Trs):Int:=(ps.map fun p=>p.2 - p.1+1).sum
noncomputable def tkn (m:Int) (n:Nat) (p:Int×Int):Int:=if m - (n:Int)<p.2 - p.1+1 then m - (n:Int)else p.2 - p.1+1
noncomputable def cutS (m:Int) (st:List Int×Trs) (p:Int×Int):List Int×Trs:=(st.1++rngL p.1 (tkn m st.1.length p).toNat,st.2++(if p.1+tkn m st.1.length p≤p.2 then [(p.1+tkn m st.1.length p,p.2)]else []))
noncomputable def cutF (m:Int) (ps:Trs):List Int×Trs:=ps.foldl (cutS m) ([],[])
theorem cutF_snoc (m:Int) (ps:Trs) (p:Int×Int):cutF m (ps++[p])=cutS m (cutF m ps) p:=by unfold cutF;rw[List.foldl_append];rfl
theorem rlen_snoc (ps:Trs) (p:Int×Int):rlen (ps++[p])=rlen ps+(p.2 - p.1+1):=by unfold rlen;rw[List.map_append,List.sum_append];simp
theorem rlen_append (ps qs:Trs):rlen (ps++qs)=rlen ps+rlen qs:=by unfold rlen;rw[List.map_append,List.sum_append]
noncomputable def Rn (ps:Trs):Prop:=∀ p∈ps,p.1≤p.2+1
theorem rngL_len (i:Int) (n:Nat):(rngL i n).length=n:=by unfold rngL;simp
theorem snocI {α:Type} {C:List α→Prop} (h0:C []) (h1:∀ l a,C l→C (l++[a])) (l:List α):C l:=by
 rw[← List.reverse_reverse l]
 generalize l.reverse=r
 induction r with
 | nil=>exact h0
 | cons a r ih=>rw[List.reverse_cons];exact h1 _ _ ih
structure CutOk (m:Int) (ps:Trs):Prop where
 pos:0≤rlen ps
 len:((cutF m ps).1.length:Int)=min m (rlen ps)
 rest:rlen (cutF m ps).2=rlen ps - min m (rlen ps)
 rn:Rn (cutF m ps).2
 few:(cutF m ps).2.length≤ps.length
theorem cut_facts {m:Int} (hm:0≤m) (ps:Trs):Rn ps→CutOk m ps:=by
 refine snocI (C:=fun ps=>Rn ps→CutOk m ps) (fun _=>⟨by simp[rlen],by simp[cutF,rlen];omega,by simp[cutF,rlen];omega,(fun p hp=>by simp[cutF]at hp),Nat.le_refl _⟩) (fun l p ih hr=>?_) ps
 have hp:=hr p (by simp)
 obtain⟨h0,h1,h2,h3,h4⟩:=ih fun q hq=>hr q (by simp[hq])
 suffices hh:0≤rlen l+(p.2 - p.1+1)∧(((cutS m (cutF m l) p).1.length:Nat):Int)=min m (rlen l+(p.2 - p.1+1))∧rlen (cutS m (cutF m l) p).2=rlen l+(p.2 - p.1+1) - min m (rlen l+(p.2 - p.1+1))∧Rn (cutS m (cutF m l) p).2∧(cutS m (cutF m l) p).2.length≤(l++[p]).length by
  obtain⟨k0,k1,k2,k3,k4⟩:=hh
  exact⟨by rw[rlen_snoc];exact k0,by rw[cutF_snoc,rlen_snoc];exact k1,by rw[cutF_snoc,rlen_snoc];exact k2,by rw[cutF_snoc];exact k3,by rw[cutF_snoc];exact k4⟩
 unfold cutS
 generalize cutF m l=st at h1 h2 h3 h4 ⊢
 have ht:0≤tkn m st.1.length p:=by unfold tkn;split <;> omega
 have hl:((st.1++rngL p.1 (tkn m st.1.length p).toNat).length:Int)=st.1.length+tkn m st.1.length p:=by
  rw[List.length_append,rngL_len];omega
 refine⟨by omega,?_,?_,?_,?_⟩
 ·rw[hl];unfold tkn;split <;> omega
 ·show rlen (st.2++_)=_
  rw[rlen_append,h2]
  have e1:∀ q:Int×Int,rlen [q]=q.2 - q.1+1:=fun q=>by simp[rlen]
  have e0:rlen []=0:=rfl
  have et:tkn m st.1.length p=if m - (st.1.length:Int)<p.2 - p.1+1 then m - (st.1.length:Int)else p.2 - p.1+1:=rfl
  generalize tkn m st.1.length p=tt at et ht ⊢
  by_cases hc:p.1+tt≤p.2
  ·rw[if_pos hc,e1]
   show _+(p.2 - (p.1+tt)+1)=_
   split at et <;> omega
  ·rw[if_neg hc,e0]
   split at et <;> omega
 ·intro q hq
  rcases List.mem_append.mp hq with h | h
  ·exact h3 q h
  ·split at h
   ·rw[List.mem_singleton.mp h];show _≤p.2+1;omega
   ·cases h
 ·rw[List.length_append,List.length_append]
  split <;> simp <;> omega
inductive spRunLen (vs:List V) (H:Hp) (Q:VK) (E_:XK):Prop
 | mk (a:Addr) (ps:Trs) (h0_:vs=[.ref a]) (h1_:LP H a ps) (h2_:ps.length≤1000) (h3_:∀ H',Same H H'→Q (.int (rlen ps)) H'):spRunLen vs H Q E_
inductive spCutRun (vs:List V) (H:Hp) (Q:VK) (E_:XK):Prop
 | mk (a:Addr) (ps:Trs) (m:Int) (h0_:vs=[.ref a,.int m]) (h1_:LP H a ps) (h2_:ps.length≤1000) (h3_:Rn ps) (h4_:0≤m∧m≤1000) (h6_:∀ (t l1 l2:Addr) (H':Hp),H l2=none→Same H H'→H' t=some (.tup [.ref l1,.ref l2])→H' l1=some (.lst ((cutF m ps).1.map V.int))→LP H' l2 (cutF m ps).2→Q (.ref t) H'):spCutRun vs H Q E_
inductive RunsAt (H:Hp) (a:Addr) (rs:List Trs):Prop
 | mk (us:List V) (h0_:H a=some (.lst us)) (h1_:Paired (fun v ps=>∃ b,v=V.ref b∧LP H b ps) us rs):RunsAt H a rs
theorem RunsAt.mono {H H':Hp} (g:Same H H') {a:Addr} {rs:List Trs} (h:RunsAt H a rs):RunsAt H' a rs:=by
 obtain⟨us,h0,h1⟩:=h
 exact⟨us,g _ _ h0,h1.mono fun _ _ ⟨b,e,l⟩=>⟨b,e,l.mono g⟩⟩
theorem runs_at {F:V→Trs→Prop}:∀ {us:List V} {rs:List Trs} {i:Nat} {r:Trs},Paired F us rs→rs[i]?=some r→∃ v,us[i]?=some v∧F v r
 | _,_,_,_,.nil,e=>by simp at e
 | _,_,0,_,.cons h t,e=>by simp at e;subst e;exact⟨_,rfl,h⟩
 | _,_,i+1,r,.cons h t,e=>by
  obtain⟨v,h1,h2⟩:=runs_at (i:=i) (r:=r) t (by simpa using e)
  exact⟨v,by simpa using h1,h2⟩
theorem runs_len' {F:V→Trs→Prop}:∀ {us:List V} {rs:List Trs},Paired F us rs→us.length=rs.length
 | _,_,.nil=>rfl
 | _,_,.cons h t=>congrArg Nat.succ (runs_len' t)
noncomputable def rl (rs:List Trs) (i:Nat):Int:=rlen (rs.getD i [])
structure FndR (rs:List Trs) (n:Nat):Prop where
 one:1≤n
 few:n<rs.length
 ge:rl rs (n - 1)≤rl rs n
 lt:∀ j,1≤j→j<n→rl rs j<rl rs (j - 1)
inductive spFoundRun (vs:List V) (H:Hp) (Q:VK) (E_:XK):Prop
 | mk (a:Addr) (rs:List Trs) (n:Nat) (h0_:vs=[.ref a]) (h1_:RunsAt H a rs) (h2_:rs.length≤1000) (h2b_:∀ ps∈rs,ps.length≤1000) (h3_:FndR rs n) (h4_:∀ H',Same H H'→Q (.int n) H'):spFoundRun vs H Q E_
noncomputable def roadS (st:List Trs×Int) (p:Int×Int):List Trs×Int:=(st.1++[[(st.2,p.1 - 1)],[p]],p.2+1)
noncomputable def roadN (row:List Int) (ps:Trs):List Trs×Int:=ps.foldl roadS ([],loM row - (row.length:Int) - 1)
noncomputable def roadF (row:List Int):List Trs:=(roadN row (runsM row)).1++[[((roadN row (runsM row)).2,(roadN row (runsM row)).2+(row.length:Int) - 1)]]
theorem roadN_snoc (row:List Int) (ps:Trs) (p:Int×Int):roadN row (ps++[p])=roadS (roadN row ps) p:=by unfold roadN;rw[List.foldl_append];rfl
theorem roadN_len (row:List Int) (ps:Trs):(roadN row ps).1.length=2 * ps.length :=
 snocI (C:=fun ps=>(roadN row ps).1.length=2 * ps.length) rfl (fun l p ih=>by rw[roadN_snoc];unfold roadS;rw[List.length_append,ih,List.length_append];simp;omega) ps
inductive spRoad (vs:List V) (H:Hp) (Q:VK) (E_:XK):Prop
 | mk (a:Addr) (row:List Int) (h0_:vs=[.ref a]) (h1_:H a=some (.lst (row.map V.int))) (h2_:Row row) (h3_:row.length≤60) (h4_:∀ (l:Addr) (H':Hp),H l=none→Same H H'→RunsAt H' l (roadF row)→Q (.ref l) H'):spRoad vs H Q E_
noncomputable abbrev RunV (r:Addr) (H:Hp) (v:V) (ps:Trs):Prop:=∃ b,v=V.ref b∧b≠r∧LP H b ps
theorem RunV.same {r:Addr} {H H':Hp} (g:Same H H') {v:V} {ps:Trs} (h:RunV r H v ps):RunV r H' v ps:=by
 obtain⟨b,e,n,l⟩:=h
 exact⟨b,e,n,l.mono g⟩
theorem RunV.upd {r:Addr} {H:Hp} {xs ys:List V} (e:H r=some (.lst xs)) {v:V} {ps:Trs} (h:RunV r H v ps):RunV r (upd H r (.lst ys)) v ps:=by
 obtain⟨b,e',n,us,l,pr⟩:=h
 exact⟨b,e',n,us,by rw[upd_ne n];exact l,pr.mono (TupS.lst e)⟩
end CW
namespace CW
open PySem L2
noncomputable def stoR (b:Bool):List Trs→Int
 | []=>0
 | r :: t=>(if b then rlen r else 0)+stoR (!b) t
noncomputable def parR (b:Bool):Nat→Bool
 | 0=>b
 | n+1=>parR (!b) n
theorem stoR_append:∀ (A B:List Trs) (b:Bool),stoR b (A++B)=stoR b A+stoR (parR b A.length) B
 | [],B,b=>by simp[stoR,parR]
 | a :: A,B,b=>by
  show _+stoR (!b) (A++B)=_+stoR (!b) A+stoR (parR (!b) A.length) B
  rw[stoR_append A B]
  omega
theorem rlen_nn {ps:Trs} (h:Rn ps):0≤rlen ps:=(cut_facts (m:=0) (by omega) ps h).pos
theorem stoR_nn:∀ {rs:List Trs} {b:Bool},(∀ r∈rs,Rn r)→0≤stoR b rs
 | [],_,_=>by simp[stoR]
 | r :: t,b,h=>by
  have h1:=rlen_nn (h r List.mem_cons_self)
  have h2:=stoR_nn (rs:=t) (b:=!b) fun q hq=>h q (List.mem_cons_of_mem _ hq)
  show 0≤(if b then rlen r else 0)+stoR (!b) t
  split <;> omega
theorem rl_succ (r:Trs) (t:List Trs) (i:Nat):rl (r :: t) (i+1)=rl t i:=by unfold rl;simp
theorem rl_zero (r:Trs) (t:List Trs):rl (r :: t) 0=rlen r:=by unfold rl;simp
theorem stoR_ge:∀ {rs:List Trs} {b:Bool} {i:Nat},(∀ r∈rs,Rn r)→i<rs.length→parR b i=true→rl rs i≤stoR b rs
 | r :: t,b,0,h,_,hb=>by
  have hb':b=true:=hb
  have h2:=stoR_nn (rs:=t) (b:=!b) fun q hq=>h q (List.mem_cons_of_mem _ hq)
  rw[rl_zero]
  show rlen r≤(if b then rlen r else 0)+stoR (!b) t
  rw[if_pos hb']
  omega
 | r :: t,b,i+1,h,hi,hb=>by
  have h1:=rlen_nn (h r List.mem_cons_self)
  have h2:=stoR_ge (rs:=t) (b:=!b) (i:=i) (fun q hq=>h q (List.mem_cons_of_mem _ hq)) (by simpa using hi) hb
  rw[rl_succ]
  show rl t i≤(if b then rlen r else 0)+stoR (!b) t
  split <;> omega
theorem parR_odd:∀ (n:Nat) (b:Bool),parR b n=if n % 2=1 then !b else b
 | 0,b=>rfl
 | n+1,b=>by
  show parR (!b) n=_
  rw[parR_odd n (!b),Bool.not_not]
  rcases Nat.mod_two_eq_zero_or_one n with h | h
  ·rw[if_neg (by omega),if_pos (by omega)]
  ·rw[if_pos h,if_neg (by omega)]
theorem leastN {p:Nat→Prop} (n:Nat):p n→∃ m,p m∧∀ j,j<m→¬ p j:=by
 induction n using Nat.strongRecOn with
 | _ n ih =>
  intro hp
  by_cases h:∃ j,j<n∧p j
  ·obtain⟨j,h1,h2⟩:=h
   exact ih j h1 h2
  ·exact⟨n,hp,fun j hj hpj=>h ⟨j,hj,hpj⟩⟩
structure HI (rs:List Trs):Prop where
 odd:rs.length % 2=1
 rn:∀ r∈rs,Rn r
 fst:stoR false rs+1≤rl rs 0
 lst:stoR false rs≤rl rs (rs.length - 1)
theorem HI.le {rs:List Trs} (h:HI rs) {i:Nat} (hi:i<rs.length) (ho:i % 2=1):rl rs i≤stoR false rs :=
 stoR_ge h.rn hi (by rw[parR_odd,if_pos ho];rfl)
theorem HI.found {rs:List Trs} (h:HI rs) (hl:1<rs.length):∃ n,FndR rs n∧2≤n:=by
 have hodd:=h.odd
 have hex:∃ n,1≤n∧n<rs.length∧rl rs (n - 1)≤rl rs n:=⟨rs.length - 1,by omega,by omega,by
  have h1:=h.le (i:=rs.length - 1 - 1) (by omega) (by omega)
  have h2:=h.lst
  omega⟩
 obtain⟨n,hn,hmin⟩:∃ n,(1≤n∧n<rs.length∧rl rs (n - 1)≤rl rs n)∧∀ j,j<n→¬ (1≤j∧j<rs.length∧rl rs (j - 1)≤rl rs j):=leastN (p:=fun n=>1≤n∧n<rs.length∧rl rs (n - 1)≤rl rs n) hex.choose hex.choose_spec
 refine⟨n,⟨hn.1,hn.2.1,hn.2.2,fun j h1 h2=>?_⟩,?_⟩
 ·have:=hmin j h2
  apply Int.lt_of_not_ge
  intro h3
  exact this ⟨h1,by omega,h3⟩
 ·by_cases hn1:n=1
  ·subst hn1
   have h1:=h.le (i:=1) hl rfl
   have h2:=h.fst
   have h3:=hn.2.2
   have e:1 - 1=0:=rfl
   rw[e]at h3
   omega
  ·omega
theorem rl_snoc (l:List Trs) (w:Trs):rl (l++[w]) ((l++[w]).length - 1)=rlen w:=by
 unfold rl
 simp
theorem HI.step {A B:List Trs} {x y z rest:Trs} (h:HI (A++x :: y :: z :: B)) (hr:rlen rest=rlen z - rlen y) (hrn:Rn rest):HI (A++(x++rest) :: B)∧stoR false (A++(x++rest) :: B)=stoR false (A++x :: y :: z :: B) - rlen y:=by
 have hx:=h.rn x (by simp)
 have hy:=rlen_nn (h.rn y (by simp))
 have hrest:=rlen_nn hrn
 have es:stoR false (A++(x++rest) :: B)=stoR false (A++x :: y :: z :: B) - rlen y:=by
  rw[stoR_append,stoR_append]
  generalize parR false A.length=b
  simp only[stoR,rlen_append]
  cases b <;> simp <;> omega
 refine⟨⟨?_,?_,?_,?_⟩,es⟩
 ·have:=h.odd
  simp only[List.length_append,List.length_cons]at this ⊢
  omega
 ·intro r hr'
  rcases List.mem_append.mp hr' with k | k
  ·exact h.rn r (by simp[k])
  ·rcases List.mem_cons.mp k with k | k
   ·rw[k]
    intro p hp
    rcases List.mem_append.mp hp with q | q
    ·exact hx p q
    ·exact hrn p q
   ·exact h.rn r (by simp[k])
 ·rw[es]
  have h1:=h.fst
  cases A with
  | nil =>
   simp only[List.nil_append,rl_zero,rlen_append]at h1 ⊢
   omega
  | cons a A =>
   simp only[List.cons_append,rl_zero]at h1 ⊢
   omega
 ·rw[es]
  have h1:=h.lst
  have hsn:=stoR_nn (b:=false) h.rn
  rcases List.eq_nil_or_concat B with rfl | ⟨B',w,rfl⟩
  ·have e1:A++[x,y,z]=(A++[x,y])++[z]:=by simp
   rw[e1,rl_snoc]at h1
   rw[rl_snoc,rlen_append,hr]
   have:=rlen_nn hx
   rw[e1]
   omega
  ·have e1:A++x :: y :: z :: (B'++[w])=(A++x :: y :: z :: B')++[w]:=by simp
   have e2:A++(x++rest) :: (B'++[w])=(A++(x++rest) :: B')++[w]:=by simp
   simp only[List.concat_eq_append]at h1 ⊢
   rw[e1,rl_snoc]at h1
   rw[e1,e2,rl_snoc]
   omega
end CW
namespace CW
open PySem L2
noncomputable def rsz (p:Int×Int):Int:=p.2 - p.1+1
noncomputable def cat (R:Trs):List Int:=R.flatMap fun p=>seg p.1 (rsz p).toNat
noncomputable def GdR (R:Trs):Prop:=∀ p∈R,p.1≤p.2
theorem Rnk.head {p q:Int×Int} {R:Trs} (h:Rnk (p :: q :: R)):rkP p q:=h 0 p q rfl rfl
theorem Rnk.cons {p:Int×Int} {R:Trs} (h:∀ q,R.head?=some q→rkP p q) (h':Rnk R):Rnk (p :: R):=fun j a b ha hb=>by
 cases j with
 | zero =>
  have:p=a:=by simpa using ha
  subst this
  exact h b (by rw[List.head?_eq_getElem?];exact hb)
 | succ j=>exact h' j a b ha hb
theorem cat_snoc (R:Trs) (p:Int×Int):cat (R++[p])=cat R++seg p.1 (rsz p).toNat:=by unfold cat;rw[List.flatMap_append];simp
theorem runs_good (row:List Int):GdR (runsM row)∧cat (runsM row)=row:=by
 have:∀ (n:Nat) (r:List Int),r.length=n→GdR (runsM r)∧cat (runsM r)=r:=by
  intro n
  induction n with
  | zero=>intro r h;rw[List.length_eq_zero_iff.mp h];exact⟨fun p hp=>(nomatch hp),rfl⟩
  | succ n ih =>
   intro r h
   rcases List.eq_nil_or_concat r with e | ⟨B,z,e⟩
   ·rw[e]at h;cases h
   ·rw[List.concat_eq_append]at e
    subst e
    obtain⟨g,c⟩:=ih B (by simpa using h)
    rw[runsM_append]
    show GdR (stepR (runsM B) z)∧cat (stepR (runsM B) z)=B++[z]
    have one:GdR (runsM B++[(z,z)])∧cat (runsM B++[(z,z)])=B++[z]:=by
     refine⟨fun p hp=>?_,?_⟩
     ·rcases List.mem_append.mp hp with x | x
      ·exact g p x
      ·rw[List.mem_singleton.mp x];exact Int.le_refl _
     ·rw[cat_snoc,c]
      congr 1
      have:(rsz (z,z)).toNat=1:=by show (z - z+1).toNat=1;rw[show z - z+1=1 by omega];rfl
      rw[this]
      simp[seg]
    rcases List.eq_nil_or_concat (runsM B)with e | ⟨l,q,e⟩
    ·rw[e]at one ⊢;exact one
    ·rw[List.concat_eq_append]at e
     rw[e,stepR_snoc]
     by_cases hq:q.2=z - 1
     ·rw[if_pos hq]
      have gq:=g q (by rw[e];simp)
      refine⟨fun p hp=>?_,?_⟩
      ·rcases List.mem_append.mp hp with x | x
       ·exact g p (by rw[e];exact List.mem_append_left _ x)
       ·rw[List.mem_singleton.mp x];show q.1≤z;omega
      ·rw[e,cat_snoc]at c
       rw[cat_snoc,← c,List.append_assoc]
       congr 1
       have:(rsz (q.1,z)).toNat=(rsz q).toNat+1:=by unfold rsz;simp only;omega
       rw[this,seg_succ]
       show _++[q.1+((rsz q).toNat:Int)]=_
       rw[show q.1+((rsz q).toNat:Int)=z by unfold rsz;omega]
     ·rw[if_neg hq,← e];exact one
 exact this _ row rfl
end CW
namespace CW
open PySem L2
theorem catR_snoc (R:Trs) (p:Int×Int):cat (R++[p])=cat R++seg p.1 (rsz p).toNat:=by unfold cat;rw[List.flatMap_append];simp
theorem seg_in {p:Int} {n:Nat} {x:Int} (h1:p≤x) (h2:x<p+n):x∈seg p n:=by
 unfold seg
 exact List.mem_map.mpr ⟨(x - p).toNat,List.mem_range.mpr (by omega),by omega⟩
structure RoadOk (row:List Int) (R:Trs):Prop where
 sto:stoR false (roadN row R).1=rlen R
 rn:∀ r∈(roadN row R).1,Rn r
 nic:∀ x,(∀ y∈cat R,y<x)→loM row≤x→(roadN row R).2≤x
 len:rlen R=((cat R).length:Int)
 hd:R≠[]→(row.length:Int)+1≤rl (roadN row R).1 0
theorem road_ok (row:List Int) (R:Trs):GdR R→Row (cat R)→(∀ x∈cat R,loM row≤x)→RoadOk row R:=by
 refine snocI (C:=fun R=>GdR R→Row (cat R)→(∀ x∈cat R,loM row≤x)→RoadOk row R) (fun _ _ _=>⟨rfl,fun r hr=>(nomatch hr),fun x _ hx=>by show loM row - (row.length:Int) - 1≤x;omega,rfl,fun h=>absurd rfl h⟩) (fun l p ih hg hr hl=>?_) R
 have hp:=hg p (by simp)
 rw[catR_snoc]at hr hl
 have hsz:rsz p=p.2 - p.1+1:=rfl
 have m1:p.1∈seg p.1 (rsz p).toNat:=seg_in (by omega) (by omega)
 have m2:p.2∈seg p.1 (rsz p).toNat:=seg_in (by omega) (by omega)
 unfold Row at hr
 obtain⟨r1,r2,r3⟩:=List.pairwise_append.mp hr
 obtain⟨i1,i2,i3,i4,i5⟩:=ih (fun q hq=>hg q (by simp[hq])) r1 (fun x hx=>hl x (by simp[hx]))
 have hlo:=hl p.1 (by simp[m1])
 have hn:=i3 p.1 (fun y hy=>r3 y hy _ m1) hlo
 have hln:=roadN_len row l
 have e1:(roadN row (l++[p])).1=(roadN row l).1++[[((roadN row l).2,p.1 - 1)],[p]]:=by rw[roadN_snoc];rfl
 have e2:(roadN row (l++[p])).2=p.2+1:=by rw[roadN_snoc];rfl
 refine⟨?_,?_,?_,?_,?_⟩
 ·rw[e1,stoR_append,i1,rlen_snoc,parR_odd,if_neg (by omega)]
  simp[stoR,rlen]
 ·rw[e1]
  intro r hr'
  rcases List.mem_append.mp hr' with k | k
  ·exact i2 r k
  ·rcases List.mem_cons.mp k with k | k
   ·rw[k]
    intro q hq
    rw[List.mem_singleton.mp hq]
    show (roadN row l).2≤p.1 - 1+1
    omega
   ·rw[List.mem_singleton.mp k]
    intro q hq
    rw[List.mem_singleton.mp hq]
    omega
 ·intro x hx _
  rw[e2]
  have:=hx p.2 (by rw[catR_snoc];simp[m2])
  omega
 ·rw[rlen_snoc,i4,catR_snoc,List.length_append,seg_len]
  omega
 ·intro _
  rw[e1]
  cases hq:(roadN row l).1 with
  | nil =>
   have h0:l=[]:=by
    rw[hq]at hln
    exact List.length_eq_zero_iff.mp (by simp at hln;omega)
   subst h0
   rw[List.nil_append,rl_zero]
   show _≤rlen [(loM row - (row.length:Int) - 1,p.1 - 1)]
   simp[rlen]
   omega
  | cons c t =>
   have hne:l≠[]:=fun h=>by rw[h]at hq;cases hq
   have:=i5 hne
   rw[hq,rl_zero]at this
   rw[List.cons_append,rl_zero]
   exact this
theorem road_HI {row:List Int} (hr:Row row) (hb:∀ x∈row,loM row≤x):(roadF row).length=1∨HI (roadF row)∧stoR false (roadF row)=(row.length:Int):=by
 obtain⟨hg,hc⟩:=runs_good row
 obtain⟨i1,i2,i3,i4,i5⟩:=road_ok row (runsM row) hg (by rw[hc];exact hr) (by rw[hc];exact hb)
 rw[hc]at i4
 have hln:=roadN_len row (runsM row)
 by_cases hR:runsM row=[]
 ·left
  unfold roadF
  rw[List.length_append,hln,hR]
  rfl
 right
 have i5':=i5 hR
 have es:stoR false (roadF row)=(row.length:Int):=by
  unfold roadF
  rw[stoR_append,i1,i4,parR_odd,if_neg (by omega)]
  simp[stoR]
 refine⟨⟨?_,?_,?_,?_⟩,es⟩
 ·unfold roadF
  rw[List.length_append,hln]
  show (2 * (runsM row).length+1) % 2=1
  omega
 ·intro r hr'
  unfold roadF at hr'
  rcases List.mem_append.mp hr' with k | k
  ·exact i2 r k
  ·rw[List.mem_singleton.mp k]
   intro q hq
   rw[List.mem_singleton.mp hq]
   show _≤_+(row.length:Int) - 1+1
   omega
 ·rw[es]
  unfold roadF
  cases hq:(roadN row (runsM row)).1 with
  | nil=>rw[hq]at hln;exact absurd (List.length_eq_zero_iff.mp (by simp at hln;omega)) hR
  | cons c t =>
   rw[hq,rl_zero]at i5'
   rw[List.cons_append,rl_zero]
   exact i5'
 ·rw[es]
  unfold roadF
  rw[rl_snoc]
  simp[rlen]
  omega
end CW
namespace CW
open PySem L2
inductive RunsAp (lp:Addr) (H:Hp) (lr:Addr) (rs:List Trs):Prop
 | mk (vs:List V) (h0_:lr≠lp) (h1_:H lr=some (.lst vs)) (h2_:Paired (RunV lp H) vs rs):RunsAp lp H lr rs
theorem split3 {rs:List Trs} {n:Nat} (h2:2≤n) (hn:n<rs.length):∃ A x y z B,rs=A++x :: y :: z :: B∧A.length=n - 2:=by
 refine⟨rs.take (n - 2),rs[n - 2],rs[n - 1],rs[n],rs.drop (n+1),?_,by rw[List.length_take];omega⟩
 have e1:rs.drop (n - 2)=rs[n - 2] :: rs.drop (n - 2+1):=List.drop_eq_getElem_cons (by omega)
 have e2:rs.drop (n - 1)=rs[n - 1] :: rs.drop (n - 1+1):=List.drop_eq_getElem_cons (by omega)
 have e3:rs.drop n=rs[n] :: rs.drop (n+1):=List.drop_eq_getElem_cons hn
 have k1:n - 2+1=n - 1:=by omega
 have k2:n - 1+1=n:=by omega
 rw[k2]at e2
 rw[k1]at e1
 rw[← e3,← e2,← e1,List.take_append_drop]
theorem runs_take {F:V→Trs→Prop}:∀ (k:Nat) {us:List V} {rs:List Trs},Paired F us rs→Paired F (us.take k) (rs.take k)
 | 0,_,_,_=>.nil
 | _+1,_,_,.nil=>.nil
 | k+1,_,_,.cons h t=>.cons h (runs_take k t)
theorem runs_drop {F:V→Trs→Prop}:∀ (k:Nat) {us:List V} {rs:List Trs},Paired F us rs→Paired F (us.drop k) (rs.drop k)
 | 0,_,_,h=>h
 | _+1,_,_,.nil=>.nil
 | k+1,_,_,.cons h t=>runs_drop k t
theorem roadF_len (row:List Int):(roadF row).length≤2 * row.length+1:=by
 unfold roadF
 rw[List.length_append,roadN_len]
 have:=runsM_len row
 show 2 * (runsM row).length+1≤_
 omega
theorem parts_one (row:List Int) (R:Trs):((roadN row R).1.map List.length).sum=2 * R.length :=
 snocI (C:=fun R=>((roadN row R).1.map List.length).sum=2 * R.length) rfl (fun l p ih=>by rw[roadN_snoc];unfold roadS;rw[List.map_append,List.sum_append,ih,List.length_append];simp;omega) R
theorem roadF_parts (row:List Int):((roadF row).map List.length).sum≤2 * row.length+1:=by
 unfold roadF
 rw[List.map_append,List.sum_append,parts_one]
 have:=runsM_len row
 simp
 omega
theorem stoR_one {rs:List Trs} (h:rs.length=1):stoR false rs≤60:=by
 match rs,h with
 | [r],_=>simp[stoR]
end CW
namespace L2
open PySem
theorem lexLt_irr:∀ a:List Int,HT.lexLt a a=false
 | []=>rfl
 | x :: a=>by rw[HT.lexLt_cons,if_pos rfl];exact lexLt_irr a
theorem lexLt_trans:∀ {a b c:List Int},HT.lexLt a b=true→HT.lexLt b c=true→HT.lexLt a c=true
 | [],[],_,h,_=>by cases h
 | [],_ :: _,[],_,h=>by cases h
 | [],_ :: _,_ :: _,_,_=>rfl
 | _ :: _,[],_,h,_=>by cases h
 | _ :: _,_ :: _,[],_,h=>by cases h
 | x :: a,y :: b,z :: c,h1,h2=>by
  rw[HT.lexLt_cons]at h1 h2 ⊢
  by_cases e1:x=y
  ·subst e1
   rw[if_pos rfl]at h1
   by_cases e2:x=z
   ·subst e2
    rw[if_pos rfl]at h2 ⊢
    exact lexLt_trans h1 h2
   ·rw[if_neg e2]at h2 ⊢
    exact h2
  ·rw[if_neg e1]at h1
   have l1:=of_decide_eq_true h1
   by_cases e2:y=z
   ·subst e2
    rw[if_neg e1]
    exact h1
   ·rw[if_neg e2]at h2
    have l2:=of_decide_eq_true h2
    rw[if_neg (by omega)]
    exact decide_eq_true (by omega)
theorem lexLt_tot:∀ {a b:List Int},HT.lexLt a b=false→HT.lexLt b a=false→a=b
 | [],[],_,_=>rfl
 | [],_ :: _,h,_=>by cases h
 | _ :: _,[],_,h=>by cases h
 | x :: a,y :: b,h1,h2=>by
  rw[HT.lexLt_cons]at h1 h2
  by_cases e:x=y
  ·subst e
   rw[if_pos rfl]at h1 h2
   rw[lexLt_tot h1 h2]
  ·rw[if_neg e]at h1
   rw[if_neg (Ne.symm e)]at h2
   have:=of_decide_eq_false h1
   have:=of_decide_eq_false h2
   omega
noncomputable def lex2 {α β:Type} [DecidableEq α] (f:α→α→Bool) (g:β→β→Bool) (a b:α×β):Bool:=if a.1=b.1 then g a.2 b.2 else f a.1 b.1
structure StO {α:Type} (f:α→α→Bool):Prop where
 irr:∀ a,f a a=false
 tr:∀ {a b c},f a b=true→f b c=true→f a c=true
 tot:∀ {a b},f a b=false→f b a=false→a=b
theorem StO.lex2 {α β:Type} [DecidableEq α] {f:α→α→Bool} {g:β→β→Bool} (hf:StO f) (hg:StO g):StO (lex2 f g) where
 irr a:=by unfold L2.lex2;rw[if_pos rfl];exact hg.irr _
 tr {a b c} h1 h2:=by
  unfold L2.lex2 at *
  by_cases e1:a.1=b.1
  ·rw[if_pos e1]at h1
   by_cases e2:b.1=c.1
   ·rw[if_pos e2]at h2
    rw[if_pos (e1.trans e2)]
    exact hg.tr h1 h2
   ·rw[if_neg e2]at h2
    rw[if_neg (by rw[e1];exact e2),e1]
    exact h2
  ·rw[if_neg e1]at h1
   by_cases e2:b.1=c.1
   ·rw[if_neg (by rw[← e2];exact e1),← e2]
    exact h1
   ·rw[if_neg e2]at h2
    have h3:=hf.tr h1 h2
    rw[if_neg (fun e=>by rw[e,hf.irr]at h3;cases h3)]
    exact h3
 tot {a b} h1 h2:=by
  unfold L2.lex2 at *
  by_cases e1:a.1=b.1
  ·rw[if_pos e1]at h1
   rw[if_pos e1.symm]at h2
   exact Prod.ext e1 (hg.tot h1 h2)
  ·rw[if_neg e1]at h1
   rw[if_neg (Ne.symm e1)]at h2
   exact absurd (hf.tot h1 h2) e1
theorem StO.lists:StO HT.lexLt:=⟨lexLt_irr,lexLt_trans,lexLt_tot⟩
theorem StO.ints:StO (fun a b:Int=>decide (a<b)):=⟨fun a=>by simp,fun h1 h2=>by simp at *;omega,fun h1 h2=>by simp at *;omega⟩
noncomputable abbrev keyLtN:Int×(List Int×List Int)→Int×(List Int×List Int)→Bool:=lex2 (fun a b=>decide (a<b)) (lex2 HT.lexLt HT.lexLt)
theorem StO.keys:StO keyLtN:=StO.ints.lex2 (StO.lists.lex2 StO.lists)
open PyProof.Rows in
noncomputable def StO.ord {α:Type} {f:α→α→Bool} (h:StO f):KeyOrd where
 α:=α
 blt:=f
 irrefl:=h.irr
 trans _ _ _ h1 h2:=h.tr h1 h2
 negTrans a b c hc:=by
  cases e1:f a b with
  | true=>exact .inl rfl
  | false =>
   right
   cases e2:f b a with
   | true=>exact h.tr e2 hc
   | false=>rw[← h.tot e1 e2];exact hc
 total _ _ h1 h2:=h.tot h1 h2
end L2
namespace L2
open PySem PySem.Spec PyProof.Rows
open PySem.SeqAt
open PySem.AutoSeq1 (wpAny_loadPart')
open PySem.MeetsSeq PySem.MeetsSeq2 PySem.MeetsSeq3
noncomputable def lexLL:List (List Int)→List (List Int)→Bool
 | [],[]=>false
 | [],_ :: _=>true
 | _ :: _,[]=>false
 | a :: x,b :: y=>if a=b then lexLL x y else HT.lexLt a b
noncomputable def AskT (A:Around) (s:Shared) (u v:Value) (a b:List Int):Prop:=EqAt A s u v (decide (a=b))∧∀ (prog:Program) (w:World) (E:Value→Shared→Prop) (Q:Value→Shared→Prop),Q (.bool (HT.lexLt a b)) s→wpAny (model prog w) A (richCompare .Lt u v) Q E s
theorem tuple_lt_two (l b:Addr) (u1 u2 v1 v2:Value) (n n2:Nat) (dd dd2:Option Addr) (sl sl2:Array (Option Value)) (a1 a2 b1 b2:List Int) :
 Meets (Builtin.«tuple.__lt__» ⟨[.ref l,.ref b],[]⟩)
  (fun A R s=>s.heap.get? l=some { cls:=.type "tuple",dict:=dd,data:=.seq #[u1,u2] n,slots:=sl }∧s.heap.get? b=some { cls:=.type "tuple",dict:=dd2,data:=.seq #[v1,v2] n2,slots:=sl2 } ∧
   AskT A.in1 s u1 v1 a1 b1∧AskT A.in1 s u2 v2 a2 b2 ∧
   R (.ok (.ret (.bool (lexLL [a1,a2] [b1,b2])))) s):=by
 intro prog w A R s h
 obtain⟨hp,g,d,tk,os⟩:=s;obtain⟨hl,hb,k1,k2,h⟩:=h
 have f2:=AutoSeq1.sub_tuple_tuple
 wp_walk using wpAny_loadPart' hl,wpAny_loadPart' hb,wpAny_forIn_list _ (fun rest b s'=>b.1=none∧s'=⟨hp,g,d,tk,os⟩∧∃ (xs:List (List Int×List Int)),Paired (fun(p:Value×Value) (q:List Int×List Int)=>AskT A.in1 ⟨hp,g,d,tk,os⟩ p.1 p.2 q.1 q.2) rest xs∧R (.ok (.ret (.bool (lexLL (xs.map (·.1)) (xs.map (·.2)))))) ⟨hp,g,d,tk,os⟩) _
 case turn =>
  rintro ⟨y,x⟩ rest b s' ⟨hb',rfl,xs,hpx,hR⟩
  cases hpx with
  | cons hq hpx' =>
   obtain⟨he,hlt⟩:=hq
   rename_i q xs'
   refine wpAny_bind (he prog w _ _ ?_)
   have hR':R (.ok (.ret (.bool (if q.1=q.2 then lexLL (xs'.map (·.1)) (xs'.map (·.2))else HT.lexLt q.1 q.2)))) ⟨hp,g,d,tk,os⟩:=hR
   by_cases e:q.1=q.2
   ·rw[if_pos e]at hR'
    rw[decide_eq_true e]
    wp_walk
    exact⟨rfl,rfl,_,hpx',hR'⟩
   ·rw[if_neg e]at hR'
    rw[decide_eq_false e]
    have hri:=hlt prog w
    wp_walk using hri
    exact hR'
 case fin =>
  rintro ⟨b1,b2⟩ s' ⟨hb',rfl,xs,hpx,hR⟩
  simp only at hb'
  subst hb'
  cases hpx
  wp_walk
  simpa[Builtin.Tuple.tupleCompareSizes,lexLL]using hR
 case h =>
  exact⟨rfl,rfl,[(a1,b1),(a2,b2)],.cons k1 (.cons k2 .nil),h⟩
end L2
namespace L2
open PySem PySem.W PySem.Spec PyProof.Rows PySem.SeqAt PySem.MeetsSeq
theorem eqvI:∀ a b:List Int,PyData.eqvAll (a.map PyData.int) (b.map PyData.int)=decide (a=b)
 | [],[]=>rfl
 | [],_ :: _=>rfl
 | _ :: _,[]=>rfl
 | x :: a,y :: b=>by
  show (PyData.eqv (.int x) (.int y) && PyData.eqvAll (a.map PyData.int) (b.map PyData.int))=_
  rw[eqvI a b,show PyData.eqv (.int x) (.int y)=decide (x=y) from rfl]
  by_cases h1:x=y <;> by_cases h2:a=b <;> simp[h1,h2]
theorem mapI_inj:∀ {a b:List Int},a.map V.int=b.map V.int→a=b
 | [],[],_=>rfl
 | [],_ :: _,h=>by cases h
 | _ :: _,[],h=>by cases h
 | x :: a,y :: b,h=>by
  injection h with h1 h2
  injection h1 with h1
  rw[h1,mapI_inj h2]
section
variable {X:Cx} {H:Hp}
noncomputable abbrev tI (a:List Int):PyData:=.tuple (a.map PyData.int)
theorem shaped_tI (a:List Int):SeqAt.shaped (tI a)=true:=by
 have h:=CW.shaped_ints a
 have h1:=SeqAt.canLay_of_shaped h
 have h2:=SeqAt.depth_of_shaped h
 unfold SeqAt.shaped
 rw[Bool.and_eq_true]
 exact⟨by simpa[PyData.canLay0]using h1,decide_eq_true (by simpa[PyData.depth]using h2)⟩
noncomputable def IsTi (H:Hp) (v:V) (a:List Int):Prop:=∃ l,v=.ref l∧H l=some (.tup (a.map V.int))
theorem IsTi.den {v:V} {a:List Int} (h:IsTi H v a):Den H v (tI a):=by
 obtain⟨l,rfl,h1⟩:=h
 exact .tup h1 (Dens.ints a)
theorem IsTi.ask {pins:List (Addr×Obj)} {σ:St} {s:Shared} {A:Around} {x y:V} {u v:Value} {a b:List Int} (I:Inv X pins σ H s) (hu:A.units+64<cLine) (hx:IsTi H x a) (hy:IsTi H y b) (rx:RelV x u) (ry:RelV y v):AskT A s u v a b:=by
 have d1:=hx.den
 have d2:=hy.den
 obtain⟨l,rfl,h1⟩:=hx
 obtain⟨l',rfl,h2⟩:=hy
 cases rx
 cases ry
 refine⟨?_,fun prog w E Q hq=>?_⟩
 ·by_cases e:l=l'
  ·subst e
   rw[h1]at h2
   have e2:a.map V.int=b.map V.int:=HO.tup.inj (Option.some.inj h2)
   have e3:a=b:=mapI_inj e2
   rw[decide_eq_true e3]
   exact EqAt.same _
  ·obtain⟨as,r1⟩:=d1.reads I.hok (u:=.ref l) rfl
   obtain⟨bs,r2⟩:=d2.reads I.hok (u:=.ref l') rfl
   refine EqAt.of_refs e fun prog w E Q hq=>?_
   refine eq_dataH r1 r2 (shaped_tI a) (shaped_tI b) hu ?_
   rw[show PyData.eqv (tI a) (tI b)=decide (a=b) from eqvI a b]
   exact hq
 ·obtain⟨its,r1,p1,_⟩:=I.tuple (SqT.of h1)
  obtain⟨its2,r2,p2,_⟩:=I.tuple (SqT.of h2)
  have i1:IntsAre its.toArray.toList a:=intsAre_of r1
  have i2:IntsAre its2.toArray.toList b:=intsAre_of r2
  exact HT.lt_tupInts p1 p2 i1 i2 (by omega) hq
noncomputable def IsPp (H:Hp) (v:V) (p:List Int×List Int):Prop:=∃ t x y,v=.ref t∧H t=some (.tup [x,y])∧IsTi H x p.1∧IsTi H y p.2
theorem lexLL_two (p q:List Int×List Int):lexLL [p.1,p.2] [q.1,q.2]=lex2 HT.lexLt HT.lexLt p q:=by
 show (if p.1=q.1 then (if p.2=q.2 then false else HT.lexLt p.2 q.2)else HT.lexLt p.1 q.1)=_
 unfold lex2
 by_cases h1:p.1=q.1
 ·rw[if_pos h1,if_pos h1]
  by_cases h2:p.2=q.2
  ·rw[if_pos h2,h2,lexLt_irr]
  ·rw[if_neg h2]
 ·rw[if_neg h1,if_neg h1]
theorem IsPp.lt {pins:List (Addr×Obj)} {σ:St} {s:Shared} {A:Around} {x y:V} {u v:Value} {p q:List Int×List Int} (I:Inv X pins σ H s) (hu:A.units+68<cLine) (hx:IsPp H x p) (hy:IsPp H y q) (rx:RelV x u) (ry:RelV y v) {E:Value→Shared→Prop} {Q:Bool→Shared→Prop} (hq:Q (lex2 HT.lexLt HT.lexLt p q) s) :
 wpAny (model X.prog X.w) A (oneLt' true u v) Q E s:=by
 obtain⟨t,x1,x2,rfl,h1,k1,k2⟩:=hx
 obtain⟨t',y1,y2,rfl,h1',k1',k2'⟩:=hy
 cases rx
 cases ry
 obtain⟨_,its,rv,⟨cls,dd,data,sl⟩,ho,hc,n,hd⟩:=(show ObjOk X.prog X.w H s.heap t (.tup [x1,x2]) from I.hok t _ h1)
 obtain⟨_,its',rv',⟨cls',dd',data',sl'⟩,ho',hc',n',hd'⟩:=(show ObjOk X.prog X.w H s.heap t' (.tup [y1,y2]) from I.hok t' _ h1')
 obtain⟨u1,u2,rfl,r1,r2⟩:=rv.two
 obtain⟨w1,w2,rfl,r1',r2'⟩:=rv'.two
 simp only at hc hd hc' hd'
 subst hc hd hc' hd'
 rw[oneLt'_eq]
 simp only[if_true]
 refine wpAny_bind (wpAny_cRoomFor (by omega) ?_)
 refine wpAny_bind (wpAny_callSpecialIfBound?_slot ⟨_,ho,rfl⟩ PySem.F.slot_tuple_lt (call_meets PySem.F.slot_tuple_lt ⟨_,ho,rfl⟩ PySem.F.entry_tuple_lt (PySem.F.args_tuple_lt_2 _ _) (tuple_lt_two t t' u1 u2 w1 w2 n n' dd dd' sl sl' p.1 p.2 q.1 q.2) ⟨ho,ho',IsTi.ask I (by show A.units+1+64<cLine;omega) k1 k1' r1 r1',IsTi.ask I (by show A.units+1+64<cLine;omega) k2 k2' r2 r2',?_⟩))
 rw[lexLL_two]
 exact wpAny_truthy_bool hq
end
end L2
namespace L2
open PySem PySem.W PySem.Spec PyProof.Rows PySem.SeqAt PySem.MeetsSeq
section
variable {X:Cx} {H:Hp}
noncomputable abbrev tP (p:List Int×List Int):PyData:=.tuple [tI p.1,tI p.2]
theorem depth_tI (a:List Int):(tI a).depth≤1:=by simp[PyData.depth,CW.depth_ints]
theorem shaped_tP (p:List Int×List Int):SeqAt.shaped (tP p)=true:=by
 have h1:=SeqAt.canLay_of_shaped (shaped_tI p.1)
 have h2:=SeqAt.canLay_of_shaped (shaped_tI p.2)
 have d1:=depth_tI p.1
 have d2:=depth_tI p.2
 unfold SeqAt.shaped
 rw[Bool.and_eq_true]
 refine⟨by simp[PyData.canLay0,PyData.canLayAll0]at h1 h2 ⊢;exact⟨h1,h2⟩,decide_eq_true ?_⟩
 simp only[PyData.depth,PyData.depthAll]at d1 d2 ⊢
 omega
theorem eqv_tP (p q:List Int×List Int):PyData.eqv (tP p) (tP q)=decide (p=q):=by
 show (PyData.eqv (tI p.1) (tI q.1) && (PyData.eqv (tI p.2) (tI q.2) && true))=_
 rw[show PyData.eqv (tI p.1) (tI q.1)=decide (p.1=q.1) from eqvI _ _,show PyData.eqv (tI p.2) (tI q.2)=decide (p.2=q.2) from eqvI _ _]
 obtain⟨p1,p2⟩:=p
 obtain⟨q1,q2⟩:=q
 by_cases h1:p1=q1 <;> by_cases h2:p2=q2 <;> simp[h1,h2]
theorem IsTi.inj {v:V} {a b:List Int} (h:IsTi H v a) (h':IsTi H v b):a=b:=by
 obtain⟨l,rfl,h1⟩:=h
 obtain⟨l',e,h2⟩:=h'
 cases e
 rw[h1]at h2
 exact mapI_inj (HO.tup.inj (Option.some.inj h2))
theorem IsPp.eqAt {pins:List (Addr×Obj)} {σ:St} {s:Shared} {A:Around} {x y:V} {u v:Value} {p q:List Int×List Int} (I:Inv X pins σ H s) (hu:A.units+64<cLine) (hx:IsPp H x p) (hy:IsPp H y q) (rx:RelV x u) (ry:RelV y v):EqAt A s u v (decide (p=q)):=by
 obtain⟨t,x1,x2,rfl,h1,k1,k2⟩:=hx
 obtain⟨t',y1,y2,rfl,h1',k1',k2'⟩:=hy
 cases rx
 cases ry
 by_cases e:t=t'
 ·subst e
  rw[h1]at h1'
  have e2:=HO.tup.inj (Option.some.inj h1')
  injection e2 with e3 e4
  injection e4 with e4 _
  subst e3 e4
  rw[decide_eq_true (Prod.ext (k1.inj k1') (k2.inj k2'))]
  exact EqAt.same _
 ·obtain⟨as,r1⟩:=(Den.tup h1 (.cons k1.den (.cons k2.den .nil))).reads I.hok (u:=.ref t) rfl
  obtain⟨bs,r2⟩:=(Den.tup h1' (.cons k1'.den (.cons k2'.den .nil))).reads I.hok (u:=.ref t') rfl
  refine EqAt.of_refs e fun prog w E Q hq=>?_
  refine eq_dataH r1 r2 (shaped_tP p) (shaped_tP q) hu ?_
  rw[eqv_tP]
  exact hq
end
end L2
namespace L2
open PySem PySem.W PySem.Spec PyProof.Rows PySem.SeqAt PySem.MeetsSeq
section
variable {X:Cx} {H:Hp}
theorem IsPp.ltF {pins:List (Addr×Obj)} {σ:St} {s:Shared} {A:Around} {x y:V} {u v:Value} {p q:List Int×List Int} (I:Inv X pins σ H s) (hu:A.units+68<cLine) (hx:IsPp H x p) (hy:IsPp H y q) (rx:RelV x u) (ry:RelV y v) {E:Value→Shared→Prop} {Q:Bool→Shared→Prop} (hq:Q (lex2 HT.lexLt HT.lexLt p q) s) :
 wpAny (model X.prog X.w) A (oneLt' false u v) Q E s:=by
 obtain⟨t,x1,x2,rfl,h1,k1,k2⟩:=hx
 obtain⟨t',y1,y2,rfl,h1',k1',k2'⟩:=hy
 cases rx
 cases ry
 obtain⟨_,its,rv,⟨cls,dd,data,sl⟩,ho,hc,n,hd⟩:=(show ObjOk X.prog X.w H s.heap t (.tup [x1,x2]) from I.hok t _ h1)
 obtain⟨_,its',rv',⟨cls',dd',data',sl'⟩,ho',hc',n',hd'⟩:=(show ObjOk X.prog X.w H s.heap t' (.tup [y1,y2]) from I.hok t' _ h1')
 obtain⟨u1,u2,rfl,r1,r2⟩:=rv.two
 obtain⟨w1,w2,rfl,r1',r2'⟩:=rv'.two
 simp only at hc hd hc' hd'
 subst hc hd hc' hd'
 rw[oneLt'_eq]
 simp only[Bool.false_eq_true,if_false]
 refine wpAny_bind (richCompare_meets_room (op:=.Lt) ⟨_,ho,rfl⟩ ⟨_,ho',rfl⟩ PySem.F.slot_tuple_lt PySem.F.entry_tuple_lt (PySem.F.args_tuple_lt_2 _ _) (tuple_lt_two t t' u1 u2 w1 w2 n n' dd dd' sl sl' p.1 p.2 q.1 q.2) ⟨ho,ho',IsTi.ask I ?_ k1 k1' r1 r1',IsTi.ask I ?_ k2 k2' r2 r2',?_⟩ (by omega))
 ·show A.units+1+64<cLine;omega
 ·show A.units+1+64<cLine;omega
 ·rw[lexLL_two]
  exact⟨(fun x=>nomatch x),wpAny_truthy_bool hq⟩
noncomputable def IsKy (H:Hp) (v:V) (p:Int×(List Int×List Int)):Prop:=∃ t x,v=.ref t∧H t=some (.tup [.int p.1,x])∧IsPp H x p.2
theorem cmp_key {us:List V} {its:List (Int×(List Int×List Int))} (hu:X.A.units+74<cLine) (h:Paired (IsKy H) us its):CmpH X H us StO.keys.ord (fun i=>its.getD i (0,[],[])) (tuples' true):=by
 intro pins σ s vs I r
 have hl:=r.length
 have at1:∀ {x:V} {v:Value} {p:Int×(List Int×List Int)},RelV x v→IsKy H x p→∃ t o n k1 w y,v=.ref t∧s.heap.get? t=some o∧o.cls=.type "tuple"∧o.data=.seq #[.int p.1 k1,w] n∧RelV y w∧IsPp H y p.2:=fun {x v p} rx hx=>by
  obtain⟨t,y,rfl,h1,h2⟩:=hx
  cases rx
  obtain⟨_,its',rv',o,ho,hc,n,hd⟩:=(show ObjOk X.prog X.w H s.heap t (.tup [.int _,y]) from I.hok t _ h1)
  obtain⟨u1,u2,rfl,⟨k1,rfl⟩,r2⟩:=rv'.two
  exact⟨t,o,n,k1,u2,y,rfl,ho,hc,hd,r2,h2⟩
 refine⟨fun h2 E Q hq=>?_,fun i j C hi hj hC=>?_⟩
 ·have fs:∀ {us:List V} {vs:List Value} {its:List (Int×(List Int×List Int))},Vals us vs→Paired (IsKy H) us its→∃ fs:List Value,KatTups s.heap vs fs∧fs.length=vs.length∧∀ v∈fs,∃ i t,v=Value.int i t:=by
   intro us
   induction us with
   | nil=>intro vs its a b;cases a;exact⟨[],.nil,rfl,fun v hv=>(by cases hv)⟩
   | cons x us ih =>
    intro vs its a b
    cases a with
    | cons a1 a2 =>
     cases b with
     | cons b1 b2 =>
      obtain⟨fs,f1,f2,f3⟩:=ih a2 b2
      obtain⟨t,o,n,k1,w,y,rfl,ho,hc,hd,_,_⟩:=at1 a1 b1
      refine⟨.int _ k1 :: fs,.cons ho hc hd rfl f1,by simp[f2],fun v hv=>?_⟩
      rcases List.mem_cons.mp hv with z | z
      ·exact⟨_,_,z⟩
      ·exact f3 v z
  obtain⟨fs,f1,f2,f3⟩:=fs r h
  refine kat_kind (T:=.type "int") f1 (by omega) (fun v hv=>?_) rfl hq
  obtain⟨i,t,rfl⟩:=f3 v hv
  exact Looks.now
 ·unfold kas_ask
  have a1:=paired_getD (x:=V.non) (y:=Value.none) r (i:=i) (by omega)
  have a2:=paired_getD (x:=V.non) (y:=Value.none) r (i:=j) (by omega)
  have b1:=paired_getD (x:=V.non) (y:=((0:Int),(([]:List Int),([]:List Int)))) h (i:=i) (by omega)
  have b2:=paired_getD (x:=V.non) (y:=((0:Int),(([]:List Int),([]:List Int)))) h (i:=j) (by omega)
  have hC':C (keyLtN (its.getD i (0,[],[])) (its.getD j (0,[],[]))) s:=hC
  clear hC
  generalize its.getD i (0,[],[])=p at b1 hC'
  generalize its.getD j (0,[],[])=q at b2 hC'
  obtain⟨t,o,n,k1,w,y,e1,ho,hc,hd,ry,hy⟩:=at1 a1 b1
  obtain⟨t',o',n',k1',w',y',e1',ho',hc',hd',ry',hy'⟩:=at1 a2 b2
  rw[e1,e1']
  refine kat_lt ho hd ho' hd' ?_
  refine kat_cons (wpAny_eqBool_int ?_)
  have hk:keyLtN p q=if p.1=q.1 then lex2 HT.lexLt HT.lexLt p.2 q.2 else decide (p.1<q.1):=rfl
  rw[hk]at hC'
  by_cases g1:p.1=q.1
  ·rw[if_pos g1]at hC'
   rw[show (p.1 == q.1)=true by simpa using g1]
   refine kat_yes (kat_cons ?_)
   refine IsPp.eqAt I (by show X.A.units+1+1+64<cLine;omega) hy hy' ry ry' _ _ _ _ ?_
   by_cases g2:p.2=q.2
   ·rw[decide_eq_true g2]
    refine kat_yes (kat_nil ?_)
    rw[g2,(StO.lists.lex2 StO.lists).irr]at hC'
    exact hC'
   ·rw[decide_eq_false g2]
    exact kat_no (IsPp.ltF I (by show X.A.units+1+1+68<cLine;omega) hy hy' ry ry' hC')
  ·rw[if_neg g1]at hC'
   rw[show (p.1 == q.1)=false by simpa using g1]
   exact kat_no (oneLt_int hC')
end
end L2
namespace L2
open PySem PySem.Spec PyProof.Rows
section
variable {prog:Program} {w:World} {A:Around} {E:Value→Shared→Prop} {s:Shared}
theorem ext_long {R:Result→Shared→Prop} {r:Addr} {x y:Int} {t u v:Tok} {n:Nat} (hd:A.handled=none) (er:IsRange s.heap r x y 1 t u v) (nb:Builtin.Range.small x y 1=false)
 (en:Builtin.Range.rangeSize x y 1=n) (few:n≤2 ^ 24) (l:Addr) (rv:Value) (k0:Nat) (el:s.heap.get? l=some { cls:=.type "list",data:=.seq #[] k0 })
 (kk:∀ h' tk ac k',(∀ b o,b≠l→s.heap.get? b=some o→h'.get? b=some o)→h'.get? l=some { cls:=.type "list",dict:=none,data:=.seq ac k',slots:=#[] } →
  ItemsOf (fun i v=>∃ t,v=.int (x+i * 1) t) ac n→R (.ok (.ret rv)) { s with heap:=h',toks:=tk }) :
 wpAny (model prog w) A.in1 (Builtin.List.listExtendWith (.ref l) (.ref r) rv)
  (fun z s1=>match z with | .done f=>R (.ok f) s1 | .again d=>d.quiet=true∧codeAny (model prog w) A d R s1) (fun e s1=>R (.error e) s1) s:=by
 have nlr:l≠r:=fun e=>by rw[e,er]at el;simp at el
 have lts:l<s.heap.objs.size:=Heap.lt_size el
 have nls:l≠s.heap.objs.size:=Nat.ne_of_lt lts
 have nin:l∉[s.heap.objs.size]:=fun q=>nls (List.mem_singleton.mp q)
 have WK:=(Walks.longrange (prog:=prog) (w:=w) (A:=A.in1) hd s.heap.objs.size x 1 n).toS
 have main:∀ (h:Heap) (k1 tk:Nat),IsLongIter h s.heap.objs.size (x+((0:Nat):Int) * 1) ((n:Int) - ((0:Nat):Int)) 1→(∀ b o,b≠l→s.heap.get? b=some o→h.get? b=some o) →
  h.get? l=some { cls:=.type "list",data:=.seq #[] k1 }→codeAny (model prog w) A (.builtin "list.extend.loop" ⟨[.ref l,.ref s.heap.objs.size,rv],[]⟩) R { s with heap:=h,toks:=tk }:=by
  intro h k1 tk a1 a2 a3
  refine codeAny_extend_loopS WK (by rw[sizeLine_eq];omega) l nin rv n 0 _ #[] k1 rfl (Nat.zero_le _) a1 a3 (ItemsOf.nil _) fun s1 ac k' mv e1 e2=>?_
  rw[Moved.eq_with mv]
  refine kk s1.heap s1.toks ac k' (fun b o nb e=>mv.heap b o (fun q=>?_) (a2 b o nb e)) e1 e2
  rcases List.mem_cons.mp q with z | z
  ·exact nb z
  ·exact absurd (Heap.lt_size e) (by rw[List.mem_singleton.mp z];exact Nat.lt_irrefl _)
 unfold Builtin.List.listExtendWith
 refine wpAny_bind (wpAny_typeOf (T:="range") ⟨_,er,rfl⟩ ?_)
 have q1:Builtin.List.listSameRef (.ref l) (.ref r)=false:=by simp[Builtin.List.listSameRef,nlr]
 have q2:(Value.type "range" == Value.type "list")=false∧(Value.type "range" == Value.type "tuple")=false:=by decide
 simp only[q1,q2.1,q2.2,Bool.or_false,Bool.false_eq_true,if_false]
 refine wpAny_bind (wpAny_pyIter_longrange er nb ?_)
 refine wpAny_bind (wpAny_holding (wpAny_hint_range (n:=n) (Heap.get?_push_of_some _ er) en few ?_))
 have i1:IsLongIter (s.heap.push { cls:=.type "longrange_iterator",data:=.fields #[rawInt x,rawInt (Builtin.Range.rangeSize x y 1),rawInt 1] }) s.heap.objs.size (x+((0:Nat):Int) * 1) ((n:Int) - ((0:Nat):Int)) 1:=by
  show IsLongIter _ _ _ _ _;rw[en];simpa using Heap.get?_push_size _ rfl
 have el1:=Heap.get?_push_of_some { cls:=.type "longrange_iterator",data:=.fields #[rawInt x,rawInt (Builtin.Range.rangeSize x y 1),rawInt 1] } el
 refine wpAny_ite_split (fun _=>?_) (fun _=>wpAny_pure ⟨plainId_quiet F.plain_extend_loop _,main _ k0 _ i1 (fun b o _ e=>Heap.get?_push_of_some _ e) el1⟩)
 refine wpAny_bind (wpAny_rule (wpAny_bind ?_))
 show wpAny _ _ (updateSeq l (·.push .none) >>= fun _=>updateSeq l (·.pop)) _ _ _
 refine wpAny_bind (wpAny_updateSeq el1 rfl ?_)
 have el2:=Heap.get?_update_self (Obj.mapSeq (·.push Value.none)) el1 rfl
 refine wpAny_updateSeq (hz:=by seq_fits) el2 rfl ?_
 have el3:=Heap.get?_update_self (Obj.mapSeq (·.pop)) el2 rfl
 refine wpAny_pure ⟨plainId_quiet F.plain_extend_loop _,main _ _ _ ((Heap.get?_update_other _ _ nls).trans ((Heap.get?_update_other _ _ nls).trans i1)) (fun b o hb e=>?_) el3⟩
 exact(Heap.get?_update_other _ _ (Ne.symm hb)).trans ((Heap.get?_update_other _ _ (Ne.symm hb)).trans (Heap.get?_push_of_some _ e))
theorem list_of_long {Q:Value→Shared→Prop} {r:Addr} {x y:Int} {t u v:Tok} {n:Nat} (hd:A.handled=none) (er:IsRange s.heap r x y 1 t u v) (nb:Builtin.Range.small x y 1=false)
 (en:Builtin.Range.rangeSize x y 1=n) (few:n≤2 ^ 24)
 (kk:∀ h' tk ac k',(∀ b o,s.heap.get? b=some o→h'.get? b=some o) →
  h'.get? s.heap.objs.size=some { cls:=.type "list",dict:=none,data:=.seq ac k',slots:=#[] }→ItemsOf (fun i v=>∃ t,v=.int (x+i * 1) t) ac n→Q (.ref s.heap.objs.size) { s with heap:=h',toks:=tk }) :
 wpAny (model prog w) A (call (.type "list") [.ref r]) Q E s:=by
 refine callType_codes (Q₁:=fun obj s₁=>obj=.ref s.heap.objs.size∧s₁={ s with heap:=s.heap.push { cls:=.type "list",data:=.seq #[] } }) F.called_list (F.typeCall_list_1 _) F.entry_list_init (code_list_new _ ⟨rfl,rfl⟩) fun ob s1 q=>?_
 obtain⟨rfl,rfl⟩:=q
 have el:(s.heap.push { cls:=.type "list",data:=.seq #[] }).get? s.heap.objs.size=some { cls:=.type "list",data:=.seq #[] }:=Heap.get?_push_size _ rfl
 refine⟨⟨_,el,rfl⟩,F.args_list_init_2 _ _,?_⟩
 have er1:=Heap.get?_push_of_some { cls:=.type "list",data:=.seq #[] } er
 have nr:s.heap.objs.size≠r:=fun z=>absurd (Heap.lt_size er) (by rw[z];exact Nat.lt_irrefl _)
 have old:∀ b o,s.heap.get? b=some o→b≠s.heap.objs.size∧(s.heap.push { cls:=.type "list",data:=.seq #[] }).get? b=some o:=fun b o e=>⟨Nat.ne_of_lt (Heap.lt_size e),Heap.get?_push_of_some _ e⟩
 generalize s.heap.push { cls:=.type "list",data:=.seq #[] }=h0 at el er1 old
 generalize s.heap.objs.size=l at el nr old kk
 show wpAny _ _ (do let old ← Builtin.List.listItems (.ref l);Builtin.List.listUpdate (.ref l) (fun _=>#[]);letGo old.toList.reverse;Builtin.List.listExtendWith (.ref l) (.ref r) .none) _ _ _
 refine wpAny_bind ?_
 unfold Builtin.List.listItems
 refine wpAny_bind (wpAny_seqItems el rfl (wpAny_pure ?_))
 show wpAny _ _ (updateSeq l (fun _=>#[]) >>= fun _=>letGo (#[]:Array Value).toList.reverse >>= fun _=>Builtin.List.listExtendWith (.ref l) (.ref r) .none) _ _ _
 refine wpAny_bind (wpAny_updateSeq el rfl ?_)
 have el2:=Heap.get?_update_self (Obj.mapSeq (fun _=>(#[]:Array Value))) el rfl
 have oth:∀ b o,b≠l→h0.get? b=some o→(h0.update l (Obj.mapSeq (fun _=>(#[]:Array Value)))).get? b=some o:=fun b o hb e=>(Heap.get?_update_other _ _ (Ne.symm hb)).trans e
 refine wpAny_bind (wpAny_letGo (ext_long (A:=A.in1) hd (oth r _ (Ne.symm nr) er1) nb en few l .none _ el2 fun h' tk ac k' g1 g2 g3=>?_))
 exact⟨rfl,kk h' tk ac k' (fun b o e=>g1 b o (old b o e).1 (oth b o (old b o e).1 (old b o e).2)) g2 g3⟩
end
section
variable {X:Cx}
theorem items_rng:∀ (n:Nat) (l:List Value) (i:Int),l.length=n→(∀ (k:Nat) v,l[k]?=some v→∃ t,v=Value.int (i+(k:Int)) t)→Vals ((rngL i n).map V.int) l:=by
 intro n
 induction n with
 | zero =>
  intro l i hl _
  rw[List.length_eq_zero_iff.mp hl]
  exact .nil
 | succ n ih =>
  intro l i hl hv
  cases l with
  | nil=>cases hl
  | cons v l =>
   have e0:=hv 0 v rfl
   have e1:(rngL i (n+1)).map V.int=V.int (i+((0:Nat):Int)) :: (rngL (i+1) n).map V.int:=by
    unfold rngL
    rw[List.range_succ_eq_map,List.map_cons,List.map_map,List.map_cons,List.map_map,List.map_map]
    congr 1
    apply List.map_congr_left
    intro k _
    simp only[Function.comp]
    congr 1
    omega
   rw[e1]
   refine .cons e0 (ih l (i+1) (by simpa using hl) fun k u hu=>?_)
   obtain⟨t,et⟩:=hv (k+1) u (by simpa using hu)
   exact⟨t,by rw[et];congr 1;omega⟩
theorem call_list_rngA (hc:X.calm=true):CallR X (.type "list") (fun xs H Q=>∃ (r:Addr) (i j:Int),xs=[.ref r]∧H r=some (.rng i j)∧(j - i).toNat≤10000∧∀ l,H l=none→Q (.ref l) (upd H l (.lst ((rngL i (j - i).toNat).map V.int)))):=by
 intro pins s σ H xs us Q I r h
 obtain⟨a,i,j,rfl,hr,hlen,q⟩:=h
 obtain⟨u,rfl,rx⟩:=vals1 r
 cases rx
 obtain⟨t,u,v,e⟩:=(show ObjOk X.prog X.w H s.heap a (.rng i j) from I.hok a _ hr)
 have hn:Builtin.Range.rangeSize i j 1=(((j - i).toNat:Nat):Int):=by rw[rangeSize_one];split <;> omega
 have fin:∀ h' tk ac k',(∀ b o,s.heap.get? b=some o→h'.get? b=some o)→h'.get? s.heap.objs.size=some { cls:=.type "list",dict:=none,data:=.seq ac k',slots:=#[] }→ItemsOf (fun i' v=>∃ t,v=.int (i+i' * 1) t) ac (j - i).toNat→EP X pins σ Q (.ref s.heap.objs.size) { s with heap:=h',toks:=tk }:=fun h' tk ac k' kp eS hacc=>by
  refine⟨.ref s.heap.objs.size,_,I.laid (o:=.lst ((rngL i (j - i).toNat).map V.int)) kp (Nat.le_refl _) ?_,rfl,q _ (I.hok.fresh (Nat.le_refl _))⟩
  have hl0:ac.size=(j - i).toNat:=hacc.1
  refine⟨?_,ac.toList,k',?_,by simpa using eS⟩
  ·simp only[rngL,List.length_map,List.length_range]
   exact Nat.le_trans hlen (by decide)
  ·refine items_rng _ _ i (by simpa using hl0) fun k v hv=>?_
   obtain⟨t,et⟩:=hacc.2 k v (by simpa using hv)
   exact⟨t,by rw[et];congr 1;omega⟩
 cases hs:Builtin.Range.small i j 1 with
 | true=>exact call_list_range (I.ok.hd hc) e hs hn (Nat.le_trans hlen (by decide)) fin
 | false=>exact list_of_long (I.ok.hd hc) e hs hn (Nat.le_trans hlen (by decide)) fin
end
end L2
namespace CW
open PySem L2
noncomputable abbrev LL:=List Int×List Int
theorem IsTi.tup {H H':Hp} (g:TupS H H') {v:V} {a:List Int} (h:IsTi H v a):IsTi H' v a:=by
 obtain⟨l,e,h1⟩:=h
 exact⟨l,e,g _ _ h1⟩
theorem IsPp.tup {H H':Hp} (g:TupS H H') {v:V} {p:LL} (h:IsPp H v p):IsPp H' v p:=by
 obtain⟨t,x,y,e,h1,h2,h3⟩:=h
 exact⟨t,x,y,e,g _ _ h1,IsTi.tup g h2,IsTi.tup g h3⟩
noncomputable def hdPair (n:Nat) (y z:Trs):LL:=if n % 2=0 then ((cutF (rlen y) y).1,(cutF (rlen y) z).1)else ((cutF (rlen y) z).1,(cutF (rlen y) y).1)
inductive HdR:List Trs→List LL→Prop
 | nil {rs:List Trs}:rs.length≤1→HdR rs []
 | step {A B:List Trs} {x y z:Trs} {its:List LL}:FndR (A++x :: y :: z :: B) (A.length+2)→HdR (A++(x++(cutF (rlen y) z).2) :: B) its→HdR (A++x :: y :: z :: B) (hdPair (A.length+2) y z :: its)
noncomputable def kyOf (p:LL):Int×LL:=((p.1.length:Int),p)
noncomputable def SrtK (its qs:List LL):Prop:=qs.Perm its∧(qs.map kyOf).Pairwise fun a b=>keyLtN b a=false
theorem SrtK.eq {its qs qs':List LL} (h:SrtK its qs) (h':SrtK its qs'):qs=qs':=by
 have e:qs.map kyOf=qs'.map kyOf:=((h.1.trans h'.1.symm).map kyOf).eq_of_pairwise (le:=fun a b=>keyLtN b a=false) (fun a b _ _ h1 h2=>StO.keys.tot h2 h1) h.2 h'.2
 have:=congrArg (List.map Prod.snd) e
 simpa[List.map_map,Function.comp_def,kyOf]using this
theorem up_keys {its:List (Int×LL)} {p:Array Nat} (hl:p.toList.length=its.length) (up:Up StO.keys.ord (fun i=>its.getD i (0,[],[])) p its.length):(p.toList.map fun i=>its.getD i (0,[],[])).Pairwise fun a b=>keyLtN b a=false:=by
 rw[List.pairwise_iff_getElem]
 intro i j hi hj hij
 rw[List.length_map]at hi hj
 have:=up i j (Nat.le_of_lt hij) (by omega)
 have e:∀ k (hk:k<p.toList.length),KP StO.keys.ord (fun i=>its.getD i (0,[],[])) p k=its.getD (p.toList[k]) (0,[],[]):=fun k hk=>by
  unfold KP
  simp at hk
  simp[hk]
  rfl
 have k:StO.keys.ord.blt (KP StO.keys.ord (fun i=>its.getD i (0,[],[])) p j) (KP StO.keys.ord (fun i=>its.getD i (0,[],[])) p i)=false:=this
 rw[e i hi,e j hj]at k
 rw[List.getElem_map,List.getElem_map]
 exact k
theorem srt_of {its:List LL} {p:Array Nat} (hp:p.toList.Perm (List.range its.length)) (up:Up StO.keys.ord (fun i=>(its.map kyOf).getD i (0,[],[])) p its.length):SrtK its (p.toList.map fun i=>its.getD i ([],[])):=by
 have hl:p.toList.length=its.length:=by rw[hp.length_eq,List.length_range]
 have hm:∀ i∈p.toList,i<its.length:=fun i hi=>List.mem_range.mp (hp.mem_iff.mp hi)
 refine⟨?_,?_⟩
 ·have h1:=hp.map fun i=>its.getD i ([],[])
  refine h1.trans (List.Perm.of_eq ?_)
  refine List.ext_getElem (by simp) fun k h1 h2=>?_
  simp at h1
  simp[h1]
 ·rw[List.map_map]
  have h2:=up_keys (its:=its.map kyOf) (show p.toList.length=(its.map kyOf).length by simpa using hl) (show Up StO.keys.ord (fun i=>(its.map kyOf).getD i (0,[],[])) p (its.map kyOf).length by rw[List.length_map];exact up)
  rw[show p.toList.map (kyOf∘fun i=>its.getD i ([],[]))=p.toList.map fun i=>(its.map kyOf).getD i (0,[],[]) from List.map_congr_left fun i hi=>by
   have:=hm i hi
   simp[List.getD_eq_getElem?_getD,this]]
  exact h2
theorem keyRunN {tb:TE} {N:List Str} {f c ao kS:Addr} {LX CXo EX:HO} {R:Hp→V→V→Prop} {K:List V→Hp→Prop} (nf:f≠kS) (nc:c≠kS) (na:ao≠kS) (monoR:∀ H1 H2 v k,SameP kS H1 H2→R H1 v k→R H2 v k) :
 ∀ (us kus:List V) (H:Hp),H f=some LX→H c=some CXo→H ao=some EX→H kS=some (.lst kus) →
  (∀ v∈us,∀ (H':Hp) (Q:VK),SameP kS H H'→H' kS≠none→(∀ k H'',Same H' H''→R H'' v k→Q k H'')→tb (start N [v]) H' Q) →
  (∀ ks H',Paired (R H') us ks→SameP kS H H'→H' kS=some (.lst (kus++ks))→K (kus++ks) H')→KeyRun tb N f c ao kS LX CXo EX us kus H K
 | [],kus,H,hf,hc,ha,hk,_,fin=>by
  have:=fin [] H .nil (fun _ _ _ e=>e) (by rw[List.append_nil];exact hk)
  rw[List.append_nil]at this
  exact this
 | v :: us,kus,H,hf,hc,ha,hk,step,fin=>by
  refine step v List.mem_cons_self H _ (fun _ _ _ e=>e) (by rw[hk];simp) fun k H1 g r=>⟨g _ _ hf,g _ _ hc,g _ _ ha,g _ _ hk,?_⟩
  have g2:SameP kS H (upd H1 kS (.lst (kus++[k]))):=fun b o n e=>by rw[upd_ne n];exact g _ _ e
  refine keyRunN nf nc na monoR us (kus++[k]) _ (g2 _ _ nf hf) (g2 _ _ nc hc) (g2 _ _ na ha) upd_same (fun v hv H' Q g' hn hQ=>step v (List.mem_cons_of_mem _ hv) H' Q (g2.trans g') hn hQ) fun ks H' pr g' ek=>?_
  rw[List.append_assoc]at ek ⊢
  exact fin (k :: ks) H' (.cons (monoR _ _ _ _ ((SameP.tbl (o:=.lst (kus++[k]))).trans g') r) pr) (g2.trans g') ek
theorem keys_ky {kS:Addr} {H H':Hp} (g:∀ b xs,H b=some (.tup xs)→H' b=some (.tup xs)):∀ {us ks:List V} {its:List LL},Paired (IsPp H) us its→Paired (fun v k=>∃ t n,k=.ref t∧t≠kS∧H' t=some (.tup [.int n,v])∧∃ p,IsPp H v p∧n=(p.1.length:Int)) us ks→Paired (IsKy H') ks (its.map kyOf)
 | _,_,_,.nil,.nil=>.nil
 | _,_,_,.cons h r,.cons ⟨t,n,e,_,h1,p,h2,e2⟩ r'=>by
  refine .cons ⟨t,_,e,?_,IsPp.tup g h⟩ (keys_ky g r r')
  obtain⟨t1,x1,y1,e1,a1,a2,a3⟩:=h
  obtain⟨t2,x2,y2,e3,b1,b2,b3⟩:=h2
  rw[e1]at e3
  cases e3
  rw[a1]at b1
  injection b1 with b1
  injection b1 with b1
  injection b1 with b4 b1
  subst b4
  rw[h1,e2,b2.inj a2]
  rfl
theorem ord_pp {H:Hp} {us:List V} {its:List LL} (h:Paired (IsPp H) us its):∀ {q:List Nat},(∀ i∈q,i<us.length)→Paired (IsPp H) (ordV us q) (q.map fun i=>its.getD i ([],[]))
 | [],_=>.nil
 | i :: q,hq=>.cons (paired_getD (x:=V.non) (y:=(([]:List Int),([]:List Int))) h (hq i List.mem_cons_self)) (ord_pp h fun j hj=>hq j (List.mem_cons_of_mem _ hj))
theorem foldMin_le:∀ (r:List Int) (n:Int),r.foldl min n≤n∧∀ x∈r,r.foldl min n≤x
 | [],n=>⟨Int.le_refl _,fun x hx=>(nomatch hx)⟩
 | y :: r,n=>by
  obtain⟨h1,h2⟩:=foldMin_le r (min n y)
  show List.foldl min (min n y) r≤n∧_
  refine⟨by omega,fun x hx=>?_⟩
  show List.foldl min (min n y) r≤x
  rcases List.mem_cons.mp hx with rfl | hx
  ·omega
  ·exact h2 x hx
theorem loM_le (row:List Int):∀ x∈row,loM row≤x:=by
 cases row with
 | nil=>exact fun x hx=>(nomatch hx)
 | cons n r =>
  intro x hx
  obtain⟨h1,h2⟩:=foldMin_le r n
  rcases List.mem_cons.mp hx with rfl | hx
  ·exact h1
  ·exact h2 x hx
theorem hd_srt {X:Cx} {qual:Str} {params:Arguments} {body:Expr} {scope:Scope} {N:List Str} {tb:TE} {f' c' lp:Addr} {us:List V} {its:List LL} {Hb:Hp} {Q:VK} (hu:X.A.units+74<cLine)
 (htb:∀ (v:V) (p:LL) (H':Hp) (Q':VK),IsPp H' v p→(∀ t,H' t=none→Q' (.ref t) (upd H' t (.tup [.int (p.1.length:Int),v])))→tb (start N [v]) H' Q')
 (eLX:Hb f'=some (LamX f' qual params body scope c')) (eCX:Hb c'=some (CodeX c' qual)) (eus:Hb lp=some (.lst us)) (hl:us.length<64) (pr:Paired (IsPp Hb) us its)
 (kk:∀ (qs:List LL) (us':List V) (l:Addr) (H':Hp),SrtK its qs→Same Hb H'→Hb l=none→H' l=some (.lst us')→Paired (IsPp H') us' qs→Q (.ref l) H'):srtK X qual params body scope N tb (.ref lp) (.ref f') Hb Q:=by
 refine⟨lp,us,f',c',rfl,rfl,eus,hl,eLX,eCX,fun ao kS EX hao hkS hne=>?_⟩
 generalize LamX f' qual params body scope c'=LX at eLX ⊢
 generalize CodeX c' qual=CXo at eCX ⊢
 have hul:us.length=its.length:=Paired.length pr
 have nfk:f'≠kS:=fun e=>by rw[e,hkS]at eLX;cases eLX
 have nck:c'≠kS:=fun e=>by rw[e,hkS]at eCX;cases eCX
 have nn:∀ {b:Addr} {o:HO} {d:Addr},Hb b=some o→Hb d=none→b≠d:=fun h1 h2 e=>by rw[e,h2]at h1;cases h1
 have up1:Same Hb (upd (upd Hb ao EX) kS (.lst [])):=fun b o e=>by rw[upd_ne (nn e hkS),upd_ne (nn e hao)];exact e
 have up2:∀ {H':Hp},SameP kS (upd (upd Hb ao EX) kS (.lst [])) H'→Same Hb H':=fun g b o e=>g _ _ (nn e hkS) (up1 _ _ e)
 refine keyRunN (R:=fun H' v k=>∃ t n,k=.ref t∧t≠kS∧H' t=some (.tup [.int n,v])∧∃ p:LL,IsPp Hb v p∧n=(p.1.length:Int)) nfk nck hne (fun H1 H2 v k g ⟨t,n,e,hn,h1,h2⟩=>⟨t,n,e,hn,g _ _ hn h1,h2⟩) us [] _ (up1 _ _ eLX) (up1 _ _ eCX) (by rw[upd_ne hne];exact upd_same) upd_same (fun v hv H' Q' g hn hQ=>?_) fun ks H' prk g ek=>?_
 ·obtain⟨p,_,hp⟩:=paired_all pr v hv
  refine htb v p H' Q' (IsPp.tup (TupS.same (up2 g)) hp) fun t ht=>hQ _ _ (Same.upd ht) ⟨t,_,rfl,fun e=>hn (by rw[← e];exact ht),upd_same,p,hp,rfl⟩
 ·rw[List.nil_append]at ek ⊢
  refine⟨g _ _ hne (by rw[upd_ne hne];exact upd_same),ek,StO.keys.ord,(fun i=>(its.map kyOf).getD i (0,[],[])),PyProof.Rows.tuples' true,cmp_key hu (keys_ky (TupS.same (up2 g)) pr prk),fun q hq huq=>?_⟩
  have gf:Same Hb (upd (upd H' kS (.lst [])) ao (.lst (ordV us q.toList))):=fun b o e=>by rw[upd_ne (nn e hao),upd_ne (nn e hkS)];exact up2 g _ _ e
  rw[hul]at hq huq
  refine kk _ _ ao _ (srt_of hq huq) gf hao upd_same (ord_pp (pr.mono fun _ _ h=>IsPp.tup (TupS.same gf) h) fun i hi=>?_)
  rw[hul]
  exact List.mem_range.mp (hq.mem_iff.mp hi)
noncomputable def tb1 (lp:Pos) (c':Addr):Array Value:=#[]++#[rawInt lp.line,rawInt lp.col,.ref c']
noncomputable def hdQ:Str:=Str.ofString "heads"++Str.ofString ".<locals>."++Str.ofString "<lambda>"
noncomputable def HdTab (PT:Addr) (lp:Pos) (H:Hp):Prop:=H PT=some (.tbl #[])∨∃ c',H PT=some (.tbl (tb1 lp c'))∧H c'=some (CodeX c' hdQ)
inductive spHeadsG (PT:Addr) (lp:Pos) (vs:List V) (H:Hp) (Q:VK) (E_:XK):Prop
 | mk (a:Addr) (row:List Int) (h0_:vs=[.ref a]) (h1_:H a=some (.lst (row.map V.int))) (h2_:Row row) (h3_:row.length≤60) (h5_:HdTab PT lp H)
  (h6_:∀ (its qs:List LL) (us:List V) (l:Addr) (H':Hp),HdR (roadF row) its→SrtK its qs→SameP PT H H'→H l=none→H' l=some (.lst us)→Paired (IsPp H') us qs→HdTab PT lp H'→Q (.ref l) H'):spHeadsG PT lp vs H Q E_
end CW
namespace CW
open PySem L2
noncomputable abbrev Rd:=List (Bool×List Int)
noncomputable def nich (ps:Trs):List Int:=ps.flatMap fun p=>rngL p.1 (p.2 - p.1+1).toNat
theorem nich_snoc (l:Trs) (p:Int×Int):nich (l++[p])=nich l++rngL p.1 (p.2 - p.1+1).toNat:=by unfold nich;rw[List.flatMap_append];simp
theorem nich_append (a b:Trs):nich (a++b)=nich a++nich b:=by unfold nich;rw[List.flatMap_append]
theorem nich_one (p:Int×Int):nich [p]=rngL p.1 (p.2 - p.1+1).toNat:=by simp[nich]
theorem rngL_take (i:Int) (n k:Nat):(rngL i n).take k=rngL i (min k n):=by
 unfold rngL
 rw[← List.map_take,List.take_range]
theorem rngL_drop (i:Int) (n k:Nat):(rngL i n).drop k=rngL (i+(k:Int)) (n - k):=by
 refine List.ext_getElem (by simp[rngL]) fun j h1 h2=>?_
 simp[rngL]
 omega
theorem nich_len {ps:Trs}:Rn ps→((nich ps).length:Int)=rlen ps:=by
 refine snocI (C:=fun ps=>Rn ps→((nich ps).length:Int)=rlen ps) (fun _=>rfl) (fun l p ih hr=>?_) ps
 have hp:=hr p (by simp)
 rw[nich_snoc,List.length_append,rngL_len,rlen_snoc]
 have:=ih fun q hq=>hr q (by simp[hq])
 omega
theorem cut_nich {m:Int} (hm:0≤m) (ps:Trs):Rn ps→(cutF m ps).1=(nich ps).take m.toNat∧nich (cutF m ps).2=(nich ps).drop m.toNat:=by
 refine snocI (C:=fun ps=>Rn ps→(cutF m ps).1=(nich ps).take m.toNat∧nich (cutF m ps).2=(nich ps).drop m.toNat) (fun _=>by simp[cutF,nich]) (fun l p ih hr=>?_) ps
 have hp:=hr p (by simp)
 have hrl:Rn l:=fun q hq=>hr q (by simp[hq])
 obtain⟨h1,h2⟩:=ih hrl
 have hl:=nich_len hrl
 rw[cutF_snoc,nich_snoc,List.take_append,List.drop_append]
 unfold cutS
 have hlen:(cutF m l).1.length=min m.toNat (nich l).length:=by rw[h1,List.length_take]
 obtain⟨tt,ett⟩:∃ tt,tt=tkn m (cutF m l).1.length p:=⟨_,rfl⟩
 have etn:tt.toNat=min (m.toNat - (nich l).length) (p.2 - p.1+1).toNat∧0≤tt:=by
  rw[ett,hlen]
  unfold tkn
  split <;> omega
 rw[← ett]
 refine⟨?_,?_⟩
 ·show (cutF m l).1++rngL p.1 tt.toNat=_
  rw[h1,rngL_take,etn.1]
 ·show nich ((cutF m l).2++_)=_
  rw[nich_append,h2,rngL_drop]
  congr 1
  by_cases hc:p.1+tt≤p.2
  ·rw[if_pos hc,nich_one]
   have e1:(p.2 - (p.1+tt)+1).toNat=(p.2 - p.1+1).toNat - (m.toNat - (nich l).length):=by omega
   have e2:p.1+tt=p.1+((m.toNat - (nich l).length:Nat):Int):=by omega
   show rngL (p.1+tt) (p.2 - (p.1+tt)+1).toNat=_
   rw[e1,e2]
  ·rw[if_neg hc]
   have e1:(p.2 - p.1+1).toNat - (m.toNat - (nich l).length)=0:=by omega
   rw[e1]
   rfl
inductive Cmq (S:Nat):List Int→List Int→Prop
 | eq (a:List Int):Cmq S a a
 | pre {a b:List Int} (k:Nat):S≤k→k≤a.length→k≤b.length→a.take k=b.take k→Cmq S a b
theorem Cmq.mono {S T:Nat} {a b:List Int} (h:Cmq S a b) (hT:T≤S):Cmq T a b:=by
 cases h with
 | eq=>exact .eq _
 | pre k h1 h2 h3 h4=>exact .pre k (by omega) h2 h3 h4
theorem Cmq.take {S s:Nat} {a b:List Int} (h:Cmq S a b) (hs:s≤S):a.take s=b.take s:=by
 cases h with
 | eq=>rfl
 | pre k h1 h2 h3 h4 =>
  have:=congrArg (List.take s) h4
  rwa [List.take_take,List.take_take,Nat.min_eq_left (by omega)]at this
theorem Cmq.drop {S s:Nat} {a b:List Int} (h:Cmq S a b) (hs:s≤S):Cmq (S - s) (a.drop s) (b.drop s):=by
 cases h with
 | eq=>exact .eq _
 | pre k h1 h2 h3 h4 =>
  refine .pre (k - s) (by omega) (by rw[List.length_drop];omega) (by rw[List.length_drop];omega) ?_
  have:=congrArg (List.drop s) h4
  rwa [List.drop_take,List.drop_take]at this
inductive RelL (S:Nat):Bool→List Trs→Rd→Prop
 | nil {b:Bool}:RelL S b [] []
 | full {r:Trs} {rs:List Trs} {rd:Rd}:Rn r→nich r≠[]→RelL S false rs rd→RelL S true (r :: rs) ((true,nich r) :: rd)
 | emp {r:Trs} {ns:List Int} {rs:List Trs} {rd:Rd}:Rn r→Cmq S (nich r) ns→ns≠[]→RelL S true rs rd→RelL S false (r :: rs) ((false,ns) :: rd)
theorem RelL.mono {S T:Nat} (hT:T≤S):∀ {b:Bool} {rs:List Trs} {rd:Rd},RelL S b rs rd→RelL T b rs rd
 | _,_,_,.nil=>.nil
 | _,_,_,.full h1 h2 h=>.full h1 h2 (h.mono hT)
 | _,_,_,.emp h1 h2 h3 h=>.emp h1 (h2.mono hT) h3 (h.mono hT)
theorem RelL.len {S:Nat}:∀ {b:Bool} {rs:List Trs} {rd:Rd},RelL S b rs rd→rs.length=rd.length
 | _,_,_,.nil=>rfl
 | _,_,_,.full _ _ h=>congrArg (·+1) h.len
 | _,_,_,.emp _ _ _ h=>congrArg (·+1) h.len
noncomputable def stN:Rd→Nat
 | []=>0
 | p :: t=>(if p.1 then p.2.length else 0)+stN t
theorem RelL.hd {S:Nat} {b:Bool} {r:Trs} {rs:List Trs} {rd:Rd} (h:RelL S b (r :: rs) rd):∃ ns t,rd=(b,ns) :: t∧Rn r∧ns≠[]∧Cmq S (nich r) ns∧(b=true→nich r=ns)∧RelL S (!b) rs t:=by
 cases h with
 | full h1 h2 h=>exact⟨_,_,rfl,h1,h2,.eq _,fun _=>rfl,h⟩
 | emp h1 h2 h3 h=>exact⟨_,_,rfl,h1,h3,h2,fun z=>(nomatch z),h⟩
theorem RelL.mk {S:Nat} {b:Bool} {r:Trs} {ns:List Int} {rs:List Trs} {t:Rd} (h1:Rn r) (h2:ns≠[]) (h3:Cmq S (nich r) ns) (h4:b=true→nich r=ns) (h:RelL S (!b) rs t):RelL S b (r :: rs) ((b,ns) :: t):=by
 cases b with
 | true =>
  have e:=h4 rfl
  subst e
  exact .full h1 h2 h
 | false=>exact .emp h1 h3 h2 h
theorem RelL.two {S:Nat} {A:List Trs} {A2:Rd} (h:RelL S true A A2) (hp:parR true A.length=false):1≤stN A2:=by
 cases h with
 | nil=>cases hp
 | full h1 h2 h =>
  have:=List.length_pos_iff.mpr h2
  simp only[stN,if_true]
  omega
end CW
namespace CW
open PySem L2
theorem rl_mid (A:List Trs) (u v:Trs) (B:List Trs):rl (A++u :: v :: B) A.length=rlen u∧rl (A++u :: v :: B) (A.length+1)=rlen v:=by
 unfold rl
 constructor <;> simp
end CW
namespace CW
open PySem L2
theorem FndR.uniq {rs:List Trs} {n m:Nat} (a:FndR rs n) (b:FndR rs m):n=m:=by
 rcases Nat.lt_trichotomy n m with h | h | h
 ·have:=b.lt n a.one h;have:=a.ge;omega
 ·exact h
 ·have:=a.lt m b.one h;have:=b.ge;omega
theorem HdR.inv {rs:List Trs} {its:List LL} (h:HdR rs its):(rs.length≤1∧its=[])∨∃ A x y z B more,rs=A++x :: y :: z :: B∧its=hdPair (A.length+2) y z :: more∧FndR (A++x :: y :: z :: B) (A.length+2)∧HdR (A++(x++(cutF (rlen y) z).2) :: B) more:=by
 cases h with
 | nil h=>exact .inl ⟨h,rfl⟩
 | step h1 h2=>exact .inr ⟨_,_,_,_,_,_,rfl,rfl,h1,h2⟩
theorem HdR.uniq {rs:List Trs} {its:List LL} (h:HdR rs its):∀ {its':List LL},HdR rs its'→its=its':=by
 induction h with
 | nil h =>
  intro its' h'
  rcases h'.inv with ⟨_,e⟩ | ⟨A,x,y,z,B,more,e,_⟩
  ·exact e.symm
  ·rw[e]at h;simp at h;omega
 | step h1 h2 ih =>
  intro its' h'
  rcases h'.inv with ⟨e,_⟩ | ⟨A,x,y,z,B,more,e,e2,f1,f2⟩
  ·simp at e;omega
  ·rw[e]at h1
   have hl:=h1.uniq f1
   obtain⟨e3,e4⟩:=List.append_inj e (by omega)
   injection e4 with e5 e6
   injection e6 with e7 e8
   injection e8 with e9 e10
   subst e3 e5 e7 e9 e10
   rw[e2,ih f2]
end CW
namespace CW
open PySem L2
noncomputable def BlA (H:Hp) (v:V) (p:Bool×List Int):Prop:=∃ t l,v=.ref t∧H t=some (.tup [.bl p.1,.ref l])∧H l=some (.lst (p.2.map V.int))
noncomputable def BlV (r:Addr) (H:Hp) (v:V) (p:Bool×List Int):Prop:=∃ t l,v=.ref t∧H t=some (.tup [.bl p.1,.ref l])∧l≠r∧H l=some (.lst (p.2.map V.int))
theorem BlA.same {H H':Hp} (g:Same H H') {v:V} {p:Bool×List Int} (h:BlA H v p):BlA H' v p:=by
 obtain⟨t,l,e,h1,h2⟩:=h
 exact⟨t,l,e,g _ _ h1,g _ _ h2⟩
theorem BlV.same {r:Addr} {H H':Hp} (g:Same H H') {v:V} {p:Bool×List Int} (h:BlV r H v p):BlV r H' v p:=by
 obtain⟨t,l,e,h1,n,h2⟩:=h
 exact⟨t,l,e,g _ _ h1,n,g _ _ h2⟩
end CW
namespace CW
open PySem L2
theorem RelL.ne {S:Nat}:∀ {b:Bool} {rs:List Trs} {rd:Rd},RelL S b rs rd→∀ p∈rd,p.2≠[]
 | _,_,_,.nil=>fun p hp=>(nomatch hp)
 | _,_,_,.full h1 h2 h=>fun p hp=>by
  rcases List.mem_cons.mp hp with rfl | hp
  ·exact h2
  ·exact h.ne p hp
 | _,_,_,.emp h1 h2 h3 h=>fun p hp=>by
  rcases List.mem_cons.mp hp with rfl | hp
  ·exact h3
  ·exact h.ne p hp
theorem IsKy.tup {H H':Hp} (g:TupS H H') {v:V} {p:Int×LL} (h:IsKy H v p):IsKy H' v p:=by
 obtain⟨t,x,e,h1,h2⟩:=h
 exact⟨t,x,e,g _ _ h1,IsPp.tup g h2⟩
end CW
namespace CW
open PySem L2
theorem HdR.small {rs:List Trs} {its:List LL} (h:HdR rs its):(rs.length≤1∨HI rs)→stoR false rs≤60→2 * its.length≤rs.length∧∀ p∈its,p.1.length≤60∧p.2.length≤60:=by
 induction h with
 | nil h=>exact fun _ _=>⟨by simp,fun p hp=>(nomatch hp)⟩
 | step hF h ih =>
  rename_i A B x y z its
  intro hI hs
  have hI':HI (A++x :: y :: z :: B):=hI.resolve_left fun q=>by simp at q;omega
  have ry:=hI'.rn y (by simp)
  have rz:=hI'.rn z (by simp)
  have y0:=rlen_nn ry
  have e1:rl (A++x :: y :: z :: B) (A.length+1)=rlen y:=by unfold rl;simp
  have e2:rl (A++x :: y :: z :: B) (A.length+2)=rlen z:=by unfold rl;simp
  have hyz:rlen y≤rlen z:=by
   have:=hF.ge
   rw[show A.length+2 - 1=A.length+1 from rfl,e1,e2]at this
   exact this
  have y60:rlen y≤60:=by
   rcases Nat.mod_two_eq_zero_or_one A.length with h | h
   ·have:=hI'.le (i:=A.length+1) (by simp) (by omega)
    omega
   ·have:=hI'.le (i:=A.length+2) (by simp) (by omega)
    omega
  have cy:=cut_facts y0 y ry
  have cz:=cut_facts y0 z rz
  have c1:=cy.len
  have c2:=cz.len
  obtain⟨hI2,hs2⟩:=HI.step (A:=A) (B:=B) (x:=x) (y:=y) (z:=z) (rest:=(cutF (rlen y) z).2) hI' (by have:=cz.rest;omega) cz.rn
  obtain⟨k1,k2⟩:=ih (.inr hI2) (by omega)
  refine⟨by simp at k1 ⊢;omega,fun p hp=>?_⟩
  rcases List.mem_cons.mp hp with rfl | hp
  ·unfold hdPair
   split
   ·exact⟨by show (cutF (rlen y) y).1.length≤60;omega,by show (cutF (rlen y) z).1.length≤60;omega⟩
   ·exact⟨by show (cutF (rlen y) z).1.length≤60;omega,by show (cutF (rlen y) y).1.length≤60;omega⟩
  ·exact k2 p hp
theorem road_small {row:List Int} (hr:Row row) (h60:row.length≤60) {its:List LL} (h:HdR (roadF row) its):its.length≤60∧∀ p∈its,p.1.length≤60∧p.2.length≤60:=by
 have hl:=roadF_len row
 rcases road_HI hr (loM_le row)with h1 | h1
 ·obtain⟨k1,k2⟩:=h.small (.inl (by omega)) (stoR_one h1)
  exact⟨by omega,k2⟩
 ·obtain⟨k1,k2⟩:=h.small (.inr h1.1) (by omega)
  exact⟨by omega,k2⟩
theorem HdTab.keep {PT lf:Addr} {lp:Pos} {H H':Hp} {us:List V} (e:H lf=some (.lst us)) (g:SameP lf H H') (h:HdTab PT lp H):HdTab PT lp H':=by
 rcases h with h | ⟨c',h1,h2⟩
 ·exact .inl (g _ _ (fun z=>by rw[z,e]at h;cases h) h)
 ·exact .inr ⟨c',g _ _ (fun z=>by rw[z,e]at h1;cases h1) h1,g _ _ (fun z=>by rw[z,e]at h2;cases h2) h2⟩
theorem HdTab.mono {PT:Addr} {lp:Pos} {H H':Hp} (g:Same H H') (h:HdTab PT lp H):HdTab PT lp H':=by
 rcases h with h | ⟨c',h1,h2⟩
 ·exact .inl (g _ _ h)
 ·exact .inr ⟨c',g _ _ h1,g _ _ h2⟩
theorem HdTab.ne {PT b:Addr} {lp:Pos} {H:Hp} {o:HO} (h:HdTab PT lp H) (e:H b=some o) (n:∀ qs,o≠.tbl qs):b≠PT:=by
 rcases h with h | ⟨c',h1,h2⟩
 ·exact tbl_ne h e n
 ·exact tbl_ne h1 e n
end CW
namespace CW
open PySem L2
noncomputable abbrev Cl:=List (Bool×Int)
noncomputable def col (L:Cl) (i:Nat):Option Bool:=(L[i]?).map (·.1)
structure RuA (L:Cl) (a s:Nat) (c:Bool):Prop where
 s1:1≤s
 a1:s+1≤a
 len:a+2 * s≤L.length
 X:∀ i,a - s - 1≤i→i<a→col L i=some c
 Y:∀ i,a≤i→i<a+s→col L i=some (!c)
 Z:∀ i,a+s≤i→i<a+2 * s→col L i=some c
noncomputable def remL (L:Cl) (a s:Nat):Cl:=L.take a++L.drop (a+2 * s)
noncomputable def labs (L:Cl) (a s:Nat):List Int:=((L.drop a).take s).map (·.2)
noncomputable def prA (L:Cl) (a s:Nat) (c:Bool):LL:=if c=true then (labs L (a+s) s,labs L a s)else (labs L a s,labs L (a+s) s)
theorem rem_get {L:Cl} {a s:Nat} (h:a+2 * s≤L.length) (i:Nat):(remL L a s)[i]?=if i<a then L[i]? else L[i+2 * s]?:=by
 unfold remL
 rw[List.getElem?_append,List.length_take,Nat.min_eq_left (by omega)]
 by_cases hi:i<a
 ·rw[if_pos hi,if_pos hi,List.getElem?_take_of_lt hi]
 ·rw[if_neg hi,if_neg hi,List.getElem?_drop]
  congr 1
  omega
theorem rem_len {L:Cl} {a s:Nat} (h:a+2 * s≤L.length):(remL L a s).length+2 * s=L.length:=by
 unfold remL
 rw[List.length_append,List.length_take,List.length_drop]
 omega
theorem rem_col {L:Cl} {a s:Nat} (h:a+2 * s≤L.length) (i:Nat):col (remL L a s) i=if i<a then col L i else col L (i+2 * s):=by
 unfold col
 rw[rem_get h]
 split <;> rfl
theorem labs_get (L:Cl) (a s i:Nat):(labs L a s)[i]?=if i<s then (L[a+i]?).map (·.2)else none:=by
 unfold labs
 rw[List.getElem?_map]
 by_cases h:i<s
 ·rw[if_pos h,List.getElem?_take_of_lt h,List.getElem?_drop]
 ·rw[if_neg h,List.getElem?_take_eq_none (by omega)]
  rfl
theorem some_ne {b c:Bool} (h:some b=some c):b=c:=Option.some.inj h
theorem RuA.apart {L:Cl} {a s a' s':Nat} {c c':Bool} (h:RuA L a s c) (h':RuA L a' s' c') (hlt:a<a'):a+2 * s≤a'∧a+s≤a' - s' - 1:=by
 have e1:=h'.X (a' - 1) (by have:=h'.s1;omega) (by have:=h'.a1;omega)
 have e2:=h'.Y a' (Nat.le_refl _) (by have:=h'.s1;omega)
 have hs:=h.s1
 have hs':=h'.s1
 have ha:=h.a1
 have ha':=h'.a1
 have k1:a+s≤a':=by
  apply Nat.le_of_not_lt
  intro z
  have f1:=h.Y (a' - 1) (by omega) (by omega)
  have f2:=h.Y a' (by omega) (by omega)
  rw[f1]at e1
  rw[f2]at e2
  have g1:=some_ne e1
  have g2:=some_ne e2
  rw[g1]at g2
  cases c' <;> simp at g2
 have k2:a+s≠a':=fun z=>by
  have f1:=h.Y (a' - 1) (by omega) (by omega)
  rw[f1]at e1
  have g1:=some_ne e1
  have k3:s'+1≤s:=by
   apply Nat.le_of_not_lt
   intro z2
   have f2:=h.X (a - 1) (by omega) (by omega)
   have f3:=h'.X (a - 1) (by omega) (by omega)
   rw[f2]at f3
   have g2:=some_ne f3
   rw[← g1]at g2
   cases c <;> simp at g2
  have f4:=h.Z (a'+s') (by omega) (by omega)
  have f5:=h'.Z (a'+s') (by omega) (by omega)
  rw[f4]at f5
  have g2:=some_ne f5
  rw[← g1]at g2
  cases c <;> simp at g2
 have k4:a+2 * s≤a':=by
  apply Nat.le_of_not_lt
  intro z
  have f1:=h.Z a' (by omega) (by omega)
  have f2:=h.Z (a' - 1) (by omega) (by omega)
  rw[f1]at e2
  rw[f2]at e1
  have g1:=some_ne e1
  have g2:=some_ne e2
  rw[g1]at g2
  cases c' <;> simp at g2
 refine⟨k4,?_⟩
 apply Nat.le_of_not_lt
 intro z
 have f1:=h.Y (a+s - 1) (by omega) (by omega)
 have f2:=h.Z (a+s) (by omega) (by omega)
 have f3:=h'.X (a+s - 1) (by omega) (by omega)
 have f4:=h'.X (a+s) (by omega) (by omega)
 rw[f1]at f3
 rw[f2]at f4
 have g1:=some_ne f3
 have g2:=some_ne f4
 rw[← g2]at g1
 cases c <;> simp at g1
theorem RuA.same {L:Cl} {a s s':Nat} {c c':Bool} (h:RuA L a s c) (h':RuA L a s' c'):s=s'∧c=c':=by
 have e1:=h.Y a (Nat.le_refl _) (by have:=h.s1;omega)
 have e2:=h'.Y a (Nat.le_refl _) (by have:=h'.s1;omega)
 have hc:c=c':=by
  rw[e1]at e2
  have:=some_ne e2
  cases c <;> cases c' <;> simp at this ⊢
 subst hc
 refine⟨?_,rfl⟩
 have hs:=h.s1
 have hs':=h'.s1
 rcases Nat.lt_trichotomy s s' with z | z | z
 ·have f1:=h.Z (a+s) (by omega) (by omega)
  have f2:=h'.Y (a+s) (by omega) (by omega)
  rw[f1]at f2
  have:=some_ne f2
  cases c <;> simp at this
 ·exact z
 ·have f1:=h'.Z (a+s') (by omega) (by omega)
  have f2:=h.Y (a+s') (by omega) (by omega)
  rw[f1]at f2
  have:=some_ne f2
  cases c <;> simp at this
theorem RuA.left {L:Cl} {a s a' s':Nat} {c c':Bool} (h:RuA L a s c) (h':RuA L a' s' c') (hlt:a<a'):RuA (remL L a s) (a' - 2 * s) s' c'∧prA (remL L a s) (a' - 2 * s) s' c'=prA L a' s' c':=by
 obtain⟨k1,k2⟩:=h.apart h' hlt
 have hl:=rem_len h.len
 have hs:=h.s1
 have hs':=h'.s1
 have ha:=h.a1
 have ha':=h'.a1
 have hll:=h'.len
 have hY:∀ i,a' - 2 * s≤i→col (remL L a s) i=col L (i+2 * s):=fun i hi=>by rw[rem_col h.len,if_neg (by omega)]
 refine⟨⟨hs',by omega,by omega,fun i h1 h2=>?_,fun i h1 h2=>?_,fun i h1 h2=>?_⟩,?_⟩
 ·rw[rem_col h.len]
  by_cases hi:i<a
  ·rw[if_pos hi,h.X i (by omega) hi]
   have f1:=h.Z (a' - s' - 1) (by omega) (by omega)
   have f2:=h'.X (a' - s' - 1) (by omega) (by omega)
   rw[f1]at f2
   exact f2
  ·rw[if_neg hi]
   exact h'.X _ (by omega) (by omega)
 ·rw[hY i h1]
  exact h'.Y _ (by omega) (by omega)
 ·rw[hY i (by omega)]
  exact h'.Z _ (by omega) (by omega)
 ·have e:∀ b,a' - 2 * s≤b→labs (remL L a s) b s'=labs L (b+2 * s) s':=fun b hb=>by
   refine List.ext_getElem? fun i=>?_
   rw[labs_get,labs_get]
   by_cases hi:i<s'
   ·rw[if_pos hi,if_pos hi,rem_get h.len,if_neg (by omega)]
    congr 2
    omega
   ·rw[if_neg hi,if_neg hi]
  unfold prA
  rw[e _ (Nat.le_refl _),e _ (by omega),show a' - 2 * s+2 * s=a' by omega,show a' - 2 * s+s'+2 * s=a'+s' by omega]
theorem RuA.right {L:Cl} {a s a' s':Nat} {c c':Bool} (h:RuA L a s c) (h':RuA L a' s' c') (hlt:a<a'):RuA (remL L a' s') a s c∧prA (remL L a' s') a s c=prA L a s c∧remL (remL L a' s') a s=remL (remL L a s) (a' - 2 * s) s':=by
 obtain⟨k1,k2⟩:=h.apart h' hlt
 have hl:=rem_len h'.len
 have hl2:=rem_len h.len
 have hs:=h.s1
 have hs':=h'.s1
 have hll:=h'.len
 have hC:∀ i,i<a'→col (remL L a' s') i=col L i:=fun i hi=>by rw[rem_col h'.len,if_pos hi]
 have hR:=(h.left h' hlt).1
 refine⟨⟨hs,h.a1,by omega,fun i h1 h2=>by rw[hC i (by omega)];exact h.X i h1 h2,fun i h1 h2=>by rw[hC i (by omega)];exact h.Y i h1 h2,fun i h1 h2=>by rw[hC i (by omega)];exact h.Z i h1 h2⟩,?_,?_⟩
 ·have e:∀ b,b+s≤a'→labs (remL L a' s') b s=labs L b s:=fun b hb=>by
   refine List.ext_getElem? fun i=>?_
   rw[labs_get,labs_get]
   by_cases hi:i<s
   ·rw[if_pos hi,if_pos hi,rem_get h'.len,if_pos (by omega)]
   ·rw[if_neg hi,if_neg hi]
  unfold prA
  rw[e a (by omega),e (a+s) (by omega)]
 ·refine List.ext_getElem? fun i=>?_
  rw[rem_get (by omega),rem_get hR.len]
  by_cases h1:i<a
  ·rw[if_pos h1,if_pos (by omega),rem_get h'.len,if_pos (by omega),rem_get h.len,if_pos h1]
  ·rw[if_neg h1,rem_get h'.len]
   by_cases h2:i+2 * s<a'
   ·rw[if_pos h2,if_pos (by omega),rem_get h.len,if_neg h1]
   ·rw[if_neg h2,if_neg (by omega),rem_get h.len,if_neg (by omega)]
    congr 1
    omega
inductive FX:Cl→List LL→Prop
 | nil {L:Cl}:(∀ i,col L i≠some true)→FX L []
 | step {L:Cl} {a s:Nat} {c:Bool} {its:List LL}:RuA L a s c→FX (remL L a s) its→FX L (prA L a s c :: its)
theorem RuA.full {L:Cl} {a s:Nat} {c:Bool} (h:RuA L a s c):∃ i,col L i=some true:=by
 have hs:=h.s1
 cases c with
 | true=>exact⟨a - 1,h.X _ (by omega) (by have:=h.a1;omega)⟩
 | false=>exact⟨a,h.Y _ (Nat.le_refl _) (by omega)⟩
theorem FX.any {L:Cl} {its:List LL} (h:FX L its):∀ {a s:Nat} {c:Bool},RuA L a s c→∃ its1,FX (remL L a s) its1∧its.Perm (prA L a s c :: its1):=by
 induction h with
 | nil h0 =>
  intro a s c hr
  obtain⟨i,hi⟩:=hr.full
  exact absurd hi (h0 i)
 | step hr hf ih =>
  rename_i L a s c its
  intro a' s' c' hr'
  rcases Nat.lt_trichotomy a a' with z | z | z
  ·obtain⟨r1,p1⟩:=hr.left hr' z
   obtain⟨r2,p2,e⟩:=hr.right hr' z
   obtain⟨its2,f2,q2⟩:=ih r1
   rw[p1]at q2
   rw[← e]at f2
   refine⟨prA L a s c :: its2,?_,(q2.cons _).trans (List.Perm.swap ..)⟩
   have:=FX.step r2 f2
   rw[p2]at this
   exact this
  ·subst z
   obtain⟨rfl,rfl⟩:=hr.same hr'
   exact⟨its,hf,List.Perm.refl _⟩
  ·obtain⟨r1,p1⟩:=hr'.left hr z
   obtain⟨r2,p2,e⟩:=hr'.right hr z
   obtain⟨its2,f2,q2⟩:=ih r2
   rw[p2]at q2
   rw[e]at f2
   refine⟨prA L a s c :: its2,?_,(q2.cons _).trans (List.Perm.swap ..)⟩
   have:=FX.step r1 f2
   rw[p1]at this
   exact this
end CW
namespace CW
open PySem L2
noncomputable def hg (L:Cl):Nat→Nat
 | 0=>0
 | i+1=>if col L i=some true then hg L i+1 else hg L i - 1
noncomputable def TL (L:Cl):Cl:=L.mapIdx fun i p=>(!p.1 && decide (0<hg L i),p.2)
theorem TL_get (L:Cl) (i:Nat):(TL L)[i]?=(L[i]?).map fun p=>(!p.1 && decide (0<hg L i),p.2):=by unfold TL;rw[List.getElem?_mapIdx]
theorem TL_len (L:Cl):(TL L).length=L.length:=by unfold TL;simp
theorem TL_col (L:Cl) (i:Nat):col (TL L) i=(col L i).map fun b=>!b && decide (0<hg L i):=by
 unfold col
 rw[TL_get]
 cases L[i]? <;> rfl
theorem TL_labs (L:Cl) (a s:Nat):labs (TL L) a s=labs L a s:=by
 refine List.ext_getElem? fun i=>?_
 rw[labs_get,labs_get,TL_get]
 split
 ·cases L[a+i]? <;> rfl
 ·rfl
theorem hg_full {L:Cl} {a:Nat}:∀ k:Nat,(∀ i,a≤i→i<a+k→col L i=some true)→hg L (a+k)=hg L a+k
 | 0,_=>rfl
 | k+1,h=>by
  show (if col L (a+k)=some true then hg L (a+k)+1 else hg L (a+k) - 1)=_
  rw[if_pos (h _ (by omega) (by omega)),hg_full k fun i h1 h2=>h i h1 (by omega)]
  omega
theorem hg_emp {L:Cl} {a:Nat}:∀ k:Nat,(∀ i,a≤i→i<a+k→col L i≠some true)→hg L (a+k)=hg L a - k
 | 0,_=>rfl
 | k+1,h=>by
  show (if col L (a+k)=some true then hg L (a+k)+1 else hg L (a+k) - 1)=_
  rw[if_neg (h _ (by omega) (by omega)),hg_emp k fun i h1 h2=>h i h1 (by omega)]
  omega
theorem hg_pre {L:Cl} {a s:Nat} (h:a+2 * s≤L.length):∀ i,i≤a→hg (remL L a s) i=hg L i
 | 0,_=>rfl
 | i+1,hi=>by
  show (if col (remL L a s) i=some true then _ else _)=if col L i=some true then _ else _
  have e:=rem_col h i
  rw[if_pos (show i<a by omega)]at e
  rw[e,hg_pre h i (by omega)]
theorem hg_rem {L:Cl} {a s:Nat} (h:a+2 * s≤L.length) (he:hg L (a+2 * s)=hg L a):∀ k,hg (remL L a s) (a+k)=hg L (a+k+2 * s)
 | 0=>by rw[Nat.add_zero,hg_pre h a (Nat.le_refl _),he]
 | k+1=>by
  show (if col (remL L a s) (a+k)=some true then hg (remL L a s) (a+k)+1 else hg (remL L a s) (a+k) - 1)=hg L (a+(k+1)+2 * s)
  have e:=rem_col h (a+k)
  rw[if_neg (show ¬ a+k<a by omega)]at e
  rw[e,hg_rem h he k,show a+(k+1)+2 * s=(a+k+2 * s)+1 by omega]
  rfl
theorem TL_rem {L:Cl} {a s:Nat} (h:a+2 * s≤L.length) (he:hg L (a+2 * s)=hg L a):remL (TL L) a s=TL (remL L a s):=by
 refine List.ext_getElem? fun i=>?_
 rw[rem_get (by rw[TL_len];exact h),TL_get,TL_get,TL_get,rem_get h]
 by_cases hi:i<a
 ·rw[if_pos hi,if_pos hi,hg_pre h i (by omega)]
 ·rw[if_neg hi,if_neg hi]
  have:=hg_rem h he (i - a)
  rw[show a+(i - a)=i by omega]at this
  rw[this]
structure Sim (M N:Cl):Prop where
 len:M.length=N.length
 cl:∀ i,col M i=col N i
 lb:∀ i,col M i=some true→M[i]?=N[i]?
theorem Sim.refl (M:Cl):Sim M M:=⟨rfl,fun _=>rfl,fun _ _=>rfl⟩
theorem Sim.labs {M N:Cl} (h:Sim M N) {a s:Nat} (hf:∀ i,a≤i→i<a+s→col M i=some true):CW.labs M a s=CW.labs N a s:=by
 refine List.ext_getElem? fun i=>?_
 rw[labs_get,labs_get]
 by_cases hi:i<s
 ·rw[if_pos hi,if_pos hi,h.lb _ (hf (a+i) (by omega) (by omega))]
 ·rw[if_neg hi,if_neg hi]
theorem RuA.sim {M N:Cl} (h:Sim M N) {a s:Nat} {c:Bool} (r:RuA M a s c):RuA N a s c∧(prA N a s c).1=(prA M a s c).1∧Sim (remL M a s) (remL N a s):=by
 have hl:=h.len
 have hN:a+2 * s≤N.length:=by rw[← hl];exact r.len
 refine⟨⟨r.s1,r.a1,hN,fun i h1 h2=>by rw[← h.cl];exact r.X i h1 h2,fun i h1 h2=>by rw[← h.cl];exact r.Y i h1 h2,fun i h1 h2=>by rw[← h.cl];exact r.Z i h1 h2⟩,?_,?_⟩
 ·unfold prA
  cases c with
  | true=>exact(h.labs fun i h1 h2=>r.Z i h1 (by omega)).symm
  | false=>exact(h.labs fun i h1 h2=>r.Y i h1 h2).symm
 ·refine⟨?_,fun i=>?_,fun i hi=>?_⟩
  ·have h1:=rem_len r.len
   have h2:=rem_len hN
   omega
  ·rw[rem_col r.len,rem_col hN]
   split <;> exact h.cl _
  ·rw[rem_col r.len]at hi
   rw[rem_get r.len,rem_get hN]
   split at hi
   ·rename_i z;rw[if_pos z,if_pos z];exact h.lb _ hi
   ·rename_i z;rw[if_neg z,if_neg z];exact h.lb _ hi
theorem FX.sim {M:Cl} {its:List LL} (f:FX M its):∀ {N:Cl},Sim M N→∃ its',FX N its'∧its'.map (·.1)=its.map (·.1):=by
 induction f with
 | nil h0=>exact fun {N} h=>⟨[],.nil fun i=>by rw[← h.cl];exact h0 i,rfl⟩
 | step r f ih =>
  intro N h
  obtain⟨r',e,h'⟩:=r.sim h
  obtain⟨its',f',e'⟩:=ih h'
  exact⟨_,.step r' f',by rw[List.map_cons,List.map_cons,e',e]⟩
theorem tl_step {L:Cl} {a s:Nat} {c:Bool} (h:RuA L a s c) (hq:c=false→hg L (a - s - 1)≤s→∀ i,a+2 * s≤i→i<a+3 * s→col (TL L) i=some false) :
 ∃ a' c',RuA (TL L) a' s c'∧(prA (TL L) a' s c').1=(prA L a s c).2∧Sim (remL (TL L) a' s) (TL (remL L a s)):=by
 have hs:=h.s1
 have ha:=h.a1
 have hl:=h.len
 have tl:=TL_len L
 cases c with
 | true =>
  have e1:=hg_full (L:=L) (a:=a - s - 1) (s+1) fun i h1 h2=>h.X i h1 (by omega)
  rw[show a - s - 1+(s+1)=a by omega]at e1
  have e2:∀ k,k≤s→hg L (a+k)=hg L a - k:=fun k hk=>hg_emp k fun i h1 h2=>by rw[h.Y i h1 (by omega)];simp
  have e3:=hg_full (L:=L) (a:=a+s) s fun i h1 h2=>h.Z i h1 (by omega)
  rw[show a+s+s=a+2 * s by omega]at e3
  have e4:=e2 s (Nat.le_refl _)
  refine⟨a,false,⟨hs,ha,by omega,fun i h1 h2=>?_,fun i h1 h2=>?_,fun i h1 h2=>?_⟩,?_,?_⟩
  ·rw[TL_col,h.X i h1 h2];rfl
  ·rw[TL_col,h.Y i h1 h2]
   have:=e2 (i - a) (by omega)
   rw[show a+(i - a)=i by omega]at this
   have hp:0<hg L i:=by omega
   simp[hp]
  ·rw[TL_col,h.Z i h1 h2];rfl
  ·unfold prA
   rw[TL_labs,TL_labs]
   rfl
  ·rw[TL_rem hl (by omega)]
   exact Sim.refl _
 | false =>
  have e1:∀ k,k≤s+1→hg L (a - s - 1+k)=hg L (a - s - 1) - k:=fun k hk=>hg_emp k fun i h1 h2=>by rw[h.X i h1 (by omega)];simp
  have e1':=e1 (s+1) (Nat.le_refl _)
  rw[show a - s - 1+(s+1)=a by omega]at e1'
  have e2:=hg_full (L:=L) (a:=a) s fun i h1 h2=>h.Y i h1 (by omega)
  have e3:∀ k,k≤s→hg L (a+s+k)=hg L (a+s) - k:=fun k hk=>hg_emp k fun i h1 h2=>by rw[h.Z i h1 (by omega)];simp
  have e3':=e3 s (Nat.le_refl _)
  rw[show a+s+s=a+2 * s by omega]at e3'
  by_cases hh:hg L (a - s - 1)≤s
  ·have hq':=hq rfl hh
   have hlen3:a+3 * s≤L.length:=by
    have:=hq' (a+3 * s - 1) (by omega) (by omega)
    unfold col at this
    cases e:(TL L)[a+3 * s - 1]? with
    | none=>rw[e]at this;cases this
    | some p=>have:=(List.getElem?_eq_some_iff.mp e).1;omega
   refine⟨a+s,false,⟨hs,by omega,by omega,fun i h1 h2=>?_,fun i h1 h2=>?_,fun i h1 h2=>hq' i (by omega) (by omega)⟩,?_,?_⟩
   ·rw[TL_col]
    by_cases hi:i<a
    ·rw[h.X i (by omega) hi]
     have:=e1 s (by omega)
     rw[show a - s - 1+s=i by omega]at this
     have hz:hg L i=0:=by omega
     simp[hz]
    ·rw[h.Y i (by omega) (by omega)];rfl
   ·rw[TL_col,h.Z i (by omega) (by omega)]
    have:=e3 (i - (a+s)) (by omega)
    rw[show a+s+(i - (a+s))=i by omega]at this
    have hp:0<hg L i:=by omega
    simp[hp]
   ·unfold prA
    rw[TL_labs,TL_labs]
    rfl
   ·rw[← TL_rem hl (by omega)]
    refine⟨?_,fun i=>?_,fun i hi=>?_⟩
    ·have h1:=rem_len (L:=TL L) (a:=a+s) (s:=s) (by omega)
     have h2:=rem_len (L:=TL L) (a:=a) (s:=s) (by omega)
     omega
    ·rw[rem_col (by omega),rem_col (by omega)]
     by_cases h1:i<a
     ·rw[if_pos (by omega),if_pos h1]
     ·rw[if_neg h1]
      by_cases h2:i<a+s
      ·rw[if_pos h2,hq' (i+2 * s) (by omega) (by omega),TL_col,h.Y i (by omega) h2];rfl
      ·rw[if_neg h2]
    ·rw[rem_col (by omega)]at hi
     rw[rem_get (by omega),rem_get (by omega)]
     by_cases h1:i<a
     ·rw[if_pos (by omega),if_pos h1]
     ·rw[if_neg h1]
      by_cases h2:i<a+s
      ·rw[if_pos h2,TL_col,h.Y i (by omega) h2]at hi
       cases hi
      ·rw[if_neg h2]
  ·refine⟨a,true,⟨hs,ha,by omega,fun i h1 h2=>?_,fun i h1 h2=>?_,fun i h1 h2=>?_⟩,?_,?_⟩
   ·rw[TL_col,h.X i h1 h2]
    have:=e1 (i - (a - s - 1)) (by omega)
    rw[show a - s - 1+(i - (a - s - 1))=i by omega]at this
    have hp:0<hg L i:=by omega
    simp[hp]
   ·rw[TL_col,h.Y i h1 h2];rfl
   ·rw[TL_col,h.Z i h1 h2]
    have:=e3 (i - (a+s)) (by omega)
    rw[show a+s+(i - (a+s))=i by omega]at this
    have hp:0<hg L i:=by omega
    simp[hp]
   ·unfold prA
    rw[TL_labs,TL_labs]
    rfl
   ·rw[TL_rem hl (by omega)]
    exact Sim.refl _
end CW
namespace CW
open PySem L2
noncomputable def cnt1 (L:Cl):Nat:=(L.filter (·.1)).length
structure Gd (L:Cl) (k:Nat):Prop where
 two:2 * cnt1 L≤k
 lst:∀ i,L.length - k≤i→i<L.length→col L i=some false
 few:k≤L.length
 fst:∀ i,i≤cnt1 L→col L i=some false
theorem cnt1_app (a b:Cl):cnt1 (a++b)=cnt1 a+cnt1 b:=by unfold cnt1;rw[List.filter_append,List.length_append]
theorem col_lt {L:Cl} {i:Nat} {b:Bool} (h:col L i=some b):i<L.length:=by
 unfold col at h
 cases e:L[i]? with
 | none=>rw[e]at h;cases h
 | some p=>exact(List.getElem?_eq_some_iff.mp e).1
theorem col_some {L:Cl} {i:Nat} (h:i<L.length):∃ b,col L i=some b:=⟨L[i].1,by unfold col;rw[List.getElem?_eq_getElem h];rfl⟩
theorem cnt1_true {M:Cl} (h:∀ i,i<M.length→col M i=some true):cnt1 M=M.length:=by
 unfold cnt1
 rw[List.filter_eq_self.mpr]
 intro p hp
 obtain⟨i,hi,rfl⟩:=List.getElem_of_mem hp
 have:=h i hi
 unfold col at this
 rw[List.getElem?_eq_getElem hi]at this
 simpa using this
theorem cnt1_false {M:Cl} (h:∀ i,i<M.length→col M i=some false):cnt1 M=0:=by
 unfold cnt1
 rw[List.filter_eq_nil_iff.mpr]
 ·rfl
 intro p hp
 obtain⟨i,hi,rfl⟩:=List.getElem_of_mem hp
 have:=h i hi
 unfold col at this
 rw[List.getElem?_eq_getElem hi]at this
 simpa using this
theorem col_seg {L:Cl} {a s i:Nat} (hi:i<s):col ((L.drop a).take s) i=col L (a+i):=by
 unfold col
 rw[List.getElem?_take_of_lt hi,List.getElem?_drop]
theorem sgl_parts (L:Cl) (a s:Nat):L=L.take a++((L.drop a).take s++L.drop (a+s)):=by
 rw[← List.drop_drop,List.take_append_drop,List.take_append_drop]
theorem sgl_len {L:Cl} {a s:Nat} (h:a+s≤L.length):((L.drop a).take s).length=s:=by rw[List.length_take,List.length_drop];omega
theorem cnt1_full {L:Cl} {a s:Nat} (h:∀ i,a≤i→i<a+s→col L i=some true):s≤cnt1 L:=by
 by_cases hs:s=0
 ·omega
 have hl:a+s≤L.length:=by have:=col_lt (h (a+s - 1) (by omega) (by omega));omega
 have e:=congrArg cnt1 (sgl_parts L a s)
 rw[cnt1_app,cnt1_app,cnt1_true (M:=(L.drop a).take s) (fun i hi=>by
  rw[sgl_len hl]at hi
  rw[col_seg hi]
  exact h _ (by omega) (by omega)),sgl_len hl]at e
 omega
theorem cnt1_rem {L:Cl} {a s:Nat} {c:Bool} (h:RuA L a s c):cnt1 (remL L a s)+s=cnt1 L:=by
 have hl:=h.len
 have e1:=congrArg cnt1 (sgl_parts L a s)
 have e2:=congrArg cnt1 (sgl_parts (L.drop a) s s)
 rw[cnt1_app,cnt1_app]at e1
 have e3:=congrArg cnt1 (sgl_parts L (a+s) s)
 rw[cnt1_app,cnt1_app]at e3
 have d1:cnt1 (L.take (a+s))=cnt1 (L.take a)+cnt1 ((L.drop a).take s):=by rw[List.take_add,cnt1_app]
 have d2:L.drop (a+s+s)=L.drop (a+2 * s):=by rw[show a+s+s=a+2 * s by omega]
 rw[d2]at e3
 have l1:=sgl_len (L:=L) (a:=a) (s:=s) (by omega)
 have l2:=sgl_len (L:=L) (a:=a+s) (s:=s) (by omega)
 have hR:cnt1 (remL L a s)=cnt1 (L.take a)+cnt1 (L.drop (a+2 * s)):=by unfold remL;rw[cnt1_app]
 cases c with
 | true =>
  have y:=cnt1_false (M:=(L.drop a).take s) fun i hi=>by rw[l1]at hi;rw[col_seg hi];exact h.Y _ (by omega) (by omega)
  have z:=cnt1_true (M:=(L.drop (a+s)).take s) fun i hi=>by rw[l2]at hi;rw[col_seg hi];exact h.Z _ (by omega) (by omega)
  omega
 | false =>
  have y:=cnt1_true (M:=(L.drop a).take s) fun i hi=>by rw[l1]at hi;rw[col_seg hi];exact h.Y _ (by omega) (by omega)
  have z:=cnt1_false (M:=(L.drop (a+s)).take s) fun i hi=>by rw[l2]at hi;rw[col_seg hi];exact h.Z _ (by omega) (by omega)
  omega
theorem Gd.ff {L:Cl} {k:Nat} (g:Gd L k) {i:Nat} (h:col L i=some true):i+k<L.length∧cnt1 L<i:=by
 have hi:=col_lt h
 constructor
 ·apply Nat.lt_of_not_le
  intro z
  have:=g.lst i (by have:=g.few;omega) hi
  rw[h]at this;cases this
 ·apply Nat.lt_of_not_le
  intro z
  have:=g.fst i z
  rw[h]at this;cases this
theorem RuA.ends {L:Cl} {a s:Nat} {c:Bool} (h:RuA L a s c) {k:Nat} (g:Gd L k):a+s+k≤L.length∧cnt1 L<a:=by
 have hs:=h.s1
 have ha:=h.a1
 cases c with
 | true =>
  have f1:=g.ff (h.X (a - s - 1) (Nat.le_refl _) (by omega))
  have f2:=g.ff (h.Z (a+2 * s - 1) (by omega) (by omega))
  omega
 | false =>
  have f1:=g.ff (h.Y a (Nat.le_refl _) (by omega))
  have f2:=g.ff (h.Y (a+s - 1) (by omega) (by omega))
  omega
theorem Gd.rem {L:Cl} {a s:Nat} {c:Bool} (h:RuA L a s c) {k:Nat} (g:Gd L k):Gd (remL L a s) (k - s):=by
 have hs:=h.s1
 have hc:=cnt1_rem h
 have hl:=rem_len h.len
 obtain⟨e1,e2⟩:=h.ends g
 have h2:=g.two
 refine⟨by omega,fun i h1 h3=>?_,by omega,fun i h1=>?_⟩
 ·rw[rem_col h.len,if_neg (by omega)]
  exact g.lst _ (by omega) (by omega)
 ·rw[rem_col h.len,if_pos (by omega)]
  exact g.fst _ (by omega)
theorem run_end {L:Cl} (d:Bool) (b:Nat):∀ n,∃ u,u≤n∧(∀ i,b≤i→i<b+u→col L i=some d)∧(u<n→col L (b+u)≠some d)
 | 0=>⟨0,Nat.le_refl _,fun i h1 h2=>by omega,fun h=>by omega⟩
 | n+1=>by
  obtain⟨u,h1,h2,h3⟩:=run_end d b n
  by_cases h:u<n
  ·exact⟨u,by omega,h2,fun _=>h3 h⟩
  ·obtain rfl:u=n:=by omega
   by_cases hc:col L (b+u)=some d
   ·refine⟨u+1,Nat.le_refl _,fun i k1 k2=>?_,fun k=>by omega⟩
    by_cases hi:i<b+u
    ·exact h2 i k1 hi
    ·rw[show i=b+u by omega];exact hc
   ·exact⟨u,by omega,h2,fun _=>hc⟩
theorem small_run {L:Cl} {k:Nat} (g:Gd L k):∀ (t a:Nat) (d:Bool),1≤t→t+1≤a→(∀ i,a - t - 1≤i→i<a→col L i=some d)→(∀ i,a≤i→i<a+t→col L i=some (!d))→col L (a+t)=some d→∃ a' s' c',RuA L a' s' c'∧s'≤t:=by
 intro t
 induction t using Nat.strongRecOn with
 | _ t ih =>
  intro a d h1 ha hX hY hn
  obtain⟨u,u1,u2,u3⟩:=run_end (L:=L) d (a+t) t
  by_cases hu:u=t
  ·subst hu
   have hl:=col_lt (u2 (a+u+u - 1) (by omega) (by omega))
   exact⟨a,u,d,⟨h1,ha,by omega,hX,hY,fun i k1 k2=>u2 i (by omega) (by omega)⟩,Nat.le_refl _⟩
  ·have hlt:u<t:=by omega
   have hne:=u3 hlt
   have hu1:1≤u:=by
    apply Nat.pos_of_ne_zero
    intro z
    rw[z,Nat.add_zero]at hne
    exact hne hn
   by_cases he:a+t+u<L.length
   ·obtain⟨b,hb⟩:=col_some he
    have hbd:b=!d:=by
     rw[hb]at hne
     cases b <;> cases d <;> simp at hne ⊢
    obtain⟨a',s',c',r,hs⟩:=ih u hlt (a+t) (!d) hu1 (by omega) (fun i k1 k2=>hY i (by omega) (by omega)) (fun i k1 k2=>by rw[Bool.not_not];exact u2 i k1 k2) (by rw[hb,hbd])
    exact⟨a',s',c',r,by omega⟩
   ·exfalso
    have hend:a+t+u=L.length:=by have:=col_lt (u2 (a+t+u - 1) (by omega) (by omega));omega
    cases d with
    | true =>
     have:=g.ff (u2 (a+t+u - 1) (by omega) (by omega))
     have h2:=g.two
     have h3:=cnt1_full u2
     omega
    | false =>
     have h3:=cnt1_full (L:=L) (a:=a) (s:=t) hY
     have h2:=g.two
     have:=g.ff (hY (a+t - 1) (by omega) (by omega))
     omega
theorem Gd.exi {L:Cl} {k:Nat} (g:Gd L k) {i0:Nat} (h:col L i0=some true):∃ a s c,RuA L a s c:=by
 obtain⟨f0,hf,hmin⟩:=leastN (p:=fun i=>col L i=some true) i0 h
 obtain⟨u,u1,u2,u3⟩:=run_end (L:=L) true f0 (L.length+1)
 obtain⟨g1,g2⟩:=g.ff hf
 have hc:=cnt1_full u2
 have hul:u<L.length+1:=by
  apply Nat.lt_of_not_le
  intro z
  have:=col_lt (u2 (f0+u - 1) (by omega) (by omega))
  omega
 have hu1:1≤u:=by
  apply Nat.pos_of_ne_zero
  intro z
  have:=u3 hul
  rw[z,Nat.add_zero]at this
  exact this hf
 have hne:=u3 hul
 have hlast:=g.ff (u2 (f0+u - 1) (by omega) (by omega))
 have h2:=g.two
 obtain⟨b,hb⟩:=col_some (L:=L) (i:=f0+u) (by omega)
 have hbf:b=false:=by
  cases b with
  | false=>rfl
  | true=>exact absurd hb hne
 obtain⟨a,s,c,r,_⟩:=small_run g u f0 false hu1 (by omega) (fun i k1 k2=>by
  obtain⟨b',hb'⟩:=col_some (L:=L) (i:=i) (by omega)
  cases b' with
  | false=>exact hb'
  | true=>exact absurd hb' (hmin i k2)) (fun i k1 k2=>u2 i k1 k2) (by rw[hb,hbf])
 exact⟨a,s,c,r⟩
theorem hg_zero {L:Cl} {b:Nat} (h0:hg L b=0) (k:Nat) (h:∀ j,b≤j→j<b+k→col L j≠some true):hg L (b+k)=0:=by
 rw[hg_emp k h,h0];omega
theorem least_q {L:Cl} {k:Nat} (g:Gd L k) {a s:Nat} (h:RuA L a s false) (hm:∀ a' s' c',RuA L a' s' c'→s≤s') (hh:hg L (a - s - 1)≤s):∀ i,a+2 * s≤i→i<a+3 * s→col (TL L) i=some false:=by
 intro i h1 h2
 have hs:=h.s1
 have ha:=h.a1
 obtain⟨e1,e2⟩:=h.ends g
 have hk:=g.two
 have hsc:=cnt1_full (L:=L) (a:=a) (s:=s) h.Y
 have x1:=hg_emp (L:=L) (a:=a - s - 1) (s+1) fun i k1 k2=>by rw[h.X i k1 (by omega)];simp
 rw[show a - s - 1+(s+1)=a by omega]at x1
 have x2:=hg_full (L:=L) (a:=a) s fun i k1 k2=>h.Y i k1 (by omega)
 have x3:=hg_emp (L:=L) (a:=a+s) s fun i k1 k2=>by rw[h.Z i k1 (by omega)];simp
 rw[show a+s+s=a+2 * s by omega]at x3
 have h0:hg L (a+2 * s)=0:=by omega
 obtain⟨b,hb⟩:=col_some (L:=L) (i:=i) (by omega)
 rw[TL_col,hb]
 cases b with
 | true=>rfl
 | false =>
  have hz:hg L i=0:=by
   apply Classical.byContradiction
   intro hne
   have hex:∃ j,a+2 * s≤j∧j<i∧col L j=some true:=by
    apply Classical.byContradiction
    intro hno
    apply hne
    have:=hg_zero h0 (i - (a+2 * s)) fun j k1 k2 z=>hno ⟨j,k1,by omega,z⟩
    rwa [show a+2 * s+(i - (a+2 * s))=i by omega]at this
   obtain⟨j,j1,j2,j3⟩:=hex
   obtain⟨f0,⟨hf1,hf⟩,hmin⟩:=leastN (p:=fun i=>a+2 * s≤i∧col L i=some true) j ⟨j1,j3⟩
   have hfj:f0≤j:=by
    apply Nat.le_of_not_lt
    intro z
    exact hmin j z ⟨j1,j3⟩
   obtain⟨u,u1,u2,u3⟩:=run_end (L:=L) true f0 (i - f0+1)
   have hui:u≤i - f0:=by
    apply Nat.le_of_not_lt
    intro z
    have:=u2 i (by omega) (by omega)
    rw[hb]at this;cases this
   have hne2:=u3 (by omega)
   have hu1:1≤u:=by
    apply Nat.pos_of_ne_zero
    intro z
    rw[z,Nat.add_zero]at hne2
    exact hne2 hf
   obtain⟨b',hb'⟩:=col_some (L:=L) (i:=f0+u) (by omega)
   have hbf:b'=false:=by
    cases b' with
    | false=>rfl
    | true=>exact absurd hb' hne2
   obtain⟨a',s',c',r,hs'⟩:=small_run g u f0 false hu1 (by omega) (fun q k1 k2=>by
    by_cases hq:q<a+2 * s
    ·exact h.Z q (by omega) hq
    ·obtain⟨b2,hb2⟩:=col_some (L:=L) (i:=q) (by omega)
     cases b2 with
     | false=>exact hb2
     | true=>exact absurd ⟨by omega,hb2⟩ (hmin q k2)) (fun q k1 k2=>u2 q k1 k2) (by rw[hb',hbf])
   have:=hm a' s' c' r
   omega
  rw[hz]
  rfl
theorem tails_heads:∀ (n:Nat) {L:Cl} {its:List LL} {k:Nat},cnt1 L=n→Gd L k→FX L its→∃ its',FX (TL L) its'∧(its'.map (·.1)).Perm (its.map (·.2)):=by
 intro n
 induction n using Nat.strongRecOn with
 | _ n ih =>
  intro L its k hn g f
  by_cases hex:∃ i,col L i=some true
  ·obtain⟨i,hi⟩:=hex
   obtain⟨a0,s0,c0,r0⟩:=g.exi hi
   obtain⟨s,⟨a,c,r⟩,hmin⟩:=leastN (p:=fun s=>∃ a c,RuA L a s c) s0 ⟨a0,c0,r0⟩
   have hm:∀ a' s' c',RuA L a' s' c'→s≤s':=fun a' s' c' r'=>by
    apply Nat.le_of_not_lt
    intro z
    exact hmin s' z ⟨a',c',r'⟩
   obtain⟨its1,f1,q1⟩:=f.any r
   have hc:=cnt1_rem r
   have hs:=r.s1
   obtain⟨its2,f2,q2⟩:=ih (cnt1 (remL L a s)) (by omega) rfl (g.rem r) f1
   obtain⟨a',c',r',e',sm⟩:=tl_step r fun hcf hh=>by subst hcf;exact least_q g r hm hh
   obtain⟨its3,f3,e3⟩:=FX.sim f2 ⟨sm.len.symm,fun i=>(sm.cl i).symm,fun i hi=>(sm.lb i (by rw[sm.cl];exact hi)).symm⟩
   refine⟨_,FX.step r' f3,?_⟩
   rw[List.map_cons,e',e3]
   exact((q2.cons _).trans (q1.map (fun x:LL=>x.2)).symm)
  ·have hno:∀ i,col L i≠some true:=fun i z=>hex ⟨i,z⟩
   cases f with
   | step r _=>obtain⟨i,hi⟩:=r.full;exact absurd hi (hno i)
   | nil _ =>
    refine⟨[],.nil fun i=>?_,List.Perm.refl _⟩
    have hz:hg L i=0:=by
     have:=hg_zero (L:=L) (b:=0) rfl i fun j _ _=>hno j
     rwa [Nat.zero_add]at this
    rw[TL_col,hz]
    cases col L i with
    | none=>simp
    | some b=>simp
end CW
namespace CW
open PySem L2
noncomputable def flt (b:Bool):List Trs→Cl
 | []=>[]
 | r :: rs=>(nich r).map (fun x=>(b,x))++flt (!b) rs
theorem flt_app:∀ (A B:List Trs) (b:Bool),flt b (A++B)=flt b A++flt (parR b A.length) B
 | [],B,b=>rfl
 | r :: A,B,b=>by
  show _++flt (!b) (A++B)=(_++flt (!b) A)++flt (parR (!b) A.length) B
  rw[flt_app A B,List.append_assoc]
theorem col_app (P M:Cl) (i:Nat):col (P++M) i=if i<P.length then col P i else col M (i - P.length):=by
 unfold col
 rw[List.getElem?_append]
 split <;> rfl
theorem col_map (b:Bool) (xs:List Int) (i:Nat) (h:i<xs.length):col (xs.map fun x=>(b,x)) i=some b:=by
 unfold col
 rw[List.getElem?_map,List.getElem?_eq_getElem h]
 rfl
theorem col_mid {P Q:Cl} {xs:List Int} {b:Bool} {i:Nat} (h1:P.length≤i) (h2:i<P.length+xs.length):col (P++(xs.map (fun x=>(b,x))++Q)) i=some b:=by
 rw[col_app,if_neg (by omega),col_app,if_pos (by rw[List.length_map];omega),col_map b xs _ (by omega)]
theorem labs_mid {P Q:Cl} {xs:List Int} {b:Bool} {s:Nat} (h:s≤xs.length):labs (P++(xs.map (fun x=>(b,x))++Q)) P.length s=xs.take s:=by
 unfold labs
 rw[List.drop_left,List.take_append_of_le_length (by rw[List.length_map];exact h),← List.map_take,List.map_map]
 rw[show ((fun x:Bool×Int=>x.2)∘fun x=>(b,x))=id from rfl,List.map_id]
noncomputable def NE (rs:List Trs):Prop:=∀ i,1≤i→i+1<rs.length→1≤rl rs i
theorem NE.step {A B:List Trs} {x y z rest:Trs} (h:NE (A++x :: y :: z :: B)) (hx:Rn x) (hr:Rn rest):NE (A++(x++rest) :: B):=by
 intro i h1 h2
 have hrest:=rlen_nn hr
 rw[List.length_append,List.length_cons]at h2
 rcases Nat.lt_trichotomy i A.length with k | k | k
 ·have:=h i h1 (by simp;omega)
  unfold rl at this ⊢
  rw[List.getD_eq_getElem?_getD,List.getElem?_append_left k]at this ⊢
  exact this
 ·have:=h i h1 (by simp;omega)
  unfold rl at this ⊢
  rw[List.getD_eq_getElem?_getD,List.getElem?_append_right (by omega),show i - A.length=0 by omega]at this ⊢
  have e1:1≤rlen x:=this
  show 1≤rlen (x++rest)
  rw[rlen_append]
  omega
 ·have:=h (i+2) (by omega) (by simp;omega)
  unfold rl at this ⊢
  rw[List.getD_eq_getElem?_getD,List.getElem?_append_right (by omega)]at this ⊢
  rw[show i+2 - A.length=(i - A.length - 1)+3 by omega]at this
  rw[show i - A.length=(i - A.length - 1)+1 by omega]
  exact this
theorem hd_rule {A B:List Trs} {x y z:Trs} (hF:FndR (A++x :: y :: z :: B) (A.length+2)) (rx:Rn x) (ry:Rn y) (rz:Rn z) (hy1:1≤rlen y) :
 ∃ a s c,RuA (flt false (A++x :: y :: z :: B)) a s c∧prA (flt false (A++x :: y :: z :: B)) a s c=hdPair (A.length+2) y z∧remL (flt false (A++x :: y :: z :: B)) a s=flt false (A++(x++(cutF (rlen y) z).2) :: B):=by
 obtain⟨c,hc⟩:∃ c,parR false A.length=c:=⟨_,rfl⟩
 have hxy:rlen y<rlen x:=by
  have:=hF.lt (A.length+1) (by omega) (by omega)
  unfold rl at this
  simpa using this
 have hyz:rlen y≤rlen z:=by
  have:=hF.ge
  rw[show A.length+2 - 1=A.length+1 from rfl]at this
  unfold rl at this
  simpa using this
 have lx:=nich_len rx
 have ly:=nich_len ry
 have lz:=nich_len rz
 have etn:(rlen y).toNat=(nich y).length:=by omega
 obtain⟨cy1,_⟩:=cut_nich (show 0≤rlen y by omega) y ry
 obtain⟨cz1,cz2⟩:=cut_nich (show 0≤rlen y by omega) z rz
 rw[etn]at cy1 cz1 cz2
 rw[List.take_length]at cy1
 have eF:flt false (A++x :: y :: z :: B)=flt false A++((nich x).map (fun v=>(c,v))++((nich y).map (fun v=>(!c,v))++((nich z).map (fun v=>(c,v))++flt (!c) B))):=by
  rw[flt_app,hc]
  show _++(_++(_++(_++flt (!(!(!c))) B)))=_
  rw[Bool.not_not]
 have eR:flt false (A++(x++(cutF (rlen y) z).2) :: B)=flt false A++((nich x).map (fun v=>(c,v))++(((nich z).drop (nich y).length).map (fun v=>(c,v))++flt (!c) B)):=by
  rw[flt_app,hc]
  show _++((nich (x++(cutF (rlen y) z).2)).map (fun v=>(c,v))++flt (!c) B)=_
  rw[nich_append,cz2,List.map_append,List.append_assoc]
 rw[eF,eR]
 generalize flt false A=FA
 generalize flt (!c) B=FB
 obtain⟨s,hs⟩:∃ s,(nich y).length=s:=⟨_,rfl⟩
 obtain⟨lxn,hlx⟩:∃ l,(nich x).length=l:=⟨_,rfl⟩
 obtain⟨lzn,hlz⟩:∃ l,(nich z).length=l:=⟨_,rfl⟩
 have e2:FA++((nich x).map (fun v=>(c,v))++((nich y).map (fun v=>(!c,v))++((nich z).map (fun v=>(c,v))++FB)))=(FA++(nich x).map (fun v=>(c,v)))++((nich y).map (fun v=>(!c,v))++((nich z).map (fun v=>(c,v))++FB)):=by simp
 have e3:FA++((nich x).map (fun v=>(c,v))++((nich y).map (fun v=>(!c,v))++((nich z).map (fun v=>(c,v))++FB)))=(FA++(nich x).map (fun v=>(c,v))++(nich y).map (fun v=>(!c,v)))++((nich z).map (fun v=>(c,v))++FB):=by simp
 have la:(FA++(nich x).map (fun v=>(c,v))).length=FA.length+lxn:=by simp[hlx]
 have lb:(FA++(nich x).map (fun v=>(c,v))++(nich y).map (fun v=>(!c,v))).length=FA.length+lxn+s:=by simp[hlx,hs];omega
 refine⟨FA.length+lxn,s,c,⟨by omega,by omega,?_,fun i h1 h2=>?_,fun i h1 h2=>?_,fun i h1 h2=>?_⟩,?_,?_⟩
 ·simp[hlx,hs,hlz]
  omega
 ·exact col_mid (by omega) (by omega)
 ·rw[e2]
  exact col_mid (by omega) (by omega)
 ·rw[e3]
  exact col_mid (by omega) (by omega)
 ·have l1:labs (FA++((nich x).map (fun v=>(c,v))++((nich y).map (fun v=>(!c,v))++((nich z).map (fun v=>(c,v))++FB)))) (FA.length+lxn) s=nich y:=by
   rw[e2,← la,labs_mid (by omega),List.take_of_length_le (by omega)]
  have l2:labs (FA++((nich x).map (fun v=>(c,v))++((nich y).map (fun v=>(!c,v))++((nich z).map (fun v=>(c,v))++FB)))) (FA.length+lxn+s) s=(nich z).take s:=by
   rw[e3,← lb,labs_mid (by omega)]
  unfold prA hdPair
  rw[l1,l2,cy1,cz1,hs]
  have hpar:c=true↔¬ (A.length+2) % 2=0:=by
   rw[← hc,parR_odd]
   rcases Nat.mod_two_eq_zero_or_one A.length with h | h
   ·rw[if_neg (by omega)];simp;omega
   ·rw[if_pos h];simp;omega
  by_cases hcc:c=true
  ·rw[if_pos hcc,if_neg (hpar.mp hcc)]
  ·rw[if_neg hcc,if_pos (Classical.byContradiction fun z=>hcc (hpar.mpr z))]
 ·unfold remL
  have t1:(FA++((nich x).map (fun v=>(c,v))++((nich y).map (fun v=>(!c,v))++((nich z).map (fun v=>(c,v))++FB)))).take (FA.length+lxn)=FA++(nich x).map (fun v=>(c,v)):=by
   rw[e2,← la,List.take_left]
  have t2:(FA++((nich x).map (fun v=>(c,v))++((nich y).map (fun v=>(!c,v))++((nich z).map (fun v=>(c,v))++FB)))).drop (FA.length+lxn+2 * s)=((nich z).drop s).map (fun v=>(c,v))++FB:=by
   rw[e3,show FA.length+lxn+2 * s=(FA++(nich x).map (fun v=>(c,v))++(nich y).map (fun v=>(!c,v))).length+s by omega,List.drop_append,List.drop_of_length_le (by omega),List.nil_append,Nat.add_sub_cancel_left,List.drop_append_of_le_length (by rw[List.length_map];omega),List.map_drop]
  rw[t1,t2,hs,List.append_assoc]
theorem hd_fx {rs:List Trs} {its:List LL} (h:HdR rs its):(rs.length=1∨HI rs)→NE rs→FX (flt false rs) its:=by
 induction h with
 | nil hl =>
  rename_i rs
  intro hI _
  refine .nil fun i hi=>?_
  match rs,hl with
  | [],_=>simp[flt,col]at hi
  | [r],_ =>
   have e:flt false [r]=(nich r).map (fun x=>(false,x)):=by simp[flt]
   rw[e]at hi
   have hl2:=col_lt hi
   rw[List.length_map]at hl2
   rw[col_map false _ i hl2]at hi
   cases hi
 | step hF h ih =>
  rename_i A B x y z its
  intro hI hN
  have hI':HI (A++x :: y :: z :: B):=hI.resolve_left fun q=>by simp at q;omega
  have rx:=hI'.rn x (by simp)
  have ry:=hI'.rn y (by simp)
  have rz:=hI'.rn z (by simp)
  have hy1:1≤rlen y:=by
   have:=hN (A.length+1) (by omega) (by simp;omega)
   unfold rl at this
   simpa using this
  have hyz:rlen y≤rlen z:=by
   have:=hF.ge
   rw[show A.length+2 - 1=A.length+1 from rfl]at this
   unfold rl at this
   simpa using this
  have cz:=cut_facts (show 0≤rlen y by omega) z rz
  obtain⟨a,s,c,r,e1,e2⟩:=hd_rule hF rx ry rz hy1
  have hst:=(HI.step (A:=A) (B:=B) (x:=x) (y:=y) (z:=z) (rest:=(cutF (rlen y) z).2) hI' (by have:=cz.rest;omega) cz.rn).1
  have:=FX.step r (by rw[e2];exact ih (.inr hst) (hN.step rx cz.rn))
  rw[e1]at this
  exact this
end CW
namespace CW
open PySem L2
noncomputable def cells (row:List Int) (n:Int) (m:Nat):Cl:=(List.range m).map fun(i:Nat)=>(decide (n+(i:Int)∈row),n+(i:Int))
theorem cells_len (row:List Int) (n:Int) (m:Nat):(cells row n m).length=m:=by simp[cells]
theorem cells_get (row:List Int) (n:Int) {m i:Nat} (h:i<m):(cells row n m)[i]?=some (decide (n+(i:Int)∈row),n+(i:Int)):=by
 unfold cells
 rw[List.getElem?_map,List.getElem?_range h]
 rfl
theorem cells_col (row:List Int) (n:Int) {m i:Nat} (h:i<m):col (cells row n m) i=some (decide (n+(i:Int)∈row)):=by
 unfold col
 rw[cells_get row n h]
 rfl
theorem cells_add (row:List Int) (n:Int) (m k:Nat):cells row n (m+k)=cells row n m++cells row (n+(m:Int)) k:=by
 unfold cells
 rw[List.range_add,List.map_append,List.map_map]
 congr 1
 refine List.map_congr_left fun i _=>?_
 simp only[Function.comp]
 rw[show n+((m+i:Nat):Int)=n+(m:Int)+(i:Int)by omega]
theorem cells_const {row:List Int} {n:Int} {m:Nat} {b:Bool} (h:∀ x,n≤x→x<n+(m:Int)→decide (x∈row)=b):cells row n m=(rngL n m).map fun x=>(b,x):=by
 unfold cells rngL
 rw[List.map_map]
 refine List.map_congr_left fun i hi=>?_
 have:=List.mem_range.mp hi
 simp only[Function.comp]
 rw[h _ (by omega) (by omega)]
theorem cells_congr {row row':List Int} {n:Int} {m:Nat} (h:∀ x,n≤x→x<n+(m:Int)→(x∈row↔x∈row')):cells row n m=cells row' n m:=by
 unfold cells
 refine List.map_congr_left fun i hi=>?_
 have:=List.mem_range.mp hi
 rw[show decide (n+(i:Int)∈row)=decide (n+(i:Int)∈row') from decide_eq_decide.mpr (h _ (by omega) (by omega))]
structure CellsR (row:List Int) (R:Trs):Prop where
 eq:∃ m:Nat,flt false (roadN row R).1=cells (cat R) (loM row - (row.length:Int) - 1) m∧(roadN row R).2=loM row - (row.length:Int) - 1+(m:Int)
 lt:∀ x∈cat R,x<(roadN row R).2
theorem seg_rng (p:Int) (n:Nat):seg p n=rngL p n:=rfl
theorem mem_rng {p:Int} {n:Nat} {x:Int}:x∈rngL p n↔p≤x∧x<p+(n:Int):=by
 constructor
 ·intro h
  obtain⟨k,hk,rfl⟩:=List.mem_map.mp h
  have:=List.mem_range.mp hk
  omega
 ·intro ⟨h1,h2⟩
  exact List.mem_map.mpr ⟨(x - p).toNat,List.mem_range.mpr (by omega),by omega⟩
theorem cells_road (row:List Int) (R:Trs):GdR R→Row (cat R)→(∀ x∈cat R,loM row≤x)→CellsR row R:=by
 refine snocI (C:=fun R=>GdR R→Row (cat R)→(∀ x∈cat R,loM row≤x)→CellsR row R) (fun _ _ _=>⟨⟨0,by simp[roadN,flt,cells],by simp[roadN]⟩,fun x hx=>by simp[cat]at hx⟩) (fun l p ih hg hr hl=>?_) R
 have hp:=hg p (by simp)
 have ok:=road_ok row l (fun q hq=>hg q (by simp[hq])) (by rw[catR_snoc]at hr;exact(List.pairwise_append.mp hr).1) (fun x hx=>hl x (by rw[catR_snoc];exact List.mem_append_left _ hx))
 have hcs:=catR_snoc l p
 rw[hcs]at hr hl
 obtain⟨r1,r2,r3⟩:=List.pairwise_append.mp hr
 obtain⟨⟨m,e1,e2⟩,below⟩:=ih (fun q hq=>hg q (by simp[hq])) r1 (fun x hx=>hl x (List.mem_append_left _ hx))
 have hsz:rsz p=p.2 - p.1+1:=rfl
 have m1:p.1∈seg p.1 (rsz p).toNat:=seg_in (by omega) (by omega)
 have hn:(roadN row l).2≤p.1:=ok.nic p.1 (fun y hy=>r3 y hy _ m1) (hl p.1 (List.mem_append_right _ m1))
 have hln:=roadN_len row l
 have e3:(roadN row (l++[p])).1=(roadN row l).1++[[((roadN row l).2,p.1 - 1)],[p]]:=by rw[roadN_snoc];rfl
 have e4:(roadN row (l++[p])).2=p.2+1:=by rw[roadN_snoc];rfl
 obtain⟨n0,hn0⟩:∃ n0,loM row - (row.length:Int) - 1=n0:=⟨_,rfl⟩
 rw[hn0]at e1 e2
 have insg:∀ x,x∈seg p.1 (rsz p).toNat↔p.1≤x∧x≤p.2:=fun x=>by
  rw[seg_rng,mem_rng]
  omega
 refine⟨⟨m+(p.1 - (roadN row l).2).toNat+(p.2 - p.1+1).toNat,?_,by rw[e4,hn0];omega⟩,fun x hx=>?_⟩
 ·rw[hn0,hcs,cells_add,cells_add,e3,flt_app,e1,parR_odd,if_neg (by omega)]
  have c1:cells (cat l++seg p.1 (rsz p).toNat) n0 m=cells (cat l) n0 m:=cells_congr fun x h1 h2=>by
   rw[List.mem_append,insg]
   exact⟨fun h=>h.resolve_right (by omega),.inl⟩
  have c2:cells (cat l++seg p.1 (rsz p).toNat) (n0+(m:Int)) (p.1 - (roadN row l).2).toNat=(rngL (n0+(m:Int)) (p.1 - (roadN row l).2).toNat).map fun x=>(false,x):=cells_const fun x h1 h2=>by
   rw[decide_eq_false]
   rw[List.mem_append,insg]
   rintro (h | h)
   ·have:=below x h;omega
   ·omega
  have c3:cells (cat l++seg p.1 (rsz p).toNat) (n0+((m+(p.1 - (roadN row l).2).toNat:Nat):Int)) (p.2 - p.1+1).toNat=(rngL p.1 (p.2 - p.1+1).toNat).map fun x=>(true,x):=by
   rw[show n0+((m+(p.1 - (roadN row l).2).toNat:Nat):Int)=p.1 by omega]
   refine cells_const fun x h1 h2=>?_
   rw[decide_eq_true]
   rw[List.mem_append,insg]
   exact .inr (by omega)
  rw[c1,c2,c3,List.append_assoc]
  congr 1
  show (nich [((roadN row l).2,p.1 - 1)]).map (fun x=>(false,x))++((nich [p]).map (fun x=>(!false,x))++[])=_
  rw[nich_one,nich_one,List.append_nil]
  show (rngL (roadN row l).2 (p.1 - 1 - (roadN row l).2+1).toNat).map _++_=_
  rw[e2,show p.1 - 1 - (n0+(m:Int))+1=p.1 - (n0+(m:Int))by omega]
  rfl
 ·rw[hcs]at hx
  rw[e4]
  rcases List.mem_append.mp hx with h | h
  ·have:=r3 x h _ m1;omega
  ·have:=(insg x).mp h;omega
theorem cells_roadF {row:List Int} (hr:Row row):∃ m:Nat,flt false (roadF row)=cells row (loM row - (row.length:Int) - 1) (m+row.length)∧∀ x∈row,loM row - (row.length:Int) - 1+(row.length:Int)<x∧x<loM row - (row.length:Int) - 1+(m:Int):=by
 obtain⟨hg,hc⟩:=runs_good row
 obtain⟨⟨m,e1,e2⟩,lt⟩:=cells_road row (runsM row) hg (by rw[hc];exact hr) (by rw[hc];exact loM_le row)
 rw[hc]at e1 lt
 refine⟨m,?_,fun x hx=>⟨by have:=loM_le row x hx;omega,by rw[← e2];exact lt x hx⟩⟩
 have hln:=roadN_len row (runsM row)
 unfold roadF
 rw[flt_app,e1,parR_odd,if_neg (by omega),cells_add]
 congr 1
 have c2:cells row (loM row - (row.length:Int) - 1+(m:Int)) row.length=(rngL (loM row - (row.length:Int) - 1+(m:Int)) row.length).map fun x=>(false,x):=cells_const fun x h1 h2=>by
  rw[decide_eq_false]
  intro h
  have:=lt x h
  omega
 rw[c2]
 show (nich [_]).map (fun x=>(false,x))++[]=_
 rw[nich_one,List.append_nil,e2]
 show (rngL _ (_+(row.length:Int) - 1 - _+1).toNat).map _=_
 congr 2
 omega
end CW
namespace CW
open PySem L2
theorem RuA.ext {L P Q:Cl} {a s:Nat} {c:Bool} (h:RuA L a s c):RuA (P++(L++Q)) (P.length+a) s c∧prA (P++(L++Q)) (P.length+a) s c=prA L a s c∧remL (P++(L++Q)) (P.length+a) s=P++(remL L a s++Q):=by
 have hl:=h.len
 have hs:=h.s1
 have ha:=h.a1
 have hcol:∀ i,P.length≤i→i<P.length+L.length→col (P++(L++Q)) i=col L (i - P.length):=fun i h1 h2=>by rw[col_app,if_neg (by omega),col_app,if_pos (by omega)]
 have hget:∀ i,P.length≤i→i<P.length+L.length→(P++(L++Q))[i]?=L[i - P.length]?:=fun i h1 h2=>by rw[List.getElem?_append_right h1,List.getElem?_append_left (by omega)]
 refine⟨⟨hs,by omega,by simp;omega,fun i h1 h2=>?_,fun i h1 h2=>?_,fun i h1 h2=>?_⟩,?_,?_⟩
 ·rw[hcol i (by omega) (by omega)];exact h.X _ (by omega) (by omega)
 ·rw[hcol i (by omega) (by omega)];exact h.Y _ (by omega) (by omega)
 ·rw[hcol i (by omega) (by omega)];exact h.Z _ (by omega) (by omega)
 ·have e:∀ b,b+s≤L.length→labs (P++(L++Q)) (P.length+b) s=labs L b s:=fun b hb=>by
   refine List.ext_getElem? fun i=>?_
   rw[labs_get,labs_get]
   by_cases hi:i<s
   ·rw[if_pos hi,if_pos hi,hget _ (by omega) (by omega)]
    congr 2
    omega
   ·rw[if_neg hi,if_neg hi]
  unfold prA
  rw[e a (by omega),Nat.add_assoc,e (a+s) (by omega)]
 ·unfold remL
  rw[List.take_length_add_append,List.take_append_of_le_length (by omega),Nat.add_assoc,List.drop_length_add_append,List.drop_append_of_le_length hl]
  simp
theorem FX.ext {L:Cl} {its:List LL} (f:FX L its) {P Q:Cl} (hP:∀ i,col P i≠some true) (hQ:∀ i,col Q i≠some true):FX (P++(L++Q)) its:=by
 induction f with
 | nil h0 =>
  refine .nil fun i=>?_
  rw[col_app]
  split
  ·exact hP i
  ·rw[col_app]
   split
   ·exact h0 _
   ·exact hQ _
 | step r f ih =>
  obtain⟨r',e1,e2⟩:=r.ext (P:=P) (Q:=Q)
  have:=FX.step r' (by rw[e2];exact ih)
  rw[e1]at this
  exact this
theorem FX.wide {row:List Int} {n n':Int} {m m':Nat} {its:List LL} (f:FX (cells row n' m') its) (h1:n≤n') (h2:n'+(m':Int)≤n+(m:Int)) (hin:∀ x∈row,n'≤x∧x<n'+(m':Int)):FX (cells row n m) its:=by
 have hno:∀ (b:Int) (k:Nat),(∀ x,b≤x→x<b+(k:Int)→x∉row)→∀ i,col (cells row b k) i≠some true:=fun b k h i hi=>by
  have hl:=col_lt hi
  rw[cells_len]at hl
  rw[cells_col row b hl]at hi
  have:=of_decide_eq_true (Option.some.inj hi)
  exact h _ (by omega) (by omega) this
 have e:cells row n m=cells row n (n' - n).toNat++(cells row n' m'++cells row (n'+(m':Int)) (n+(m:Int) - n' - (m':Int)).toNat):=by
  rw[show m=(n' - n).toNat+(m'+(n+(m:Int) - n' - (m':Int)).toNat)by omega,cells_add,cells_add]
  rw[show n+(((n' - n).toNat:Nat):Int)=n' by omega]
  congr 3
  omega
 rw[e]
 exact f.ext (hno _ _ fun x k1 k2 hx=>by have:=hin x hx;omega) (hno _ _ fun x k1 k2 hx=>by have:=hin x hx;omega)
noncomputable def flb (L:Cl):List Int:=(L.filter (·.1)).map (·.2)
theorem flb_app (a b:Cl):flb (a++b)=flb a++flb b:=by unfold flb;rw[List.filter_append,List.map_append]
theorem flb_true {M:Cl} (h:∀ i,i<M.length→col M i=some true):flb M=M.map (·.2):=by
 unfold flb
 rw[List.filter_eq_self.mpr]
 intro p hp
 obtain⟨i,hi,rfl⟩:=List.getElem_of_mem hp
 have:=h i hi
 unfold col at this
 rw[List.getElem?_eq_getElem hi]at this
 simpa using this
theorem flb_false {M:Cl} (h:∀ i,i<M.length→col M i=some false):flb M=[]:=by
 unfold flb
 rw[List.filter_eq_nil_iff.mpr]
 ·rfl
 intro p hp
 obtain⟨i,hi,rfl⟩:=List.getElem_of_mem hp
 have:=h i hi
 unfold col at this
 rw[List.getElem?_eq_getElem hi]at this
 simpa using this
theorem flb_rem {L:Cl} {a s:Nat} {c:Bool} (h:RuA L a s c):(flb L).Perm ((prA L a s c).1++flb (remL L a s)):=by
 have hl:=h.len
 have l1:=sgl_len (L:=L) (a:=a) (s:=s) (by omega)
 have l2:=sgl_len (L:=L) (a:=a+s) (s:=s) (by omega)
 have e:L=L.take a++((L.drop a).take s++((L.drop (a+s)).take s++L.drop (a+2 * s))):=by
  have h1:=sgl_parts (L.drop a) s 0
  have h2:L.drop (a+s)=(L.drop (a+s)).take s++L.drop (a+2 * s):=by
   have:=(List.take_append_drop s (L.drop (a+s))).symm
   rw[List.drop_drop,show a+s+s=a+2 * s by omega]at this
   exact this
  rw[← h2]
  exact sgl_parts L a s
 have eL:flb L=flb (L.take a)++(flb ((L.drop a).take s)++(flb ((L.drop (a+s)).take s)++flb (L.drop (a+2 * s)))):=by
  rw[← flb_app,← flb_app,← flb_app,← e]
 have eR:flb (remL L a s)=flb (L.take a)++flb (L.drop (a+2 * s)):=by unfold remL;rw[flb_app]
 cases c with
 | true =>
  have y:=flb_false (M:=(L.drop a).take s) fun i hi=>by rw[l1]at hi;rw[col_seg hi];exact h.Y _ (by omega) (by omega)
  have z:=flb_true (M:=(L.drop (a+s)).take s) fun i hi=>by rw[l2]at hi;rw[col_seg hi];exact h.Z _ (by omega) (by omega)
  rw[eL,eR,y,z,List.nil_append]
  show (flb (L.take a)++(labs L (a+s) s++flb (L.drop (a+2 * s)))).Perm (labs L (a+s) s++(flb (L.take a)++flb (L.drop (a+2 * s))))
  rw[← List.append_assoc,← List.append_assoc]
  exact List.perm_append_comm.append_right _
 | false =>
  have y:=flb_true (M:=(L.drop a).take s) fun i hi=>by rw[l1]at hi;rw[col_seg hi];exact h.Y _ (by omega) (by omega)
  have z:=flb_false (M:=(L.drop (a+s)).take s) fun i hi=>by rw[l2]at hi;rw[col_seg hi];exact h.Z _ (by omega) (by omega)
  rw[eL,eR,y,z,List.nil_append]
  show (flb (L.take a)++(labs L a s++flb (L.drop (a+2 * s)))).Perm (labs L a s++(flb (L.take a)++flb (L.drop (a+2 * s))))
  rw[← List.append_assoc,← List.append_assoc]
  exact List.perm_append_comm.append_right _
theorem FX.heads {L:Cl} {its:List LL} (f:FX L its):((its.map (·.1)).flatten).Perm (flb L):=by
 induction f with
 | nil h0 =>
  rename_i L
  rw[flb_false fun i hi=>by
   obtain⟨b,hb⟩:=col_some hi
   cases b with
   | false=>exact hb
   | true=>exact absurd hb (h0 i)]
  exact List.Perm.refl _
 | step r f ih =>
  rw[List.map_cons,List.flatten_cons]
  exact(ih.append_left _).trans (flb_rem r).symm
theorem flb_mapF (xs:List Int):flb (xs.map fun x=>(false,x))=[]:=flb_false fun i hi=>by rw[List.length_map]at hi;exact col_map false xs i hi
theorem flb_mapT (xs:List Int):flb (xs.map fun x=>(true,x))=xs:=by
 rw[flb_true fun i hi=>by rw[List.length_map]at hi;exact col_map true xs i hi,List.map_map]
 rw[show ((fun x:Bool×Int=>x.2)∘fun x=>(true,x))=id from rfl,List.map_id]
theorem flb_road (row:List Int):flb (flt false (roadF row))=row:=by
 have h:∀ R:Trs,flb (flt false (roadN row R).1)=cat R:=fun R=>by
  refine snocI (C:=fun R=>flb (flt false (roadN row R).1)=cat R) (by simp[roadN,flt,flb,cat]) (fun l p ih=>?_) R
  have hln:=roadN_len row l
  have e3:(roadN row (l++[p])).1=(roadN row l).1++[[((roadN row l).2,p.1 - 1)],[p]]:=by rw[roadN_snoc];rfl
  rw[e3,flt_app,flb_app,ih,parR_odd,if_neg (by omega),catR_snoc]
  congr 1
  show flb ((nich [((roadN row l).2,p.1 - 1)]).map (fun x=>(false,x))++((nich [p]).map (fun x=>(true,x))++[]))=_
  rw[List.append_nil,flb_app,flb_mapF,flb_mapT,nich_one]
  rfl
 have hln:=roadN_len row (runsM row)
 unfold roadF
 rw[flt_app,flb_app,h,(runs_good row).2,parR_odd,if_neg (by omega)]
 show row++flb (((nich [_]).map fun x=>(false,x))++[])=row
 rw[List.append_nil,flb_mapF,List.append_nil]
theorem TL_take (L:Cl) {i:Nat} (h:i<L.length):flb ((TL L).take (i+1))=flb ((TL L).take i)++(if col (TL L) i=some true then [(L[i]).2]else []):=by
 have hl:i<(TL L).length:=by rw[TL_len];exact h
 rw[List.take_add_one,List.getElem?_eq_getElem hl,flb_app]
 congr 1
 have e:(TL L)[i]=(!(L[i]).1 && decide (0<hg L i),(L[i]).2):=by
  have:=TL_get L i
  rw[List.getElem?_eq_getElem hl,List.getElem?_eq_getElem h]at this
  exact Option.some.inj this
 show flb [(TL L)[i]]=_
 have ec:col (TL L) i=some ((TL L)[i]).1:=by unfold col;rw[List.getElem?_eq_getElem hl];rfl
 rw[ec,e]
 by_cases hb:(!(L[i]).1 && decide (0<hg L i))=true
 ·rw[hb,if_pos rfl];rfl
 ·have hb':(!(L[i]).1 && decide (0<hg L i))=false:=by simpa using hb
  rw[hb',if_neg (by simp)];rfl
theorem mid_cells {row:List Int} (hr:Row row) {c:Int} (hc:(row.length:Int)≤c) {n:Int} {m:Nat} (hin:∀ x∈row,n≤x):∀ i,i≤m→Mid row c (n+(i:Int)) (flb ((TL (cells row n m)).take i)) (hg (cells row n m) i)
 | 0,_=>by
  have:=mid_start row c n hin
  rw[show n+((0:Nat):Int)=n by omega]
  exact this
 | i+1,hi=>by
  have ih:=mid_cells hr hc (m:=m) hin i (by omega)
  have hl:i<(cells row n m).length:=by rw[cells_len];omega
  have eg:(cells row n m)[i]=(decide (n+(i:Int)∈row),n+(i:Int)):=by
   have:=cells_get row n (m:=m) (i:=i) (by omega)
   rw[List.getElem?_eq_getElem hl]at this
   exact Option.some.inj this
  have ecl:=cells_col row n (m:=m) (i:=i) (by omega)
  rw[TL_take _ hl,eg,TL_col,ecl,show n+((i+1:Nat):Int)=n+(i:Int)+1 by omega]
  show Mid row c _ _ (if col (cells row n m) i=some true then _ else _)
  rw[ecl]
  by_cases hm:n+(i:Int)∈row
  ·rw[decide_eq_true hm,if_pos rfl,if_neg (by simp),List.append_nil]
   have:=mid_in ih hr hm
   have hlt:((hg (cells row n m) i:Nat):Int)<c:=by
    obtain⟨dn,r,e,d1,d2,d3,d4⟩:=ih.ex
    have:r≠[]:=fun z=>by
     rw[z,List.append_nil]at e
     rw[e]at hm
     have:=d1 _ hm
     omega
    have h1:=List.length_pos_iff.mpr this
    have h2:=congrArg List.length e
    rw[List.length_append]at h2
    omega
   rw[if_pos hlt]at this
   exact this
  ·rw[decide_eq_false hm]
   generalize hg (cells row n m) i=ld at ih ⊢
   have:=mid_out ih hm
   cases ld with
   | zero=>simpa using this
   | succ k=>simpa using this
theorem TL_walk {row:List Int} (hr:Row row) {c:Int} (hc:(row.length:Int)≤c) {n:Int} {m:Nat} (hin:∀ x∈row,n≤x∧x+(row.length:Int)<n+(m:Int)):flb (TL (cells row n m))=walkM row c∧TL (cells row n m)=cells (walkM row c) n m:=by
 have hM:=mid_cells hr hc (m:=m) (fun x hx=>(hin x hx).1) m (Nat.le_refl _)
 have hz:hg (cells row n m) m=0:=by
  by_cases hrow:row=[]
  ·have h0:∀ j,col (cells row n m) j≠some true:=fun j hj=>by
    have hl:=col_lt hj
    rw[cells_len]at hl
    rw[cells_col row n hl,hrow]at hj
    simp at hj
   have:=hg_zero (L:=cells row n m) (b:=0) rfl m fun j _ _=>h0 j
   rwa [Nat.zero_add]at this
  ·-- behind the last stone as many free niches as stones
   have hm:row.length≤m:=by
    obtain⟨x,hx⟩:=List.exists_mem_of_ne_nil row hrow
    have:=hin x hx
    omega
   have h1:=mid_cells hr hc (m:=m) (fun x hx=>(hin x hx).1) (m - row.length) (by omega)
   have h2:=hg_emp (L:=cells row n m) (a:=m - row.length) row.length fun j h1 h2 hj=>by
    rw[cells_col row n (by omega)]at hj
    have hx:=of_decide_eq_true (Option.some.inj hj)
    have:=(hin _ hx).2
    omega
   obtain⟨dn,r,e,_,_,_,d4⟩:=h1.ex
   have h3:=congrArg List.length e
   rw[List.length_append]at h3
   rw[show m - row.length+row.length=m by omega]at h2
   omega
 rw[hz,List.take_of_length_le (by rw[TL_len,cells_len];exact Nat.le_refl _)]at hM
 have e1:=mid_end hM fun x hx=>by have:=hin x hx;omega
 refine⟨e1,?_⟩
 refine List.ext_getElem? fun i=>?_
 by_cases hi:i<m
 ·rw[TL_get,cells_get row n hi,cells_get _ n hi]
  show some (!decide (n+(i:Int)∈row) && decide (0<hg (cells row n m) i),n+(i:Int))=_
  congr 2
  have key:(n+(i:Int)∈walkM row c)↔(!decide (n+(i:Int)∈row) && decide (0<hg (cells row n m) i))=true:=by
   rw[← e1]
   constructor
   ·intro h
    obtain⟨p,hp,e⟩:=List.mem_map.mp h
    obtain⟨hp1,hp2⟩:=List.mem_filter.mp hp
    obtain⟨j,hj,rfl⟩:=List.getElem_of_mem hp1
    have hjm:j<m:=by rw[TL_len,cells_len]at hj;exact hj
    have eg:=TL_get (cells row n m) j
    rw[List.getElem?_eq_getElem hj,cells_get row n hjm]at eg
    have eg':=Option.some.inj eg
    rw[eg']at e hp2
    have hji:j=i:=by
     have:n+(j:Int)=n+(i:Int):=e
     omega
    subst hji
    exact hp2
   ·intro h
    refine List.mem_map.mpr ⟨(true,n+(i:Int)),List.mem_filter.mpr ⟨?_,rfl⟩,rfl⟩
    refine List.mem_of_getElem? (i:=i) ?_
    rw[TL_get,cells_get row n hi]
    show some (!decide (n+(i:Int)∈row) && decide (0<hg (cells row n m) i),n+(i:Int))=_
    rw[h]
  by_cases hw:n+(i:Int)∈walkM row c
  ·rw[decide_eq_true hw];exact key.mp hw
  ·rw[decide_eq_false hw]
   cases hb:(!decide (n+(i:Int)∈row) && decide (0<hg (cells row n m) i))with
   | false=>rfl
   | true=>exact absurd (key.mpr hb) hw
 ·rw[List.getElem?_eq_none (by rw[TL_len,cells_len];omega),List.getElem?_eq_none (by rw[cells_len];omega)]
end CW
namespace CW
open PySem L2
noncomputable def Gap (R:Trs):Prop:=R.Pairwise fun p q=>p.2+1<q.1
theorem runs_gap (row:List Int):Row row→Gap (runsM row):=by
 refine snocI (C:=fun row=>Row row→Gap (runsM row)) (fun _=>List.Pairwise.nil) (fun B z ih hr=>?_) row
 obtain⟨r1,_,r3⟩:=List.pairwise_append.mp hr
 have ihB:=ih r1
 have hz:∀ q∈runsM B,q.1≤q.2∧q.2<z:=fun q hq=>by
  obtain⟨hg,hc⟩:=runs_good B
  have h1:=hg q hq
  refine⟨h1,?_⟩
  have hsz:rsz q=q.2 - q.1+1:=rfl
  have:q.2∈cat (runsM B):=by
   unfold cat
   exact List.mem_flatMap.mpr ⟨q,hq,seg_in (by omega) (by omega)⟩
  rw[hc]at this
  exact r3 _ this z (by simp)
 have e:runsM (B++[z])=stepR (runsM B) z:=by unfold runsM;rw[List.foldl_append];rfl
 rw[e]
 generalize runsM B=R at ihB hz
 rcases List.eq_nil_or_concat R with h | ⟨l,p,h⟩
 ·subst h
  rw[stepR_nil]
  exact List.pairwise_singleton _ _
 ·rw[List.concat_eq_append]at h
  subst h
  rw[stepR_snoc]
  have hp:=hz p (by simp)
  obtain⟨g1,_,g3⟩:=List.pairwise_append.mp ihB
  split
  ·refine List.pairwise_append.mpr ⟨g1,List.pairwise_singleton _ _,fun q hq r hr'=>?_⟩
   rw[List.mem_singleton.mp hr']
   exact g3 q hq p (by simp)
  ·refine List.pairwise_append.mpr ⟨ihB,List.pairwise_singleton _ _,fun q hq r hr'=>?_⟩
   rw[List.mem_singleton.mp hr']
   show q.2+1<z
   rcases List.mem_append.mp hq with k | k
   ·have:=g3 q k p (by simp);omega
   ·rw[List.mem_singleton.mp k];omega
theorem roadN_after (row:List Int) {l:Trs} (hl:l≠[]) {x:Int} (h:∀ q∈l,q.2+1<x):(roadN row l).2<x:=by
 rcases List.eq_nil_or_concat l with k | ⟨l',p,k⟩
 ·exact absurd k hl
 ·rw[List.concat_eq_append]at k
  subst k
  rw[roadN_snoc]
  exact h p (by simp)
theorem road_ne (row:List Int) (R:Trs):GdR R→Gap R→∀ i,1≤i→i<(roadN row R).1.length→1≤rl (roadN row R).1 i:=by
 refine snocI (C:=fun R=>GdR R→Gap R→∀ i,1≤i→i<(roadN row R).1.length→1≤rl (roadN row R).1 i) (fun _ _ i _ h=>by simp[roadN]at h) (fun l p ih hg hp i h1 h2=>?_) R
 obtain⟨g1,_,g3⟩:=List.pairwise_append.mp hp
 have hpp:=hg p (by simp)
 have e1:(roadN row (l++[p])).1=(roadN row l).1++[[((roadN row l).2,p.1 - 1)],[p]]:=by rw[roadN_snoc];rfl
 have hln:=roadN_len row l
 rw[e1]at h2 ⊢
 rw[List.length_append]at h2
 simp at h2
 have hm:=rl_mid (roadN row l).1 [((roadN row l).2,p.1 - 1)] [p] []
 rcases Nat.lt_trichotomy i (roadN row l).1.length with k | k | k
 ·have:=ih (fun q hq=>hg q (by simp[hq])) g1 i h1 k
  unfold rl at this ⊢
  rw[List.getD_eq_getElem?_getD]at this ⊢
  rw[List.getElem?_append_left k]
  exact this
 ·rw[k,hm.1]
  have hne:l≠[]:=by
   intro z
   have:l.length=0:=by rw[z];rfl
   omega
  have:=roadN_after row hne fun q hq=>g3 q hq p (by simp)
  simp[rlen]
  omega
 ·rw[show i=(roadN row l).1.length+1 by omega,hm.2]
  simp[rlen]
  omega
theorem roadF_NE {row:List Int} (hr:Row row):NE (roadF row):=by
 intro i h1 h2
 have:=road_ne row (runsM row) (runs_good row).1 (runs_gap row hr)
 unfold roadF at h2 ⊢
 rw[List.length_append,List.length_singleton]at h2
 have:=this i h1 (by omega)
 unfold rl at this ⊢
 rw[List.getD_eq_getElem?_getD]at this ⊢
 rw[List.getElem?_append_left (by omega)]
 exact this
theorem road_fx {row:List Int} (hr:Row row) {its:List LL} (h:HdR (roadF row) its):FX (flt false (roadF row)) its:=by
 refine hd_fx h ?_ (roadF_NE hr)
 rcases road_HI hr (loM_le row)with k | k
 ·exact .inl k
 ·exact .inr k.1
theorem FX.uniq {L:Cl} {its:List LL} (f:FX L its):∀ {its':List LL},FX L its'→its.Perm its':=by
 induction f with
 | nil h0 =>
  intro its' f'
  cases f' with
  | nil _=>exact .refl _
  | step r _ =>
   obtain⟨i,hi⟩:=r.full
   exact absurd hi (h0 i)
 | step r f ih =>
  intro its' f'
  obtain⟨its1,f1,p⟩:=f'.any r
  exact((ih f1).cons _).trans p.symm
end CW
namespace CW
open PySem L2
noncomputable def stC (k:Nat):Nat→Cl→Nat
 | h,[]=>h
 | h,(true,_) :: L=>stC k (min k (h+1)) L
 | h,(false,_) :: L=>stC k (h - 1) L
noncomputable def dpC (k:Nat):Nat→Cl→Nat
 | _,[]=>0
 | h,(true,_) :: L=>dpC k (min k (h+1)) L
 | h,(false,_) :: L=>(if 0<h then 1 else 0)+dpC k (h - 1) L
theorem stC_app (k:Nat):∀ (A B:Cl) (h:Nat),stC k h (A++B)=stC k (stC k h A) B
 | [],_,_=>rfl
 | (true,_) :: A,B,h=>stC_app k A B _
 | (false,_) :: A,B,h=>stC_app k A B _
theorem dpC_app (k:Nat):∀ (A B:Cl) (h:Nat),dpC k h (A++B)=dpC k h A+dpC k (stC k h A) B
 | [],_,_=>(Nat.zero_add _).symm
 | (true,_) :: A,B,h=>dpC_app k A B _
 | (false,_) :: A,B,h=>by
  show (if 0<h then 1 else 0)+dpC k (h - 1) (A++B)=(if 0<h then 1 else 0)+dpC k (h - 1) A+_
  rw[dpC_app k A B,Nat.add_assoc]
  rfl
theorem stC_le (k:Nat):∀ (A:Cl) {h:Nat},h≤k→stC k h A≤k
 | [],_,hh=>hh
 | (true,_) :: A,h,hh=>stC_le k A (Nat.min_le_left _ _)
 | (false,_) :: A,h,hh=>stC_le k A (by omega)
theorem all_tail {b:Bool} {p:Bool×Int} {M:Cl} (h:∀ i,i<(p :: M).length→col (p :: M) i=some b):p.1=b∧∀ i,i<M.length→col M i=some b :=
 ⟨Option.some.inj (h 0 (by simp)),fun i hi=>h (i+1) (by simpa using hi)⟩
theorem full_C (k:Nat):∀ {M:Cl},(∀ i,i<M.length→col M i=some true)→∀ {h:Nat},h≤k→stC k h M=min k (h+M.length)∧dpC k h M=0
 | [],_,h,hh=>⟨by show h=min k (h+0);omega,rfl⟩
 | (b,x) :: M,hM,h,hh=>by
  obtain⟨e,hM'⟩:=all_tail hM
  change b=true at e
  subst e
  obtain⟨i1,i2⟩:=full_C k hM' (h:=min k (h+1)) (Nat.min_le_left _ _)
  refine⟨?_,i2⟩
  show stC k (min k (h+1)) M=_
  rw[i1,List.length_cons]
  omega
theorem emp_C (k:Nat):∀ {M:Cl},(∀ i,i<M.length→col M i=some false)→∀ (h:Nat),stC k h M=h - M.length∧dpC k h M=min h M.length
 | [],_,h=>⟨rfl,(Nat.min_zero h).symm⟩
 | (b,x) :: M,hM,h=>by
  obtain⟨e,hM'⟩:=all_tail hM
  change b=false at e
  subst e
  obtain⟨i1,i2⟩:=emp_C k hM' (h - 1)
  rw[List.length_cons]
  constructor
  ·show stC k (h - 1) M=_
   omega
  ·show (if 0<h then 1 else 0)+dpC k (h - 1) M=_
   rw[i2]
   split <;> omega
theorem dpC_rem {L:Cl} {a s:Nat} {c:Bool} (r:RuA L a s c) (k:Nat):dpC k 0 L=min k s+dpC k 0 (remL L a s):=by
 have hl:=r.len
 have ha:=r.a1
 have hs:=r.s1
 have lx:=sgl_len (L:=L) (a:=a - s - 1) (s:=s+1) (by omega)
 have l1:=sgl_len (L:=L) (a:=a) (s:=s) (by omega)
 have l2:=sgl_len (L:=L) (a:=a+s) (s:=s) (by omega)
 have eT:L.take a=L.take (a - s - 1)++(L.drop (a - s - 1)).take (s+1):=by
  have:=List.take_add (l:=L) (i:=a - s - 1) (j:=s+1)
  rw[show a - s - 1+(s+1)=a by omega]at this
  exact this
 have e:L=L.take a++((L.drop a).take s++((L.drop (a+s)).take s++L.drop (a+2 * s))):=by
  have h2:L.drop (a+s)=(L.drop (a+s)).take s++L.drop (a+2 * s):=by
   have:=(List.take_append_drop s (L.drop (a+s))).symm
   rw[List.drop_drop,show a+s+s=a+2 * s by omega]at this
   exact this
  rw[← h2]
  exact sgl_parts L a s
 have eR:dpC k 0 (remL L a s)=dpC k 0 (L.take a)+dpC k (stC k 0 (L.take a)) (L.drop (a+2 * s)):=by unfold remL;rw[dpC_app]
 have eL:dpC k 0 L=dpC k 0 (L.take a)+(dpC k (stC k 0 (L.take a)) ((L.drop a).take s)+(dpC k (stC k (stC k 0 (L.take a)) ((L.drop a).take s)) ((L.drop (a+s)).take s)+dpC k (stC k (stC k (stC k 0 (L.take a)) ((L.drop a).take s)) ((L.drop (a+s)).take s)) (L.drop (a+2 * s)))):=by
  conv=>lhs;rw[e]
  rw[dpC_app,dpC_app,dpC_app]
 have h0:stC k 0 (L.take (a - s - 1))≤k:=stC_le k _ (Nat.zero_le _)
 have hT:stC k 0 (L.take a)=stC k (stC k 0 (L.take (a - s - 1))) ((L.drop (a - s - 1)).take (s+1)):=by rw[eT,stC_app]
 have hTk:stC k 0 (L.take a)≤k:=stC_le k _ (Nat.zero_le _)
 rw[eL,eR]
 generalize stC k 0 (L.take (a - s - 1))=g at h0 hT
 have hx:∀ i,i<((L.drop (a - s - 1)).take (s+1)).length→col ((L.drop (a - s - 1)).take (s+1)) i=some c:=fun i hi=>by rw[lx]at hi;rw[col_seg hi];exact r.X _ (by omega) (by omega)
 have hy:∀ i,i<((L.drop a).take s).length→col ((L.drop a).take s) i=some !c:=fun i hi=>by rw[l1]at hi;rw[col_seg hi];exact r.Y _ (by omega) (by omega)
 have hz:∀ i,i<((L.drop (a+s)).take s).length→col ((L.drop (a+s)).take s) i=some c:=fun i hi=>by rw[l2]at hi;rw[col_seg hi];exact r.Z _ (by omega) (by omega)
 generalize stC k 0 (L.take a)=t at hT hTk ⊢
 generalize dpC k 0 (L.take a)=d
 cases c with
 | true =>
  obtain⟨x1,x2⟩:=full_C k hx h0
  obtain⟨y1,y2⟩:=emp_C k hy t
  obtain⟨z1,z2⟩:=full_C k hz (h:=stC k t ((L.drop a).take s)) (by rw[y1];omega)
  rw[lx]at x1
  rw[l1]at y1 y2
  rw[l2]at z1
  have:stC k (stC k t ((L.drop a).take s)) ((L.drop (a+s)).take s)=t:=by rw[z1,y1];omega
  rw[this,y2,z2]
  omega
 | false =>
  obtain⟨x1,x2⟩:=emp_C k hx g
  obtain⟨y1,y2⟩:=full_C k hy hTk
  obtain⟨z1,z2⟩:=emp_C k hz (stC k t ((L.drop a).take s))
  rw[lx]at x1
  rw[l1]at y1
  rw[l2]at z1 z2
  have:stC k (stC k t ((L.drop a).take s)) ((L.drop (a+s)).take s)=t:=by rw[z1,y1];omega
  rw[this,y2,z2,y1]
  omega
theorem dpC_fx {L:Cl} {its:List LL} (f:FX L its) (k:Nat):(dpC k 0 L:Int)=((its.map fun p=>(p.1.length:Int)).map fun s=>min (k:Int) s).sum:=by
 induction f with
 | nil h0 =>
  rename_i L
  obtain⟨_,h2⟩:=emp_C k (M:=L) (fun i hi=>by
   obtain⟨b,hb⟩:=col_some hi
   cases b with
   | false=>exact hb
   | true=>exact absurd hb (h0 i)) 0
  rw[h2,Nat.zero_min]
  rfl
 | step r f ih =>
  rename_i L a s c its
  rw[dpC_rem r k,List.map_cons,List.map_cons,List.sum_cons,← ih]
  have hl:=r.len
  have e:(prA L a s c).1.length=s:=by
   unfold prA
   split
   ·show (labs L (a+s) s).length=s
    unfold labs
    rw[List.length_map,sgl_len (by omega)]
   ·show (labs L a s).length=s
    unfold labs
    rw[List.length_map,sgl_len (by omega)]
  rw[e]
  omega
theorem dpC_mid {row:List Int} (hr:Row row) {k:Nat} {n:Int} (hin:∀ x∈row,n≤x):∀ m:Nat,∃ fs,Mid row (k:Int) (n+(m:Int)) fs (stC k 0 (cells row n m))∧(fs.filter fun x=>decide (x∉row)).length=dpC k 0 (cells row n m)
 | 0=>⟨[],by
  have:=mid_start row (k:Int) n hin
  rw[show n+((0:Nat):Int)=n by omega]
  exact this,rfl⟩
 | m+1=>by
  obtain⟨fs,ih,ef⟩:=dpC_mid hr (k:=k) hin m
  have hk:=stC_le k (cells row n m) (Nat.zero_le _)
  have ec:cells row n (m+1)=cells row n m++[(decide (n+(m:Int)∈row),n+(m:Int))]:=by
   rw[cells_add]
   congr 1
   simp[cells]
  rw[ec,stC_app,dpC_app,← ef,show n+((m+1:Nat):Int)=n+(m:Int)+1 by omega]
  generalize stC k 0 (cells row n m)=ld at ih hk ⊢
  by_cases hm:n+(m:Int)∈row
  ·have:=mid_in ih hr hm
   rw[decide_eq_true hm]
   show ∃ fs',Mid row _ _ fs' (min k (ld+1))∧_=_+0
   split at this
   ·exact⟨fs,by rw[show min k (ld+1)=ld+1 by omega];exact this,rfl⟩
   ·refine⟨fs++[n+(m:Int)],by rw[show min k (ld+1)=ld by omega];exact this,?_⟩
    rw[List.filter_append,List.length_append]
    simp[hm]
  ·have:=mid_out ih hm
   rw[decide_eq_false hm]
   show ∃ fs',Mid row _ _ fs' (ld - 1)∧_=_+((if 0<ld then 1 else 0)+0)
   cases ld with
   | zero=>exact⟨fs,this,rfl⟩
   | succ ld =>
    refine⟨fs++[n+(m:Int)],this,?_⟩
    rw[List.filter_append,List.length_append]
    simp[hm]
theorem dpC_car {row:List Int} (hr:Row row) {k:Nat} {n:Int} {m:Nat} (hin:∀ x∈row,n≤x∧x<n+(m:Int)):dpC k 0 (cells row n (m+row.length))=carM row k:=by
 obtain⟨fs,h,ef⟩:=dpC_mid hr (k:=k) (fun x hx=>(hin x hx).1) (m+row.length)
 have hz:stC k 0 (cells row n (m+row.length))=0:=by
  obtain⟨fs',h',_⟩:=dpC_mid hr (k:=k) (fun x hx=>(hin x hx).1) m
  have hle:=mid_le h'
  rw[cells_add,stC_app]
  obtain⟨e,_⟩:=emp_C k (M:=cells row (n+(m:Int)) row.length) (fun i hi=>by
   rw[cells_len]at hi
   rw[cells_col row _ hi,decide_eq_false]
   intro hx
   have:=(hin _ hx).2
   omega) (stC k 0 (cells row n m))
  rw[e,cells_len]
  omega
 rw[hz]at h
 have:=mid_end h fun x hx=>by have:=(hin x hx).2;omega
 unfold carM
 rw[← this,ef]
end CW
namespace CW
open PySem L2
theorem mins_ge (k:Int):∀ ss:List Int,(ss.map fun s=>min (k+1) s).sum=(ss.map fun s=>min k s).sum+(geN ss (k+1):Int)
 | []=>rfl
 | s :: ss=>by
  have:=mins_ge k ss
  rw[List.map_cons,List.map_cons,List.sum_cons,List.sum_cons,geN_cons,this]
  split <;> omega
theorem mins_zero:∀ {ss:List Int},(∀ s∈ss,1≤s)→(ss.map fun s=>min 0 s).sum=0
 | [],_=>rfl
 | s :: ss,h=>by
  have h1:=h s (by simp)
  rw[List.map_cons,List.sum_cons,mins_zero fun x hx=>h x (by simp[hx])]
  omega
theorem geN_count (v:Int):∀ ss:List Int,geN ss v=ss.count v+geN ss (v+1)
 | []=>rfl
 | s :: ss=>by
  have:=geN_count v ss
  rw[geN_cons,geN_cons,List.count_cons,this]
  by_cases h:s=v
  ·subst h
   rw[if_pos (Int.le_refl _),if_neg (show ¬ s+1≤s by omega),beq_self_eq_true,if_pos rfl]
   omega
  ·have hb:(s == v)=false:=by simpa using h
   rw[hb]
   by_cases h2:v≤s
   ·rw[if_pos h2,if_pos (show v+1≤s by omega)]
    simp
    omega
   ·rw[if_neg h2,if_neg (show ¬ v+1≤s by omega)]
    simp
theorem mins_perm {a b:List Int} (ha:∀ s∈a,1≤s) (hb:∀ s∈b,1≤s) (h:∀ k:Nat,1≤k→(a.map fun s=>min (k:Int) s).sum=(b.map fun s=>min (k:Int) s).sum):a.Perm b:=by
 have h':∀ k:Nat,(a.map fun s=>min (k:Int) s).sum=(b.map fun s=>min (k:Int) s).sum:=fun k=>by
  cases k with
  | zero=>exact(mins_zero ha).trans (mins_zero hb).symm
  | succ k=>exact h _ (by omega)
 have g:∀ v:Int,1≤v→geN a v=geN b v:=fun v hv=>by
  have h1:=h' v.toNat
  have h2:=h' (v.toNat - 1)
  have e1:=mins_ge ((v.toNat - 1:Nat):Int) a
  have e2:=mins_ge ((v.toNat - 1:Nat):Int) b
  rw[show ((v.toNat - 1:Nat):Int)+1=(v.toNat:Int)by omega]at e1 e2
  rw[show (v.toNat:Int)=v by omega]at e1 e2 h1
  omega
 rw[List.perm_iff_count]
 intro v
 by_cases hv:1≤v
 ·have h1:=g v hv
  have h2:=g (v+1) (by omega)
  have h3:=geN_count v a
  have h4:=geN_count v b
  omega
 ·rw[List.count_eq_zero_of_not_mem fun m=>hv (ha v m),List.count_eq_zero_of_not_mem fun m=>hv (hb v m)]
theorem FX.one {L:Cl} {its:List LL} (f:FX L its):∀ p∈its,1≤p.1.length:=by
 induction f with
 | nil h0=>exact fun p hp=>nomatch hp
 | step r f ih =>
  rename_i L a s c its
  intro p hp
  rcases List.mem_cons.mp hp with e | e
  ·have hl:=r.len
   have hs:=r.s1
   rw[e]
   unfold prA
   split
   ·show 1≤(labs L (a+s) s).length
    unfold labs
    rw[List.length_map,sgl_len (by omega)]
    exact hs
   ·show 1≤(labs L a s).length
    unfold labs
    rw[List.length_map,sgl_len (by omega)]
    exact hs
  ·exact ih p e
theorem heads_sizes {row:List Int} {its:List LL} (h:HdR (roadF row) its) {ss:List Int} (hs:Szs row ss):(its.map fun p=>(p.1.length:Int)).Perm ss:=by
 have hr:=hs.rowp
 obtain⟨m,e,hx⟩:=cells_roadF hr
 have f:=road_fx hr h
 have h1:=f.one
 rw[e]at f
 refine mins_perm (fun s hm=>?_) hs.pos fun k hk=>?_
 ·obtain⟨p,hp,rfl⟩:=List.mem_map.mp hm
  have:=h1 p hp
  omega
 ·rw[← dpC_fx f k,dpC_car hr fun x hxr=>by have:=hx x hxr;omega]
  exact hs.car (by omega)
theorem heads_flat {row:List Int} (hr:Row row) {its:List LL} (h:HdR (roadF row) its):((its.map (·.1)).flatten).Perm row:=by
 have f:=(road_fx hr h).heads
 rwa [flb_road]at f
theorem flat_perm {α:Type} {a b:List (List α)} (h:a.Perm b):a.flatten.Perm b.flatten:=by
 induction h with
 | nil=>exact .refl _
 | cons x _ ih=>rw[List.flatten_cons,List.flatten_cons];exact ih.append_left _
 | swap x y l =>
  rw[List.flatten_cons,List.flatten_cons,List.flatten_cons,List.flatten_cons,← List.append_assoc,← List.append_assoc]
  exact List.perm_append_comm.append_right _
 | trans _ _ h1 h2=>exact h1.trans h2
theorem heads_walk {row:List Int} (hr:Row row) {c:Int} (hc:(row.length:Int)≤c) (hc1:1≤c) {its:List LL} (h:HdR (roadF row) its):((its.map (·.2)).flatten).Perm (walkM row c)∧∀ its2,HdR (roadF (walkM row c)) its2→(its2.map (·.1)).Perm (its.map (·.2)):=by
 have hw:=walkM_row hr hc1
 obtain⟨m0,e0,x0⟩:=cells_roadF hr
 obtain⟨m1,e1,x1⟩:=cells_roadF hw
 rw[walkM_len]at e1 x1
 have f0:=road_fx hr h
 have fl0:=f0.heads
 rw[flb_road]at fl0
 rw[e0]at f0
 generalize loM row - (row.length:Int) - 1=A at f0 x0
 generalize hB:loM (walkM row c) - (row.length:Int) - 1=B at x1
 obtain⟨n,hn1,hn2⟩:∃ n:Int,n≤A∧n≤B:=⟨min A B,by omega,by omega⟩
 obtain⟨m,hm1,hm2⟩:∃ m:Nat,A+(m0:Int)+2 * (row.length:Int)+1≤n+(m:Int)∧B+(m1:Int)+2 * (row.length:Int)+1≤n+(m:Int):=⟨(A+(m0:Int)+2 * (row.length:Int)+1 - n).toNat+(B+(m1:Int)+2 * (row.length:Int)+1 - n).toNat,by omega,by omega⟩
 have F0:FX (cells row n m) its:=f0.wide hn1 (by omega) fun x hx=>by have:=x0 x hx;omega
 have hcnt:cnt1 (cells row n m)=row.length:=by
  have:=(F0.heads.symm.trans fl0).length_eq
  unfold flb at this
  rw[List.length_map]at this
  exact this
 have g:Gd (cells row n m) (2 * row.length):=by
  have hno:∀ i,i<m→n+(i:Int)∉row→col (cells row n m) i=some false:=fun i hi hx=>by rw[cells_col row n hi,decide_eq_false hx]
  have hmm:2 * row.length+1≤m:=by
   by_cases hz:row=[]
   ·subst hz;simp;simp at hm1;omega
   ·obtain⟨x,hx⟩:=List.exists_mem_of_ne_nil row hz
    have:=x0 x hx
    omega
  refine⟨by rw[hcnt];exact Nat.le_refl _,fun i k1 k2=>?_,by rw[cells_len];omega,fun i k1=>?_⟩
  ·rw[cells_len]at k1 k2
   refine hno i k2 fun hx=>?_
   have:=x0 _ hx
   omega
  ·rw[hcnt]at k1
   refine hno i (by omega) fun hx=>?_
   have:=x0 _ hx
   omega
 obtain⟨its',f',p'⟩:=tails_heads _ rfl g F0
 obtain⟨t1,t2⟩:=TL_walk hr hc (n:=n) (m:=m) fun x hx=>by have:=x0 x hx;omega
 refine⟨?_,fun its2 h2=>?_⟩
 ·have:=f'.heads
  rw[t1]at this
  exact(flat_perm p'.symm).trans this
 ·rw[t2]at f'
  have f1:=road_fx hw h2
  rw[e1,hB]at f1
  have F1:FX (cells (walkM row c) n m) its2:=f1.wide hn2 (by omega) fun x hx=>by have:=x1 x hx;omega
  exact((F1.uniq f').map _).trans p'
end CW
namespace L2
open PySem PySem.W PySem.Spec PyProof.Rows PySem.SeqAt PySem.MeetsSeq
section
variable {X:Cx} {H:Hp}
theorem kat_ints {prog:Program} {w:World} {A:Around} {s:Shared} {Q:Bool→Shared→Prop}:∀ {a b:List Int} {xs ys:List Value} {i:Nat},Vals (a.map V.int) xs→Vals (b.map V.int) ys→Q (HT.lexLt a b) s→KatLex prog w A true (decide (a.length<b.length)) Q (xs.zip ys) i s
 | [],[],_,_,_,.nil,.nil,h=>kat_nil h
 | [],_ :: _,_,_,_,.nil,.cons _ _,h=>kat_nil h
 | _ :: _,[],_,_,_,.cons _ _,.nil,h=>kat_nil h
 | x :: a,y :: b,_,_,i,.cons ⟨k1,e1⟩ r,.cons ⟨k2,e2⟩ r',h=>by
  subst e1 e2
  rw[HT.lexLt_cons]at h
  refine kat_cons (wpAny_eqBool_int ?_)
  rw[List.length_cons,List.length_cons,show decide (a.length+1<b.length+1)=decide (a.length<b.length)by simp]
  by_cases g:x=y
  ·rw[if_pos g]at h
   rw[show (x == y)=true by simpa using g]
   exact kat_yes (kat_ints r r' h)
  ·rw[if_neg g]at h
   rw[show (x == y)=false by simpa using g]
   refine kat_no ?_
   cases i with
   | zero=>exact oneLt_int h
   | succ i=>exact kat_one _ _ (lt_int h)
theorem cmp_ti {us:List V} {its:List (List Int)} (hne:∀ a∈its,a≠[]) (h:Paired (IsTi H) us its):CmpH X H us StO.lists.ord (fun i=>its.getD i []) (tuples' true):=by
 intro pins σ s vs I r
 have hl:=r.length
 have hl2:=Paired.length h
 have at1:∀ {x:V} {v:Value} {a:List Int},RelV x v→IsTi H x a→∃ t o n its',v=.ref t∧s.heap.get? t=some o∧o.cls=.type "tuple"∧o.data=.seq its'.toArray n∧Vals (a.map V.int) its':=fun {x v a} rx hx=>by
  obtain⟨t,rfl,h1⟩:=hx
  cases rx
  obtain⟨_,its',rv',o,ho,hc,n,hd⟩:=(show ObjOk X.prog X.w H s.heap t (.tup (a.map V.int)) from I.hok t _ h1)
  exact⟨t,o,n,its',rfl,ho,hc,hd,rv'⟩
 refine⟨fun h2 E Q hq=>?_,fun i j C hi hj hC=>?_⟩
 ·have fs:∀ {us:List V} {vs:List Value} {its:List (List Int)},(∀ a∈its,a≠[])→Vals us vs→Paired (IsTi H) us its→∃ fs:List Value,KatTups s.heap vs fs∧fs.length=vs.length∧∀ v∈fs,∃ i t,v=Value.int i t:=by
   intro us
   induction us with
   | nil=>intro vs its _ a b;cases a;exact⟨[],.nil,rfl,fun v hv=>(by cases hv)⟩
   | cons x us ih =>
    intro vs its hn a b
    cases a with
    | cons a1 a2 =>
     cases b with
     | cons b1 b2 =>
      obtain⟨fs,f1,f2,f3⟩:=ih (fun a ha=>hn a (List.mem_cons_of_mem _ ha)) a2 b2
      rename_i a0 _
      obtain⟨t,o,n,its',rfl,ho,hc,hd,rv⟩:=at1 a1 b1
      have h0:=hn _ List.mem_cons_self
      match a0,h0,rv with
      | z :: a0,_,rv =>
       cases rv with
       | cons q1 q2 =>
        obtain⟨k1,rfl⟩:=q1
        refine⟨.int _ k1 :: fs,.cons ho hc hd rfl f1,by simp[f2],fun v hv=>?_⟩
        rcases List.mem_cons.mp hv with z | z
        ·exact⟨_,_,z⟩
        ·exact f3 v z
  obtain⟨fs,f1,f2,f3⟩:=fs hne r h
  refine kat_kind (T:=.type "int") f1 (by omega) (fun v hv=>?_) rfl hq
  obtain⟨i,t,rfl⟩:=f3 v hv
  exact Looks.now
 ·unfold kas_ask
  have a1:=paired_getD (x:=V.non) (y:=Value.none) r (i:=i) (by omega)
  have a2:=paired_getD (x:=V.non) (y:=Value.none) r (i:=j) (by omega)
  have b1:=paired_getD (x:=V.non) (y:=([]:List Int)) h (i:=i) (by omega)
  have b2:=paired_getD (x:=V.non) (y:=([]:List Int)) h (i:=j) (by omega)
  have hC':C (HT.lexLt (its.getD i []) (its.getD j [])) s:=hC
  obtain⟨t,o,n,xs,e1,ho,hc,hd,rv⟩:=at1 a1 b1
  obtain⟨t',o',n',ys,e1',ho',hc',hd',rv'⟩:=at1 a2 b2
  rw[e1,e1']
  refine kat_lt ho hd ho' hd' ?_
  have lx:=rv.length
  have ly:=rv'.length
  rw[List.length_map]at lx ly
  rw[List.size_toArray,List.size_toArray,← lx,← ly]
  exact kat_ints rv rv' hC'
theorem call_sortedT:CallR X (.builtin "sorted") (fun xs H Q=>∃ (a:Addr) (us:List V) (its:List (List Int)),xs=[.ref a]∧H a=some (.lst us)∧Paired (IsTi H) us its∧its.length<64∧(∀ x∈its,x≠[]) ∧
 ∀ (l:Addr) (us':List V) (qs:List (List Int)),H l=none→Paired (IsTi H) us' qs→qs.Perm its→(qs.Pairwise fun a b=>HT.lexLt b a=false)→Q (.ref l) (upd H l (.lst us'))):=by
 intro pins s σ H xs us Q I r h
 obtain⟨a,us0,its,e,ha,pr,h64,hne,q⟩:=h
 have hl:=Paired.length pr
 refine call_sortedG pins s σ H xs us Q I r ⟨a,us0,StO.lists.ord,(fun i=>its.getD i []),tuples' true,e,ha,by omega,cmp_ti hne pr,fun l p hn hp hu=>?_⟩
 rw[hl]at hp hu
 have hpl:p.toList.length=its.length:=by rw[hp.length_eq,List.length_range]
 refine q l _ (p.toList.map fun i=>its.getD i []) hn ?_ (map_getD_perm [] its hp) ?_
 ·have go:∀ {q:List Nat},(∀ i∈q,i<us0.length)→Paired (IsTi H) (ordV us0 q) (q.map fun i=>its.getD i []):=by
   intro q
   induction q with
   | nil=>exact fun _=>.nil
   | cons i q ih=>exact fun hq=>.cons (paired_getD (x:=V.non) (y:=([]:List Int)) pr (hq i List.mem_cons_self)) (ih fun j hj=>hq j (List.mem_cons_of_mem _ hj))
  refine go fun i hi=>?_
  rw[hl]
  exact List.mem_range.mp (hp.mem_iff.mp hi)
 ·rw[List.pairwise_iff_getElem]
  intro i j hi hj hij
  rw[List.length_map]at hi hj
  have:=hu i j (Nat.le_of_lt hij) (by omega)
  have e:∀ k (hk:k<p.toList.length),KP StO.lists.ord (fun i=>its.getD i []) p k=its.getD (p.toList[k]) []:=fun k hk=>by
   unfold KP
   simp at hk
   simp[hk]
   rfl
  have k:StO.lists.ord.blt (KP StO.lists.ord (fun i=>its.getD i []) p j) (KP StO.lists.ord (fun i=>its.getD i []) p i)=false:=this
  rw[e i hi,e j hj]at k
  rw[List.getElem_map,List.getElem_map]
  exact k
theorem srtT_eq {a b:List (List Int)} (h:a.Perm b) (ha:a.Pairwise fun a b=>HT.lexLt b a=false) (hb:b.Pairwise fun a b=>HT.lexLt b a=false):a=b :=
 h.eq_of_pairwise (le:=fun a b=>HT.lexLt b a=false) (fun a b _ _ h1 h2=>StO.lists.tot h2 h1) ha hb
end
end L2
namespace CW
open PySem L2
theorem szs_ex {row:List Int} (hr:Row row):∃ ss,Szs row ss:=by
 obtain⟨ps,h⟩:=Lst.ex row hr
 refine⟨(ps.map (·.1)).mergeSort (fun a b=>decide (a≤b)),ps,h,List.mergeSort_perm _ _,?_⟩
 have:=List.pairwise_mergeSort (le:=fun a b:Int=>decide (a≤b)) (fun a b c h1 h2=>by simp at *;omega) (fun a b=>by simp;omega) (ps.map (·.1))
 exact this.imp fun h=>of_decide_eq_true h
noncomputable def selL (sd:Int) (p:LL):List Int:=if sd=0 then p.1 else p.2
noncomputable def allL (sd:Int) (qs:List LL):List Int:=(qs.map (selL sd)).flatten
theorem allL_snoc (sd:Int) (qs:List LL) (p:LL):allL sd (qs++[p])=allL sd qs++selL sd p:=by unfold allL;simp
theorem allL_take (sd:Int) {qs:List LL} {i:Nat} {p:LL} (h:qs[i]?=some p):allL sd (qs.take (i+1))=allL sd (qs.take i)++selL sd p:=by
 rw[List.take_succ,h]
 exact allL_snoc _ _ _
theorem allL_le (sd:Int) (qs:List LL) (i:Nat):(allL sd (qs.take i)).length≤(allL sd qs).length:=by
 conv=>rhs;rw[← List.take_append_drop i qs]
 unfold allL
 rw[List.map_append,List.flatten_append,List.length_append]
 omega
inductive spAll (vs:List V) (H:Hp) (Q:VK) (E_:XK):Prop
 | mk (a:Addr) (us:List V) (qs:List LL) (sd:Int) (h0_:vs=[.ref a,.int sd]) (h1_:H a=some (.lst us)) (h2_:Paired (IsPp H) us qs) (h3_:sd=0∨sd=1) (h4_:(allL sd qs).length≤60) (h5_:∀ ms,ms.Perm (allL sd qs)→ms.Pairwise (·≤·)→RetL H Q ms):spAll vs H Q E_
structure Turn (row:List Int) (c:Int) (qs:List LL):Prop where
 h0:(allL 0 qs).Perm row
 h1:(allL 1 qs).Perm (walkM row c)
 few:qs.length≤60
 sm:∀ p∈qs,p.1.length≤60∧p.2.length≤60
 ne:∀ p∈qs,p.1≠[]∧p.2≠[]
 sz:∀ ss,Szs row ss→(qs.map fun p=>(p.1.length:Int)).Perm ss
 tl:∀ its2 qs2,HdR (roadF (walkM row c)) its2→SrtK its2 qs2→(qs2.map (·.1)).Perm (qs.map (·.2))
theorem FX.same {L:Cl} {its:List LL} (f:FX L its):∀ p∈its,p.2.length=p.1.length:=by
 induction f with
 | nil h0=>exact fun p hp=>nomatch hp
 | step r f ih =>
  rename_i L a s c its
  intro p hp
  rcases List.mem_cons.mp hp with e | e
  ·have hl:=r.len
   have l1:=sgl_len (L:=L) (a:=a) (s:=s) (by omega)
   have l2:=sgl_len (L:=L) (a:=a+s) (s:=s) (by omega)
   rw[e]
   unfold prA
   split
   ·show (labs L a s).length=(labs L (a+s) s).length
    unfold labs
    rw[List.length_map,List.length_map,l1,l2]
   ·show (labs L (a+s) s).length=(labs L a s).length
    unfold labs
    rw[List.length_map,List.length_map,l1,l2]
  ·exact ih p e
theorem turn_of {row:List Int} (hr:Row row) (hl:row.length≤60) {c:Int} (hc:(row.length:Int)≤c) (hc1:1≤c) {its qs:List LL} (h:HdR (roadF row) its) (s:SrtK its qs):Turn row c qs:=by
 have f:=road_fx hr h
 obtain⟨w1,w2⟩:=heads_walk hr hc hc1 h
 obtain⟨k1,k2⟩:=road_small hr hl h
 refine⟨?_,?_,by rw[s.1.length_eq];exact k1,fun p hp=>k2 p (s.1.mem_iff.mp hp),fun p hp=>?_,fun ss hs=>(s.1.map _).trans (heads_sizes h hs),fun its2 qs2 h2 s2=>?_⟩
 ·exact(flat_perm (s.1.map _)).trans (heads_flat hr h)
 ·exact(flat_perm (s.1.map _)).trans w1
 ·have m:=s.1.mem_iff.mp hp
  have h1:=f.one p m
  have h2:=f.same p m
  exact⟨fun z=>by rw[z]at h1;simp at h1,fun z=>by rw[z]at h2;simp at h2;omega⟩
 ·exact((s2.1.map _).trans (w2 _ h2)).trans (s.1.map _).symm
theorem ti_dens {H:Hp}:∀ {us:List V} {qs:List (List Int)},Paired (IsTi H) us qs→Dens H us (qs.map tI)
 | _,_,.nil=>.nil
 | _,_,.cons h r=>.cons h.den (ti_dens r)
theorem depth_tIs (qs:List (List Int)):PyData.depthAll (qs.map tI)≤1:=by
 induction qs with
 | nil=>simp[PyData.depthAll]
 | cons p r ih =>
  have d1:=depth_tI p
  simp only[List.map_cons,PyData.depthAll,PyData.depth]at ih d1 ⊢
  omega
theorem canLay_tIs (qs:List (List Int)):PyData.canLayAll0 (qs.map tI)=true:=by
 induction qs with
 | nil=>rfl
 | cons p r ih =>
  have h:=SeqAt.canLay_of_shaped (shaped_tI p)
  simp only[List.map_cons,PyData.canLayAll0,h,ih,Bool.and_true]
theorem shaped_tIs (qs:List (List Int)):SeqAt.shaped (.list (qs.map tI))=true:=by
 have h:=depth_tIs qs
 simp only[SeqAt.shaped,PyData.canLay0,canLay_tIs,PyData.depth,Bool.true_and]
 exact decide_eq_true (by omega)
end CW
namespace CW
open PySem L2
noncomputable def top (i:Nat):Stmt:=PySem.Challenge.pw_creelway_k15_whole_tails_become_heads.main.body.getD i (.Pass ⟨0,0,0,0⟩)
section
variable {P:Program} {w:World} {K:PySem.W.Frag} {mg:Str→Option Value} {base:Heap}
noncomputable abbrev s_look_row:Stmt:=top 7
theorem sc_look_row:FnScope ["row","at"] ["row"] (defScope s_look_row):=⟨rfl,rfl,rfl,by decide +kernel,rfl,by decide +kernel,by decide +kernel⟩
theorem ok_look {f:Addr} {fd:FuncData} {tC:Tok} (F:Fun K "look_row" "look_row" s_look_row f fd) (B:Bt mg) (C:Cn mg tC):FnOk P w K mg base CX0 1 f fd ["row"] spLook:=by
 refine F.ok sc_look_row (fun vs H Q E h=>?_) (fun cdv A outer s H vs Q E hr h=>?_)
 ·obtain⟨a,r,rfl,_⟩:=h
  rfl
 ·obtain⟨a,row,rfl,ha,hrow,hlen,k⟩:=h
  refine⟨_,(pss_cons (ps_if (pt_cmpR op_gt (pe_callB call_len_seq (by rfl) B.len PySem.boot_len (pa_cons (pv 0) pa_nil)) (pe_glob (v:=.int 60) rfl C.MOST_STONES ⟨_,rfl⟩) (nomark _))
 (pss_one ps_never)
 pss_nil)
 (pss_one (ps_for PassesOwn.never rfl (pi_range2 rfl B.range (pa_cons pe_int (pa_cons (pe_callB call_len_seq (by rfl) B.len PySem.boot_len (pa_cons (pv 0) pa_nil)) pa_nil))) (pg_name (i:=1) sc_look_row.nd rfl (Or.inl rfl))
 (pss_one (ps_if (pt_cmpR op_le (pe_ix ix_list (pv 0) (pv 1) (fun _ _=>rfl)) (pe_ix ix_list (pv 0) (pe_op op_sub (pv 1) pe_int) (fun _ _=>rfl)) (nomark _))
 (pss_one ps_never)
 pss_nil))))),?_⟩
  refine⟨_,rfl,a,_,rfl,.inl (SqL.of ha),_,_,rfl,rfl,_,rfl,iteDF (by rw[List.length_map];omega) ?_⟩
  refine⟨_,rfl,a,_,rfl,.inl (SqL.of ha),_,_,rfl,⟨by decide,by decide,by omega,by rw[List.length_map];omega⟩,for_range (lo:=1) (fun i σ H2=>∃ v,σ=[some (.ref a),v]∧H2=H) ⟨none,rfl,rfl⟩ ?_ ?_⟩
  ·rintro i σ H2 hi ⟨v,rfl,rfl⟩
   rw[List.length_map]at hi
   obtain⟨x,_,hx,ex⟩:=at_mem (ns:=row) (i:=1+(i:Int)) (by omega) (by omega)
   obtain⟨y,_,hy,ey⟩:=at_mem (ns:=row) (i:=1+(i:Int) - 1) (by omega) (by omega)
   refine⟨_,rfl,_,rfl,a,_,_,_,rfl,rfl,SqL.of ha,ex,_,rfl,_,rfl,_,_,rfl,rfl,a,_,_,_,rfl,rfl,SqL.of ha,ey,_,_,rfl,rfl,_,rfl,iteDF ?_ ⟨_,rfl,rfl⟩⟩
   have:=hrow.lt (show (1+(i:Int) - 1).toNat<(1+(i:Int)).toNat by omega) hy hx
   omega
  ·rintro σ H2 ⟨v,rfl,rfl⟩
   exact k
noncomputable abbrev s_look_creel:Stmt:=top 11
theorem sc_look_creel:FnScope ["creel"] ["creel"] (defScope s_look_creel):=⟨rfl,rfl,rfl,by decide +kernel,rfl,by decide +kernel,by decide +kernel⟩
theorem ok_look_creel {f:Addr} {fd:FuncData} (F:Fun K "look_creel" "look_creel" s_look_creel f fd) (B:Bt mg):FnOk P w K mg base CX0 1 f fd ["creel"] spLookCreel:=by
 refine F.ok sc_look_creel (fun vs H Q E h=>?_) (fun cdv A outer s H vs Q E hr h=>?_)
 ·obtain⟨c,rfl,_⟩:=h
  rfl
 ·obtain⟨c,rfl,hc,k⟩:=h
  refine⟨_,(pss_one (ps_if (pt_cmpR op_lt (pv 0) pe_int (nomark _))
 (pss_one ps_never)
 pss_nil)),?_⟩
  exact⟨_,rfl,_,_,rfl,rfl,_,rfl,iteDF (by omega) k⟩
noncomputable abbrev s_stretches:Stmt:=top 8
theorem sc_stretches:FnScope ["row","pairs","place"] ["row"] (defScope s_stretches):=⟨rfl,rfl,rfl,by decide +kernel,rfl,by decide +kernel,by decide +kernel⟩
theorem ok_stretches {f:Addr} {fd:FuncData} (F:Fun K "stretches" "stretches" s_stretches f fd) (B:Bt mg) (F_look_row:FnAt P w K mg base "look_row" 1 ["row"] spLook):FnOk P w K mg base CX0 2 f fd ["row"] spStretches:=by
 refine F.ok sc_stretches (fun vs H Q E h=>?_) (fun cdv A outer s H vs Q E hr h=>?_)
 ·obtain⟨a,r,rfl,_⟩:=h
  rfl
 ·obtain⟨a,row,rfl,ha,hrow,hlen,k⟩:=h
  refine⟨_,(pss_cons (ps_expr (pe_fn F_look_row hr rfl (pa_cons (pv 0) pa_nil)))
 (pss_cons (ps_set (i:=1) sc_stretches.nd rfl (Or.inl rfl) (pe_lst pa_nil))
 (pss_cons (ps_for PassesOwn.never rfl (pi_list (pv 0)) (pg_name (i:=2) sc_stretches.nd rfl (Or.inl rfl))
 (pss_one (ps_if (PW.pt (pw_and (pt_truth (pv 1) (fun _=>rfl)) (pw_and1 (pt_cmpR op_eqI (pe_ix ix_tup (pe_ix ix_list (pv 1) (pe_un un_neg pe_int) (fun _ _=>rfl)) pe_int (fun _ _=>rfl)) (pe_op op_sub (pv 2) pe_int) (nomark _)))))
 (pss_one (ps_asg (pe_tup (pa_cons (pe_ix ix_tup (pe_ix ix_list (pv 1) (pe_un un_neg pe_int) (fun _ _=>rfl)) pe_int (fun _ _=>rfl)) (pa_cons (pv 2) pa_nil))) (pg_sub (pv 1) (pe_un un_neg pe_int) set_list)))
 (pss_one (ps_expr (pe_bm PySem.F.plainAttrs_list PySem.F.slot_list_append PySem.F.type_list_append mt_append (pv 1) (pa_cons (pe_tup (pa_cons (pv 2) (pa_cons (pv 2) pa_nil))) pa_nil)))))))
 (pss_one (ps_ret (pv 1)))))),?_⟩
  refine⟨_,rfl,a,row,rfl,ha,hrow,hlen,by decide,fun l hl=>?_⟩
  refine⟨_,rfl,a,rfl,⟨_,SqL.of (Same.upd hl _ _ ha)⟩,for_list (K:=K) (a:=a) (xs:=row.map V.int) (fun i σ H2=>∃ (us:List V) (v:Option V),σ=[some (.ref a),some (.ref l),v]∧Same H H2∧H2 l=some (.lst us)∧Prs H2 us (runsM (row.take i))∧us.length≤i)
   ⟨[],none,rfl,Same.upd hl,upd_same,.nil,Nat.le_refl _⟩ (fun i σ H2 _ ⟨us,v,_,sm,_⟩=>SqL.of (sm _ _ ha)) ?_ ?_⟩
  ·rintro i x σ H2 hi ⟨us,v,rfl,sm,el,pr,hu⟩
   have hil:i<row.length:=by
    have:=(List.getElem?_eq_some_iff.mp hi).1
    simpa using this
   obtain⟨z,rfl,hz⟩:=int_at hi
   rcases List.eq_nil_or_concat (runsM (row.take i))with e | ⟨ps,q,e⟩
   ·have eu:us=[]:=by rw[e]at pr;cases pr;rfl
    refine⟨_,rfl,false,.inl ⟨us,SqL.of el,by rw[eu];rfl⟩,?_⟩
    refine⟨_,rfl,.inl ⟨rfl,_,SqL.of el⟩,_,rfl,_,rfl,(show 2≤sizeLine by decide),fun t ht=>?_⟩
    have el':(upd H2 t (.tup [.int z,.int z])) l=some (.lst us):=by rw[upd_ne (ne_of_none el ht)];exact el
    refine⟨l,us,_,rfl,rfl,el',line_of (by omega),us++[.ref t],_,rfl,Same.upd' hl (Same.upd' (sm.free ht) sm),upd_same,?_,by simp;omega⟩
    rw[← runs_snoc hz,e,stepR_nil,eu]
    exact .cons ⟨t,rfl,by rw[upd_ne (Ne.symm (ne_of_none el ht)),upd_same]⟩ .nil
   ·rw[List.concat_eq_append]at e
    have pr':=pr
    rw[e]at pr'
    obtain⟨us',u,eu,pr1,t0,ru,ht0⟩:=Paired.split_last pr'
    subst eu ru
    by_cases hq:q.2=z - 1
    ·refine⟨_,rfl,true,.inl ⟨_,SqL.of el,by simp⟩,_,rfl,_,rfl,l,_,_,_,rfl,rfl,SqL.of el,atI_last _ _,t0,_,_,_,rfl,rfl,SqT.of ht0,rfl,_,rfl,_,_,rfl,rfl,_,_,rfl,rfl,_,rfl,iteDT hq ?_⟩
     refine⟨_,rfl,_,rfl,l,_,_,_,rfl,rfl,SqL.of el,atI_last _ _,t0,_,_,_,rfl,rfl,SqT.of ht0,rfl,_,rfl,(show 2≤sizeLine by decide),fun t ht=>?_⟩
     have el':(upd H2 t (.tup [.int q.1,.int z])) l=some (.lst (us'++[.ref t0])):=by rw[upd_ne (ne_of_none el ht)];exact el
     refine⟨_,rfl,_,rfl,l,_,_,_,rfl,rfl,el',ix_last _ _,?_⟩
     rw[set_last]
     refine⟨us'++[.ref t],_,rfl,Same.upd' hl (Same.upd' (sm.free ht) sm),upd_same,?_,by simp at hu ⊢;omega⟩
     rw[← runs_snoc hz,e,stepR_snoc,if_pos hq]
     exact Paired.append' (Prs.mono (TupS.trans (TupS.new ht) (TupS.lst el')) pr1) (.cons ⟨t,rfl,by rw[upd_ne (Ne.symm (ne_of_none el ht)),upd_same]⟩ .nil)
    ·refine⟨_,rfl,true,.inl ⟨_,SqL.of el,by simp⟩,_,rfl,_,rfl,l,_,_,_,rfl,rfl,SqL.of el,atI_last _ _,t0,_,_,_,rfl,rfl,SqT.of ht0,rfl,_,rfl,_,_,rfl,rfl,_,_,rfl,rfl,_,rfl,iteDF hq ?_⟩
     refine⟨_,rfl,.inl ⟨rfl,_,SqL.of el⟩,_,rfl,_,rfl,(show 2≤sizeLine by decide),fun t ht=>?_⟩
     have el':(upd H2 t (.tup [.int z,.int z])) l=some (.lst (us'++[.ref t0])):=by rw[upd_ne (ne_of_none el ht)];exact el
     refine⟨l,us'++[.ref t0],_,rfl,rfl,el',line_of (by omega),us'++[.ref t0]++[.ref t],_,rfl,Same.upd' hl (Same.upd' (sm.free ht) sm),upd_same,?_,by simp at hu ⊢;omega⟩
     rw[← runs_snoc hz,e,stepR_snoc,if_neg hq,← e]
     exact Paired.append' (Prs.mono (TupS.trans (TupS.new ht) (TupS.lst el')) pr) (.cons ⟨t,rfl,by rw[upd_ne (Ne.symm (ne_of_none el ht)),upd_same]⟩ .nil)
  ·rintro σ H2 ⟨us,v,rfl,sm,el,pr,hu⟩
   rw[List.length_map,List.take_length]at pr
   exact⟨_,rfl,k l us H2 hl sm el pr⟩
noncomputable abbrev s_walked:Stmt:=top 12
theorem sc_walked:FnScope ["row","creel","behind","held","niche","place"] ["row","creel"] (defScope s_walked):=⟨rfl,rfl,rfl,by decide +kernel,rfl,by decide +kernel,by decide +kernel⟩
inductive I1_walked (H:Hp) (a:Addr) (l:Addr) (c:Int) (row:List Int) (i:Nat) (σ:St) (H2:Hp):Prop
 | mk (bs:List Int) (h:Nat) (n:Int) (v:Option V) (k0_:σ=[some (.ref a),some (.int c),some (.ref l),some (.int h),some (.int n),v]) (k1_:Same H H2) (k2_:H2 l=some (.lst (bs.map V.int))) (k3_:bs++goM c (row.drop i) h n=walkM row c) (k4_:bs.length+h=i):I1_walked H a l c row i σ H2
inductive I2_walked (H:Hp) (a:Addr) (l:Addr) (c:Int) (row:List Int) (i:Nat) (p:Int) (σ:St) (H3:Hp):Prop
 | mk (bs:List Int) (h:Nat) (n:Int) (k0_:σ=[some (.ref a),some (.int c),some (.ref l),some (.int h),some (.int n),some (.int p)]) (k1_:Same H H3) (k2_:H3 l=some (.lst (bs.map V.int))) (k3_:bs++goM c (p :: row.drop (i+1)) h n=walkM row c) (k4_:bs.length+h=i):I2_walked H a l c row i p σ H3
inductive I3_walked (H:Hp) (a:Addr) (l:Addr) (c:Int) (row:List Int) (i:Nat) (p:Int) (n:Int) (σ:St) (H4:Hp):Prop
 | mk (bs:List Int) (h:Nat) (k0_:σ=[some (.ref a),some (.int c),some (.ref l),some (.int h),some (.int n),some (.int p)]) (k1_:Same H H4) (k2_:H4 l=some (.lst (bs.map V.int))) (k3_:bs++goM c (row.drop (i+1)) h (p+1)=walkM row c) (k4_:bs.length+h=i+1):I3_walked H a l c row i p n σ H4
inductive I4_walked (H:Hp) (a:Addr) (l:Addr) (c:Int) (row:List Int) (i:Nat) (p:Int) (n:Int) (σ:St) (H4:Hp):Prop
 | mk (bs:List Int) (h:Nat) (k0_:σ=[some (.ref a),some (.int c),some (.ref l),some (.int h),some (.int n),some (.int p)]) (k1_:Same H H4) (k2_:H4 l=some (.lst (bs.map V.int))) (k3_:bs++goM c (row.drop (i+1)) h (p+1)=walkM row c) (k4_:bs.length+h=i+1):I4_walked H a l c row i p n σ H4
theorem ok_walked {f:Addr} {fd:FuncData} (F:Fun K "walked" "walked" s_walked f fd) (B:Bt mg) (F_look_row:FnAt P w K mg base "look_row" 1 ["row"] spLook) (F_look_creel:FnAt P w K mg base "look_creel" 1 ["creel"] spLookCreel):FnOk P w K mg base CX0 2 f fd ["row","creel"] spWalked:=by
 refine F.ok sc_walked (fun vs H Q E h=>?_) (fun cdv A outer s H vs Q E hr h=>?_)
 ·obtain⟨a,r,c,rfl,_⟩:=h
  rfl
 ·obtain⟨a,row,c,rfl,ha,hrow,hlen,hc,k⟩:=h
  refine⟨_,(pss_cons (ps_expr (pe_fn F_look_row hr rfl (pa_cons (pv 0) pa_nil)))
 (pss_cons (ps_expr (pe_fn F_look_creel hr rfl (pa_cons (pv 1) pa_nil)))
 (pss_cons (ps_set (i:=2) sc_walked.nd rfl (Or.inl rfl) (pe_lst pa_nil))
 (pss_cons (ps_set (i:=3) sc_walked.nd rfl (Or.inl rfl) pe_int)
 (pss_cons (ps_set (i:=4) sc_walked.nd rfl (Or.inr rfl) pe_int)
 (pss_cons (ps_for PassesOwn.never rfl (pi_list (pv 0)) (pg_name (i:=5) sc_walked.nd rfl (Or.inl rfl))
 (pss_cons (ps_while PassesOwn.never (PW.pt (pw_and (pt_cmpR op_gt (pv 3) pe_int (nomark _)) (pw_and1 (pt_cmpR op_lt (pv 4) (pv 5) (nomark _)))))
 (pss_cons (ps_expr (pe_bm PySem.F.plainAttrs_list PySem.F.slot_list_append PySem.F.type_list_append mt_append (pv 2) (pa_cons (pv 4) pa_nil)))
 (pss_cons (ps_aug (i:=3) sc_walked.nd rfl (Or.inl rfl) pe_int ip_sub)
 (pss_one (ps_aug (i:=4) sc_walked.nd rfl (Or.inr rfl) pe_int ip_add)))))
 (pss_cut (ps_if (pt_cmpR op_lt (pv 3) (pv 1) (nomark _))
 (pss_one (ps_aug (i:=3) sc_walked.nd rfl (Or.inl rfl) pe_int ip_add))
 (pss_one (ps_expr (pe_bm PySem.F.plainAttrs_list PySem.F.slot_list_append PySem.F.type_list_append mt_append (pv 2) (pa_cons (pv 5) pa_nil)))))
 (pss_one (ps_set (i:=4) sc_walked.nd rfl (Or.inr rfl) (pe_op op_add (pv 5) pe_int))))))
 (pss_one (ps_ret (pe_op op_cat (pv 2) (pe_comp ["more"] ["niche"] [4] rfl (.of (show compOk (defScope s_walked) _ ["row","creel","behind","held","niche","place"] [4] ["niche"]=true by decide +kernel)) (pi_range1 rfl B.range (pa_cons (pv 3) pa_nil)) (fun _ _ _=>(pg_name (i:=0) (show (["more","niche"]:List Str).Nodup by decide +kernel) rfl (Or.inl rfl))) (kg_name (by decide)) (fun _ _ _=>pif_nil) (fun _ _ _=>(pe_op op_add (pv 1) (pv 0))))))))))))),?_⟩
  refine⟨_,rfl,a,row,rfl,ha,hrow,hlen,_,rfl,c,rfl,hc,by decide,fun l hl=>?_⟩
  refine⟨_,rfl,a,rfl,⟨_,SqL.of (Same.upd hl _ _ ha)⟩,for_list (K:=K) (a:=a) (xs:=row.map V.int) (I1_walked H a l c row)
   ⟨[],0,0,none,rfl,Same.upd hl,upd_same,rfl,rfl⟩ (fun i σ H2 _ z_=>by obtain⟨bs,h,n,v,_,sm,_⟩:=z_;exact SqL.of (sm _ _ ha)) ?_ ?_⟩
  ·rintro i x σ H2 hi ⟨bs,h,n,v,rfl,sm,el,eq,hb⟩
   have hil:i<row.length:=by
    have:=(List.getElem?_eq_some_iff.mp hi).1
    simpa using this
   obtain⟨p,rfl,hz⟩:=int_at hi
   have hd:row.drop i=p :: row.drop (i+1):=by
    obtain⟨h1,rfl⟩:=List.getElem?_eq_some_iff.mp hz
    exact List.drop_eq_getElem_cons h1
   rw[hd]at eq
   refine while_by (I2_walked H a l c row i p)
    (fun σ _=>match σ with | [_,_,_,some (.int h),_,_]=>h.toNat | _=>0) ⟨bs,h,n,rfl,sm,el,eq,hb⟩ ?_ ?_
   ·rintro σ H3 ⟨bs,h,n,rfl,sm3,el3,eq3,hb3⟩
    refine⟨_,rfl,_,_,rfl,rfl,_,rfl,iteD (fun h0=>?_) (fun h0=>?_)⟩
    ·refine⟨_,rfl,_,rfl,_,_,rfl,rfl,_,rfl,iteD (fun h1=>?_) (fun h1=>?_)⟩
     ·obtain⟨h',rfl⟩:∃ h',h=h'+1:=⟨h - 1,by omega⟩
      refine⟨_,rfl,.inl ⟨rfl,_,SqL.of el3⟩,_,rfl,l,_,_,rfl,rfl,el3,(by rw[List.length_map];exact line_of (by omega)),?_⟩
      refine⟨_,rfl,_,_,rfl,rfl,_,rfl,_,_,rfl,rfl,?_⟩
      rw[goM_gap h1]at eq3
      refine⟨⟨bs++[n],h',n+1,?_,Same.upd' hl sm3,by rw[upd_same,List.map_append];rfl,by rw[List.append_assoc];exact eq3,by simp;omega⟩,?_⟩
      ·have e1:((h'+1:Nat):Int) - 1=(h':Int):=by omega
       show [some (V.ref a),some (V.int c),some (V.ref l),some (V.int (((h'+1:Nat):Int) - 1)),some (V.int (n+1)),some (V.int p)]=_
       rw[e1]
      ·show (((h'+1:Nat):Int) - 1).toNat<((h'+1:Nat):Int).toNat
       omega
     ·rw[goM_hit (.inr (by omega))]at eq3
      refine⟨I3_walked H a l c row i p n,?_,?_⟩
      ·refine⟨_,rfl,_,rfl,_,_,rfl,rfl,_,rfl,iteD (fun h2=>?_) (fun h2=>?_)⟩
       ·rw[if_pos h2]at eq3
        exact⟨_,rfl,_,_,rfl,rfl,bs,h+1,rfl,sm3,el3,eq3,by omega⟩
       ·rw[if_neg h2]at eq3
        refine⟨_,rfl,.inl ⟨rfl,_,SqL.of el3⟩,_,rfl,l,_,_,rfl,rfl,el3,(by rw[List.length_map];exact line_of (by omega)),?_⟩
        exact⟨bs++[p],h,rfl,Same.upd' hl sm3,by rw[upd_same,List.map_append];rfl,by rw[List.append_assoc];exact eq3,by simp;omega⟩
      ·rintro σ H4 ⟨bs,h,rfl,sm4,el4,eq4,hb4⟩
       exact⟨_,rfl,_,_,rfl,rfl,bs,h,p+1,_,rfl,sm4,el4,eq4,hb4⟩
    ·have h00:h=0:=by omega
     rw[goM_hit (.inl h00)]at eq3
     refine⟨I4_walked H a l c row i p n,?_,?_⟩
     ·refine⟨_,rfl,_,rfl,_,_,rfl,rfl,_,rfl,iteD (fun h2=>?_) (fun h2=>?_)⟩
      ·rw[if_pos h2]at eq3
       exact⟨_,rfl,_,_,rfl,rfl,bs,h+1,rfl,sm3,el3,eq3,by omega⟩
      ·rw[if_neg h2]at eq3
       refine⟨_,rfl,.inl ⟨rfl,_,SqL.of el3⟩,_,rfl,l,_,_,rfl,rfl,el3,(by rw[List.length_map];exact line_of (by omega)),?_⟩
       exact⟨bs++[p],h,rfl,Same.upd' hl sm3,by rw[upd_same,List.map_append];rfl,by rw[List.append_assoc];exact eq3,by simp;omega⟩
     ·rintro σ H4 ⟨bs,h,rfl,sm4,el4,eq4,hb4⟩
      exact⟨_,rfl,_,_,rfl,rfl,bs,h,p+1,_,rfl,sm4,el4,eq4,hb4⟩
   ·intro σ H3 Q1 Q2 hq h
    obtain⟨x,e,i1,j1,e1,e2,b1,e3,h⟩:=h
    refine⟨x,e,i1,j1,e1,e2,b1,e3,?_⟩
    cases b1 with
    | false=>exact hq _ _ h
    | true =>
     obtain⟨x,e,y,e',i2,j2,e4,e5,b2,e6,h⟩:=h
     exact⟨x,e,y,e',i2,j2,e4,e5,b2,e6,hq _ _ h⟩
  ·rintro σ H2 ⟨bs,h,n,v,rfl,sm,el,eq,hb⟩
   rw[List.length_map]at eq hb
   rw[List.drop_length]at eq
   refine⟨_,rfl,_,rfl,_,rfl,by omega,by omega,comp_range (lo:=0) (n:=h) (fun i ys H3=>H3=H2∧ys=((List.range i).map (fun(k:Nat)=>n+(k:Int))).map V.int) ⟨rfl,rfl⟩ ?_ ?_ ?_⟩
   ·rintro i ys H3 hi ⟨rfl,rfl⟩
    simp only[List.length_map,List.length_range]
    exact line_of (by omega)
   ·rintro i ys H3 hi ⟨rfl,rfl⟩
    refine⟨_,rfl,_,rfl,_,_,rfl,rfl,rfl,?_⟩
    rw[List.range_succ,List.map_append,List.map_append]
    simp
   ·rintro ys H3 ⟨rfl,rfl⟩ D hD
    have smD:=Same.upd (o:=.lst (((List.range h).map (fun(k:Nat)=>n+(k:Int))).map V.int)) hD
    refine⟨l,D,_,_,rfl,rfl,smD _ _ el,upd_same,?_,fun q hq=>?_⟩
    ·simp only[List.length_map,List.length_range]
     exact line_le (by omega)
    ·rw[← List.map_append]
     have smH:=sm.trans smD
     refine k q _ (smH.free hq) (Same.upd' (smH.free hq) smH) ?_
     rw[upd_same,← eq]
     rfl
noncomputable abbrev s_closings:Stmt:=top 9
theorem sc_closings:FnScope ["row","pairs","waiting","niche","place"] ["row"] (defScope s_closings):=⟨rfl,rfl,rfl,by decide +kernel,rfl,by decide +kernel,by decide +kernel⟩
theorem ok_closings {f:Addr} {fd:FuncData} (F:Fun K "closings" "closings" s_closings f fd) (B:Bt mg) (F_look_row:FnAt P w K mg base "look_row" 1 ["row"] spLook):FnOk P w K mg base CX0 2 f fd ["row"] spClosings:=by
 refine F.ok sc_closings (fun vs H Q E h=>?_) (fun cdv A outer s H vs Q E hr h=>?_)
 ·obtain⟨a,r,rfl,_⟩:=h
  rfl
 ·obtain⟨a,row,rfl,ha,hrow,hlen,k⟩:=h
  refine⟨_,(pss_cons (ps_expr (pe_fn F_look_row hr rfl (pa_cons (pv 0) pa_nil)))
 (pss_cons (ps_set (i:=1) sc_closings.nd rfl (Or.inl rfl) (pe_lst pa_nil))
 (pss_cons (ps_set (i:=2) sc_closings.nd rfl (Or.inl rfl) (pe_lst pa_nil))
 (pss_cons (ps_set (i:=3) sc_closings.nd rfl (Or.inl rfl) pe_int)
 (pss_cons (ps_for PassesOwn.never rfl (pi_list (pv 0)) (pg_name (i:=4) sc_closings.nd rfl (Or.inl rfl))
 (pss_cons (ps_while PassesOwn.never (PW.pt (pw_and (pt_truth (pv 2) (fun _=>rfl)) (pw_and1 (pt_cmpR op_lt (pv 3) (pv 4) (nomark _)))))
 (pss_cons (ps_expr (pe_bm PySem.F.plainAttrs_list PySem.F.slot_list_append PySem.F.type_list_append mt_append (pv 1) (pa_cons (pe_tup (pa_cons (pe_bm0 PySem.F.plainAttrs_list PySem.F.slot_list_pop PySem.F.type_list_pop mt_pop (pv 2)) (pa_cons (pv 3) pa_nil))) pa_nil)))
 (pss_one (ps_aug (i:=3) sc_closings.nd rfl (Or.inl rfl) pe_int ip_add))))
 (pss_cons (ps_expr (pe_bm PySem.F.plainAttrs_list PySem.F.slot_list_append PySem.F.type_list_append mt_append (pv 2) (pa_cons (pv 4) pa_nil)))
 (pss_one (ps_set (i:=3) sc_closings.nd rfl (Or.inl rfl) (pe_op op_add (pv 4) pe_int))))))
 (pss_cons (ps_while PassesOwn.never (pt_truth (pv 2) (fun _=>rfl))
 (pss_cons (ps_expr (pe_bm PySem.F.plainAttrs_list PySem.F.slot_list_append PySem.F.type_list_append mt_append (pv 1) (pa_cons (pe_tup (pa_cons (pe_bm0 PySem.F.plainAttrs_list PySem.F.slot_list_pop PySem.F.type_list_pop mt_pop (pv 2)) (pa_cons (pv 3) pa_nil))) pa_nil)))
 (pss_one (ps_aug (i:=3) sc_closings.nd rfl (Or.inl rfl) pe_int ip_add))))
 (pss_one (ps_ret (pe_callB call_sortedP (by rfl) B.sorted boot_sorted (pa_cons (pv 1) pa_nil)))))))))),?_⟩
  refine⟨_,rfl,a,row,rfl,ha,hrow,hlen,by decide,fun lp hlp=>?_⟩
  have g1:=Same.upd (o:=.lst []) hlp
  have elp:(upd H lp (.lst [])) lp=some (.lst []):=upd_same
  generalize upd H lp (.lst [])=H1 at g1 elp ⊢
  refine⟨by decide,fun lw hlw=>?_⟩
  have hlw0:H lw=none:=g1.free hlw
  have hne:lp≠lw:=ne_of_none elp hlw
  have pop:∀ {H3:Hp} {us:List V} {ps:List (Int×Int)} {st:List Int} {x n:Int} {i:Nat} {Qn:Hp→List V→Prop},Same H H3→H3 lp=some (.lst us)→H3 lw=some (.lst ((x :: st).reverse.map V.int))→Prs H3 us ps→ps.length+st.length<60 →
   (∀ H4 us',Same H H4→H4 lp=some (.lst us')→H4 lw=some (.lst (st.reverse.map V.int))→Prs H4 us' (ps++[(x,n)])→Qn H4 us') →
   ∃ y,((x :: st).reverse.map V.int)[((x :: st).reverse.map V.int).length - 1]?=some y∧y=.int x∧∀ t,(upd H3 lw (.lst ((x :: st).reverse.map V.int).dropLast)) t=none →
    (upd (upd H3 lw (.lst ((x :: st).reverse.map V.int).dropLast)) t (.tup [.int x,.int n])) lp=some (.lst us)∧us.length<sizeLine∧Qn (upd (upd (upd H3 lw (.lst ((x :: st).reverse.map V.int).dropLast)) t (.tup [.int x,.int n])) lp (.lst (us++[.ref t]))) (us++[.ref t]):=by
   intro H3 us ps st x n i Qn sm3 el3 ew3 pr3 hl3 hq
   have e1:(x :: st).reverse.map V.int=st.reverse.map V.int++[V.int x]:=by rw[List.reverse_cons,List.map_append];rfl
   have e2:((x :: st).reverse.map V.int).dropLast=st.reverse.map V.int:=by rw[e1,List.dropLast_concat]
   refine⟨.int x,by rw[e1];simp,rfl,fun t ht=>?_⟩
   rw[e2]at ht ⊢
   have g5:Same H (upd H3 lw (.lst (st.reverse.map V.int))):=Same.upd' hlw0 sm3
   have el5:(upd H3 lw (.lst (st.reverse.map V.int))) lp=some (.lst us):=by rw[upd_ne hne];exact el3
   have ew5:(upd H3 lw (.lst (st.reverse.map V.int))) lw=some (.lst (st.reverse.map V.int)):=upd_same
   have pr5:Prs (upd H3 lw (.lst (st.reverse.map V.int))) us ps:=pr3.mono (TupS.lst ew3)
   generalize upd H3 lw (.lst (st.reverse.map V.int))=H5 at ht g5 el5 ew5 pr5 ⊢
   have el6:(upd H5 t (.tup [.int x,.int n])) lp=some (.lst us):=by rw[upd_ne (ne_of_none el5 ht)];exact el5
   have ew6:(upd H5 t (.tup [.int x,.int n])) lw=some (.lst (st.reverse.map V.int)):=by rw[upd_ne (ne_of_none ew5 ht)];exact ew5
   refine⟨el6,line_of (by rw[pr5.len];omega),hq _ _ (Same.upd' hlp (g5.trans (Same.upd ht))) upd_same (by rw[upd_ne hne.symm];exact ew6) ?_⟩
   exact Paired.append' (Prs.mono (TupS.trans (TupS.new ht) (TupS.lst el6)) pr5) (.cons ⟨t,rfl,by rw[upd_ne (Ne.symm (ne_of_none el5 ht)),upd_same]⟩ .nil)
  refine⟨_,rfl,a,rfl,⟨_,SqL.of ((g1.trans (Same.upd hlw)) _ _ ha)⟩,for_list (K:=K) (a:=a) (xs:=row.map V.int) (fun i σ H2=>∃ (us:List V) (ps:List (Int×Int)) (st:List Int) (n:Int) (v:Option V),σ=[some (.ref a),some (.ref lp),some (.ref lw),some (.int n),v]∧Same H H2∧H2 lp=some (.lst us)∧H2 lw=some (.lst (st.reverse.map V.int))∧Prs H2 us ps ∧
   ps++closG (row.drop i) st n=closM row∧ps.length+st.length=i)
   ⟨[],[],[],0,none,rfl,g1.trans (Same.upd hlw),by rw[upd_ne hne];exact elp,upd_same,.nil,rfl,rfl⟩ (fun i σ H2 _ ⟨us,ps,st,n,v,_,sm,_⟩=>SqL.of (sm _ _ ha)) ?_ ?_⟩
  ·rintro i z σ H2 hi ⟨us,ps,st,n,v,rfl,sm,el,ew,pr,eq,hb⟩
   have hil:i<row.length:=by
    have:=(List.getElem?_eq_some_iff.mp hi).1
    simpa using this
   obtain⟨p,rfl,hz⟩:=int_at hi
   have hd:row.drop i=p :: row.drop (i+1):=by
    obtain⟨h1,rfl⟩:=List.getElem?_eq_some_iff.mp hz
    exact List.drop_eq_getElem_cons h1
   rw[hd]at eq
   refine while_by (fun σ H3=>∃ (us:List V) (ps:List (Int×Int)) (st:List Int) (n:Int),σ=[some (.ref a),some (.ref lp),some (.ref lw),some (.int n),some (.int p)]∧Same H H3∧H3 lp=some (.lst us)∧H3 lw=some (.lst (st.reverse.map V.int))∧Prs H3 us ps ∧
    ps++closG (p :: row.drop (i+1)) st n=closM row∧ps.length+st.length=i)
    (fun _ H3=>match H3 lw with | some (.lst xs)=>xs.length | _=>0) ⟨us,ps,st,n,rfl,sm,el,ew,pr,eq,hb⟩ ?_ ?_
   ·rintro σ H3 ⟨us,ps,st,n,rfl,sm3,el3,ew3,pr3,eq3,hb3⟩
    have go:∀ (h:st=[]∨p≤n),∃ v,[some (V.ref a),some (V.ref lp),some (V.ref lw),some (V.int n),some (V.int p)][2]?=some (some v)∧v=.ref lw∧(upd H3 lw (.lst (st.reverse.map V.int++[V.int p]))) lw=some (.lst ((p :: st).reverse.map V.int))∧ps++closG (row.drop (i+1)) (p :: st) (p+1)=closM row:=fun h=>by
     rw[closG_hit h]at eq3
     exact⟨_,rfl,rfl,by rw[upd_same,List.reverse_cons,List.map_append];rfl,eq3⟩
    have fin:∀ (h:st=[]∨p≤n),∃ (us':List V) (ps':List (Int×Int)) (st':List Int) (n':Int) (v:Option V),([some (V.ref a),some (V.ref lp),some (V.ref lw),some (V.int (p+1)),some (V.int p)]:St)=[some (.ref a),some (.ref lp),some (.ref lw),some (.int n'),v]∧Same H (upd H3 lw (.lst (st.reverse.map V.int++[V.int p])))∧(upd H3 lw (.lst (st.reverse.map V.int++[V.int p]))) lp=some (.lst us') ∧
     (upd H3 lw (.lst (st.reverse.map V.int++[V.int p]))) lw=some (.lst (st'.reverse.map V.int))∧Prs (upd H3 lw (.lst (st.reverse.map V.int++[V.int p]))) us' ps'∧ps'++closG (row.drop (i+1)) st' n'=closM row∧ps'.length+st'.length=i+1:=fun h=>by
     obtain⟨v,_,_,e1,e2⟩:=go h
     exact⟨us,ps,p :: st,p+1,_,rfl,Same.upd' hlw0 sm3,by rw[upd_ne hne];exact el3,e1,pr3.mono (TupS.lst ew3),e2,by rw[List.length_cons];omega⟩
    cases st with
    | nil =>
     refine⟨_,rfl,false,.inl ⟨_,SqL.of ew3,rfl⟩,?_⟩
     refine⟨_,rfl,.inl ⟨rfl,_,SqL.of ew3⟩,_,rfl,lw,_,_,rfl,rfl,ew3,(by decide),?_⟩
     exact⟨_,rfl,_,_,rfl,rfl,fin (.inl rfl)⟩
    | cons x st =>
     refine⟨_,rfl,true,.inl ⟨_,SqL.of ew3,by simp⟩,_,rfl,_,rfl,_,_,rfl,rfl,_,rfl,iteD (fun h1=>?_) (fun h1=>?_)⟩
     ·rw[closG_gap h1]at eq3
      rw[List.length_cons]at hb3
      obtain⟨y,y1,rfl,y2⟩:=pop (n:=n) (i:=i) (Qn:=fun H4 us'=>(∃ (us:List V) (ps:List (Int×Int)) (st':List Int) (n':Int),([some (V.ref a),some (V.ref lp),some (V.ref lw),some (V.int (n+1)),some (V.int p)]:St)=[some (.ref a),some (.ref lp),some (.ref lw),some (.int n'),some (.int p)]∧Same H H4∧H4 lp=some (.lst us)∧H4 lw=some (.lst (st'.reverse.map V.int))∧Prs H4 us ps ∧
       ps++closG (p :: row.drop (i+1)) st' n'=closM row∧ps.length+st'.length=i)∧(match H4 lw with | some (.lst xs)=>xs.length | _=>0)<(match H3 lw with | some (.lst xs)=>xs.length | _=>0)) sm3 el3 ew3 pr3 (by omega)
       (fun H4 us' a1 a2 a3 a4=>⟨⟨us',ps++[(x,n)],st,n+1,rfl,a1,a2,a3,a4,by rw[List.append_assoc];exact eq3,by simp;omega⟩,by rw[a3,ew3];simp⟩)
      refine⟨_,rfl,.inl ⟨rfl,_,SqL.of el3⟩,_,rfl,.inl ⟨rfl,_,SqL.of ew3⟩,lw,_,_,rfl,rfl,ew3,y1,_,rfl,(show 2≤sizeLine by decide),fun t ht=>?_⟩
      obtain⟨z1,z2,z3⟩:=y2 t ht
      exact⟨lp,us,_,rfl,rfl,z1,z2,_,rfl,_,_,rfl,rfl,z3⟩
     ·refine⟨_,rfl,.inl ⟨rfl,_,SqL.of ew3⟩,_,rfl,lw,_,_,rfl,rfl,ew3,(by rw[List.length_map,List.length_reverse];exact line_of (by omega)),?_⟩
      exact⟨_,rfl,_,_,rfl,rfl,fin (.inr (by omega))⟩
   ·intro σ H3 Q1 Q2 hq h
    obtain⟨x,e,b1,e1,h⟩:=h
    refine⟨x,e,b1,e1,?_⟩
    cases b1 with
    | false=>exact hq _ _ h
    | true =>
     obtain⟨x,e,y,e',i2,j2,e4,e5,b2,e6,h⟩:=h
     exact⟨x,e,y,e',i2,j2,e4,e5,b2,e6,hq _ _ h⟩
  ·rintro σ H2 ⟨us,ps,st,n,v,rfl,sm,el,ew,pr,eq,hb⟩
   rw[List.length_map]at eq hb
   rw[List.drop_length]at eq
   dsimp only[tSeq]
   refine while_by (fun σ H3=>∃ (us:List V) (ps:List (Int×Int)) (st:List Int) (n:Int),σ=[some (.ref a),some (.ref lp),some (.ref lw),some (.int n),v]∧Same H H3∧H3 lp=some (.lst us)∧H3 lw=some (.lst (st.reverse.map V.int))∧Prs H3 us ps ∧
    ps++closG [] st n=closM row∧ps.length+st.length=row.length)
    (fun _ H3=>match H3 lw with | some (.lst xs)=>xs.length | _=>0) ⟨us,ps,st,n,rfl,sm,el,ew,pr,eq,hb⟩ ?_ ?_
   ·rintro σ H3 ⟨us,ps,st,n,rfl,sm3,el3,ew3,pr3,eq3,hb3⟩
    cases st with
    | nil =>
     refine⟨_,rfl,false,.inl ⟨_,SqL.of ew3,rfl⟩,?_⟩
     have eps:ps=closM row:=by rw[← eq3];simp[closG,emitG]
     refine⟨_,rfl,lp,us,ps,rfl,el3,pr3,by rw[List.length_nil]at hb3;omega,fun l us' qs hl pr' hp hs=>?_⟩
     refine k qs (by rw[← eps];exact hp) hs l us' _ (sm3.free hl) (sm3.trans (Same.upd hl)) upd_same (pr'.mono (TupS.new hl))
    | cons x st =>
     rw[closG_end]at eq3
     rw[List.length_cons]at hb3
     refine⟨_,rfl,true,.inl ⟨_,SqL.of ew3,by simp⟩,?_⟩
     obtain⟨y,y1,rfl,y2⟩:=pop (n:=n) (i:=0) (Qn:=fun H4 us'=>(∃ (us:List V) (ps:List (Int×Int)) (st':List Int) (n':Int),([some (V.ref a),some (V.ref lp),some (V.ref lw),some (V.int (n+1)),v]:St)=[some (.ref a),some (.ref lp),some (.ref lw),some (.int n'),v]∧Same H H4∧H4 lp=some (.lst us)∧H4 lw=some (.lst (st'.reverse.map V.int))∧Prs H4 us ps ∧
      ps++closG [] st' n'=closM row∧ps.length+st'.length=row.length)∧(match H4 lw with | some (.lst xs)=>xs.length | _=>0)<(match H3 lw with | some (.lst xs)=>xs.length | _=>0)) sm3 el3 ew3 pr3 (by omega)
      (fun H4 us' a1 a2 a3 a4=>⟨⟨us',ps++[(x,n)],st,n+1,rfl,a1,a2,a3,a4,by rw[List.append_assoc];exact eq3,by simp;omega⟩,by rw[a3,ew3];simp⟩)
     refine⟨_,rfl,.inl ⟨rfl,_,SqL.of el3⟩,_,rfl,.inl ⟨rfl,_,SqL.of ew3⟩,lw,_,_,rfl,rfl,ew3,y1,_,rfl,(show 2≤sizeLine by decide),fun t ht=>?_⟩
     obtain⟨z1,z2,z3⟩:=y2 t ht
     exact⟨lp,us,_,rfl,rfl,z1,z2,_,rfl,_,_,rfl,rfl,z3⟩
   ·intro σ H3 Q1 Q2 hq h
    obtain⟨x,e,b1,e1,h⟩:=h
    exact⟨x,e,b1,e1,hq _ _ h⟩
noncomputable abbrev s_peeled:Stmt:=top 14
theorem sc_peeled:FnScope ["row","lasts","stays","ahead","place"] ["row"] (defScope s_peeled):=⟨rfl,rfl,rfl,by decide +kernel,rfl,by decide +kernel,by decide +kernel⟩
theorem ok_peeled {f:Addr} {fd:FuncData} (F:Fun K "peeled" "peeled" s_peeled f fd) (B:Bt mg) (F_stretches:FnAt P w K mg base "stretches" 2 ["row"] spStretches):FnOk P w K mg base CX0 3 f fd ["row"] spPeeled:=by
 refine F.ok sc_peeled (fun vs H Q E h=>?_) (fun cdv A outer s H vs Q E hr h=>?_)
 ·obtain⟨a,r,rfl,_⟩:=h
  rfl
 ·obtain⟨a,row,rfl,ha,hrow,hlen,k⟩:=h
  refine⟨_,(pss_cons (ps_setc (i:=1) ["first","last"] [] [] rfl sc_peeled.nd rfl rfl (.of (show compOk (defScope s_peeled) _ ["row","lasts","stays","ahead","place"] [] []=true by decide +kernel)) (pi_list (pe_fn F_stretches hr rfl (pa_cons (pv 0) pa_nil))) (fun _ _ _=>(pg_tupK (n:=2) K rfl rfl (pgs_cons (pg_name (i:=0) (show (["first","last"]:List Str).Nodup by decide +kernel) rfl (Or.inl rfl)) (pgs_cons (pg_name (i:=1) (show (["first","last"]:List Str).Nodup by decide +kernel) rfl (Or.inl rfl)) pgs_nil)))) (kg_tup (kgs_cons (by decide) (kgs_cons (by decide) kgs_nil))) (fun _ _ _=>pif_nil) (fun _ _ _=>(pv 1)) (by first | rfl | decide +kernel))
 (pss_cons (ps_set (i:=2) sc_peeled.nd rfl (Or.inl rfl) (pe_lst pa_nil))
 (pss_cons (ps_set (i:=3) sc_peeled.nd rfl (Or.inl rfl) pe_int)
 (pss_cons (ps_for PassesOwn.never rfl (pi_list (pv 0)) (pg_name (i:=4) sc_peeled.nd rfl (Or.inl rfl))
 (pss_one (ps_if (pt_cmpR op_eqI (pv 4) (pe_ix ix_list (pv 1) (pv 3) (fun _ _=>rfl)) (nomark _))
 (pss_one (ps_aug (i:=3) sc_peeled.nd rfl (Or.inl rfl) pe_int ip_add))
 (pss_one (ps_expr (pe_bm PySem.F.plainAttrs_list PySem.F.slot_list_append PySem.F.type_list_append mt_append (pv 2) (pa_cons (pe_op op_sub (pv 4) (pe_op op_mul pe_int (pv 3))) pa_nil)))))))
 (pss_one (ps_ret (pv 2))))))),?_⟩
  refine⟨_,rfl,a,row,rfl,ha,hrow,hlen,fun l us H1 hl g1 el pr=>?_⟩
  have e:us.length=(runsM row).length:=pr.len
  have hrn:=runsM_len row
  refine⟨l,rfl,⟨_,SqL.of el⟩,comp_list (K:=K) (a:=l) (xs:=us) (fun j ys H2=>H2=H1∧ys=(((runsM row).take j).map (·.2)).map V.int) ⟨rfl,rfl⟩ ?_ ?_ ?_⟩
  ·rintro j ys H2 hj ⟨rfl,rfl⟩
   exact⟨SqL.of el,by rw[List.length_map,List.length_map,List.length_take];exact line_of (by omega)⟩
  ·rintro j x ys H2 hj ⟨rfl,rfl⟩
   obtain⟨q,t2,hq,rfl,et2⟩:=paired_at pr hj
   exact⟨t2,_,rfl,SqT.of et2,rfl,_,_,rfl,_,_,rfl,rfl,_,rfl,rfl,snoc_pairs (·.2) hq⟩
  rintro ys H2 ⟨rfl,rfl⟩ ll hll
  rw[e,List.take_length,runs_ends]
  have g2:=Same.upd (o:=.lst ((endsG row).map V.int)) hll
  have ell:(upd H2 ll (.lst ((endsG row).map V.int))) ll=some (.lst ((endsG row).map V.int)):=upd_same
  generalize upd H2 ll (.lst ((endsG row).map V.int))=H3 at g2 ell ⊢
  refine⟨by decide,fun ls hls=>?_⟩
  have g3:=Same.upd (o:=.lst []) hls
  have els:(upd H3 ls (.lst [])) ls=some (.lst (([]:List Int).map V.int)):=upd_same
  have nls:ls≠ll:=fun z=>by rw[z,ell]at hls;cases hls
  have hH3:H3 ls=none:=hls
  generalize upd H3 ls (.lst [])=H4 at g3 els ⊢
  have s13:=g1.trans g2
  have s4:=s13.trans g3
  refine⟨_,rfl,a,rfl,⟨_,SqL.of (s4 _ _ ha)⟩,for_list (K:=K) (a:=a) (xs:=row.map V.int) (fun i σ H5=>∃ (ah:Nat) (st:List Int) (v4:Option V),σ=[some (.ref a),some (.ref ll),some (.ref ls),some (.int (ah:Int)),v4]∧Same H3 H5∧H5 ls=some (.lst (st.map V.int))∧(endsG row).drop ah=endsG (row.drop i)∧st++peelG ah (row.drop i)=peelG 0 row∧st.length≤i∧ah≤i)
   ⟨0,[],none,rfl,g3,els,rfl,rfl,Nat.le_refl _,Nat.le_refl _⟩ (fun i σ H5 _ ⟨_,_,_,_,sm,_⟩=>SqL.of ((s13.trans sm) _ _ ha)) ?_ ?_⟩
  ·rintro i x σ H5 hi ⟨ah,st,v4,rfl,sm,els5,h1,h2,h3,h4⟩
   have hil:i<row.length:=by
    have:=(List.getElem?_eq_some_iff.mp hi).1
    simpa using this
   obtain⟨z,rfl,hz⟩:=int_at hi
   obtain⟨q,hq,hstep⟩:=pl_step hrow hz h1 h2
   have hat:atI ((endsG row).map V.int) (ah:Int)=some (V.int q):=atI_nat (by rw[List.getElem?_map,hq];rfl)
   refine⟨_,rfl,_,rfl,_,rfl,ll,_,_,_,rfl,rfl,SqL.of (sm _ _ ell),hat,_,_,rfl,rfl,_,rfl,iteD (fun c=>?_) (fun c=>?_)⟩
   ·rcases hstep with ⟨_,k1,k2⟩ | ⟨ne,_⟩
    ·exact⟨_,rfl,_,_,rfl,rfl,ah+1,st,_,rfl,sm,els5,k1,k2,by omega,by omega⟩
    ·exact absurd c ne
   ·rcases hstep with ⟨e,_⟩ | ⟨_,k1,k2⟩
    ·exact absurd e c
    ·refine⟨_,rfl,.inl ⟨rfl,_,SqL.of els5⟩,_,rfl,_,rfl,_,_,rfl,rfl,.inl ⟨by decide,by decide⟩,_,_,rfl,rfl,ls,_,_,rfl,rfl,els5,by rw[List.length_map];exact line_of (by omega),?_⟩
     exact⟨ah,st++[z - 2 * (ah:Int)],_,rfl,Same.upd' hH3 sm,by rw[upd_same,List.map_append];rfl,k1,k2,by simp;omega,by omega⟩
  ·rintro σ H5 ⟨ah,st,v4,rfl,sm,els5,h1,h2,h3,h4⟩
   rw[List.length_map,List.drop_length]at h2
   rw[show st++peelG (ah:Int) []=st from List.append_nil st]at h2
   rw[h2]at els5
   exact⟨_,rfl,k ls H5 (s13.free hH3) (s13.trans sm) els5⟩
noncomputable abbrev s_rounds:Stmt:=top 15
theorem sc_rounds:FnScope ["row","found","rest"] ["row"] (defScope s_rounds):=⟨rfl,rfl,rfl,by decide +kernel,rfl,by decide +kernel,by decide +kernel⟩
inductive rdW (H0:Hp) (row:List Int) (a l:Addr) (m:Nat) (σ:St) (Hx:Hp):Prop
 | mk (n:Nat) (rl:Addr) (h0_:σ=[some (.ref a),some (.ref l),some (.ref rl)]) (h1_:Same H0 Hx) (h2_:Hx rl=some (.lst ((peelN n row).map V.int))) (h3_:rl≠l) (h4_:Hx l=some (.lst (((List.range n).map fun k=>(stG (peelN k row):Int)).map V.int))) (h5_:∀ k,k<n→peelN k row≠[]) (h6_:m=(peelN n row).length) (h7_:m+n≤60):rdW H0 row a l m σ Hx
theorem ok_rounds {f:Addr} {fd:FuncData} (F:Fun K "rounds" "rounds" s_rounds f fd) (B:Bt mg) (F_stretches:FnAt P w K mg base "stretches" 2 ["row"] spStretches) (F_peeled:FnAt P w K mg base "peeled" 3 ["row"] spPeeled):FnOk P w K mg base CX0 4 f fd ["row"] spRounds:=by
 refine F.ok sc_rounds (fun vs H Q E h=>?_) (fun cdv A outer s H vs Q E hr h=>?_)
 ·obtain⟨a,r,rfl,_⟩:=h
  rfl
 ·obtain⟨a,row,rfl,ha,hrow,hlen,k⟩:=h
  refine⟨_,(pss_cons (ps_set (i:=1) sc_rounds.nd rfl (Or.inl rfl) (pe_lst pa_nil))
 (pss_cons (ps_set (i:=2) sc_rounds.nd rfl (Or.inl rfl) (pv 0))
 (pss_cons (ps_while PassesOwn.never (pt_truth (pv 2) (fun _=>rfl))
 (pss_cons (ps_expr (pe_bm PySem.F.plainAttrs_list PySem.F.slot_list_append PySem.F.type_list_append mt_append (pv 1) (pa_cons (pe_callB call_len_seq (by rfl) B.len PySem.boot_len (pa_cons (pe_fn F_stretches hr rfl (pa_cons (pv 2) pa_nil)) pa_nil)) pa_nil)))
 (pss_one (ps_set (i:=2) sc_rounds.nd rfl (Or.inl rfl) (pe_fn F_peeled hr rfl (pa_cons (pv 2) pa_nil))))))
 (pss_one (ps_ret (pv 1)))))),?_⟩
  refine⟨by decide,fun l hl=>?_⟩
  have g1:=Same.upd (o:=.lst []) hl
  have el:(upd H l (.lst [])) l=some (.lst []):=upd_same
  have nal:a≠l:=fun e=>by rw[e,hl]at ha;cases ha
  generalize upd H l (.lst [])=H1 at g1 el ⊢
  refine⟨_,rfl,?_⟩
  refine⟨rdW H row a l,⟨row.length,0,a,rfl,g1,g1 _ _ ha,nal,el,fun k hk=>absurd hk (Nat.not_lt_zero _),rfl,by omega⟩,?_⟩
  rintro m σ H2 ⟨n,rl,rfl,sm,erl,nrl,el2,hne,rfl,hm⟩
  have hrn:=peelN_row hrow n
  by_cases hz:peelN n row=[]
  ·refine⟨_,rfl,false,.inl ⟨_,SqL.of erl,by rw[hz];rfl⟩,?_⟩
   exact⟨_,rfl,k n hz hne l H2 hl sm el2⟩
  ·refine⟨_,rfl,true,.inl ⟨_,SqL.of erl,by cases e:peelN n row with | nil=>exact absurd e hz | cons x r=>rfl⟩,?_⟩
   have hst:1≤stG (peelN n row):=by
    cases e:peelN n row with
    | nil=>exact absurd e hz
    | cons x r=>exact st_pos r x
   have hpl:=peel_len (peelN n row) 0
   refine⟨fun σ' H'=>∃ m',m'<(peelN n row).length∧rdW H row a l m' σ' H',fun σ' H' h=>h,?_⟩
   refine⟨_,rfl,.inl ⟨rfl,_,SqL.of el2⟩,_,rfl,rl,_,rfl,erl,hrn,by omega,fun l2 us2 H3 hl2 g3 el3 pr3=>?_⟩
   have el23:=g3 _ _ el2
   have hul:us2.length=stG (peelN n row):=by rw[pr3.len,runs_st]
   refine⟨l2,_,rfl,.inl (SqL.of el3),l,_,_,rfl,rfl,el23,by rw[List.length_map,List.length_map,List.length_range];exact line_of (by omega),?_⟩
   have erl4:(upd H3 l (.lst (((List.range n).map fun k=>(stG (peelN k row):Int)).map V.int++[V.int (us2.length:Int)]))) rl=some (.lst ((peelN n row).map V.int)):=by rw[upd_ne nrl];exact g3 _ _ erl
   have el4:(upd H3 l (.lst (((List.range n).map fun k=>(stG (peelN k row):Int)).map V.int++[V.int (us2.length:Int)]))) l=some (.lst (((List.range (n+1)).map fun k=>(stG (peelN k row):Int)).map V.int)):=by
    rw[upd_same,hul,List.range_succ,List.map_append,List.map_append]
    rfl
   have s4:Same H (upd H3 l (.lst (((List.range n).map fun k=>(stG (peelN k row):Int)).map V.int++[V.int (us2.length:Int)]))):=Same.upd' hl (sm.trans g3)
   generalize upd H3 l (.lst (((List.range n).map fun k=>(stG (peelN k row):Int)).map V.int++[V.int (us2.length:Int)]))=H4 at erl4 el4 s4 ⊢
   refine⟨_,rfl,rl,_,rfl,erl4,hrn,by omega,fun l3 H5 hl3 g5 el5=>?_⟩
   refine⟨(peelG 0 (peelN n row)).length,by omega,n+1,l3,rfl,s4.trans g5,el5,(fun e=>by rw[e,el4]at hl3;cases hl3),g5 _ _ el4,fun j hj=>?_,rfl,by omega⟩
   by_cases e:j=n
   ·rw[e];exact hz
   ·exact hne j (by omega)
noncomputable abbrev s_sizes_by_counts:Stmt:=top 17
theorem sc_sizes_by_counts:FnScope ["counts","sizes","size","many","longer"] ["counts"] (defScope s_sizes_by_counts):=⟨rfl,rfl,rfl,by decide +kernel,rfl,by decide +kernel,by decide +kernel⟩
theorem ok_counts {f:Addr} {fd:FuncData} (F:Fun K "sizes_by_counts" "sizes_by_counts" s_sizes_by_counts f fd) (B:Bt mg):FnOk P w K mg base CX0 1 f fd ["counts"] spCounts:=by
 refine F.ok sc_sizes_by_counts (fun vs H Q E h=>?_) (fun cdv A outer s H vs Q E hr h=>?_)
 ·obtain⟨a,ss,n,rfl,_⟩:=h
  rfl
 ·obtain⟨a,ss,n,rfl,ha,hup,hpos,htop,hl60,k⟩:=h
  refine⟨_,(pss_cons (ps_set (i:=1) sc_sizes_by_counts.nd rfl (Or.inl rfl) (pe_lst pa_nil))
 (pss_cons (ps_for PassesOwn.never rfl (pi_enS rfl B.enumerate (pa_cons (pv 0) pa_nil) pe_int) (pg_tup rfl (pgs_cons (pg_name (i:=2) sc_sizes_by_counts.nd rfl (Or.inl rfl)) (pgs_cons (pg_name (i:=3) sc_sizes_by_counts.nd rfl (Or.inl rfl)) pgs_nil)))
 (pss_cons (ps_set (i:=4) sc_sizes_by_counts.nd rfl (Or.inl rfl) (pe_cut (pe_ifExp (pt_cmpR op_lt (pv 2) (pe_callB call_len_seq (by rfl) B.len PySem.boot_len (pa_cons (pv 0) pa_nil)) (nomark _)) (pe_ix ix_list (pv 0) (pv 2) (fun _ _=>rfl)) pe_int)))
 (pss_one (ps_expr (pe_bm PySem.F.plainAttrs_list PySem.F.slot_list_extend PySem.F.type_list_extend mt_extend (pv 1) (pa_cons (pe_op op_rep (pe_lst (pa_cons (pv 2) pa_nil)) (pe_op op_sub (pv 3) (pv 4))) pa_nil))))))
 (pss_one (ps_ret (pv 1))))),?_⟩
  refine⟨by decide,fun l hl=>?_⟩
  have g1:=Same.upd (o:=.lst []) hl
  have el:(upd H l (.lst [])) l=some (.lst []):=upd_same
  generalize upd H l (.lst [])=H1 at g1 el ⊢
  have e0:ss.filter (fun s=>decide (s≤((0:Nat):Int)))=[]:=List.filter_eq_nil_iff.mpr fun x hx=>by have:=hpos x hx;simp;omega
  refine⟨_,rfl,a,_,rfl,SqL.of (g1 _ _ ha),for_enS (K:=K) (m:=1) (a:=a) (xs:=(cntL ss n).map V.int) (fun i σ H2=>∃ (v2 v3 v4:Option V),σ=[some (.ref a),some (.ref l),v2,v3,v4]∧Same H H2∧H2 l=some (.lst ((ss.filter fun s=>decide (s≤(i:Int))).map V.int)))
   ⟨none,none,none,rfl,g1,by rw[e0];exact el⟩ (fun i σ H2 _ ⟨_,_,_,_,sm,_⟩=>SqL.of (sm _ _ ha)) ?_ ?_⟩
  ·rintro i x σ H2 t hx ⟨v2,v3,v4,rfl,sm,el2⟩ ht
   have hin:i<n:=by
    have:=(List.getElem?_eq_some_iff.mp hx).1
    rw[List.length_map,cntL_len]at this
    exact this
   rw[List.getElem?_map,cntL_at ss hin]at hx
   obtain rfl:V.int (geN ss ((i:Int)+1))=x:=by simpa using hx
   have g3:=Same.upd (o:=.tup [V.int (1+(i:Int)),V.int (geN ss ((i:Int)+1))]) ht
   have et:(upd H2 t (.tup [V.int (1+(i:Int)),V.int (geN ss ((i:Int)+1))])) t=some (.tup [V.int (1+(i:Int)),V.int (geN ss ((i:Int)+1))]):=upd_same
   generalize upd H2 t (.tup [V.int (1+(i:Int)),V.int (geN ss ((i:Int)+1))])=H3 at g3 et ⊢
   have sm3:=sm.trans g3
   have ha3:=sm3 _ _ ha
   have el3:=g3 _ _ el2
   refine⟨t,_,rfl,SqT.of et,rfl,_,_,rfl,_,_,rfl,rfl,?_⟩
   refine⟨fun v H4=>v=.int (geN ss ((i:Int)+2))∧H4=H3,?_,?_⟩
   ·refine⟨_,rfl,_,rfl,a,_,rfl,.inl (SqL.of ha3),_,_,rfl,rfl,_,rfl,iteD (fun c=>?_) (fun c=>?_)⟩
    ·rw[List.length_map,cntL_len]at c
     have e:atI ((cntL ss n).map V.int) (((i+1:Nat):Int))=some (V.int (geN ss (((i+1:Nat):Int)+1))):=atI_nat (by rw[List.getElem?_map,cntL_at ss (by omega)];rfl)
     rw[show ((i+1:Nat):Int)=1+(i:Int)by omega,show 1+(i:Int)+1=(i:Int)+2 by omega]at e
     exact⟨_,rfl,_,rfl,a,_,_,_,rfl,rfl,SqL.of ha3,e,rfl,rfl⟩
    ·rw[List.length_map,cntL_len]at c
     refine⟨?_,rfl⟩
     rw[geN_none fun s hs=>by have:=htop s hs;omega]
     rfl
   rintro v H4 ⟨rfl,rfl⟩
   have hle:=geN_le ss ((i:Int)+1)
   rw[show (i:Int)+1+1=(i:Int)+2 by omega]at hle
   have hgl:=geN_len ss ((i:Int)+1)
   refine⟨_,rfl,.inl ⟨rfl,_,SqL.of el3⟩,_,rfl,(show 1≤sizeLine by decide),fun p hp=>?_⟩
   have g5:=Same.upd (o:=.lst [V.int (1+(i:Int))]) hp
   have ep:(upd H4 p (.lst [V.int (1+(i:Int))])) p=some (.lst [V.int (1+(i:Int))]):=upd_same
   generalize upd H4 p (.lst [V.int (1+(i:Int))])=H5 at g5 ep ⊢
   have ek:((geN ss ((i:Int)+1):Int) - (geN ss ((i:Int)+2):Int)).toNat=geN ss ((i:Int)+1) - geN ss ((i:Int)+2):=by omega
   refine⟨_,rfl,_,rfl,_,_,rfl,rfl,p,_,_,rfl,rfl,ep,by omega,by omega,by rw[ek,List.length_singleton,Nat.one_mul];exact line_le (by omega),fun r hrn=>?_⟩
   rw[ek]
   have er:(List.replicate (geN ss ((i:Int)+1) - geN ss ((i:Int)+2)) [V.int (1+(i:Int))]).flatten=(List.replicate (geN ss ((i:Int)+1) - geN ss ((i:Int)+2)) ((i:Int)+1)).map V.int:=by
    rw[List.map_replicate,List.flatten_replicate_singleton,Int.add_comm]
   rw[er]
   have g6:=Same.upd (o:=.lst ((List.replicate (geN ss ((i:Int)+1) - geN ss ((i:Int)+2)) ((i:Int)+1)).map V.int)) hrn
   have err:(upd H5 r (.lst ((List.replicate (geN ss ((i:Int)+1) - geN ss ((i:Int)+2)) ((i:Int)+1)).map V.int))) r=some (.lst ((List.replicate (geN ss ((i:Int)+1) - geN ss ((i:Int)+2)) ((i:Int)+1)).map V.int)):=upd_same
   generalize upd H5 r (.lst ((List.replicate (geN ss ((i:Int)+1) - geN ss ((i:Int)+2)) ((i:Int)+1)).map V.int))=H6 at g6 err ⊢
   have s46:=g5.trans g6
   have hcut:=sizes_cut hup (i:Int)
   have hfl:=List.length_filter_le (fun s=>decide (s≤(i:Int)+1)) ss
   rw[hcut,List.length_append,List.length_replicate]at hfl
   refine⟨l,r,_,_,rfl,rfl,s46 _ _ el3,err,by rw[List.length_map,List.length_map,List.length_replicate];exact line_le (by omega),?_⟩
   refine⟨_,_,_,rfl,Same.upd' hl (sm3.trans s46),?_⟩
   rw[upd_same,← List.map_append,show ((i+1:Nat):Int)=(i:Int)+1 by omega,hcut]
  ·rintro σ H2 ⟨v2,v3,v4,rfl,sm,el2⟩
   rw[List.length_map,cntL_len,List.filter_eq_self.mpr fun x hx=>by have:=htop x hx;simp;omega]at el2
   exact⟨_,rfl,k l H2 hl sm el2⟩
noncomputable abbrev s_sizes_by_rounds:Stmt:=top 16
theorem sc_sizes_by_rounds:FnScope ["row"] ["row"] (defScope s_sizes_by_rounds):=⟨rfl,rfl,rfl,by decide +kernel,rfl,by decide +kernel,by decide +kernel⟩
theorem ok_sizes_rounds {f:Addr} {fd:FuncData} (F:Fun K "sizes_by_rounds" "sizes_by_rounds" s_sizes_by_rounds f fd) (B:Bt mg) (F_rounds:FnAt P w K mg base "rounds" 4 ["row"] spRounds) (F_sizes_by_counts:FnAt P w K mg base "sizes_by_counts" 1 ["counts"] spCounts):FnOk P w K mg base CX0 5 f fd ["row"] spSizes:=by
 refine F.ok sc_sizes_by_rounds (fun vs H Q E h=>?_) (fun cdv A outer s H vs Q E hr h=>?_)
 ·obtain⟨a,r,ss,rfl,_⟩:=h
  rfl
 ·obtain⟨a,row,ss,rfl,ha,hz,hlen,k⟩:=h
  refine⟨_,(pss_one (ps_ret (pe_fn F_sizes_by_counts hr rfl (pa_cons (pe_fn F_rounds hr rfl (pa_cons (pv 0) pa_nil)) pa_nil)))),?_⟩
  refine⟨_,rfl,a,row,rfl,ha,hz.rowp,hlen,fun n hn _ l H1 hl g1 el=>?_⟩
  rw[hz.rounds n]at el
  exact⟨l,ss,n,rfl,el,hz.up,hz.pos,hz.top hn,hz.few hlen,fun l2 H2 hl2 g2 el2=>k l2 H2 (g1.free hl2) (g1.trans g2) el2⟩
noncomputable abbrev s_run_length:Stmt:=top 21
theorem sc_run_length:FnScope ["run"] ["run"] (defScope s_run_length):=⟨rfl,rfl,rfl,by decide +kernel,rfl,by decide +kernel,by decide +kernel⟩
theorem ok_run_length {f:Addr} {fd:FuncData} (F:Fun K "run_length" "run_length" s_run_length f fd) (B:Bt mg):FnOk P w K mg base CX0 1 f fd ["run"] spRunLen:=by
 refine F.ok sc_run_length (fun vs H Q E h=>?_) (fun cdv A outer s H vs Q E hr h=>?_)
 ·obtain⟨a,ps,rfl,_⟩:=h
  rfl
 ·obtain⟨a,ps,rfl,⟨us,ha,pr⟩,hl,kk⟩:=h
  refine⟨_,(pss_one (ps_ret (pe_callB (call_sum rfl) (by rfl) B.sum boot_sum (pa_cons (pe_comp ["first","last"] [] [] rfl (.of (show compOk (defScope s_run_length) _ ["run"] [] []=true by decide +kernel)) (pi_list (pv 0)) (fun _ _ _=>(pg_tupK (n:=2) K rfl rfl (pgs_cons (pg_name (i:=0) (show (["first","last"]:List Str).Nodup by decide +kernel) rfl (Or.inl rfl)) (pgs_cons (pg_name (i:=1) (show (["first","last"]:List Str).Nodup by decide +kernel) rfl (Or.inl rfl)) pgs_nil)))) (kg_tup (kgs_cons (by decide) (kgs_cons (by decide) kgs_nil))) (fun _ _ _=>pif_nil) (fun _ _ _=>(pe_op op_add (pe_op op_sub (pv 1) (pv 0)) pe_int))) pa_nil)))),?_⟩
  have e:us.length=ps.length:=pr.len
  refine⟨_,rfl,a,rfl,⟨_,SqL.of ha⟩,comp_list (K:=K) (a:=a) (xs:=us) (fun j ys H2=>H2=H∧ys=((ps.take j).map fun p=>p.2 - p.1+1).map V.int) ⟨rfl,rfl⟩ ?_ ?_ ?_⟩
  ·rintro j ys H2 hj ⟨rfl,rfl⟩
   exact⟨SqL.of ha,by rw[List.length_map,List.length_map,List.length_take];exact line_of (by omega)⟩
  ·rintro j x ys H2 hj ⟨rfl,rfl⟩
   obtain⟨q,t2,hq,rfl,et2⟩:=paired_at pr hj
   exact⟨t2,_,rfl,SqT.of et2,rfl,_,_,rfl,_,_,rfl,rfl,_,rfl,_,rfl,_,_,rfl,rfl,_,_,rfl,rfl,rfl,snoc_pairs (fun p=>p.2 - p.1+1) hq⟩
  rintro ys H2 ⟨rfl,rfl⟩ ll hll
  rw[e,List.take_length]
  exact⟨ll,_,rfl,upd_same,kk _ (Same.upd hll)⟩
noncomputable abbrev s_cut_run:Stmt:=top 22
theorem sc_cut_run:FnScope ["run","many","niches","rest","first","last","taken"] ["run","many"] (defScope s_cut_run):=⟨rfl,rfl,rfl,by decide +kernel,rfl,by decide +kernel,by decide +kernel⟩
inductive cutW (H0:Hp) (ps:Trs) (m:Int) (a n r:Addr) (i:Nat) (σ:St) (Hx:Hp):Prop
 | mk (v4 v5 v6:Option V) (us:List V) (h0_:σ=[some (.ref a),some (.int m),some (.ref n),some (.ref r),v4,v5,v6]) (h1_:Same H0 Hx) (h2_:Hx n=some (.lst ((cutF m (ps.take i)).1.map V.int))) (h3_:Hx r=some (.lst us)) (h4_:Prs Hx us (cutF m (ps.take i)).2):cutW H0 ps m a n r i σ Hx
theorem ok_cut_run {f:Addr} {fd:FuncData} (F:Fun K "cut_run" "cut_run" s_cut_run f fd) (B:Bt mg):FnOk P w K mg base CX0 1 f fd ["run","many"] spCutRun:=by
 refine F.ok sc_cut_run (fun vs H Q E h=>?_) (fun cdv A outer s H vs Q E hr h=>?_)
 ·obtain⟨a,ps,m,rfl,_⟩:=h
  rfl
 ·obtain⟨a,ps,m,rfl,⟨us,ha,pr⟩,hl,hrn,hm,kk⟩:=h
  refine⟨_,(pss_cons (ps_set (i:=2) sc_cut_run.nd rfl (Or.inl rfl) (pe_lst pa_nil))
 (pss_cons (ps_set (i:=3) sc_cut_run.nd rfl (Or.inl rfl) (pe_lst pa_nil))
 (pss_cons (ps_for PassesOwn.never rfl (pi_list (pv 0)) (pg_tup rfl (pgs_cons (pg_name (i:=4) sc_cut_run.nd rfl (Or.inl rfl)) (pgs_cons (pg_name (i:=5) sc_cut_run.nd rfl (Or.inl rfl)) pgs_nil)))
 (pss_cons (ps_set (i:=6) sc_cut_run.nd rfl (Or.inl rfl) (pe_callB (call_min2 rfl) (by rfl) B.min boot_min (pa_cons (pe_op op_add (pe_op op_sub (pv 5) (pv 4)) pe_int) (pa_cons (pe_op op_sub (pv 1) (pe_callB call_len_seq (by rfl) B.len PySem.boot_len (pa_cons (pv 2) pa_nil))) pa_nil))))
 (pss_cons (ps_expr (pe_bm PySem.F.plainAttrs_list PySem.F.slot_list_extend PySem.F.type_list_extend mt_extend (pv 2) (pa_cons (pe_callTy (call_list_rngA rfl) (by rfl) B.list boot_list (pa_cons (pe_range2 rfl B.range (pa_cons (pv 4) (pa_cons (pe_op op_add (pv 4) (pv 6)) pa_nil))) pa_nil)) pa_nil)))
 (pss_one (ps_if (pt_cmpR op_le (pe_op op_add (pv 4) (pv 6)) (pv 5) (nomark _))
 (pss_one (ps_expr (pe_bm PySem.F.plainAttrs_list PySem.F.slot_list_append PySem.F.type_list_append mt_append (pv 3) (pa_cons (pe_tup (pa_cons (pe_op op_add (pv 4) (pv 6)) (pa_cons (pv 5) pa_nil))) pa_nil))))
 pss_nil)))))
 (pss_one (ps_ret (pe_tup (pa_cons (pv 2) (pa_cons (pv 3) pa_nil)))))))),?_⟩
  have e:us.length=ps.length:=pr.len
  refine⟨by decide,fun n hn=>?_⟩
  have g1:=Same.upd (o:=.lst []) hn
  have en:(upd H n (.lst [])) n=some (.lst []):=upd_same
  generalize upd H n (.lst [])=H1 at g1 en ⊢
  refine⟨by decide,fun r hr'=>?_⟩
  have g2:=Same.upd (o:=.lst []) hr'
  have er:(upd H1 r (.lst [])) r=some (.lst []):=upd_same
  generalize upd H1 r (.lst [])=H2 at g2 er ⊢
  have nnr:n≠r:=fun z=>by rw[← z,en]at hr';cases hr'
  have fr:H r=none:=g1.free hr'
  refine⟨_,rfl,a,rfl,⟨_,SqL.of ((g1.trans g2) _ _ ha)⟩,for_list (K:=K) (a:=a) (xs:=us) (cutW H ps m a n r) ⟨none,none,none,[],rfl,g1.trans g2,g2 _ _ en,er,.nil⟩ (fun i σ Hx _ h=>?_) ?_ ?_⟩
  ·obtain⟨_,_,_,_,_,sm,_⟩:=h
   exact SqL.of (sm _ _ ha)
  ·rintro i x σ Hx hi ⟨v4,v5,v6,ws,rfl,sm,en2,er2,pr2⟩
   obtain⟨q,t',hq,rfl,et⟩:=paired_at pr hi
   have hil:i<ps.length:=(List.getElem?_eq_some_iff.mp hq).1
   have hqm:=List.mem_of_getElem? hq
   have hq1:=hrn q hqm
   have hts:ps.take (i+1)=ps.take i++[q]:=by rw[List.take_add_one,hq];rfl
   have CF:=cut_facts hm.1 (ps.take i) fun p hp=>hrn p (List.mem_of_mem_take hp)
   obtain⟨c0,c1,c2,c3,c4⟩:=CF
   have hst:cutF m (ps.take (i+1))=cutS m (cutF m (ps.take i)) q:=by rw[hts,cutF_snoc]
   generalize cutF m (ps.take i)=st at en2 er2 pr2 c1 c2 c3 c4 hst
   have hlr:ws.length=st.2.length:=pr2.len
   have hl4:st.2.length≤1000:=by rw[List.length_take]at c4;omega
   refine⟨t',_,rfl,SqT.of (sm _ _ et),rfl,_,_,rfl,_,_,rfl,rfl,?_⟩
   refine⟨_,rfl,_,rfl,_,_,rfl,rfl,_,_,rfl,rfl,_,rfl,_,rfl,n,_,rfl,.inl (SqL.of en2),_,_,rfl,rfl,_,_,rfl,?_⟩
   rw[List.length_map]
   obtain⟨tt,ett⟩:∃ tt,tt=tkn m st.1.length q:=⟨_,rfl⟩
   have ev:(if m - (st.1.length:Int)<q.2 - q.1+1 then m - (st.1.length:Int)else q.2 - q.1+1)=tt:=ett.symm
   have ht0:0≤tt∧tt≤1000:=by rw[← ev];split <;> omega
   have hst':cutF m (ps.take (i+1))=(st.1++rngL q.1 tt.toNat,st.2++(if q.1+tt≤q.2 then [(q.1+tt,q.2)]else [])):=by rw[hst];unfold cutS;rw[← ett]
   rw[show (V.int (if m - (st.1.length:Int)<q.2 - q.1+1 then m - (st.1.length:Int)else q.2 - q.1+1))=V.int tt from congrArg V.int ev]
   refine⟨_,rfl,.inl ⟨rfl,_,SqL.of en2⟩,_,rfl,_,rfl,_,rfl,_,_,rfl,rfl,_,_,rfl,fun rr hrr=>?_⟩
   have g3:=Same.upd (o:=.rng q.1 (q.1+tt)) hrr
   have err:(upd Hx rr (.rng q.1 (q.1+tt))) rr=some (.rng q.1 (q.1+tt)):=upd_same
   generalize upd Hx rr (.rng q.1 (q.1+tt))=H3 at g3 err ⊢
   refine⟨rr,_,_,rfl,err,by omega,fun ll hll=>?_⟩
   rw[show q.1+tt - q.1=tt by omega]
   have g4:=Same.upd (o:=.lst ((rngL q.1 tt.toNat).map V.int)) hll
   have ell:(upd H3 ll (.lst ((rngL q.1 tt.toNat).map V.int))) ll=some (.lst ((rngL q.1 tt.toNat).map V.int)):=upd_same
   generalize upd H3 ll (.lst ((rngL q.1 tt.toNat).map V.int))=H4 at g4 ell ⊢
   have g34:=g3.trans g4
   refine⟨n,ll,_,_,rfl,rfl,g34 _ _ en2,ell,?_,?_⟩
   ·rw[List.length_map,List.length_map,rngL_len]
    exact Nat.le_of_lt (line_of (by omega))
   rw[← List.map_append]
   have sm5:Same H (upd H4 n (.lst ((st.1++rngL q.1 tt.toNat).map V.int))):=Same.upd' hn (sm.trans g34)
   have en5:(upd H4 n (.lst ((st.1++rngL q.1 tt.toNat).map V.int))) n=some (.lst ((st.1++rngL q.1 tt.toNat).map V.int)):=upd_same
   have er5:(upd H4 n (.lst ((st.1++rngL q.1 tt.toNat).map V.int))) r=some (.lst ws):=by rw[upd_ne (Ne.symm nnr)];exact g34 _ _ er2
   have pr5:Prs (upd H4 n (.lst ((st.1++rngL q.1 tt.toNat).map V.int))) ws st.2:=pr2.mono ((TupS.same g34).trans (TupS.lst (g34 _ _ en2)))
   generalize upd H4 n (.lst ((st.1++rngL q.1 tt.toNat).map V.int))=H5 at sm5 en5 er5 pr5 ⊢
   refine⟨_,rfl,_,rfl,_,_,rfl,rfl,_,rfl,_,_,rfl,rfl,_,rfl,iteD (fun hc=>?_) (fun hc=>?_)⟩
   ·refine⟨_,rfl,.inl ⟨rfl,_,SqL.of er5⟩,_,rfl,_,rfl,_,_,rfl,rfl,_,rfl,(show 2≤sizeLine by decide),fun t ht=>?_⟩
    have g6:=Same.upd (o:=.tup [V.int (q.1+tt),V.int q.2]) ht
    have et6:(upd H5 t (.tup [V.int (q.1+tt),V.int q.2])) t=some (.tup [V.int (q.1+tt),V.int q.2]):=upd_same
    generalize upd H5 t (.tup [V.int (q.1+tt),V.int q.2])=H6 at g6 et6 ⊢
    refine⟨r,_,_,rfl,rfl,g6 _ _ er5,line_of (by omega),?_⟩
    refine⟨_,_,_,ws++[V.ref t],rfl,Same.upd' fr (sm5.trans g6),?_,upd_same,?_⟩
    ·rw[upd_ne nnr,g6 _ _ en5,hst']
    ·rw[hst',if_pos hc]
     exact Paired.append' (pr5.mono ((TupS.same g6).trans (TupS.lst (g6 _ _ er5)))) (.cons ⟨t,rfl,TupS.lst (g6 _ _ er5) _ _ et6⟩ .nil)
   ·refine⟨_,_,_,ws,rfl,sm5,by rw[en5,hst'],er5,?_⟩
    rw[hst',if_neg hc,List.append_nil]
    exact pr5
  ·rintro σ Hx ⟨v4,v5,v6,ws,rfl,sm,en2,er2,pr2⟩
   rw[e,List.take_length]at en2 pr2
   refine⟨_,rfl,_,rfl,(show 2≤sizeLine by decide),fun t ht=>?_⟩
   have g3:=Same.upd (o:=.tup [V.ref n,V.ref r]) ht
   exact kk t n r _ fr (sm.trans g3) upd_same (g3 _ _ en2) ⟨ws,g3 _ _ er2,pr2.mono (TupS.same g3)⟩
noncomputable abbrev s_found_run:Stmt:=top 20
theorem sc_found_run:FnScope ["runs","at"] ["runs"] (defScope s_found_run):=⟨rfl,rfl,rfl,by decide +kernel,rfl,by decide +kernel,by decide +kernel⟩
inductive fndW (H0:Hp) (a:Addr) (n:Nat) (m:Nat) (σ:St) (Hx:Hp):Prop
 | mk (j:Nat) (h0_:σ=[some (.ref a),some (.int j)]) (h1_:Same H0 Hx) (h2_:1≤j) (h3_:j≤n) (h4_:m=n - j):fndW H0 a n m σ Hx
theorem ok_found_run {f:Addr} {fd:FuncData} (F:Fun K "found_run" "found_run" s_found_run f fd) (B:Bt mg) (F_run_length:FnAt P w K mg base "run_length" 1 ["run"] spRunLen):FnOk P w K mg base CX0 2 f fd ["runs"] spFoundRun:=by
 refine F.ok sc_found_run (fun vs H Q E h=>?_) (fun cdv A outer s H vs Q E hr h=>?_)
 ·obtain⟨a,rs,n,rfl,_⟩:=h
  rfl
 ·obtain⟨a,rs,n,rfl,⟨us,ha,pr⟩,hl,hpl,hF,kk⟩:=h
  refine⟨_,(pss_cons (ps_set (i:=1) sc_found_run.nd rfl (Or.inl rfl) pe_int)
 (pss_cons (ps_while PassesOwn.never (pt_cmpR op_lt (pe_fn F_run_length hr rfl (pa_cons (pe_ix ix_list (pv 0) (pv 1) (fun _ _=>rfl)) pa_nil)) (pe_fn F_run_length hr rfl (pa_cons (pe_ix ix_list (pv 0) (pe_op op_sub (pv 1) pe_int) (fun _ _=>rfl)) pa_nil)) (nomark _))
 (pss_one (ps_aug (i:=1) sc_found_run.nd rfl (Or.inl rfl) pe_int ip_add)))
 (pss_one (ps_ret (pv 1))))),?_⟩
  obtain⟨hF1,hF2,hF3,hF4⟩:=hF
  refine⟨fndW H a n,⟨n - 1,1,rfl,Same.refl _,Nat.le_refl _,hF1,rfl⟩,?_⟩
  rintro m σ H1 ⟨j,rfl,sm,hj1,hjn,rfl⟩
  have hj:j<rs.length:=by omega
  have get:∀ i:Nat,i<rs.length→∃ b ps,atI us (i:Int)=some (.ref b)∧LP H b ps∧rlen ps=rl rs i∧ps.length≤1000:=fun i hi=>by
   obtain⟨v,h1,b,rfl,h2⟩:=runs_at (i:=i) (r:=rs[i]) pr (List.getElem?_eq_getElem hi)
   exact⟨b,rs[i],atI_nat h1,h2,by unfold rl;rw[List.getD_eq_getElem?_getD,List.getElem?_eq_getElem hi];rfl,hpl _ (List.getElem_mem hi)⟩
  obtain⟨b1,p1,a1,l1,e1,k1⟩:=get j hj
  obtain⟨b2,p2,a2,l2,e2,k2⟩:=get (j - 1) (by omega)
  have ej:((j - 1:Nat):Int)=(j:Int) - 1:=by omega
  rw[ej]at a2
  refine⟨_,rfl,_,rfl,a,_,_,_,rfl,rfl,SqL.of (sm _ _ ha),a1,b1,p1,rfl,l1.mono sm,k1,fun H2 g2=>?_⟩
  have s2:=sm.trans g2
  refine⟨_,rfl,_,rfl,_,_,rfl,rfl,a,_,_,_,rfl,rfl,SqL.of (s2 _ _ ha),a2,b2,p2,rfl,l2.mono s2,k2,fun H3 g3=>?_⟩
  have s3:=s2.trans g3
  refine⟨_,_,rfl,rfl,_,rfl,?_⟩
  rw[e1,e2]
  by_cases hjn':j=n
  ·subst hjn'
   rw[decide_eq_false (by omega)]
   exact⟨_,rfl,kk _ s3⟩
  ·rw[decide_eq_true (hF4 j hj1 (by omega))]
   refine⟨fun σ' H'=>∃ m',m'<n - j∧fndW H a n m' σ' H',fun σ' H' h=>h,?_⟩
   refine⟨_,rfl,_,_,rfl,rfl,n - (j+1),by omega,j+1,rfl,s3,by omega,by omega,rfl⟩
noncomputable abbrev s_road_runs:Stmt:=top 19
theorem sc_road_runs:FnScope ["row","runs","niche","first","last"] ["row"] (defScope s_road_runs):=⟨rfl,rfl,rfl,by decide +kernel,rfl,by decide +kernel,by decide +kernel⟩
inductive roadW (H0:Hp) (row:List Int) (ps:Trs) (a r:Addr) (i:Nat) (σ:St) (Hx:Hp):Prop
 | mk (v3 v4:Option V) (us:List V) (h0_:σ=[some (.ref a),some (.ref r),some (.int (roadN row (ps.take i)).2),v3,v4]) (h1_:Same H0 Hx) (h2_:Hx r=some (.lst us)) (h3_:Paired (RunV r Hx) us (roadN row (ps.take i)).1):roadW H0 row ps a r i σ Hx
theorem ok_road_runs {f:Addr} {fd:FuncData} (F:Fun K "road_runs" "road_runs" s_road_runs f fd) (B:Bt mg) (F_stretches:FnAt P w K mg base "stretches" 2 ["row"] spStretches):FnOk P w K mg base CX0 3 f fd ["row"] spRoad:=by
 refine F.ok sc_road_runs (fun vs H Q E h=>?_) (fun cdv A outer s H vs Q E hr h=>?_)
 ·obtain⟨a,row,rfl,_⟩:=h
  rfl
 ·obtain⟨a,row,rfl,ha,hrow,h60,kk⟩:=h
  refine⟨_,(pss_cons (ps_set (i:=1) sc_road_runs.nd rfl (Or.inl rfl) (pe_lst pa_nil))
 (pss_cons (ps_set (i:=2) sc_road_runs.nd rfl (Or.inl rfl) (pe_op op_sub (pe_op op_sub (pe_mindef rfl rfl B.min (pv 0) pe_int) (pe_callB call_len_seq (by rfl) B.len PySem.boot_len (pa_cons (pv 0) pa_nil))) pe_int))
 (pss_cons (ps_for PassesOwn.never rfl (pi_list (pe_fn F_stretches hr rfl (pa_cons (pv 0) pa_nil))) (pg_tup rfl (pgs_cons (pg_name (i:=3) sc_road_runs.nd rfl (Or.inl rfl)) (pgs_cons (pg_name (i:=4) sc_road_runs.nd rfl (Or.inl rfl)) pgs_nil)))
 (pss_cons (ps_expr (pe_bm PySem.F.plainAttrs_list PySem.F.slot_list_append PySem.F.type_list_append mt_append (pv 1) (pa_cons (pe_lst (pa_cons (pe_tup (pa_cons (pv 2) (pa_cons (pe_op op_sub (pv 3) pe_int) pa_nil))) pa_nil)) pa_nil)))
 (pss_cons (ps_expr (pe_bm PySem.F.plainAttrs_list PySem.F.slot_list_append PySem.F.type_list_append mt_append (pv 1) (pa_cons (pe_lst (pa_cons (pe_tup (pa_cons (pv 3) (pa_cons (pv 4) pa_nil))) pa_nil)) pa_nil)))
 (pss_one (ps_set (i:=2) sc_road_runs.nd rfl (Or.inl rfl) (pe_op op_add (pv 4) pe_int))))))
 (pss_cons (ps_expr (pe_bm PySem.F.plainAttrs_list PySem.F.slot_list_append PySem.F.type_list_append mt_append (pv 1) (pa_cons (pe_lst (pa_cons (pe_tup (pa_cons (pv 2) (pa_cons (pe_op op_sub (pe_op op_add (pv 2) (pe_callB call_len_seq (by rfl) B.len PySem.boot_len (pa_cons (pv 0) pa_nil))) pe_int) pa_nil))) pa_nil)) pa_nil)))
 (pss_one (ps_ret (pv 1))))))),?_⟩
  refine⟨by decide,fun r hr'=>?_⟩
  have g1:=Same.upd (o:=.lst []) hr'
  have er:(upd H r (.lst [])) r=some (.lst []):=upd_same
  generalize upd H r (.lst [])=H1 at g1 er ⊢
  refine⟨_,rfl,a,row,rfl,SqL.of (g1 _ _ ha),_,rfl,a,_,rfl,.inl (SqL.of (g1 _ _ ha)),?_⟩
  rw[mnD_lo]
  refine⟨_,_,rfl,rfl,_,_,rfl,rfl,?_⟩
  refine⟨_,rfl,a,row,rfl,g1 _ _ ha,hrow,h60,fun ls ws H2 hls g2 els prs=>?_⟩
  have s2:=g1.trans g2
  have el:ws.length=(runsM row).length:=prs.len
  have hrl:=runsM_len row
  have nlr:ls≠r:=fun e=>by rw[e,er]at hls;cases hls
  refine⟨ls,rfl,⟨_,SqL.of els⟩,for_list (K:=K) (a:=ls) (xs:=ws) (fun i σ Hx=>roadW H row (runsM row) a r i σ Hx∧Hx ls=some (.lst ws)∧Prs Hx ws (runsM row)) ⟨⟨none,none,[],?_,s2,g2 _ _ er,.nil⟩,els,prs⟩ (fun i σ Hx _ h=>SqL.of h.2.1) ?_ ?_⟩
  ·rw[List.length_map];rfl
  ·rintro i x σ Hx hi ⟨⟨v3,v4,us,rfl,sm,er2,pv⟩,els2,prs2⟩
   obtain⟨q,t',hq,rfl,et⟩:=paired_at prs2 hi
   have hil:i<(runsM row).length:=(List.getElem?_eq_some_iff.mp hq).1
   have hts:(runsM row).take (i+1)=(runsM row).take i++[q]:=by rw[List.take_add_one,hq];rfl
   have hst:roadN row ((runsM row).take (i+1))=roadS (roadN row ((runsM row).take i)) q:=by rw[hts,roadN_snoc]
   have hl1:=roadN_len row ((runsM row).take i)
   rw[List.length_take]at hl1
   have hul:us.length=(roadN row ((runsM row).take i)).1.length:=runs_len' pv
   generalize roadN row ((runsM row).take i)=st at pv hst hl1 hul ⊢
   refine⟨t',_,rfl,SqT.of et,rfl,_,_,rfl,_,_,rfl,rfl,?_⟩
   refine⟨_,rfl,.inl ⟨rfl,_,SqL.of er2⟩,_,rfl,_,rfl,_,_,rfl,rfl,(show 2≤sizeLine by decide),fun t1 ht1=>?_⟩
   have g3:=Same.upd (o:=.tup [V.int st.2,V.int (q.1 - 1)]) ht1
   have et1:(upd Hx t1 (.tup [V.int st.2,V.int (q.1 - 1)])) t1=some (.tup [V.int st.2,V.int (q.1 - 1)]):=upd_same
   generalize upd Hx t1 (.tup [V.int st.2,V.int (q.1 - 1)])=H3 at g3 et1 ⊢
   refine⟨(show 1≤sizeLine by decide),fun b1 hb1=>?_⟩
   have g4:=Same.upd (o:=.lst [V.ref t1]) hb1
   have eb1:(upd H3 b1 (.lst [V.ref t1])) b1=some (.lst [V.ref t1]):=upd_same
   generalize upd H3 b1 (.lst [V.ref t1])=H4 at g4 eb1 ⊢
   have g34:=g3.trans g4
   have er4:=g34 _ _ er2
   have nb1:b1≠r:=fun e=>by rw[e,g3 _ _ er2]at hb1;cases hb1
   have pv4:Paired (RunV r H4) (us++[V.ref b1]) (st.1++[[(st.2,q.1 - 1)]]):=Paired.append' (pv.mono fun _ _ h=>h.same g34) (.cons ⟨b1,rfl,nb1,_,eb1,.cons ⟨t1,rfl,g4 _ _ et1⟩ .nil⟩ .nil)
   refine⟨r,_,_,rfl,rfl,er4,line_of (by omega),?_⟩
   have sm5:Same H (upd H4 r (.lst (us++[V.ref b1]))):=Same.upd' hr' (sm.trans g34)
   have er5:(upd H4 r (.lst (us++[V.ref b1]))) r=some (.lst (us++[V.ref b1])):=upd_same
   have pv5:Paired (RunV r (upd H4 r (.lst (us++[V.ref b1])))) (us++[V.ref b1]) (st.1++[[(st.2,q.1 - 1)]]):=pv4.mono fun _ _ h=>RunV.upd er4 h
   have els5:(upd H4 r (.lst (us++[V.ref b1]))) ls=some (.lst ws):=by rw[upd_ne nlr];exact g34 _ _ els2
   have prs5:Prs (upd H4 r (.lst (us++[V.ref b1]))) ws (runsM row):=prs2.mono ((TupS.same g34).trans (TupS.lst er4))
   generalize upd H4 r (.lst (us++[V.ref b1]))=H5 at sm5 er5 pv5 els5 prs5 ⊢
   refine⟨_,rfl,.inl ⟨rfl,_,SqL.of er5⟩,_,rfl,_,rfl,(show 2≤sizeLine by decide),fun t2 ht2=>?_⟩
   have g6:=Same.upd (o:=.tup [V.int q.1,V.int q.2]) ht2
   have et2:(upd H5 t2 (.tup [V.int q.1,V.int q.2])) t2=some (.tup [V.int q.1,V.int q.2]):=upd_same
   generalize upd H5 t2 (.tup [V.int q.1,V.int q.2])=H6 at g6 et2 ⊢
   refine⟨(show 1≤sizeLine by decide),fun b2 hb2=>?_⟩
   have g7:=Same.upd (o:=.lst [V.ref t2]) hb2
   have eb2:(upd H6 b2 (.lst [V.ref t2])) b2=some (.lst [V.ref t2]):=upd_same
   generalize upd H6 b2 (.lst [V.ref t2])=H7 at g7 eb2 ⊢
   have g67:=g6.trans g7
   have er7:=g67 _ _ er5
   have nb2:b2≠r:=fun e=>by rw[e,g6 _ _ er5]at hb2;cases hb2
   have pv7:Paired (RunV r H7) (us++[V.ref b1]++[V.ref b2]) (st.1++[[(st.2,q.1 - 1)]]++[[q]]):=Paired.append' (pv5.mono fun _ _ h=>h.same g67) (.cons ⟨b2,rfl,nb2,_,eb2,.cons ⟨t2,rfl,g7 _ _ et2⟩ .nil⟩ .nil)
   refine⟨r,_,_,rfl,rfl,er7,line_of (by rw[List.length_append];show us.length+1≤10000;omega),?_⟩
   refine⟨_,rfl,_,_,rfl,rfl,⟨some (.int q.1),some (.int q.2),_,?_,Same.upd' hr' (sm5.trans g67),upd_same,?_⟩,by rw[upd_ne nlr];exact g67 _ _ els5,prs5.mono ((TupS.same g67).trans (TupS.lst er7))⟩
   ·rw[hst];rfl
   ·rw[hst]
    have e2:(roadS st q).1=st.1++[[(st.2,q.1 - 1)]]++[[q]]:=by unfold roadS;rw[List.append_assoc];rfl
    rw[e2]
    exact pv7.mono fun _ _ h=>RunV.upd er7 h
  ·rintro σ Hx ⟨⟨v3,v4,us,rfl,sm,er2,pv⟩,els2,prs2⟩
   rw[el,List.take_length]at pv
   have hl1:=roadN_len row (runsM row)
   have hul:us.length=(roadN row (runsM row)).1.length:=runs_len' pv
   rw[el,List.take_length]
   obtain⟨st,est⟩:∃ st,st=roadN row (runsM row):=⟨_,rfl⟩
   rw[← est]at pv hl1 hul ⊢
   refine⟨_,rfl,.inl ⟨rfl,_,SqL.of er2⟩,_,rfl,_,rfl,_,rfl,a,_,rfl,.inl (SqL.of (sm _ _ ha)),_,_,rfl,rfl,_,_,rfl,rfl,(show 2≤sizeLine by decide),fun t1 ht1=>?_⟩
   rw[List.length_map]
   have g3:=Same.upd (o:=.tup [V.int st.2,V.int (st.2+(row.length:Int) - 1)]) ht1
   have et1:(upd Hx t1 (.tup [V.int st.2,V.int (st.2+(row.length:Int) - 1)])) t1=some (.tup [V.int st.2,V.int (st.2+(row.length:Int) - 1)]):=upd_same
   generalize upd Hx t1 (.tup [V.int st.2,V.int (st.2+(row.length:Int) - 1)])=H3 at g3 et1 ⊢
   refine⟨(show 1≤sizeLine by decide),fun b1 hb1=>?_⟩
   have g4:=Same.upd (o:=.lst [V.ref t1]) hb1
   have eb1:(upd H3 b1 (.lst [V.ref t1])) b1=some (.lst [V.ref t1]):=upd_same
   generalize upd H3 b1 (.lst [V.ref t1])=H4 at g4 eb1 ⊢
   have g34:=g3.trans g4
   have er4:=g34 _ _ er2
   have nb1:b1≠r:=fun e=>by rw[e,g3 _ _ er2]at hb1;cases hb1
   have pv4:Paired (RunV r H4) (us++[V.ref b1]) (st.1++[[(st.2,st.2+(row.length:Int) - 1)]]):=Paired.append' (pv.mono fun _ _ h=>h.same g34) (.cons ⟨b1,rfl,nb1,_,eb1,.cons ⟨t1,rfl,g4 _ _ et1⟩ .nil⟩ .nil)
   refine⟨r,_,_,rfl,rfl,er4,line_of (by omega),?_⟩
   refine⟨_,rfl,kk r _ hr' (Same.upd' hr' (sm.trans g34)) ⟨_,upd_same,?_⟩⟩
   have e2:roadF row=st.1++[[(st.2,st.2+(row.length:Int) - 1)]]:=by rw[est];rfl
   rw[e2]
   exact pv4.mono fun _ _ h=>by
    obtain⟨b,k1,_,k3⟩:=RunV.upd (ys:=us++[V.ref b1]) er4 h
    exact⟨b,k1,k3⟩
noncomputable abbrev s_heads:Stmt:=top 18
theorem sc_heads:FnScope ["row","runs","pairs","at","size","ahead","found","rest"] ["row"] (defScope s_heads):=⟨rfl,rfl,rfl,by decide +kernel,rfl,by decide +kernel,by decide +kernel⟩
inductive hdW (H0:Hp) (a lp:Addr) (rs0:List Trs) (m:Nat) (σ:St) (Hx:Hp):Prop
 | mk (lr:Addr) (rs:List Trs) (us:List V) (v3 v4 v5 v6 v7:Option V) (h0_:σ=[some (.ref a),some (.ref lr),some (.ref lp),v3,v4,v5,v6,v7]) (h1_:Same H0 Hx) (h2_:RunsAp lp Hx lr rs) (h3_:rs.length=1∨HI rs) (h4_:stoR false rs≤60) (h5_:Hx lp=some (.lst us)) (its:List LL) (h6_:Paired (IsPp Hx) us its) (h7_:2 * us.length+rs.length≤121) (h8_:∀ more,HdR rs more→HdR rs0 (its++more)) (h9_:(rs.map List.length).sum≤200) (h10_:m=rs.length):hdW H0 a lp rs0 m σ Hx
theorem len_sum {rs:List Trs} {r:Trs} (h:r∈rs):r.length≤(rs.map List.length).sum:=by
 induction rs with
 | nil=>cases h
 | cons a t ih =>
  simp only[List.map_cons,List.sum_cons]
  rcases List.mem_cons.mp h with rfl | h
  ·omega
  ·have:=ih h;omega
theorem ok_heads {f c PT:Addr} {fd:FuncData} (F:FunC K "heads" "heads" s_heads f fd c) (hC:PySem.W.CodeHd base c PT) (hbm:BMain mg base) (B:Bt mg) (F_road_runs:FnAt P w K mg base "road_runs" 3 ["row"] spRoad) (F_found_run:FnAt P w K mg base "found_run" 2 ["runs"] spFoundRun) (F_run_length:FnAt P w K mg base "run_length" 1 ["run"] spRunLen) (F_cut_run:FnAt P w K mg base "cut_run" 1 ["run","many"] spCutRun):FnOk P w K mg base CX0 5 f fd ["row"] (spHeadsG PT ⟨109,29,109,62⟩):=by
 refine F.ok sc_heads (fun vs H Q E h=>?_) (fun A outer s H vs Q E hr h=>?_)
 ·obtain⟨a,row,rfl,_⟩:=h
  rfl
 ·obtain⟨a,row,rfl,ha,hrow,h60,hPT,kk⟩:=h
  refine⟨_,(pss_cons (ps_set (i:=1) sc_heads.nd rfl (Or.inl rfl) (pe_fn F_road_runs hr rfl (pa_cons (pv 0) pa_nil)))
 (pss_cons (ps_set (i:=2) sc_heads.nd rfl (Or.inl rfl) (pe_lst pa_nil))
 (pss_cons (ps_while PassesOwn.never (pt_cmpR op_gt (pe_callB call_len_seq (by rfl) B.len PySem.boot_len (pa_cons (pv 1) pa_nil)) pe_int (nomark _))
 (pss_cons (ps_set (i:=3) sc_heads.nd rfl (Or.inl rfl) (pe_fn F_found_run hr rfl (pa_cons (pv 1) pa_nil)))
 (pss_cons (ps_set (i:=4) sc_heads.nd rfl (Or.inl rfl) (pe_fn F_run_length hr rfl (pa_cons (pe_ix ix_list (pv 1) (pe_op op_sub (pv 3) pe_int) (fun _ _=>rfl)) pa_nil)))
 (pss_cons (ps_set (i:=5) sc_heads.nd rfl (Or.inl rfl) (pe_ix ix_tup (pe_fn F_cut_run hr rfl (pa_cons (pe_ix ix_list (pv 1) (pe_op op_sub (pv 3) pe_int) (fun _ _=>rfl)) (pa_cons (pv 4) pa_nil))) pe_int (fun _ _=>rfl)))
 (pss_cons (ps_asg (pe_fn F_cut_run hr rfl (pa_cons (pe_ix ix_list (pv 1) (pv 3) (fun _ _=>rfl)) (pa_cons (pv 4) pa_nil))) (pg_tup rfl (pgs_cons (pg_name (i:=6) sc_heads.nd rfl (Or.inl rfl)) (pgs_cons (pg_name (i:=7) sc_heads.nd rfl (Or.inl rfl)) pgs_nil))))
 (pss_cons (ps_expr (pe_bm PySem.F.plainAttrs_list PySem.F.slot_list_append PySem.F.type_list_append mt_append (pv 2) (pa_cons (pe_cut (pe_ifExp (pt_cmpR op_eqI (pe_op op_mod (pv 3) pe_int) pe_int (nomark _)) (pe_tup (pa_cons (pe_callTy call_tuple_of (by rfl) B.tuple boot_tuple (pa_cons (pv 5) pa_nil)) (pa_cons (pe_callTy call_tuple_of (by rfl) B.tuple boot_tuple (pa_cons (pv 6) pa_nil)) pa_nil))) (pe_tup (pa_cons (pe_callTy call_tuple_of (by rfl) B.tuple boot_tuple (pa_cons (pv 6) pa_nil)) (pa_cons (pe_callTy call_tuple_of (by rfl) B.tuple boot_tuple (pa_cons (pv 5) pa_nil)) pa_nil))))) pa_nil)))
 (pss_one (ps_set (i:=1) sc_heads.nd rfl (Or.inl rfl) (pe_op op_cat (pe_op op_cat (pe_slice sl_list (pv 1) po_none (po_some (pe_op op_sub (pv 3) pe_int))) (pe_lst (pa_cons (pe_op op_cat (pe_ix ix_list (pv 1) (pe_op op_sub (pv 3) pe_int) (fun _ _=>rfl)) (pv 7)) pa_nil))) (pe_slice sl_list (pv 1) (po_some (pe_op op_add (pv 3) pe_int)) po_none))))))))))
 (pss_one (ps_ret (pe_sortL (k:=1) (x:="pair") (N:=["pair"]) hr (by rfl) B.sorted (pv 2) ⟨rfl,rfl,rfl⟩ rfl hC hbm rfl rfl ⟨rfl,rfl,rfl,(show (["pair"]:List Str).Nodup by decide +kernel),rfl,(fun y hy=>by rw[List.mem_singleton.mp hy];exact Or.inl rfl),by decide +kernel⟩ (fun _ _ _ _=>rfl) (fun _ _ _ _ _ _ _ hr=>(pe_tup (pa_cons (pe_callB (call_len_seqK K rfl) (by rfl) B.len PySem.boot_len (pa_cons (pe_ix (ix_tupK K rfl) (pv 0) pe_int (fun _ _=>rfl)) pa_nil)) (pa_cons (pv 0) pa_nil)))))))))),?_⟩
  refine⟨_,rfl,a,row,rfl,ha,hrow,h60,fun lr0 H1 hlr0 g1 RA=>?_⟩
  refine⟨by decide,fun lp hlp=>?_⟩
  have g2:=Same.upd (o:=.lst []) hlp
  have elp:(upd H1 lp (.lst [])) lp=some (.lst []):=upd_same
  generalize upd H1 lp (.lst [])=H2 at g2 elp ⊢
  have s2:=g1.trans g2
  have flp:H lp=none:=g1.free hlp
  have R2:RunsAp lp H2 lr0 (roadF row):=by
   obtain⟨vs,h0,h1⟩:=RA
   refine⟨vs,(fun e=>by rw[e,hlp]at h0;cases h0),g2 _ _ h0,h1.mono fun v ps hb=>?_⟩
   obtain⟨b,e,l⟩:=hb
   refine⟨b,e,fun e'=>?_,l.mono g2⟩
   obtain⟨us,l1,_⟩:=l
   rw[e',hlp]at l1
   cases l1
  have hlo:∀ x∈row,loM row≤x:=loM_le row
  refine⟨hdW H a lp (roadF row),⟨_,lr0,roadF row,[],none,none,none,none,none,rfl,s2,R2,?_,?_,elp,[],.nil,?_,fun more h=>h,?_,rfl⟩,?_⟩
  ·rcases road_HI hrow hlo with h | h
   ·exact .inl h
   ·exact .inr h.1
  ·rcases road_HI hrow hlo with h | h
   ·exact stoR_one h
   ·omega
  ·have:=roadF_len row
   show 2 * 0+(roadF row).length≤121
   omega
  ·have:=roadF_parts row;omega
  clear RA R2 g1 g2 elp s2 hlr0
  rintro m σ Hx ⟨lr,rs,us,v3,v4,v5,v6,v7,rfl,sm,RP,hI,hst,elp,its,hus,hcnt,hbd,hpt,rfl⟩
  obtain⟨vs,nlr,elr,pr⟩:=RP
  have hvl:vs.length=rs.length:=runs_len' pr
  refine⟨_,rfl,lr,_,rfl,.inl (SqL.of elr),_,_,rfl,rfl,_,rfl,?_⟩
  by_cases hl1:1<rs.length
  ·rw[decide_eq_true (show (1:Int)<(vs.length:Int)by omega)]
   refine⟨fun σ' H'=>∃ m',m'<rs.length∧hdW H a lp (roadF row) m' σ' H',fun σ' H' h=>h,?_⟩
   have hI':HI rs:=hI.resolve_left (by omega)
   obtain⟨n,hF,hn2⟩:=hI'.found hl1
   obtain⟨A',x,y,z,B',ers,hA⟩:=split3 hn2 hF.few
   have get:∀ (i:Nat) (r:Trs),rs[i]?=some r→∃ b,atI vs (i:Int)=some (.ref b)∧b≠lp∧LP Hx b r:=fun i r hi=>by
    obtain⟨v,h1,b,rfl,h2,h3⟩:=runs_at pr hi
    exact⟨b,atI_nat h1,h2,h3⟩
   have ix:rs[n - 2]?=some x:=by rw[ers,← hA];simp
   have iy:rs[n - 1]?=some y:=by rw[ers,show n - 1=A'.length+1 by omega];simp
   have iz:rs[n]?=some z:=by rw[ers,show n=A'.length+2 by omega];simp
   obtain⟨bx,ax,nx,Lx⟩:=get _ _ ix
   obtain⟨by',ay,ny,Ly⟩:=get _ _ iy
   obtain⟨bz,az,nz,Lz⟩:=get _ _ iz
   have mx:=List.mem_of_getElem? ix
   have my:=List.mem_of_getElem? iy
   have mz:=List.mem_of_getElem? iz
   have ely:=len_sum my
   have elz:=len_sum mz
   have elx:=len_sum mx
   have ryz:rlen y≤rlen z:=by
    have h1:=hF.ge
    unfold rl at h1
    rw[List.getD_eq_getElem?_getD,List.getD_eq_getElem?_getD,iy,iz]at h1
    exact h1
   have rny:=hI'.rn y my
   have rnz:=hI'.rn z mz
   have y0:=rlen_nn rny
   have y60:rlen y≤60:=by
    have k1:rl rs (n - 1)=rlen y:=by unfold rl;rw[List.getD_eq_getElem?_getD,iy];rfl
    have k2:rl rs n=rlen z:=by unfold rl;rw[List.getD_eq_getElem?_getD,iz];rfl
    rcases Nat.mod_two_eq_zero_or_one n with h | h
    ·have:=hI'.le (i:=n - 1) (by have:=hF.few;omega) (by omega)
     omega
    ·have:=hI'.le (i:=n) hF.few h
     omega
   have en1:((n - 1:Nat):Int)=(n:Int) - 1:=by omega
   have en2:((n - 2:Nat):Int)=(n:Int) - 2:=by omega
   rw[en1]at ay
   rw[en2]at ax
   refine⟨_,rfl,lr,rs,n,rfl,⟨vs,elr,pr.mono fun _ _ ⟨b,e,_,l⟩=>⟨b,e,l⟩⟩,by omega,(fun ps hps=>by have:=len_sum hps;omega),hF,fun H1 g1=>?_⟩
   refine⟨_,rfl,_,rfl,_,_,rfl,rfl,lr,_,_,_,rfl,rfl,SqL.of (g1 _ _ elr),ay,by',y,rfl,Ly.mono g1,by omega,fun H2 g2=>?_⟩
   have t2:=g1.trans g2
   refine⟨_,rfl,_,rfl,_,_,rfl,rfl,lr,_,_,_,rfl,rfl,SqL.of (t2 _ _ elr),ay,_,rfl,by',y,rlen y,rfl,Ly.mono t2,by omega,rny,⟨y0,by omega⟩,fun q1 l1 l2 H3 _ g3 eq1 el1 _=>?_⟩
   have t3:=t2.trans g3
   refine⟨q1,_,_,_,rfl,rfl,SqT.of eq1,rfl,?_⟩
   refine⟨_,rfl,_,rfl,lr,_,_,_,rfl,rfl,SqL.of (t3 _ _ elr),az,_,rfl,bz,z,rlen y,rfl,Lz.mono t3,by omega,rnz,⟨y0,by omega⟩,fun q2 l3 l4 H4 hl4 g4 eq2 el3 Lr=>?_⟩
   have t4:=t3.trans g4
   refine⟨q2,_,rfl,SqT.of eq2,rfl,_,_,rfl,_,_,rfl,rfl,?_⟩
   have elp4:=t4 _ _ elp
   refine⟨_,rfl,.inl ⟨rfl,_,SqL.of elp4⟩,fun v Hc=>∃ t,v=.ref t∧IsPp Hc (.ref t) (hdPair n y z)∧Same H4 Hc,?_,?_⟩
   ·refine⟨_,rfl,_,_,rfl,rfl,(by show (0:Int)<2;decide),_,_,rfl,rfl,_,rfl,iteD (fun hc=>?_) (fun hc=>?_)⟩
    ·skip
     refine⟨_,rfl,l1,_,rfl,.inl ⟨SqL.of (g4 _ _ el1),fun w1 hw1=>?_⟩⟩
     have k1:=Same.upd (o:=.tup ((cutF (rlen y) y).1.map V.int)) hw1
     have ew1:(upd H4 w1 (.tup ((cutF (rlen y) y).1.map V.int))) w1=some (.tup ((cutF (rlen y) y).1.map V.int)):=upd_same
     generalize upd H4 w1 (.tup ((cutF (rlen y) y).1.map V.int))=H5 at k1 ew1 ⊢
     refine⟨_,rfl,l3,_,rfl,.inl ⟨SqL.of (k1 _ _ (el3)),fun w2 hw2=>?_⟩⟩
     have k2:=Same.upd (o:=.tup ((cutF (rlen y) z).1.map V.int)) hw2
     have ew2:(upd H5 w2 (.tup ((cutF (rlen y) z).1.map V.int))) w2=some (.tup ((cutF (rlen y) z).1.map V.int)):=upd_same
     generalize upd H5 w2 (.tup ((cutF (rlen y) z).1.map V.int))=H6 at k2 ew2 ⊢
     refine⟨(show 2≤sizeLine by decide),fun w3 hw3=>?_⟩
     have k3:=Same.upd (o:=.tup [V.ref w1,V.ref w2]) hw3
     exact⟨w3,rfl,(by unfold hdPair;rw[if_pos (by omega)];exact⟨w3,_,_,rfl,upd_same,⟨w1,rfl,(k2.trans k3) _ _ ew1⟩,⟨w2,rfl,k3 _ _ ew2⟩⟩),(k1.trans k2).trans k3⟩
    ·skip
     refine⟨_,rfl,l3,_,rfl,.inl ⟨SqL.of (el3),fun w1 hw1=>?_⟩⟩
     have k1:=Same.upd (o:=.tup ((cutF (rlen y) z).1.map V.int)) hw1
     have ew1:(upd H4 w1 (.tup ((cutF (rlen y) z).1.map V.int))) w1=some (.tup ((cutF (rlen y) z).1.map V.int)):=upd_same
     generalize upd H4 w1 (.tup ((cutF (rlen y) z).1.map V.int))=H5 at k1 ew1 ⊢
     refine⟨_,rfl,l1,_,rfl,.inl ⟨SqL.of (k1 _ _ (g4 _ _ el1)),fun w2 hw2=>?_⟩⟩
     have k2:=Same.upd (o:=.tup ((cutF (rlen y) y).1.map V.int)) hw2
     have ew2:(upd H5 w2 (.tup ((cutF (rlen y) y).1.map V.int))) w2=some (.tup ((cutF (rlen y) y).1.map V.int)):=upd_same
     generalize upd H5 w2 (.tup ((cutF (rlen y) y).1.map V.int))=H6 at k2 ew2 ⊢
     refine⟨(show 2≤sizeLine by decide),fun w3 hw3=>?_⟩
     have k3:=Same.upd (o:=.tup [V.ref w1,V.ref w2]) hw3
     exact⟨w3,rfl,(by unfold hdPair;rw[if_neg (by omega)];exact⟨w3,_,_,rfl,upd_same,⟨w1,rfl,(k2.trans k3) _ _ ew1⟩,⟨w2,rfl,k3 _ _ ew2⟩⟩),(k1.trans k2).trans k3⟩
   rintro v Hc ⟨t,rfl,ipr,g5⟩
   have t5:=t4.trans g5
   refine⟨lp,_,_,rfl,rfl,g5 _ _ elp4,line_of (by omega),?_⟩
   have elp6:(upd Hc lp (.lst (us++[V.ref t]))) lp=some (.lst (us++[V.ref t])):=upd_same
   have tup6:TupS Hc (upd Hc lp (.lst (us++[V.ref t]))):=TupS.lst (g5 _ _ elp4)
   have sm6:Same H (upd Hc lp (.lst (us++[V.ref t]))):=Same.upd' flp (sm.trans t5)
   have elr6:(upd Hc lp (.lst (us++[V.ref t]))) lr=some (.lst vs):=by rw[upd_ne nlr];exact t5 _ _ elr
   have pr6:Paired (RunV lp (upd Hc lp (.lst (us++[V.ref t])))) vs rs:=pr.mono fun _ _ h=>RunV.upd (g5 _ _ elp4) (h.same t5)
   have hus6:Paired (IsPp (upd Hc lp (.lst (us++[V.ref t])))) (us++[V.ref t]) (its++[hdPair n y z]) :=
    Paired.append' (hus.mono fun _ _ h=>IsPp.tup ((TupS.same t5).trans tup6) h) (.cons (IsPp.tup tup6 ipr) .nil)
   have nl4:l4≠lp:=fun e=>by rw[e,t3 _ _ elp]at hl4;cases hl4
   have Lr6:LP (upd Hc lp (.lst (us++[V.ref t]))) l4 (cutF (rlen y) z).2:=by
    obtain⟨ws,h1,h2⟩:=Lr.mono g5
    exact⟨ws,by rw[upd_ne nl4];exact h1,h2.mono tup6⟩
   generalize upd Hc lp (.lst (us++[V.ref t]))=H6 at elp6 sm6 elr6 pr6 hus6 Lr6 ⊢
   obtain⟨bx',ax',nx',Lx'⟩:∃ b,atI vs ((n:Int) - 2)=some (.ref b)∧b≠lp∧LP H6 b x:=by
    obtain⟨v,h1,b,rfl,h2,h3⟩:=runs_at pr6 ix
    rw[← en2]
    exact⟨b,atI_nat h1,h2,h3⟩
   obtain⟨xs,ex,prx⟩:=Lx'
   obtain⟨zs,ez,prz⟩:=Lr6
   have CF:=cut_facts y0 z rnz
   have hxl:xs.length=x.length:=prx.len
   have hzl:zs.length=(cutF (rlen y) z).2.length:=prz.len
   have hzf:=CF.few
   refine⟨_,rfl,_,rfl,_,_,rfl,rfl,_,rfl,lr,_,rfl,SqL.of elr6,fun s1 hs1=>?_⟩
   rw[show cutV vs none (some ((n:Int) - 2))=vs.take (n - 2)by rw[← en2];exact cutV_to vs (n - 2)]
   have j1:=Same.upd (o:=.lst (vs.take (n - 2))) hs1
   have es1:(upd H6 s1 (.lst (vs.take (n - 2)))) s1=some (.lst (vs.take (n - 2))):=upd_same
   generalize upd H6 s1 (.lst (vs.take (n - 2)))=H7 at j1 es1 ⊢
   refine⟨_,rfl,_,rfl,_,_,rfl,rfl,lr,_,_,_,rfl,rfl,SqL.of (j1 _ _ elr6),ax',_,rfl,bx',l4,_,_,rfl,rfl,j1 _ _ ex,j1 _ _ ez,Nat.le_of_lt (line_of (by omega)),fun c1 hc1=>?_⟩
   have j2:=Same.upd (o:=.lst (xs++zs)) hc1
   have ec1:(upd H7 c1 (.lst (xs++zs))) c1=some (.lst (xs++zs)):=upd_same
   generalize upd H7 c1 (.lst (xs++zs))=H8 at j2 ec1 ⊢
   refine⟨(show 1≤sizeLine by decide),fun d1 hd1=>?_⟩
   have j3:=Same.upd (o:=.lst [V.ref c1]) hd1
   have ed1:(upd H8 d1 (.lst [V.ref c1])) d1=some (.lst [V.ref c1]):=upd_same
   generalize upd H8 d1 (.lst [V.ref c1])=H9 at j3 ed1 ⊢
   refine⟨s1,d1,_,_,rfl,rfl,(j2.trans j3) _ _ es1,ed1,(by rw[List.length_take];exact Nat.le_of_lt (line_of (show min (n - 2) vs.length+1≤10000 by omega))),fun e1 he1=>?_⟩
   have j4:=Same.upd (o:=.lst (vs.take (n - 2)++[V.ref c1])) he1
   have ee1:(upd H9 e1 (.lst (vs.take (n - 2)++[V.ref c1]))) e1=some (.lst (vs.take (n - 2)++[V.ref c1])):=upd_same
   generalize upd H9 e1 (.lst (vs.take (n - 2)++[V.ref c1]))=H10 at j4 ee1 ⊢
   have j14:=((j1.trans j2).trans j3).trans j4
   refine⟨_,rfl,_,rfl,_,_,rfl,rfl,_,rfl,lr,_,rfl,SqL.of (j14 _ _ elr6),fun s2 hs2=>?_⟩
   rw[show cutV vs (some ((n:Int)+1)) none=vs.drop (n+1) from cutV_from vs (n+1)]
   have j5:=Same.upd (o:=.lst (vs.drop (n+1))) hs2
   have es2:(upd H10 s2 (.lst (vs.drop (n+1)))) s2=some (.lst (vs.drop (n+1))):=upd_same
   generalize upd H10 s2 (.lst (vs.drop (n+1)))=H11 at j5 es2 ⊢
   have hnl:=hF.few
   refine⟨e1,s2,_,_,rfl,rfl,j5 _ _ ee1,es2,(by rw[List.length_append,List.length_take,List.length_drop];exact Nat.le_of_lt (line_of (show min (n - 2) vs.length+1+(vs.length - (n+1))≤10000 by omega))),fun lr2 hlr2=>?_⟩
   have j6:=Same.upd (o:=.lst (vs.take (n - 2)++[V.ref c1]++vs.drop (n+1))) hlr2
   have elr2:(upd H11 lr2 (.lst (vs.take (n - 2)++[V.ref c1]++vs.drop (n+1)))) lr2=some (.lst (vs.take (n - 2)++[V.ref c1]++vs.drop (n+1))):=upd_same
   generalize upd H11 lr2 (.lst (vs.take (n - 2)++[V.ref c1]++vs.drop (n+1)))=H12 at j6 elr2 ⊢
   have j16:=(j14.trans j5).trans j6
   have hrest:rlen (cutF (rlen y) z).2=rlen z - rlen y:=by have:=CF.rest;omega
   obtain⟨hI2,hst2⟩:=HI.step (A:=A') (B:=B') (x:=x) (y:=y) (z:=z) (rest:=(cutF (rlen y) z).2) (by rw[← ers];exact hI') hrest CF.rn
   rw[← ers]at hst2
   have etk:rs.take (n - 2)=A':=by rw[ers,← hA];simp
   have edr:rs.drop (n+1)=B':=by rw[ers,show n+1=A'.length+3 by omega];simp
   have elen:rs.length=A'.length+3+B'.length:=by rw[ers];simp;omega
   have j26:=((j3.trans j4).trans j5).trans j6
   have nc1:c1≠lp:=fun e=>by rw[e,j1 _ _ elp6]at hc1;cases hc1
   have nlr2:lr2≠lp:=fun e=>by rw[e,(j14.trans j5) _ _ elp6]at hlr2;cases hlr2
   have prc:Prs H12 (xs++zs) (x++(cutF (rlen y) z).2):=Paired.append' (prx.mono (TupS.same j16)) (prz.mono (TupS.same j16))
   have prn:Paired (RunV lp H12) (vs.take (n - 2)++[V.ref c1]++vs.drop (n+1)) (A'++(x++(cutF (rlen y) z).2) :: B'):=by
    have p1:=runs_take (n - 2) (pr6.mono fun _ _ h=>RunV.same j16 h)
    have p2:=runs_drop (n+1) (pr6.mono fun _ _ h=>RunV.same j16 h)
    rw[etk]at p1
    rw[edr]at p2
    have p3:=Paired.append' (Paired.append' p1 (.cons (b:=x++(cutF (rlen y) z).2) ⟨c1,rfl,nc1,_,j26 _ _ ec1,prc⟩ .nil)) p2
    have e:A'++(x++(cutF (rlen y) z).2) :: B'=A'++[x++(cutF (rlen y) z).2]++B':=by simp
    rw[e]
    exact p3
   refine⟨(A'++(x++(cutF (rlen y) z).2) :: B').length,?_,lr2,A'++(x++(cutF (rlen y) z).2) :: B',us++[V.ref t],_,_,_,_,_,rfl,sm6.trans j16,⟨_,nlr2,elr2,prn⟩,.inr hI2,by omega,j16 _ _ elp6,its++[hdPair n y z],hus6.mono fun _ _ h=>IsPp.tup (TupS.same j16) h,?_,?_,?_,rfl⟩
   ·rw[elen];simp;omega
   ·rw[List.length_append]
    simp only[List.length_append,List.length_cons,List.length_nil]
    omega
   ·intro more hm
    rw[List.append_assoc]
    refine hbd _ ?_
    have hF':=hF
    rw[ers,show n=A'.length+2 by omega]at hF'
    have hh:=HdR.step hF' hm
    rw[ers,show n=A'.length+2 by omega]
    exact hh
   ·rw[ers]at hpt
    simp only[List.map_append,List.map_cons,List.sum_append,List.sum_cons,List.length_append]at hpt ⊢
    omega
  ·rw[decide_eq_false (show ¬ (1:Int)<(vs.length:Int)by omega)]
   have hH:=hbd [] (.nil (by omega))
   rw[List.append_nil]at hH
   have hul:us.length=its.length:=Paired.length hus
   refine⟨_,rfl,?_⟩
   have hu74:=(fun(n:Nat) (h:n+16 * 4+200<cLine)=>(show n+74<cLine by omega)) _ hr.un
   have hul60:us.length<64:=by omega
   rcases hPT with e0 | ⟨c',e1,e2⟩
   ·have e0x:=sm _ _ e0
    refine⟨_,e0x,True.intro,.inl ⟨rfl,fun c' f' hc' hf' hfc=>?_⟩⟩
    have ncP:c'≠PT:=fun e=>by rw[e,e0x]at hc';cases hc'
    have nfP:f'≠PT:=fun e=>by rw[e,e0x]at hf';cases hf'
    have ne0:∀ {b:Addr} {o:HO} {d:Addr},Hx b=some o→Hx d=none→b≠d:=fun h1 h2 e=>by rw[e,h2]at h1;cases h1
    have k2:∀ (T C L:HO),SameP PT Hx (upd (upd (upd Hx PT T) c' C) f' L):=fun T C L b o n e=>by
     rw[upd_ne (ne0 e hf'),upd_ne (ne0 e hc'),upd_ne n]
     exact e
    have nT:∀ {b:Addr} {o:HO},Hx b=some o→(∀ qs,o≠.tbl qs)→b≠PT:=fun h1 h2=>tbl_ne e0x h1 h2
    refine hd_srt (its:=its) hu74 (fun v p H' Q' hp k=>?_) upd_same (by rw[upd_ne (Ne.symm hfc)];exact upd_same) (k2 _ _ _ _ _ (nT elp fun _ z=>by cases z) elp) hul60 (hus.mono fun _ _ h=>IsPp.tup (fun b xs e=>k2 _ _ _ _ _ (nT e fun _ z=>by cases z) e) h) fun qs us' l H' hS g hl el pr'=>?_
    ·obtain⟨t,x,y,rfl,h1,⟨lx,rfl,hx⟩,_⟩:=hp
     exact⟨_,rfl,t,_,_,_,rfl,rfl,SqT.of h1,rfl,lx,_,rfl,.inr (SqT.of hx),_,rfl,(show 2≤sizeLine by decide),fun t' ht'=>by rw[List.length_map];exact k t' ht'⟩
    ·have hlx:Hx l=none:=by
      cases e:Hx l with
      | none=>rfl
      | some o =>
       by_cases hlP:l=PT
       ·rw[hlP,upd_ne (Ne.symm nfP),upd_ne (Ne.symm ncP),upd_same]at hl
        cases hl
       ·rw[k2 _ _ _ _ _ hlP e]at hl
        cases hl
     refine kk its qs us' l H' hH hS (sm.toP.trans ((k2 _ _ _).trans g.toP)) (sm.free hlx) el pr' (.inr ⟨c',g _ _ ?_,g _ _ ?_⟩)
     ·rw[upd_ne (Ne.symm nfP),upd_ne (Ne.symm ncP),upd_same]
      rfl
     ·rw[upd_ne (Ne.symm hfc),upd_same]
      rfl
   ·have e1x:=sm _ _ e1
    have e2x:=sm _ _ e2
    refine⟨_,e1x,True.intro,.inr ⟨c',rfl,e2x,fun f' hf'=>?_⟩⟩
    have k2:∀ (L:HO),Same Hx (upd Hx f' L):=fun L=>Same.upd hf'
    refine hd_srt (its:=its) hu74 (fun v p H' Q' hp k=>?_) upd_same (k2 _ _ _ e2x) (k2 _ _ _ elp) hul60 (hus.mono fun _ _ h=>IsPp.tup (TupS.same (k2 _)) h) fun qs us' l H' hS g hl el pr'=>?_
    ·obtain⟨t,x,y,rfl,h1,⟨lx,rfl,hx⟩,_⟩:=hp
     exact⟨_,rfl,t,_,_,_,rfl,rfl,SqT.of h1,rfl,lx,_,rfl,.inr (SqT.of hx),_,rfl,(show 2≤sizeLine by decide),fun t' ht'=>by rw[List.length_map];exact k t' ht'⟩
    ·exact kk its qs us' l H' hH hS (sm.trans ((k2 _).trans g)).toP ((sm.trans (k2 _)).free hl) el pr' (.inr ⟨c',g _ _ (k2 _ _ _ e1x),g _ _ (k2 _ _ _ e2x)⟩)
noncomputable abbrev s_law_numbers:Stmt:=top 24
theorem sc_law_numbers:FnScope ["_law_script","_law_many","_law_row_here","_law_seed","_law_cell","_law_rest","_law_k"] ["_law_script","_law_many"] (defScope s_law_numbers):=⟨rfl,rfl,rfl,by decide +kernel,rfl,by decide +kernel,by decide +kernel⟩
inductive I1_law_numbers (H:Hp) (a:Addr) (l:Addr) (p:Addr) (m:Nat) (ms:List Int) (i:Nat) (σ:St) (H2:Hp):Prop
 | mk (seed:Int) (xs:List Int) (v1 v2 v3:Option V) (k0_:σ=[some (.ref a),some (.int m),some (.ref l),some (.int seed),v1,v2,v3]) (k1_:Same H H2) (k2_:H2 p=some (.lst (ms.map V.int))) (k3_:H2 l=some (.lst (xs.map V.int))) (k4_:Nums xs) (k5_:xs.length≤61 * i) (k6_:0≤seed) (k7_:seed<2147483629):I1_law_numbers H a l p m ms i σ H2
inductive I2_law_numbers (H:Hp) (a:Addr) (l:Addr) (p:Addr) (m:Nat) (ms:List Int) (i:Nat) (seed:Int) (z:Int) (v3:Option V) (σ:St) (H3:Hp):Prop
 | mk (ys:List Int) (k0_:σ=[some (.ref a),some (.int m),some (.ref l),some (.int (sd1 seed z)),some (.int z),some (.int (rs1 z)),v3]) (k1_:Same H H3) (k2_:H3 p=some (.lst (ms.map V.int))) (k3_:H3 l=some (.lst (ys.map V.int))) (k4_:Nums ys) (k5_:ys.length≤61 * i+1):I2_law_numbers H a l p m ms i seed z v3 σ H3
inductive I3_law_numbers (H:Hp) (a:Addr) (l:Addr) (p:Addr) (m:Nat) (ms:List Int) (i:Nat) (seed:Int) (z:Int) (j:Nat) (σ:St) (H4:Hp):Prop
 | mk (r:Int) (ys:List Int) (v:Option V) (k0_:σ=[some (.ref a),some (.int m),some (.ref l),some (.int (sd1 seed z)),some (.int z),some (.int r),v]) (k1_:Same H H4) (k2_:H4 p=some (.lst (ms.map V.int))) (k3_:H4 l=some (.lst (ys.map V.int))) (k4_:Nums ys) (k5_:ys.length≤61 * i+1+j):I3_law_numbers H a l p m ms i seed z j σ H4
inductive I4_law_numbers (H:Hp) (a:Addr) (l:Addr) (m:Nat) (v1:Option V) (v2:Option V) (v3:Option V) (σ:St) (H3:Hp):Prop
 | mk (seed:Int) (ys:List Int) (k0_:σ=[some (.ref a),some (.int m),some (.ref l),some (.int seed),v1,v2,v3]) (k1_:Same H H3) (k2_:H3 l=some (.lst (ys.map V.int))) (k3_:Nums ys) (k4_:ys.length≤5000) (k5_:0≤seed) (k6_:seed<2147483629):I4_law_numbers H a l m v1 v2 v3 σ H3
theorem ok_numbers {f:Addr} {fd:FuncData} (F:Fun K "_law_numbers" "_law_numbers" s_law_numbers f fd) (B:Bt mg):FnOk P w K mg base CX0 1 f fd ["_law_script","_law_many"] (spNumbers K):=by
 refine F.ok sc_law_numbers (fun vs H Q E h=>?_) (fun cdv A outer s H vs Q E hr h=>?_)
 ·obtain⟨a,sc,m,rfl,_⟩:=h
  rfl
 ·obtain⟨a,sc,m,rfl,hS,hlen,hm,k⟩:=h
  refine⟨_,(pss_consO (ps_set (i:=2) sc_law_numbers.nd rfl (Or.inl rfl) (pe_lst pa_nil))
 (pss_consO (ps_set (i:=3) sc_law_numbers.nd rfl (Or.inl rfl) pe_int)
 (pss_consO (ps_for PassesOwn.never rfl (pi_list (pe_slice sl_list (pv 0) po_none (po_some pe_int))) (pg_name (i:=4) sc_law_numbers.nd rfl (Or.inl rfl))
 (pss_consO (ps_set (i:=3) sc_law_numbers.nd rfl (Or.inl rfl) (pe_op op_mod (pe_op op_add (pe_op op_add (pe_op op_mul (pv 3) pe_int) (pe_op op_mod (pv 4) pe_int)) pe_int) pe_int))
 (pss_consO (ps_set (i:=5) sc_law_numbers.nd rfl (Or.inl rfl) (pe_op op_sub (pv 4) (pe_op op_pow pe_int pe_int)))
 (pss_cut (ps_if (pt_cmpR op_lt (pv 5) pe_int (nomark _))
 (pss_one (ps_expr (pe_bm PySem.F.plainAttrs_list PySem.F.slot_list_append PySem.F.type_list_append mt_append (pv 2) (pa_cons (pe_op op_mod (pv 4) pe_int) pa_nil))))
 pss_nil)
 (pss_one (ps_for PassesOwn.never rfl (pi_range1 rfl B.range (pa_cons pe_int pa_nil)) (pg_name (i:=6) sc_law_numbers.nd rfl (Or.inl rfl))
 (pss_one (ps_if (pt_cmpR op_gt (pv 5) pe_int (nomark _))
 (pss_consO (ps_expr (pe_bm PySem.F.plainAttrs_list PySem.F.slot_list_append PySem.F.type_list_append mt_append (pv 2) (pa_cons (pe_op op_mod (pv 5) pe_int) pa_nil)))
 (pss_one (ps_set (i:=5) sc_law_numbers.nd rfl (Or.inl rfl) (pe_op op_fdiv (pv 5) pe_int))))
 pss_nil))))))))
 (pss_cons (ps_while PassesOwn.never (pt_cmpR op_lt (pe_callB call_len_seq (by rfl) B.len PySem.boot_len (pa_cons (pv 2) pa_nil)) (pv 1) (nomark _))
 (pss_consO (ps_set (i:=3) sc_law_numbers.nd rfl (Or.inl rfl) (pe_op op_mod (pe_op op_add (pe_op op_add (pe_op op_add (pe_op op_mul (pv 3) (pv 3)) (pe_op op_mul pe_int (pv 3))) (pe_op op_mul pe_int (pe_callB call_len_seq (by rfl) B.len PySem.boot_len (pa_cons (pv 2) pa_nil)))) pe_int) pe_int))
 (pss_one (ps_expr (pe_bm PySem.F.plainAttrs_list PySem.F.slot_list_append PySem.F.type_list_append mt_append (pv 2) (pa_cons (pe_op op_mod (pe_op op_fdiv (pv 3) pe_int) pe_int) pa_nil))))))
 (pss_one (ps_ret (pe_slice sl_list (pv 2) po_none (po_some (pv 1))))))))),?_⟩
  refine fun M1 hM1=>?_
  refine⟨by decide,fun l hl=>?_⟩
  refine hM1 [some (.ref a),some (.int m),some (.ref l),none,none,none,none] _ ?_
  clear hM1 M1
  refine fun M1 hM1=>?_
  refine hM1 [some (.ref a),some (.int m),some (.ref l),some (.int 59),none,none,none] _ ?_
  clear hM1 M1
  refine fun M1 hM1=>?_
  refine⟨_,rfl,_,rfl,a,sc.map V.int,rfl,(Same.upd hl).seq hS,fun p hp=>?_⟩
  obtain⟨ms,ec,hml,hmm⟩:=cutV_ints sc none (some 63)
  rw[ec]
  have hpl:p≠l:=fun e=>by subst e;rw[upd_same]at hp;cases hp
  have hHp:H p=none:=by rw[← hp,upd_ne hpl]
  refine⟨p,rfl,⟨_,SqL.of upd_same⟩,for_list (K:=K) (a:=p) (xs:=ms.map V.int) (I1_law_numbers H a l p m ms) ?_ ?_ ?_ ?_⟩
  ·exact⟨59,[],none,none,none,rfl,Same.upd' hHp (Same.upd hl),upd_same,by rw[upd_ne (Ne.symm hpl),upd_same];rfl,fun _ h=>(by cases h),Nat.le_refl _,by decide,by decide⟩
  ·rintro i σ H2 _ ⟨seed,xs,v1,v2,v3,_,_,e,_⟩
   exact SqL.of e
  ·rintro i x σ H2 hi ⟨seed,xs,v1,v2,v3,rfl,sm,ep,el,nx,lx,s0,s1⟩
   have hil:i<ms.length:=by
    have:=(List.getElem?_eq_some_iff.mp hi).1
    simpa using this
   obtain⟨z,rfl⟩:∃ z,x=V.int z:=by
    rw[List.getElem?_map]at hi
    cases e:ms[i]? with
    | none=>rw[e]at hi;cases hi
    | some z=>rw[e]at hi;exact⟨z,(Option.some.inj hi).symm⟩
   clear hM1
   refine fun M2 hM2=>?_
   refine⟨_,rfl,_,_,rfl,rfl,.inr ⟨by decide,by decide⟩,_,rfl,_,_,rfl,rfl,(by show (0:Int)<999983;decide),_,_,rfl,rfl,_,_,rfl,rfl,_,_,rfl,rfl,(by show (0:Int)<2147483563;decide),?_⟩
   have t0:0≤sd1 seed z:=Int.emod_nonneg _ (by decide)
   have t1:sd1 seed z<2147483563:=Int.emod_lt_of_pos _ (by decide)
   refine hM2 [some (.ref a),some (.int m),some (.ref l),some (.int (sd1 seed z)),some (.int z),v2,v3] _ ?_
   clear hM2 M2
   refine fun M2 hM2=>?_
   refine⟨_,rfl,_,_,rfl,rfl,⟨by decide,by decide,by decide⟩,_,_,rfl,rfl,?_⟩
   refine hM2 [some (.ref a),some (.int m),some (.ref l),some (.int (sd1 seed z)),some (.int z),some (.int (rs1 z)),v3] _ ?_
   clear hM2 M2
   refine⟨I2_law_numbers H a l p m ms i seed z v3,?_,?_⟩
   ·refine⟨_,rfl,_,_,rfl,rfl,_,rfl,iteD (fun _=>?_) (fun _=>⟨xs,rfl,sm,ep,el,nx,by omega⟩)⟩
    refine⟨_,rfl,.inl ⟨rfl,_,SqL.of el⟩,_,rfl,_,_,rfl,rfl,(by show (0:Int)<9967;decide),l,_,_,rfl,rfl,el,(by rw[List.length_map];exact line_of (by omega)),?_⟩
    refine⟨xs++[z % 9967],rfl,Same.upd' hl sm,by rw[upd_ne hpl];exact ep,by rw[upd_same];simp,?_,by simp;omega⟩
    intro n hn
    rcases List.mem_append.mp hn with h | h
    ·exact nx n h
    ·rw[List.mem_singleton.mp h]
     exact⟨Int.emod_nonneg _ (by decide),Int.emod_lt_of_pos _ (by decide)⟩
   ·rintro σ H3 ⟨ys,rfl,sm3,ep3,el3,nx3,lx3⟩
    refine⟨60,rfl,by decide,by decide,for_range (lo:=0) (n:=60) (I3_law_numbers H a l p m ms i seed z)
     ⟨rs1 z,ys,v3,rfl,sm3,ep3,el3,nx3,by omega⟩ ?_ ?_⟩
    ·rintro j σ H4 hj ⟨r,ys,v,rfl,sm4,ep4,el4,nx4,lx4⟩
     refine⟨_,rfl,_,_,rfl,rfl,_,rfl,iteD (fun hr0=>?_) (fun _=>⟨r,ys,_,rfl,sm4,ep4,el4,nx4,by omega⟩)⟩
     refine fun M2 hM2=>?_
     refine⟨_,rfl,.inl ⟨rfl,_,SqL.of el4⟩,_,rfl,_,_,rfl,rfl,(by show (0:Int)<1013;decide),l,_,_,rfl,rfl,el4,(by rw[List.length_map];exact line_of (by omega)),?_⟩
     refine hM2 [some (.ref a),some (.int m),some (.ref l),some (.int (sd1 seed z)),some (.int z),some (.int r),some (.int (0+(j:Int)))] _ ?_
     clear hM2 M2
     refine⟨_,rfl,_,_,rfl,rfl,⟨by decide,by decide⟩,?_⟩
     refine⟨r / 1013,ys++[r % 1013],_,rfl,Same.upd' hl sm4,by rw[upd_ne hpl];exact ep4,by rw[upd_same];simp,?_,by simp;omega⟩
     intro n hn
     rcases List.mem_append.mp hn with h | h
     ·exact nx4 n h
     ·rw[List.mem_singleton.mp h]
      have a1:=Int.emod_nonneg r (show (1013:Int)≠0 by decide)
      have a2:=Int.emod_lt_of_pos r (show (0:Int)<1013 by decide)
      exact⟨a1,by omega⟩
    ·rintro σ H4 ⟨r,ys,v,rfl,sm4,ep4,el4,nx4,lx4⟩
     exact⟨sd1 seed z,ys,_,_,_,rfl,sm4,ep4,el4,nx4,by omega,t0,by omega⟩
  ·rintro σ H2 ⟨seed,xs,v1,v2,v3,rfl,sm,ep,el,nx,lx,s0,s1⟩
   have lx':xs.length≤61 * 63:=by
    have:(ms.map V.int).length≤63:=by rw[List.length_map];omega
    omega
   refine hM1 [some (.ref a),some (.int m),some (.ref l),some (.int seed),v1,v2,v3] _ ?_
   clear hM1 M1
   refine while_by (I4_law_numbers H a l m v1 v2 v3)
    (fun _ H3=>match H3 l with | some (.lst ys)=>m - ys.length | _=>0) ⟨seed,xs,rfl,sm,el,nx,by omega,s0,s1⟩ ?_ ?_
   ·rintro σ H3 ⟨seed,ys,rfl,sm3,el3,nx3,lx3,q0,q1⟩
    refine⟨_,rfl,l,_,rfl,.inl (SqL.of el3),_,rfl,_,_,rfl,rfl,_,rfl,iteD (fun hc=>?_) (fun hc=>?_)⟩
    ·rw[List.length_map]at hc
     refine fun M1 hM1=>?_
     refine⟨_,rfl,_,rfl,_,_,rfl,rfl,.inl ⟨by omega,by omega⟩,_,rfl,_,_,rfl,rfl,.inl ⟨by decide,by decide⟩,_,_,rfl,rfl,_,rfl,l,_,rfl,.inl (SqL.of el3),_,_,rfl,rfl,.inl ⟨by decide,by decide⟩,_,_,rfl,rfl,_,_,rfl,rfl,_,_,rfl,rfl,(by show (0:Int)<2147483629;decide),?_⟩
     refine hM1 [some (.ref a),some (.int m),some (.ref l),some (.int (sd2 seed ys)),v1,v2,v3] _ ?_
     clear hM1 M1
     have t0:0≤sd2 seed ys:=Int.emod_nonneg _ (by decide)
     have t1:sd2 seed ys<2147483629:=Int.emod_lt_of_pos _ (by decide)
     refine⟨_,rfl,.inl ⟨rfl,_,SqL.of el3⟩,_,rfl,_,_,rfl,rfl,⟨by decide,by decide⟩,_,_,rfl,rfl,(by show (0:Int)<9967;decide),l,_,_,rfl,rfl,el3,(by rw[List.length_map];exact line_of (by omega)),?_⟩
     refine⟨⟨sd2 seed ys,ys++[sd2 seed ys / 1019 % 9967],rfl,Same.upd' hl sm3,by rw[upd_same,List.map_append];rfl,?_,by simp;omega,t0,t1⟩,?_⟩
     ·intro n hn
      rcases List.mem_append.mp hn with h | h
      ·exact nx3 n h
      ·rw[List.mem_singleton.mp h]
       exact⟨Int.emod_nonneg _ (by decide),Int.emod_lt_of_pos _ (by decide)⟩
     ·simp only[upd_same,el3,List.length_append,List.length_map,List.length_singleton]
      omega
    ·rw[List.length_map]at hc
     refine⟨_,rfl,_,rfl,_,rfl,l,_,rfl,SqL.of el3,fun p2 hp2=>?_⟩
     rw[cut_to ys m (by omega)]
     exact k p2 (ys.take m) _ (by simp;omega) (fun n hn=>nx3 n (List.mem_of_mem_take hn)) (sm3.free hp2) (Same.upd' (sm3.free hp2) sm3) upd_same
   ·intro σ H3 Q1 Q2 hq h
    obtain⟨x,e,p2,ys,e2,hq2,z,e3,i,j,e4,e5,b,e6,q⟩:=h
    exact⟨x,e,p2,ys,e2,hq2,z,e3,i,j,e4,e5,b,e6,hq _ _ q⟩
noncomputable abbrev s_law_row:Stmt:=top 25
theorem sc_law_row:FnScope ["_law_d","_law_most","_law_place","_law_row_here","_law_k","_law_step"] ["_law_d","_law_most"] (defScope s_law_row):=⟨rfl,rfl,rfl,by decide +kernel,rfl,by decide +kernel,by decide +kernel⟩
inductive I1_law_row (H:Hp) (a:Addr) (l:Addr) (m:Nat) (i:Nat) (σ:St) (H2:Hp):Prop
 | mk (place:Int) (row:List Int) (v1 v2:Option V) (k0_:σ=[some (.ref a),some (.int m),some (.int place),some (.ref l),v1,v2]) (k1_:Same H H2) (k2_:H2 l=some (.lst (row.map V.int))) (k3_:Row row) (k4_:row.length=i) (k5_:-15≤place) (k6_:place≤15+12 * i) (k7_:∀ x∈row,-15≤x∧x≤place):I1_law_row H a l m i σ H2
theorem ok_row {f:Addr} {fd:FuncData} (F:Fun K "_law_row" "_law_row" s_law_row f fd) (B:Bt mg):FnOk P w K mg base CX0 1 f fd ["_law_d","_law_most"] spRow:=by
 refine F.ok sc_law_row (fun vs H Q E h=>?_) (fun cdv A outer s H vs Q E hr h=>?_)
 ·obtain⟨a,ns,m,rfl,_⟩:=h
  rfl
 ·obtain⟨a,ns,m,rfl,ha,hns,hlen,hm,k⟩:=h
  refine⟨_,(pss_cons (ps_set (i:=2) sc_law_row.nd rfl (Or.inl rfl) (pe_op op_sub (pe_op op_mod (pe_ix ix_list (pv 0) pe_int (fun _ _=>rfl)) pe_int) pe_int))
 (pss_cons (ps_set (i:=3) sc_law_row.nd rfl (Or.inl rfl) (pe_lst pa_nil))
 (pss_cons (ps_for PassesOwn.never rfl (pi_range1 rfl B.range (pa_cons (pe_op op_mod (pe_ix ix_list (pv 0) pe_int (fun _ _=>rfl)) (pe_op op_add (pv 1) pe_int)) pa_nil)) (pg_name (i:=4) sc_law_row.nd rfl (Or.inl rfl))
 (pss_cons (ps_set (i:=5) sc_law_row.nd rfl (Or.inl rfl) (pe_ix ix_list (pv 0) (pe_op op_add pe_int (pv 4)) (fun _ _=>rfl)))
 (pss_cons (ps_set (i:=2) sc_law_row.nd rfl (Or.inl rfl) (pe_op op_add (pe_op op_add (pv 2) pe_int) (pe_cut (pe_ifExp (pt_cmpR op_eqI (pe_op op_mod (pv 5) pe_int) pe_int (nomark _)) pe_int (pe_op op_mod (pe_op op_fdiv (pv 5) pe_int) (pe_ix ix_list (pe_lst (pa_cons pe_int (pa_cons pe_int (pa_cons pe_int (pa_cons pe_int pa_nil))))) (pe_op op_mod (pe_ix ix_list (pv 0) pe_int (fun _ _=>rfl)) pe_int) (fun _ _=>rfl)))))))
 (pss_one (ps_expr (pe_bm PySem.F.plainAttrs_list PySem.F.slot_list_append PySem.F.type_list_append mt_append (pv 3) (pa_cons (pv 2) pa_nil)))))))
 (pss_one (ps_ret (pv 3)))))),?_⟩
  obtain⟨n0,m0,_,e0⟩:=at_mem (ns:=ns) (i:=0) (by omega) (by omega)
  obtain⟨n1,m1,_,e1⟩:=at_mem (ns:=ns) (i:=1) (by omega) (by omega)
  obtain⟨n2,m2,_,e2⟩:=at_mem (ns:=ns) (i:=2) (by omega) (by omega)
  have p1:(0:Int)<(m:Int)+1:=by omega
  have q1:=Int.emod_nonneg n1 (show ((m:Int)+1)≠0 by omega)
  have q2:=Int.emod_lt_of_pos n1 p1
  have r1:=Int.emod_nonneg n0 (show (31:Int)≠0 by decide)
  have r2:=Int.emod_lt_of_pos n0 (show (0:Int)<31 by decide)
  refine⟨_,rfl,a,_,_,_,rfl,rfl,SqL.of ha,e0,_,_,rfl,rfl,(by show (0:Int)<31;decide),_,_,rfl,rfl,by decide,fun l hl=>?_⟩
  have ha':=Same.upd (o:=.lst []) hl _ _ ha
  refine⟨_,rfl,a,_,_,_,rfl,rfl,SqL.of ha',e1,_,rfl,_,_,rfl,rfl,_,_,rfl,rfl,p1,_,rfl,by omega,by omega,
   for_range (lo:=0) (n:=(n1 % ((m:Int)+1)).toNat) (I1_law_row H a l m) ⟨_,[],none,none,rfl,Same.upd hl,upd_same,List.Pairwise.nil,rfl,by omega,by omega,fun x hx=>by cases hx⟩ ?_ ?_⟩
  ·rintro i σ H2 hi ⟨place,row,v1,v2,rfl,sm,el,hrow,hrl,h1,h2,hx⟩
   obtain⟨st,ms,_,es⟩:=at_mem (ns:=ns) (i:=3+(0+(i:Int))) (by omega) (by omega)
   refine⟨_,rfl,_,rfl,_,_,rfl,rfl,a,_,_,_,rfl,rfl,SqL.of (sm _ _ ha),es,?_⟩
   refine⟨_,rfl,_,_,rfl,rfl,fun v H3=>∃ d:Int,v=.int d∧0≤d∧d≤11∧(H3=H2∨∃ p xs,H2 p=none∧H3=upd H2 p (.lst xs)),?_,?_⟩
   ·refine⟨_,rfl,_,_,rfl,rfl,(by show (0:Int)<3;decide),_,_,rfl,rfl,_,rfl,iteD (fun _=>⟨0,rfl,by decide,by decide,.inl rfl⟩) (fun _=>?_)⟩
    refine⟨_,rfl,_,_,rfl,rfl,⟨by decide,by decide⟩,(by show 4≤sizeLine;decide),fun p hp=>?_⟩
    obtain⟨w',mw,_,ew⟩:=at_mem (ns:=[2,3,5,12]) (i:=n2 % 4) (Int.emod_nonneg _ (by decide)) (Int.emod_lt_of_pos _ (by decide))
    refine⟨_,rfl,a,_,_,_,rfl,rfl,SqL.of ((Same.upd hp) _ _ (sm _ _ ha)),e2,_,_,rfl,rfl,(by show (0:Int)<4;decide),p,_,_,_,rfl,rfl,SqL.of upd_same,ew,_,_,rfl,rfl,?_,_,rfl,?_,?_,.inr ⟨p,_,hp,rfl⟩⟩
    ·simp at mw;omega
    ·exact Int.emod_nonneg _ (by simp at mw;omega)
    ·have:=Int.emod_lt_of_pos (st / 3) (show (0:Int)<w' by simp at mw;omega)
     simp at mw
     show st / 3 % w'≤11
     omega
   ·rintro v H3 ⟨d,rfl,d0,d1,hH3⟩
    have sm3:Same H H3:=by
     rcases hH3 with e | ⟨p,xs,hp,e⟩
     ·rw[e];exact sm
     ·rw[e];exact Same.upd' (sm.free hp) sm
    have el3:H3 l=some (.lst (row.map V.int)):=by
     rcases hH3 with e | ⟨p,xs,hp,e⟩
     ·rw[e];exact el
     ·rw[e,upd_ne (ne_of_none el hp)];exact el
    refine⟨_,_,rfl,rfl,_,rfl,.inl ⟨rfl,_,SqL.of el3⟩,_,rfl,l,_,_,rfl,rfl,el3,(by rw[List.length_map];exact line_of (by omega)),?_⟩
    refine⟨place+1+d,row++[place+1+d],_,_,rfl,Same.upd' hl sm3,by rw[upd_same,List.map_append];rfl,row_snoc hrow fun y hy=>?_,by simp[hrl],by omega,by omega,fun x hx'=>?_⟩
    ·have:=hx y hy;omega
    ·rcases List.mem_append.mp hx' with h | h
     ·have:=hx x h;omega
     ·rw[List.mem_singleton.mp h];omega
  ·rintro σ H2 ⟨place,row,v1,v2,rfl,sm,el,hrow,hrl,h1,h2,hx⟩
   exact⟨_,rfl,k row hrow (by omega) (fun x h=>by have:=hx x h;omega) l H2 hl sm el⟩
noncomputable abbrev s_law_long_row:Stmt:=top 26
theorem sc_law_long_row:FnScope ["_law_d","_law_most","_law_row_here","_law_cut","_law_by"] ["_law_d","_law_most"] (defScope s_law_long_row):=⟨rfl,rfl,rfl,by decide +kernel,rfl,by decide +kernel,by decide +kernel⟩
theorem ok_long {f:Addr} {fd:FuncData} (F:Fun K "_law_long_row" "_law_long_row" s_law_long_row f fd) (B:Bt mg) (F_law_row:FnAt P w K mg base "_law_row" 1 ["_law_d","_law_most"] spRow):FnOk P w K mg base CX0 2 f fd ["_law_d","_law_most"] spLong:=by
 refine F.ok sc_law_long_row (fun vs H Q E h=>?_) (fun cdv A outer s H vs Q E hr h=>?_)
 ·obtain⟨a,ns,m,rfl,_⟩:=h
  rfl
 ·obtain⟨a,ns,m,rfl,ha,hns,hlen,hm,k⟩:=h
  refine⟨_,(pss_cons (ps_set (i:=2) sc_law_long_row.nd rfl (Or.inl rfl) (pe_fn F_law_row hr rfl (pa_cons (pv 0) (pa_cons (pv 1) pa_nil))))
 (pss_cons (ps_set (i:=3) sc_law_long_row.nd rfl (Or.inl rfl) (pe_op op_mod (pe_op op_fdiv (pe_ix ix_list (pv 0) pe_int (fun _ _=>rfl)) pe_int) (pe_op op_add (pe_callB call_len_seq (by rfl) B.len PySem.boot_len (pa_cons (pv 2) pa_nil)) pe_int)))
 (pss_cons (ps_set (i:=4) sc_law_long_row.nd rfl (Or.inr rfl) (pe_ix ix_list (pe_lst (pa_cons pe_int (pa_cons (pe_op op_pow pe_int pe_int) (pa_cons (pe_op op_pow pe_int pe_int) (pa_cons (pe_op op_pow pe_int pe_int) pa_nil))))) (pe_op op_mod (pe_op op_fdiv (pe_ix ix_list (pv 0) pe_int (fun _ _=>rfl)) pe_int) pe_int) (fun _ _=>rfl)))
 (pss_one (ps_ret (pe_op op_cat (pe_slice sl_list (pv 2) po_none (po_some (pv 3))) (pe_comp ["_law_place"] ["_law_by"] [4] rfl (.of (show compOk (defScope s_law_long_row) _ ["_law_d","_law_most","_law_row_here","_law_cut","_law_by"] [4] ["_law_by"]=true by decide +kernel)) (pi_list (pe_slice sl_list (pv 2) (po_some (pv 3)) po_none)) (fun _ _ _=>(pg_name (i:=0) (show (["_law_place","_law_by"]:List Str).Nodup by decide +kernel) rfl (Or.inl rfl))) (kg_name (by decide)) (fun _ _ _=>pif_nil) (fun _ _ _=>(pe_op op_add (pv 0) (pv 1)))))))))),?_⟩
  obtain⟨n2,m2,_,e2⟩:=at_mem (ns:=ns) (i:=2) (by omega) (by omega)
  refine⟨_,rfl,_,rfl,a,ns,m,rfl,ha,hns,hlen,hm,fun row hrow hrl hrb l H1 hl sm el=>?_⟩
  have p1:(0:Int)<(row.length:Int)+1:=by omega
  refine⟨_,rfl,a,_,_,_,rfl,rfl,SqL.of (sm _ _ ha),e2,_,_,rfl,rfl,⟨by decide,by decide⟩,_,rfl,l,_,rfl,.inl (SqL.of el),_,_,rfl,rfl,_,_,rfl,rfl,(by rw[List.length_map];exact p1),?_⟩
  have c0:0≤n2 / 4 % ((row.length:Int)+1):=Int.emod_nonneg _ (by omega)
  have c1:n2 / 4 % ((row.length:Int)+1)<(row.length:Int)+1:=Int.emod_lt_of_pos _ p1
  obtain⟨c,hc⟩:∃ c:Nat,n2 / 4 % (((row.map V.int).length:Int)+1)=(c:Int):=⟨(n2 / 4 % (((row.map V.int).length:Int)+1)).toNat,by rw[List.length_map];omega⟩
  have hcl:c≤row.length:=by rw[List.length_map]at hc;omega
  refine⟨_,_,rfl,rfl,⟨by decide,by decide,by decide⟩,_,_,rfl,rfl,⟨by decide,by decide,by decide⟩,_,_,rfl,rfl,⟨by decide,by decide,by decide⟩,(show 4≤sizeLine by decide),fun p hp=>?_⟩
  obtain⟨b,mb,_,eb⟩:=at_mem (ns:=[0,10 ^ (3:Int).toNat,10 ^ (12:Int).toNat,10 ^ (40:Int).toNat]) (i:=n2 / 64 % 4) (Int.emod_nonneg _ (by decide)) (Int.emod_lt_of_pos _ (by decide))
  have hb:0≤b:=by
   simp only[List.mem_cons,List.mem_nil_iff,or_false]at mb
   rcases mb with h | h | h | h <;> rw[h] <;> decide
  have smp:=Same.upd (o:=.lst [V.int 0,V.int (10 ^ (3:Int).toNat),V.int (10 ^ (12:Int).toNat),V.int (10 ^ (40:Int).toNat)]) hp
  refine⟨_,rfl,a,_,_,_,rfl,rfl,SqL.of (smp _ _ (sm _ _ ha)),e2,_,_,rfl,rfl,⟨by decide,by decide⟩,_,_,rfl,rfl,(by show (0:Int)<4;decide),p,_,_,_,rfl,rfl,SqL.of upd_same,eb,?_⟩
  have el2:=smp _ _ el
  have sm2:Same H (upd H1 p (.lst [V.int 0,V.int (10 ^ (3:Int).toNat),V.int (10 ^ (12:Int).toNat),V.int (10 ^ (40:Int).toNat)])):=sm.trans smp
  generalize upd H1 p (.lst [V.int 0,V.int (10 ^ (3:Int).toNat),V.int (10 ^ (12:Int).toNat),V.int (10 ^ (40:Int).toNat)])=H2 at el2 sm2 ⊢
  refine⟨_,rfl,_,rfl,_,rfl,l,_,rfl,SqL.of el2,fun p1 hp1=>?_⟩
  have ec1:cutV (row.map V.int) none (some (n2 / 4 % (((row.map V.int).length:Int)+1)))=(row.take c).map V.int:=by rw[hc];exact cut_to row c hcl
  rw[show cutV (row.map V.int) none (some ((fun i j=>i % j) (n2 / 4) (((row.map V.int).length:Int)+1)))=(row.take c).map V.int from ec1]
  have el3:=Same.upd (o:=.lst ((row.take c).map V.int)) hp1 _ _ el2
  have sm3:Same H (upd H2 p1 (.lst ((row.take c).map V.int))):=sm2.trans (Same.upd hp1)
  have ep1:(upd H2 p1 (.lst ((row.take c).map V.int))) p1=some (.lst ((row.take c).map V.int)):=upd_same
  generalize upd H2 p1 (.lst ((row.take c).map V.int))=H3 at el3 sm3 ep1 ⊢
  refine⟨_,rfl,_,rfl,_,rfl,l,_,rfl,SqL.of el3,fun p2 hp2=>?_⟩
  have ec2:cutV (row.map V.int) (some (n2 / 4 % (((row.map V.int).length:Int)+1))) none=(row.drop c).map V.int:=by rw[hc];exact cut_from row c hcl
  rw[show cutV (row.map V.int) (some ((fun i j=>i % j) (n2 / 4) (((row.map V.int).length:Int)+1))) none=(row.drop c).map V.int from ec2]
  have sm4:=Same.upd (o:=.lst ((row.drop c).map V.int)) hp2
  have ep2:(upd H3 p2 (.lst ((row.drop c).map V.int))) p2=some (.lst ((row.drop c).map V.int)):=upd_same
  generalize upd H3 p2 (.lst ((row.drop c).map V.int))=H4 at sm4 ep2 ⊢
  have hdl:(row.drop c).length≤60:=by simp;omega
  refine⟨p2,rfl,⟨_,SqL.of ep2⟩,comp_list (xs:=(row.drop c).map V.int) (fun i ys H5=>H5=H4∧ys=(((row.drop c).take i).map (fun z=>z+b)).map V.int) ⟨rfl,rfl⟩ ?_ ?_ ?_⟩
  ·rintro i ys H5 hi ⟨rfl,rfl⟩
   exact⟨SqL.of ep2,take_len _ _ (by rw[List.length_map]at hi;omega) _⟩
  ·rintro i x ys H5 hi ⟨rfl,rfl⟩
   obtain⟨z,rfl,hz⟩:=int_at hi
   exact⟨_,rfl,_,rfl,_,_,rfl,rfl,rfl,snoc_map _ hz⟩
  ·rintro ys H5 ⟨rfl,rfl⟩ D hD
   rw[List.length_map,List.take_length]
   have smD:=Same.upd (o:=.lst (((row.drop c).map (fun z=>z+b)).map V.int)) hD
   refine⟨p1,D,_,_,rfl,rfl,smD _ _ (sm4 _ _ ep1),upd_same,?_,fun q hq=>?_⟩
   ·simp only[List.length_map,List.length_take,List.length_drop]
    exact line_le (by omega)
   ·rw[← List.map_append]
    have smH:=(sm3.trans sm4).trans smD
    refine k _ (row_long (c:=c) hrow hb) ?_ q _ (smH.free hq) (Same.upd' (smH.free hq) smH) upd_same
    simp only[List.length_append,List.length_map,List.length_take,List.length_drop]
    omega
noncomputable abbrev s_law_all:Stmt:=top 27
theorem sc_law_all:FnScope ["_law_pairs","_law_side","_law_found","_law_pair"] ["_law_pairs","_law_side"] (defScope s_law_all):=⟨rfl,rfl,rfl,by decide +kernel,rfl,by decide +kernel,by decide +kernel⟩
theorem ok_all {f:Addr} {fd:FuncData} (F:Fun K "_law_all" "_law_all" s_law_all f fd) (B:Bt mg):FnOk P w K mg base CX0 1 f fd ["_law_pairs","_law_side"] spAll:=by
 refine F.ok sc_law_all (fun vs H Q E h=>?_) (fun cdv A outer s H vs Q E hr h=>?_)
 ·obtain⟨a,us,qs,sd,rfl,_⟩:=h
  rfl
 ·obtain⟨a,us,qs,sd,rfl,ha,pr,hsd,hlen,k⟩:=h
  refine⟨_,(pss_cons (ps_set (i:=2) sc_law_all.nd rfl (Or.inl rfl) (pe_lst pa_nil))
 (pss_cons (ps_for PassesOwn.never rfl (pi_list (pv 0)) (pg_name (i:=3) sc_law_all.nd rfl (Or.inl rfl))
 (pss_one (ps_set (i:=2) sc_law_all.nd rfl (Or.inl rfl) (pe_op op_cat (pv 2) (pe_callTy call_list_of (by rfl) B.list boot_list (pa_cons (pe_ix ix_tup (pv 3) (pv 1) (fun _ _=>rfl)) pa_nil))))))
 (pss_one (ps_ret (pe_callB call_sortedI (by rfl) B.sorted boot_sorted (pa_cons (pv 2) pa_nil)))))),?_⟩
  refine⟨by decide,fun l0 hl0=>?_⟩
  have eul:us.length=qs.length:=Paired.length pr
  have ha1:=Same.upd (o:=.lst []) hl0 _ _ ha
  refine⟨_,rfl,a,rfl,⟨_,SqL.of ha1⟩,for_list (K:=K) (a:=a) (xs:=us) (fun i σ H3=>∃ (l:Addr) (v3:Option V),σ=[some (.ref a),some (.int sd),some (.ref l),v3]∧Same H H3∧H3 l=some (.lst ((allL sd (qs.take i)).map V.int)))
   ⟨l0,none,rfl,Same.upd hl0,upd_same⟩ (fun i σ H3 _ ⟨_,_,_,sm,_⟩=>SqL.of (sm _ _ ha)) ?_ ?_⟩
  ·rintro i x σ H3 hi ⟨l,v3,rfl,sm,el⟩
   obtain⟨p,hp,t,x1,x2,rfl,h1,⟨t1,rfl,k1⟩,⟨t2,rfl,k2⟩⟩:=paired_get pr hi
   have hle:=allL_le sd qs (i+1)
   have hle0:=allL_le sd qs i
   rw[allL_take sd hp,List.length_append]at hle
   have fin:∀ (t0:Addr) (z:List Int),z=selL sd p→H3 t0=some (.tup (z.map V.int))→∀ l2,H3 l2=none→∀ l3,(upd H3 l2 (.lst (z.map V.int))) l3=none→(upd (upd H3 l2 (.lst (z.map V.int))) l3 (.lst ((allL sd (qs.take i)).map V.int++z.map V.int))) l3=some (.lst ((allL sd (qs.take (i+1))).map V.int)):=fun t0 z ez _ l2 _ l3 _=>by
    rw[upd_same,allL_take sd hp,List.map_append,ez]
   rcases hsd with rfl | rfl
   ·refine⟨_,rfl,_,rfl,_,rfl,t,_,_,_,rfl,rfl,SqT.of (sm _ _ h1),rfl,t1,_,rfl,.inr (SqT.of (sm _ _ k1)),fun l2 hl2=>?_⟩
    have g2:=Same.upd (o:=.lst (p.1.map V.int)) hl2
    refine⟨l,l2,_,_,rfl,rfl,g2 _ _ el,upd_same,?_,fun l3 hl3=>⟨l3,_,rfl,(sm.trans g2).trans (Same.upd hl3),fin t1 p.1 rfl (sm _ _ k1) l2 hl2 l3 hl3⟩⟩
    have:(selL 0 p).length=p.1.length:=rfl
    rw[List.length_map,List.length_map]
    exact line_le (by omega)
   ·refine⟨_,rfl,_,rfl,_,rfl,t,_,_,_,rfl,rfl,SqT.of (sm _ _ h1),rfl,t2,_,rfl,.inr (SqT.of (sm _ _ k2)),fun l2 hl2=>?_⟩
    have g2:=Same.upd (o:=.lst (p.2.map V.int)) hl2
    refine⟨l,l2,_,_,rfl,rfl,g2 _ _ el,upd_same,?_,fun l3 hl3=>⟨l3,_,rfl,(sm.trans g2).trans (Same.upd hl3),fin t2 p.2 rfl (sm _ _ k2) l2 hl2 l3 hl3⟩⟩
    have:(selL 1 p).length=p.2.length:=rfl
    rw[List.length_map,List.length_map]
    exact line_le (by omega)
  ·rintro σ H3 ⟨l,v3,rfl,sm,el⟩
   rw[eul,List.take_length]at el
   refine⟨_,rfl,l,allL sd qs,rfl,el,by omega,fun ld ms hld hms hss=>?_⟩
   exact k ms hms hss ld _ (sm.free hld) (sm.trans (Same.upd hld)) upd_same
end
end CW
namespace CW
open PySem L2
section
variable {P:Program} {w:World} {K:PySem.W.Frag} {mg:Str→Option Value} {base:Heap}
noncomputable abbrev s_law:Stmt:=top 28
theorem sc_law:FnScope ["_law_script","_law_numbers_here","_law_row_here","_law_turn","_law_found"] ["_law_script"] (defScope s_law):=⟨rfl,rfl,rfl,by decide +kernel,rfl,by decide +kernel,by decide +kernel⟩
theorem ok_law {f PT:Addr} {fd:FuncData} (F:Fun K "law" "law" s_law f fd) (B:Bt mg) (F_law_numbers:FnAt P w K mg base "_law_numbers" 1 ["_law_script","_law_many"] (spNumbers K)) (F_law_long_row:FnAt P w K mg base "_law_long_row" 2 ["_law_d","_law_most"] spLong) (F_law_all:FnAt P w K mg base "_law_all" 1 ["_law_pairs","_law_side"] spAll) (F_heads:FnAt P w K mg base "heads" 5 ["row"] (spHeadsG PT ⟨109,29,109,62⟩)) (F_closings:FnAt P w K mg base "closings" 2 ["row"] spClosings) (F_sizes_by_rounds:FnAt P w K mg base "sizes_by_rounds" 5 ["row"] spSizes) (F_walked:FnAt P w K mg base "walked" 2 ["row","creel"] spWalked) :
 FnOk P w K mg base CX0 6 f fd ["_law_script"] (spLawT K PT):=by
 refine F.ok sc_law (fun vs H Q E h=>?_) (fun cdv A outer s H vs Q E hr h=>?_)
 ·obtain⟨a,ns,rfl,_⟩:=h
  rfl
 ·obtain⟨a,sc,rfl,hP,hS,hlen,kk⟩:=h
  have hu:=hr.units
  refine⟨_,(pss_cons (ps_set (i:=1) sc_law.nd rfl (Or.inl rfl) (pe_fn F_law_numbers hr rfl (pa_cons (pv 0) (pa_cons pe_int pa_nil))))
 (pss_cons (ps_set (i:=2) sc_law.nd rfl (Or.inl rfl) (pe_fn F_law_long_row hr rfl (pa_cons (pe_slice sl_list (pv 1) (po_some pe_int) po_none) (pa_cons (pe_ix ix_list (pe_lst (pa_cons pe_int (pa_cons pe_int (pa_cons pe_int pa_nil)))) (pe_op op_mod (pe_ix ix_list (pv 1) pe_int (fun _ _=>rfl)) pe_int) (fun _ _=>rfl)) pa_nil))))
 (pss_cons (ps_for PassesOwn.never rfl (pi_range1 rfl B.range (pa_cons pe_int pa_nil)) (pg_name (i:=3) sc_law.nd rfl (Or.inl rfl))
 (pss_cons (ps_set (i:=4) sc_law.nd rfl (Or.inl rfl) (pe_fn F_heads hr rfl (pa_cons (pe_callTy call_list_of (by rfl) B.list boot_list (pa_cons (pv 2) pa_nil)) pa_nil)))
 (pss_cons (ps_if (pt_cmpR (op_neD hu) (pe_fn F_law_all hr rfl (pa_cons (pv 4) (pa_cons pe_int pa_nil))) (pv 2) (nomark _))
 (pss_one (ps_ret pe_bl))
 pss_nil)
 (pss_cons (ps_if (pt_cmpR (op_neD hu) (pe_fn F_law_all hr rfl (pa_cons (pv 4) (pa_cons pe_int pa_nil))) (pe_callB call_sortedI (by rfl) B.sorted boot_sorted (pa_cons (pe_comp ["_law_stone","_law_niche"] [] [] rfl (.of (show compOk (defScope s_law) _ ["_law_script","_law_numbers_here","_law_row_here","_law_turn","_law_found"] [] []=true by decide +kernel)) (pi_list (pe_fn F_closings hr rfl (pa_cons (pe_callTy call_list_of (by rfl) B.list boot_list (pa_cons (pv 2) pa_nil)) pa_nil))) (fun _ _ _=>(pg_tupK (n:=2) K rfl rfl (pgs_cons (pg_name (i:=0) (show (["_law_stone","_law_niche"]:List Str).Nodup by decide +kernel) rfl (Or.inl rfl)) (pgs_cons (pg_name (i:=1) (show (["_law_stone","_law_niche"]:List Str).Nodup by decide +kernel) rfl (Or.inl rfl)) pgs_nil)))) (kg_tup (kgs_cons (by decide) (kgs_cons (by decide) kgs_nil))) (fun _ _ _=>pif_nil) (fun _ _ _=>(pv 1))) pa_nil)) (nomark _))
 (pss_one (ps_ret pe_bl))
 pss_nil)
 (pss_cons (ps_if (pt_cmpR (op_neD hu) (pe_callB call_sortedI (by rfl) B.sorted boot_sorted (pa_cons (pe_comp ["_law_one","_law_other"] [] [] rfl (.of (show compOk (defScope s_law) _ ["_law_script","_law_numbers_here","_law_row_here","_law_turn","_law_found"] [] []=true by decide +kernel)) (pi_list (pv 4)) (fun _ _ _=>(pg_tupK (n:=2) K rfl rfl (pgs_cons (pg_name (i:=0) (show (["_law_one","_law_other"]:List Str).Nodup by decide +kernel) rfl (Or.inl rfl)) (pgs_cons (pg_name (i:=1) (show (["_law_one","_law_other"]:List Str).Nodup by decide +kernel) rfl (Or.inl rfl)) pgs_nil)))) (kg_tup (kgs_cons (by decide) (kgs_cons (by decide) kgs_nil))) (fun _ _ _=>pif_nil) (fun _ _ _=>(pe_callB (call_len_seqK K rfl) (by rfl) B.len PySem.boot_len (pa_cons (pv 0) pa_nil)))) pa_nil)) (pe_fn F_sizes_by_rounds hr rfl (pa_cons (pe_callTy call_list_of (by rfl) B.list boot_list (pa_cons (pv 2) pa_nil)) pa_nil)) (nomark _))
 (pss_one (ps_ret pe_bl))
 pss_nil)
 (pss_cons (ps_set (i:=2) sc_law.nd rfl (Or.inl rfl) (pe_fn F_walked hr rfl (pa_cons (pe_callTy call_list_of (by rfl) B.list boot_list (pa_cons (pv 2) pa_nil)) (pa_cons (pe_callB (call_max2 rfl) (by rfl) B.max boot_max (pa_cons pe_int (pa_cons (pe_callB call_len_seq (by rfl) B.len PySem.boot_len (pa_cons (pv 2) pa_nil)) pa_nil))) pa_nil))))
 (pss_one (ps_if (pt_cmpR (op_neD hu) (pe_callB call_sortedT (by rfl) B.sorted boot_sorted (pa_cons (pe_comp ["_law_one","_law_other"] [] [] rfl (.of (show compOk (defScope s_law) _ ["_law_script","_law_numbers_here","_law_row_here","_law_turn","_law_found"] [] []=true by decide +kernel)) (pi_list (pv 4)) (fun _ _ _=>(pg_tupK (n:=2) K rfl rfl (pgs_cons (pg_name (i:=0) (show (["_law_one","_law_other"]:List Str).Nodup by decide +kernel) rfl (Or.inl rfl)) (pgs_cons (pg_name (i:=1) (show (["_law_one","_law_other"]:List Str).Nodup by decide +kernel) rfl (Or.inl rfl)) pgs_nil)))) (kg_tup (kgs_cons (by decide) (kgs_cons (by decide) kgs_nil))) (fun _ _ _=>pif_nil) (fun _ _ _=>(pv 1))) pa_nil)) (pe_callB call_sortedT (by rfl) B.sorted boot_sorted (pa_cons (pe_comp ["_law_one","_law_other"] [] [] rfl (.of (show compOk (defScope s_law) _ ["_law_script","_law_numbers_here","_law_row_here","_law_turn","_law_found"] [] []=true by decide +kernel)) (pi_list (pe_fn F_heads hr rfl (pa_cons (pe_callTy call_list_of (by rfl) B.list boot_list (pa_cons (pv 2) pa_nil)) pa_nil))) (fun _ _ _=>(pg_tupK (n:=2) K rfl rfl (pgs_cons (pg_name (i:=0) (show (["_law_one","_law_other"]:List Str).Nodup by decide +kernel) rfl (Or.inl rfl)) (pgs_cons (pg_name (i:=1) (show (["_law_one","_law_other"]:List Str).Nodup by decide +kernel) rfl (Or.inl rfl)) pgs_nil)))) (kg_tup (kgs_cons (by decide) (kgs_cons (by decide) kgs_nil))) (fun _ _ _=>pif_nil) (fun _ _ _=>(pv 0))) pa_nil)) (nomark _))
 (pss_one (ps_ret pe_bl))
 pss_nil))))))))
 (pss_one (ps_ret pe_bl))))),?_⟩
  refine⟨_,rfl,a,sc,50,rfl,hS,hlen,by decide,fun l1 nums H1 hnl hnums hl1 sm1 el1=>?_⟩
  obtain⟨n0,m0,_,e0⟩:=at_mem (ns:=nums) (i:=0) (by omega) (by omega)
  refine⟨_,rfl,_,rfl,l1,_,rfl,SqL.of el1,fun p1 hp1=>?_⟩
  have ec:cutV (nums.map V.int) (some 3) none=(nums.drop 3).map V.int:=cut_from nums 3 (by omega)
  rw[ec]
  have sp1:=Same.upd (o:=.lst ((nums.drop 3).map V.int)) hp1
  have ep1:(upd H1 p1 (.lst ((nums.drop 3).map V.int))) p1=some (.lst ((nums.drop 3).map V.int)):=upd_same
  generalize upd H1 p1 (.lst ((nums.drop 3).map V.int))=H2 at sp1 ep1 ⊢
  refine⟨(show 3≤sizeLine by decide),fun p2 hp2=>?_⟩
  have sp2:=Same.upd (o:=.lst [V.int 5,V.int 12,V.int 30]) hp2
  have ep2:(upd H2 p2 (.lst [V.int 5,V.int 12,V.int 30])) p2=some (.lst ([5,12,30].map V.int)):=upd_same
  generalize upd H2 p2 (.lst [V.int 5,V.int 12,V.int 30])=H3 at sp2 ep2 ⊢
  obtain⟨mm,hmm,_,em⟩:=at_mem (ns:=[5,12,30]) (i:=n0 % 3) (Int.emod_nonneg _ (by decide)) (Int.emod_lt_of_pos _ (by decide))
  obtain⟨m,rfl,hm⟩:∃ m:Nat,mm=(m:Int)∧m≤30:=⟨mm.toNat,by simp at hmm;omega,by simp at hmm;omega⟩
  have s13:=sp1.trans sp2
  refine⟨_,rfl,l1,_,_,_,rfl,rfl,SqL.of (s13 _ _ el1),e0,_,_,rfl,rfl,(by show (0:Int)<3;decide),p2,_,_,_,rfl,rfl,SqL.of ep2,em,?_⟩
  refine⟨p1,nums.drop 3,m,rfl,sp2 _ _ ep1,fun n hn=>hnums n (List.mem_of_mem_drop hn),by simp;omega,by omega,fun row0 hrow0 hrl0 lr0 H4 hlr0 sm4 elr0=>?_⟩
  have hP4:=(sm1.trans (s13.trans sm4)) _ _ hP
  refine⟨3,rfl,by decide,by decide,for_range (lo:=0) (n:=3) (fun i σ H5=>∃ (row:List Int) (lr:Addr) (v3 v4:Option V),σ=[some (.ref a),some (.ref l1),some (.ref lr),v3,v4]∧Row row∧row.length≤60∧H5 lr=some (.lst (row.map V.int))∧HdTab PT ⟨109,29,109,62⟩ H5) ⟨row0,lr0,none,none,rfl,hrow0,by omega,elr0,.inl hP4⟩ ?_ ?_⟩
  rotate_left
  ·rintro σ H5 _
   exact kk _
  rintro i σ H5 hi ⟨row,lr,v3,v4,rfl,hrow,hrl,elr,tab⟩
  clear elr0 hlr0 hrow0 hrl0 sm4 hP4 s13 em hmm sp1 sp2 ep1 ep2 e0 el1 sm1 hP
  have hlm:(row.map V.int).length=row.length:=List.length_map _
  obtain⟨c,ec',hc1,hcl⟩:∃ c:Int,(if ((row.map V.int).length:Int) > 1 then ((row.map V.int).length:Int)else 1)=c∧1≤c∧(row.length:Int)≤c:=⟨_,rfl,by split <;> omega,by rw[hlm];split <;> omega⟩
  obtain⟨ss,hz⟩:=szs_ex hrow
  have kp:∀ {X Y:Hp} {b:Addr} {o:HO},SameP PT X Y→HdTab PT ⟨109,29,109,62⟩ X→X b=some o→(∀ qs,o≠.tbl qs)→Y b=some o:=fun g t e n=>g _ _ (t.ne e n) e
  refine⟨_,rfl,lr,_,rfl,.inl (SqL.of elr),fun q1 hq1=>?_⟩
  have g6:=Same.upd (o:=.lst (row.map V.int)) hq1
  have f6:(upd H5 q1 (.lst (row.map V.int))) q1=some (.lst (row.map V.int)):=upd_same
  generalize upd H5 q1 (.lst (row.map V.int))=H6 at g6 f6 ⊢
  have elr6:=g6 _ _ elr
  have tab6:=tab.mono g6
  refine⟨q1,row,rfl,f6,hrow,hrl,tab6,fun its qs us lf H7 hH hS g7 hlf elf pr tab7=>?_⟩
  have elr7:=kp g7 tab6 elr6 fun _ z=>by cases z
  have T:=turn_of hrow hrl hcl hc1 hH hS
  have hql:=T.few
  have eul:us.length=qs.length:=Paired.length pr
  clear g6 f6 hq1 elr elr6 tab tab6 g7 hlf
  refine⟨_,rfl,lf,us,qs,0,rfl,elf,pr,.inl rfl,by rw[T.h0.length_eq];exact hrl,fun ms hms hss lm H8 hlm8 g8 elm=>?_⟩
  have em:ms=row:=sorted_unique (hms.trans T.h0) hss (row_le hrow)
  subst em
  refine⟨_,rfl,_,_,Den.ints elm,Den.ints (g8 _ _ elr7),shaped_ints _,shaped_ints _,_,rfl,?_⟩
  rw[eqv_self (shaped_ints ms)]
  have elr8:=g8 _ _ elr7
  have elf8:=g8 _ _ elf
  have tab8:=tab7.mono g8
  have pr8:Paired (IsPp H8) us qs:=pr.mono fun _ _ h=>IsPp.tup (TupS.same g8) h
  clear elr7 elf tab7 pr g8 elm hlm8 hms hss
  refine⟨_,rfl,lf,us,qs,1,rfl,elf8,pr8,.inr rfl,by rw[T.h1.length_eq,walkM_len];exact hrl,fun ms2 hms2 hss2 lm2 H9 hlm9 g9 elm9=>?_⟩
  have em2:ms2=walkM ms c:=sorted_unique (hms2.trans T.h1) hss2 (row_le (walkM_row' hrow hc1))
  subst em2
  have elr9:=g9 _ _ elr8
  refine⟨_,rfl,lr,_,rfl,.inl (SqL.of elr9),fun q3 hq3=>?_⟩
  have g15:=Same.upd (o:=.lst (ms.map V.int)) hq3
  have f15:(upd H9 q3 (.lst (ms.map V.int))) q3=some (.lst (ms.map V.int)):=upd_same
  generalize upd H9 q3 (.lst (ms.map V.int))=H15 at g15 f15 ⊢
  refine⟨q3,ms,rfl,f15,hrow,hrl,fun cs hcs _ lq vs H16 hlq g16 f16 pr16=>?_⟩
  have evl:vs.length=cs.length:=pr16.len
  have ecl:cs.length=ms.length:=by rw[hcs.length_eq,closM_len]
  refine⟨lq,rfl,⟨_,SqL.of f16⟩,comp_list (K:=K) (a:=lq) (xs:=vs) (fun i ys H7=>H7=H16∧ys=((cs.take i).map (·.2)).map V.int) ⟨rfl,rfl⟩ ?_ ?_ ?_⟩
  ·rintro i ys H7 hi ⟨rfl,rfl⟩
   exact⟨SqL.of f16,take_len _ _ (by omega) _⟩
  ·rintro i x ys H7 hi ⟨rfl,rfl⟩
   obtain⟨p,t',hp,rfl,et⟩:=paired_at pr16 hi
   exact⟨t',_,rfl,SqT.of et,rfl,_,_,rfl,_,_,rfl,rfl,_,rfl,rfl,snoc_pairs (·.2) hp⟩
  rintro ys H17 ⟨rfl,rfl⟩ D3 hD3
  rw[evl,List.take_length]
  have g18:=Same.upd (o:=.lst ((cs.map (·.2)).map V.int)) hD3
  have f18:(upd H17 D3 (.lst ((cs.map (·.2)).map V.int))) D3=some (.lst ((cs.map (·.2)).map V.int)):=upd_same
  generalize upd H17 D3 (.lst ((cs.map (·.2)).map V.int))=H18 at g18 f18 ⊢
  refine⟨D3,cs.map (·.2),rfl,f18,by rw[List.length_map];omega,fun ld ms3 hld hms3 hss3=>?_⟩
  have g19:=Same.upd (o:=.lst (ms3.map V.int)) hld
  have f19:(upd H18 ld (.lst (ms3.map V.int))) ld=some (.lst (ms3.map V.int)):=upd_same
  generalize upd H18 ld (.lst (ms3.map V.int))=H19 at g19 f19 ⊢
  have em3:ms3=walkM ms c:=by
   refine sorted_unique (hms3.trans ?_) hss3 (row_le (walkM_row' hrow hc1))
   rw[← closM_snd hcl]
   exact hcs.map _
  subst em3
  have t19:=((g15.trans g16).trans g18).trans g19
  refine⟨_,_,Den.ints (t19 _ _ elm9),Den.ints f19,shaped_ints _,shaped_ints _,_,rfl,?_⟩
  rw[eqv_self (shaped_ints (walkM ms c))]
  have t20:=g9.trans t19
  have elr20:=t20 _ _ elr8
  have elf20:=t20 _ _ elf8
  have tab20:=tab8.mono t20
  have pr20:Paired (IsPp H19) us qs:=pr8.mono fun _ _ h=>IsPp.tup (TupS.same t20) h
  clear t20 t19 g19 f19 hld hms3 hss3 g18 f18 hD3 f16 pr16 g16 hlq hcs g15 f15 hq3 elr9 hms2 hss2 elm9 g9 hlm9 pr8 tab8 elf8 elr8 evl ecl
  refine⟨_,rfl,lf,rfl,⟨_,SqL.of elf20⟩,comp_list (K:=K) (a:=lf) (xs:=us) (fun i ys H7=>H7=H19∧ys=((qs.take i).map fun p=>(p.1.length:Int)).map V.int) ⟨rfl,rfl⟩ ?_ ?_ ?_⟩
  ·rintro i ys H7 hi ⟨rfl,rfl⟩
   exact⟨SqL.of elf20,by rw[List.length_map,List.length_map,List.length_take];exact line_of (by omega)⟩
  ·rintro i x ys H7 hi ⟨rfl,rfl⟩
   obtain⟨p,hp,t,x1,x2,rfl,h1,⟨t1,rfl,k1⟩,⟨t2,rfl,k2⟩⟩:=paired_get pr20 hi
   refine⟨t,_,rfl,SqT.of h1,rfl,_,_,rfl,_,_,rfl,rfl,_,rfl,t1,_,rfl,.inr (SqT.of k1),rfl,?_⟩
   rw[List.take_succ,hp,List.map_append,List.map_append,List.length_map]
   rfl
  rintro ys H21 ⟨rfl,rfl⟩ D4 hD4
  rw[eul,List.take_length]
  have g22:=Same.upd (o:=.lst ((qs.map fun p=>(p.1.length:Int)).map V.int)) hD4
  have f22:(upd H21 D4 (.lst ((qs.map fun p=>(p.1.length:Int)).map V.int))) D4=some (.lst ((qs.map fun p=>(p.1.length:Int)).map V.int)):=upd_same
  generalize upd H21 D4 (.lst ((qs.map fun p=>(p.1.length:Int)).map V.int))=H22 at g22 f22 ⊢
  refine⟨D4,qs.map fun p=>(p.1.length:Int),rfl,f22,by rw[List.length_map];omega,fun ld ms4 hld hms4 hss4=>?_⟩
  have g23:=Same.upd (o:=.lst (ms4.map V.int)) hld
  have f23:(upd H22 ld (.lst (ms4.map V.int))) ld=some (.lst (ms4.map V.int)):=upd_same
  generalize upd H22 ld (.lst (ms4.map V.int))=H23 at g23 f23 ⊢
  have em4:ms4=ss:=sorted_unique (hms4.trans (T.sz ss hz)) hss4 hz.up
  subst em4
  have elr23:=(g22.trans g23) _ _ elr20
  refine⟨_,rfl,lr,_,rfl,.inl (SqL.of elr23),fun q5 hq5=>?_⟩
  have g24:=Same.upd (o:=.lst (ms.map V.int)) hq5
  have f24:(upd H23 q5 (.lst (ms.map V.int))) q5=some (.lst (ms.map V.int)):=upd_same
  generalize upd H23 q5 (.lst (ms.map V.int))=H24 at g24 f24 ⊢
  refine⟨q5,ms,ms4,rfl,f24,hz,hrl,fun lz H25 hlz g25 f25=>?_⟩
  have t25:=g24.trans g25
  refine⟨_,_,Den.ints (t25 _ _ f23),Den.ints f25,shaped_ints _,shaped_ints _,_,rfl,?_⟩
  rw[eqv_self (shaped_ints ms4)]
  have t26:=(g22.trans g23).trans t25
  have elr26:=t26 _ _ elr20
  have elf26:=t26 _ _ elf20
  have tab26:=tab20.mono t26
  have pr26:Paired (IsPp H25) us qs:=pr20.mono fun _ _ h=>IsPp.tup (TupS.same t26) h
  clear t26 t25 g25 f25 hlz g24 f24 hq5 elr23 g23 f23 hld hms4 hss4 g22 f22 hD4 pr20 tab20 elf20 elr20 hz
  refine⟨_,rfl,lr,_,rfl,.inl (SqL.of elr26),fun q6 hq6=>?_⟩
  have g27:=Same.upd (o:=.lst (ms.map V.int)) hq6
  have f27:(upd H25 q6 (.lst (ms.map V.int))) q6=some (.lst (ms.map V.int)):=upd_same
  generalize upd H25 q6 (.lst (ms.map V.int))=H27 at g27 f27 ⊢
  refine⟨_,rfl,lr,_,rfl,.inl (SqL.of (g27 _ _ elr26)),_,_,rfl,?_⟩
  rw[ec']
  refine⟨q6,ms,c,rfl,f27,hrow,hrl,hc1,fun lw H28 hlw g28 f28=>?_⟩
  have t28:=g27.trans g28
  have elf28:=t28 _ _ elf26
  have tab28:=tab26.mono t28
  have pr28:Paired (IsPp H28) us qs:=pr26.mono fun _ _ h=>IsPp.tup (TupS.same t28) h
  clear t28 g28 hlw g27 f27 hq6 pr26 tab26 elf26 elr26
  have hwr:=walkM_row' hrow hc1
  have hwl:(walkM ms c).length≤60:=by rw[walkM_len];exact hrl
  refine⟨_,rfl,lf,rfl,⟨_,SqL.of elf28⟩,comp_list (K:=K) (a:=lf) (xs:=us) (fun i ys H7=>H7=H28∧ys.length=i∧Paired (IsTi H28) ys ((qs.take i).map (·.2))) ⟨rfl,rfl,.nil⟩ ?_ ?_ ?_⟩
  ·rintro i ys H7 hi ⟨rfl,e,_⟩
   exact⟨SqL.of elf28,by rw[e];exact line_of (by omega)⟩
  ·rintro i x ys H7 hi ⟨rfl,e,pq⟩
   obtain⟨p,hp,t,x1,x2,rfl,h1,⟨t1,rfl,k1⟩,⟨t2,rfl,k2⟩⟩:=paired_get pr28 hi
   refine⟨t,_,rfl,SqT.of h1,rfl,_,_,rfl,_,_,rfl,rfl,_,rfl,rfl,by simp[e],?_⟩
   rw[List.take_succ,hp,List.map_append]
   exact Paired.append' pq (.cons ⟨t2,rfl,k2⟩ .nil)
  rintro ys H29 ⟨rfl,eyl,pq⟩ D5 hD5
  rw[eul,List.take_length]at pq
  have g30:=Same.upd (o:=.lst ys) hD5
  have f30:(upd H29 D5 (.lst ys)) D5=some (.lst ys):=upd_same
  have pq30:Paired (IsTi (upd H29 D5 (.lst ys))) ys (qs.map (·.2)):=pq.mono fun _ _ h=>IsTi.tup (TupS.same g30) h
  generalize upd H29 D5 (.lst ys)=H30 at g30 f30 pq30 ⊢
  refine⟨D5,ys,qs.map (·.2),rfl,f30,pq30,by rw[List.length_map];omega,fun x hx=>?_,fun l6 us6 ts6 hl6 pr6 pm6 pw6=>?_⟩
  ·obtain⟨p,hp,rfl⟩:=List.mem_map.mp hx
   exact(T.ne p hp).2
  have g31:=Same.upd (o:=.lst us6) hl6
  have f31:(upd H30 l6 (.lst us6)) l6=some (.lst us6):=upd_same
  have pr31:Paired (IsTi (upd H30 l6 (.lst us6))) us6 ts6:=pr6.mono fun _ _ h=>IsTi.tup (TupS.same g31) h
  generalize upd H30 l6 (.lst us6)=H31 at g31 f31 pr31 ⊢
  have t31:=g30.trans g31
  have elw31:=t31 _ _ f28
  have tab31:=tab28.mono t31
  clear t31 g30 f30 pq30 hD5 pq eyl hl6 pr6 g31 tab28 pr28 elf28
  refine⟨_,rfl,lw,_,rfl,.inl (SqL.of elw31),fun q7 hq7=>?_⟩
  have g32:=Same.upd (o:=.lst ((walkM ms c).map V.int)) hq7
  have f32:(upd H31 q7 (.lst ((walkM ms c).map V.int))) q7=some (.lst ((walkM ms c).map V.int)):=upd_same
  have pr32:Paired (IsTi (upd H31 q7 (.lst ((walkM ms c).map V.int)))) us6 ts6:=pr31.mono fun _ _ h=>IsTi.tup (TupS.same g32) h
  generalize upd H31 q7 (.lst ((walkM ms c).map V.int))=H32 at g32 f32 pr32 ⊢
  have elw32:=g32 _ _ elw31
  have tab32:=tab31.mono g32
  have f32':=g32 _ _ f31
  refine⟨q7,walkM ms c,rfl,f32,hwr,hwl,tab32,fun its2 qs2 us2 l2 H33 hH2 hS2 g33 hl2 el2 pr2 tab33=>?_⟩
  have tl:=T.tl its2 qs2 hH2 hS2
  have elw33:=kp g33 tab32 elw32 fun _ z=>by cases z
  have f33:=kp g33 tab32 f32' fun _ z=>by cases z
  have pr33:Paired (IsTi H33) us6 ts6:=pr32.mono fun _ _ h=>IsTi.tup (fun b xs e=>kp g33 tab32 e fun _ z=>by cases z) h
  have ql2:qs2.length=qs.length:=by have:=tl.length_eq;rw[List.length_map,List.length_map]at this;exact this
  have eul2:us2.length=qs2.length:=Paired.length pr2
  refine⟨l2,rfl,⟨_,SqL.of el2⟩,comp_list (K:=K) (a:=l2) (xs:=us2) (fun i ys H7=>H7=H33∧ys.length=i∧Paired (IsTi H33) ys ((qs2.take i).map (·.1))) ⟨rfl,rfl,.nil⟩ ?_ ?_ ?_⟩
  ·rintro i ys H7 hi ⟨rfl,e,_⟩
   exact⟨SqL.of el2,by rw[e];exact line_of (by omega)⟩
  ·rintro i x ys H7 hi ⟨rfl,e,pq⟩
   obtain⟨p,hp,t,x1,x2,rfl,h1,⟨t1,rfl,k1⟩,⟨t2,rfl,k2⟩⟩:=paired_get pr2 hi
   refine⟨t,_,rfl,SqT.of h1,rfl,_,_,rfl,_,_,rfl,rfl,_,rfl,rfl,by simp[e],?_⟩
   rw[List.take_succ,hp,List.map_append]
   exact Paired.append' pq (.cons ⟨t1,rfl,k1⟩ .nil)
  rintro zs H34 ⟨rfl,ezl,pq⟩ D6 hD6
  rw[eul2,List.take_length]at pq
  have g35:=Same.upd (o:=.lst zs) hD6
  have f35:(upd H34 D6 (.lst zs)) D6=some (.lst zs):=upd_same
  have pq35:Paired (IsTi (upd H34 D6 (.lst zs))) zs (qs2.map (·.1)):=pq.mono fun _ _ h=>IsTi.tup (TupS.same g35) h
  generalize upd H34 D6 (.lst zs)=H35 at g35 f35 pq35 ⊢
  refine⟨D6,zs,qs2.map (·.1),rfl,f35,pq35,by rw[List.length_map];omega,fun x hx=>?_,fun l7 us7 ts7 hl7 pr7 pm7 pw7=>?_⟩
  ·obtain⟨p,hp,rfl⟩:=List.mem_map.mp (tl.mem_iff.mp hx)
   exact(T.ne p hp).2
  have et:ts6=ts7:=srtT_eq (pm6.trans (tl.symm.trans pm7.symm)) pw6 pw7
  subst et
  have g36:=Same.upd (o:=.lst us7) hl7
  have f36:(upd H35 l7 (.lst us7)) l7=some (.lst us7):=upd_same
  have pr36:Paired (IsTi (upd H35 l7 (.lst us7))) us7 ts6:=pr7.mono fun _ _ h=>IsTi.tup (TupS.same g36) h
  generalize upd H35 l7 (.lst us7)=H36 at g36 f36 pr36 ⊢
  have t36:=g35.trans g36
  have pr37:Paired (IsTi H36) us6 ts6:=pr33.mono fun _ _ h=>IsTi.tup (TupS.same t36) h
  refine⟨_,_,.lst (t36 _ _ f33) (ti_dens pr37),.lst f36 (ti_dens pr36),shaped_tIs _,shaped_tIs _,_,rfl,?_⟩
  rw[eqv_self (shaped_tIs ts6)]
  exact⟨walkM ms c,lw,_,_,rfl,hwr,hwl,t36 _ _ elw33,tab33.mono t36⟩
end
end CW
namespace CW
open PySem L2
theorem all_mk {l:PySem.W.OpenLaw} {w:World} {K:PySem.W.Frag} {h:Heap} {mg:Str→Option Value} {fa:Addr} {ts:List Addr} {PT:Addr} (hts:PT∈ts) (X:K.In h) (G:h.Ns mainGlobals mg) (hfa:mg "law"=some (.ref fa))
 {f0:Addr} {od0 an0:Option Addr} {sl0:Array (Option Value)} {oc0 kV0 dc0 pm0 ct0:Value} {cd0:Value}
 {f1:Addr} {od1 an1:Option Addr} {sl1:Array (Option Value)} {oc1 kV1 dc1 pm1 ct1:Value} {cd1:Value}
 {f2:Addr} {od2 an2:Option Addr} {sl2:Array (Option Value)} {oc2 kV2 dc2 pm2 ct2:Value} {cd2:Value}
 {f3:Addr} {od3 an3:Option Addr} {sl3:Array (Option Value)} {oc3 kV3 dc3 pm3 ct3:Value} {cd3:Value}
 {f4:Addr} {od4 an4:Option Addr} {sl4:Array (Option Value)} {oc4 kV4 dc4 pm4 ct4:Value} {cd4:Value}
 {f5:Addr} {od5 an5:Option Addr} {sl5:Array (Option Value)} {oc5 kV5 dc5 pm5 ct5:Value} {cd5:Value}
 {f6:Addr} {od6 an6:Option Addr} {sl6:Array (Option Value)} {oc6 kV6 dc6 pm6 ct6:Value} {cd6:Value}
 {f7:Addr} {od7 an7:Option Addr} {sl7:Array (Option Value)} {oc7 kV7 dc7 pm7 ct7:Value} {cd7:Value}
 {f8:Addr} {od8 an8:Option Addr} {sl8:Array (Option Value)} {oc8 kV8 dc8 pm8 ct8:Value} {cd8:Value}
 {f9:Addr} {od9 an9:Option Addr} {sl9:Array (Option Value)} {oc9 kV9 dc9 pm9 ct9:Value} {cd9:Value}
 {f10:Addr} {od10 an10:Option Addr} {sl10:Array (Option Value)} {oc10 kV10 dc10 pm10 ct10:Value} {cd10:Value}
 {f11:Addr} {od11 an11:Option Addr} {sl11:Array (Option Value)} {oc11 kV11 dc11 pm11 ct11:Value} {cd11:Value}
 {f12:Addr} {od12 an12:Option Addr} {sl12:Array (Option Value)} {oc12 kV12 dc12 pm12 ct12:Value} {cd12:Value}
 {cC:Addr}
 {f13:Addr} {od13 an13:Option Addr} {sl13:Array (Option Value)} {oc13 kV13 dc13 pm13 ct13:Value}
 {f14:Addr} {od14 an14:Option Addr} {sl14:Array (Option Value)} {oc14 kV14 dc14 pm14 ct14:Value} {cd14:Value}
 {f15:Addr} {od15 an15:Option Addr} {sl15:Array (Option Value)} {oc15 kV15 dc15 pm15 ct15:Value} {cd15:Value}
 {f16:Addr} {od16 an16:Option Addr} {sl16:Array (Option Value)} {oc16 kV16 dc16 pm16 ct16:Value} {cd16:Value}
 {f17:Addr} {od17 an17:Option Addr} {sl17:Array (Option Value)} {oc17 kV17 dc17 pm17 ct17:Value} {cd17:Value}
 {f18:Addr} {od18 an18:Option Addr} {sl18:Array (Option Value)} {oc18 kV18 dc18 pm18 ct18:Value} {cd18:Value}
 {t_MOST_STONES:Tok}
 (a0:PySem.W.nsIn K mainGlobals "look_row"=some (some (.ref f0)))
 (l0:K.lookup f0=some ⟨oc0,od0,.func (PySem.W.fnOf "look_row" "look_row" (defArgs s_look_row) (defBody s_look_row) (defScope s_look_row) .none kV0 dc0 pm0 an0 cd0 ct0),sl0⟩)
 (c0:PySem.W.codeIn K cd0 "look_row"=true)
 (k0:PySem.W.keepIn K (.ref f0)=true)
 (a1:PySem.W.nsIn K mainGlobals "look_creel"=some (some (.ref f1)))
 (l1:K.lookup f1=some ⟨oc1,od1,.func (PySem.W.fnOf "look_creel" "look_creel" (defArgs s_look_creel) (defBody s_look_creel) (defScope s_look_creel) .none kV1 dc1 pm1 an1 cd1 ct1),sl1⟩)
 (c1:PySem.W.codeIn K cd1 "look_creel"=true)
 (k1:PySem.W.keepIn K (.ref f1)=true)
 (a2:PySem.W.nsIn K mainGlobals "stretches"=some (some (.ref f2)))
 (l2:K.lookup f2=some ⟨oc2,od2,.func (PySem.W.fnOf "stretches" "stretches" (defArgs s_stretches) (defBody s_stretches) (defScope s_stretches) .none kV2 dc2 pm2 an2 cd2 ct2),sl2⟩)
 (c2:PySem.W.codeIn K cd2 "stretches"=true)
 (k2:PySem.W.keepIn K (.ref f2)=true)
 (a3:PySem.W.nsIn K mainGlobals "walked"=some (some (.ref f3)))
 (l3:K.lookup f3=some ⟨oc3,od3,.func (PySem.W.fnOf "walked" "walked" (defArgs s_walked) (defBody s_walked) (defScope s_walked) .none kV3 dc3 pm3 an3 cd3 ct3),sl3⟩)
 (c3:PySem.W.codeIn K cd3 "walked"=true)
 (k3:PySem.W.keepIn K (.ref f3)=true)
 (a4:PySem.W.nsIn K mainGlobals "closings"=some (some (.ref f4)))
 (l4:K.lookup f4=some ⟨oc4,od4,.func (PySem.W.fnOf "closings" "closings" (defArgs s_closings) (defBody s_closings) (defScope s_closings) .none kV4 dc4 pm4 an4 cd4 ct4),sl4⟩)
 (c4:PySem.W.codeIn K cd4 "closings"=true)
 (k4:PySem.W.keepIn K (.ref f4)=true)
 (a5:PySem.W.nsIn K mainGlobals "peeled"=some (some (.ref f5)))
 (l5:K.lookup f5=some ⟨oc5,od5,.func (PySem.W.fnOf "peeled" "peeled" (defArgs s_peeled) (defBody s_peeled) (defScope s_peeled) .none kV5 dc5 pm5 an5 cd5 ct5),sl5⟩)
 (c5:PySem.W.codeIn K cd5 "peeled"=true)
 (k5:PySem.W.keepIn K (.ref f5)=true)
 (a6:PySem.W.nsIn K mainGlobals "rounds"=some (some (.ref f6)))
 (l6:K.lookup f6=some ⟨oc6,od6,.func (PySem.W.fnOf "rounds" "rounds" (defArgs s_rounds) (defBody s_rounds) (defScope s_rounds) .none kV6 dc6 pm6 an6 cd6 ct6),sl6⟩)
 (c6:PySem.W.codeIn K cd6 "rounds"=true)
 (k6:PySem.W.keepIn K (.ref f6)=true)
 (a7:PySem.W.nsIn K mainGlobals "sizes_by_counts"=some (some (.ref f7)))
 (l7:K.lookup f7=some ⟨oc7,od7,.func (PySem.W.fnOf "sizes_by_counts" "sizes_by_counts" (defArgs s_sizes_by_counts) (defBody s_sizes_by_counts) (defScope s_sizes_by_counts) .none kV7 dc7 pm7 an7 cd7 ct7),sl7⟩)
 (c7:PySem.W.codeIn K cd7 "sizes_by_counts"=true)
 (k7:PySem.W.keepIn K (.ref f7)=true)
 (a8:PySem.W.nsIn K mainGlobals "sizes_by_rounds"=some (some (.ref f8)))
 (l8:K.lookup f8=some ⟨oc8,od8,.func (PySem.W.fnOf "sizes_by_rounds" "sizes_by_rounds" (defArgs s_sizes_by_rounds) (defBody s_sizes_by_rounds) (defScope s_sizes_by_rounds) .none kV8 dc8 pm8 an8 cd8 ct8),sl8⟩)
 (c8:PySem.W.codeIn K cd8 "sizes_by_rounds"=true)
 (k8:PySem.W.keepIn K (.ref f8)=true)
 (a9:PySem.W.nsIn K mainGlobals "run_length"=some (some (.ref f9)))
 (l9:K.lookup f9=some ⟨oc9,od9,.func (PySem.W.fnOf "run_length" "run_length" (defArgs s_run_length) (defBody s_run_length) (defScope s_run_length) .none kV9 dc9 pm9 an9 cd9 ct9),sl9⟩)
 (c9:PySem.W.codeIn K cd9 "run_length"=true)
 (k9:PySem.W.keepIn K (.ref f9)=true)
 (a10:PySem.W.nsIn K mainGlobals "cut_run"=some (some (.ref f10)))
 (l10:K.lookup f10=some ⟨oc10,od10,.func (PySem.W.fnOf "cut_run" "cut_run" (defArgs s_cut_run) (defBody s_cut_run) (defScope s_cut_run) .none kV10 dc10 pm10 an10 cd10 ct10),sl10⟩)
 (c10:PySem.W.codeIn K cd10 "cut_run"=true)
 (k10:PySem.W.keepIn K (.ref f10)=true)
 (a11:PySem.W.nsIn K mainGlobals "found_run"=some (some (.ref f11)))
 (l11:K.lookup f11=some ⟨oc11,od11,.func (PySem.W.fnOf "found_run" "found_run" (defArgs s_found_run) (defBody s_found_run) (defScope s_found_run) .none kV11 dc11 pm11 an11 cd11 ct11),sl11⟩)
 (c11:PySem.W.codeIn K cd11 "found_run"=true)
 (k11:PySem.W.keepIn K (.ref f11)=true)
 (a12:PySem.W.nsIn K mainGlobals "road_runs"=some (some (.ref f12)))
 (l12:K.lookup f12=some ⟨oc12,od12,.func (PySem.W.fnOf "road_runs" "road_runs" (defArgs s_road_runs) (defBody s_road_runs) (defScope s_road_runs) .none kV12 dc12 pm12 an12 cd12 ct12),sl12⟩)
 (c12:PySem.W.codeIn K cd12 "road_runs"=true)
 (k12:PySem.W.keepIn K (.ref f12)=true)
 (a13:PySem.W.nsIn K mainGlobals "heads"=some (some (.ref f13)))
 (l13:K.lookup f13=some ⟨oc13,od13,.func (PySem.W.fnOf "heads" "heads" (defArgs s_heads) (defBody s_heads) (defScope s_heads) .none kV13 dc13 pm13 an13 (.ref cC) ct13),sl13⟩)
 (c13:PySem.W.codeIn K (.ref cC) "heads"=true)
 (k13:PySem.W.keepIn K (.ref f13)=true)
 (a14:PySem.W.nsIn K mainGlobals "_law_numbers"=some (some (.ref f14)))
 (l14:K.lookup f14=some ⟨oc14,od14,.func (PySem.W.fnOf "_law_numbers" "_law_numbers" (defArgs s_law_numbers) (defBody s_law_numbers) (defScope s_law_numbers) .none kV14 dc14 pm14 an14 cd14 ct14),sl14⟩)
 (c14:PySem.W.codeIn K cd14 "_law_numbers"=true)
 (k14:PySem.W.keepIn K (.ref f14)=true)
 (a15:PySem.W.nsIn K mainGlobals "_law_row"=some (some (.ref f15)))
 (l15:K.lookup f15=some ⟨oc15,od15,.func (PySem.W.fnOf "_law_row" "_law_row" (defArgs s_law_row) (defBody s_law_row) (defScope s_law_row) .none kV15 dc15 pm15 an15 cd15 ct15),sl15⟩)
 (c15:PySem.W.codeIn K cd15 "_law_row"=true)
 (k15:PySem.W.keepIn K (.ref f15)=true)
 (a16:PySem.W.nsIn K mainGlobals "_law_long_row"=some (some (.ref f16)))
 (l16:K.lookup f16=some ⟨oc16,od16,.func (PySem.W.fnOf "_law_long_row" "_law_long_row" (defArgs s_law_long_row) (defBody s_law_long_row) (defScope s_law_long_row) .none kV16 dc16 pm16 an16 cd16 ct16),sl16⟩)
 (c16:PySem.W.codeIn K cd16 "_law_long_row"=true)
 (k16:PySem.W.keepIn K (.ref f16)=true)
 (a17:PySem.W.nsIn K mainGlobals "_law_all"=some (some (.ref f17)))
 (l17:K.lookup f17=some ⟨oc17,od17,.func (PySem.W.fnOf "_law_all" "_law_all" (defArgs s_law_all) (defBody s_law_all) (defScope s_law_all) .none kV17 dc17 pm17 an17 cd17 ct17),sl17⟩)
 (c17:PySem.W.codeIn K cd17 "_law_all"=true)
 (k17:PySem.W.keepIn K (.ref f17)=true)
 (a18:PySem.W.nsIn K mainGlobals "law"=some (some (.ref f18)))
 (l18:K.lookup f18=some ⟨oc18,od18,.func (PySem.W.fnOf "law" "law" (defArgs s_law) (defBody s_law) (defScope s_law) .none kV18 dc18 pm18 an18 cd18 ct18),sl18⟩)
 (c18:PySem.W.codeIn K cd18 "law"=true)
 (k18:PySem.W.keepIn K (.ref f18)=true)
 (z_len:PySem.W.nsIn K mainGlobals "len"=some none)
 (z_range:PySem.W.nsIn K mainGlobals "range"=some none)
 (z_list:PySem.W.nsIn K mainGlobals "list"=some none)
 (z_tuple:PySem.W.nsIn K mainGlobals "tuple"=some none)
 (z_bool:PySem.W.nsIn K mainGlobals "bool"=some none)
 (z_str:PySem.W.nsIn K mainGlobals "str"=some none)
 (z_int:PySem.W.nsIn K mainGlobals "int"=some none)
 (z_isinstance:PySem.W.nsIn K mainGlobals "isinstance"=some none)
 (z_all:PySem.W.nsIn K mainGlobals "all"=some none)
 (z_sorted:PySem.W.nsIn K mainGlobals "sorted"=some none)
 (z_max:PySem.W.nsIn K mainGlobals "max"=some none)
 (z_min:PySem.W.nsIn K mainGlobals "min"=some none)
 (z_set:PySem.W.nsIn K mainGlobals "set"=some none)
 (z_reversed:PySem.W.nsIn K mainGlobals "reversed"=some none)
 (z_sum:PySem.W.nsIn K mainGlobals "sum"=some none)
 (z_enumerate:PySem.W.nsIn K mainGlobals "enumerate"=some none)
 (z_zip:PySem.W.nsIn K mainGlobals "zip"=some none)
 (z_any:PySem.W.nsIn K mainGlobals "any"=some none)
 (z_abs:PySem.W.nsIn K mainGlobals "abs"=some none)
 (y_MOST_STONES:PySem.W.nsIn K mainGlobals "MOST_STONES"=some (some (.int 60 t_MOST_STONES)))
 (hcp:PySem.W.codeHdIn K cC PT=true)
 (hlp:K.lookup PT=none) :
 ∃ (fd:FuncData) (c P:Addr),P∈ts∧PySem.W.codeHdIn K c P=true∧K.lookup P=none∧(∀ (s:Shared) (v:Value),BindsTo s fd ⟨[v],[]⟩ [("_law_script",v)])∧∀ base:Heap,K.In base→base.Ns mainGlobals mg→BMain mg base→PySem.W.CodeHd base c P→FnOk l.prog w K mg base CX0 6 fa fd ["_law_script"] (spLawT K P):=by
 have e:=hfa.symm.trans (PySem.W.mg_of X G a18)
 cases e
 have B:Bt mg:=⟨PySem.W.mg_none_of X G z_len,PySem.W.mg_none_of X G z_range,PySem.W.mg_none_of X G z_list,PySem.W.mg_none_of X G z_tuple,PySem.W.mg_none_of X G z_bool,PySem.W.mg_none_of X G z_str,PySem.W.mg_none_of X G z_int,PySem.W.mg_none_of X G z_isinstance,PySem.W.mg_none_of X G z_all,PySem.W.mg_none_of X G z_sorted,PySem.W.mg_none_of X G z_max,PySem.W.mg_none_of X G z_min,PySem.W.mg_none_of X G z_set,PySem.W.mg_none_of X G z_reversed,PySem.W.mg_none_of X G z_sum,PySem.W.mg_none_of X G z_enumerate,PySem.W.mg_none_of X G z_zip,PySem.W.mg_none_of X G z_any,PySem.W.mg_none_of X G z_abs⟩
 have C:Cn mg t_MOST_STONES:=⟨PySem.W.mg_of X G y_MOST_STONES⟩
 have F0:=fun_mk (st:=s_look_row) l0 c0 k0
 have b0:=F0.binds1 (p1:="row") fun _ _ _ _ _ _ _=>rfl
 have m0:=PySem.W.mg_of X G a0
 have F1:=fun_mk (st:=s_look_creel) l1 c1 k1
 have b1:=F1.binds1 (p1:="creel") fun _ _ _ _ _ _ _=>rfl
 have m1:=PySem.W.mg_of X G a1
 have F2:=fun_mk (st:=s_stretches) l2 c2 k2
 have b2:=F2.binds1 (p1:="row") fun _ _ _ _ _ _ _=>rfl
 have m2:=PySem.W.mg_of X G a2
 have F3:=fun_mk (st:=s_walked) l3 c3 k3
 have b3:=F3.binds2 (p1:="row") (p2:="creel") fun _ _ _ _ _ _ _ _=>rfl
 have m3:=PySem.W.mg_of X G a3
 have F4:=fun_mk (st:=s_closings) l4 c4 k4
 have b4:=F4.binds1 (p1:="row") fun _ _ _ _ _ _ _=>rfl
 have m4:=PySem.W.mg_of X G a4
 have F5:=fun_mk (st:=s_peeled) l5 c5 k5
 have b5:=F5.binds1 (p1:="row") fun _ _ _ _ _ _ _=>rfl
 have m5:=PySem.W.mg_of X G a5
 have F6:=fun_mk (st:=s_rounds) l6 c6 k6
 have b6:=F6.binds1 (p1:="row") fun _ _ _ _ _ _ _=>rfl
 have m6:=PySem.W.mg_of X G a6
 have F7:=fun_mk (st:=s_sizes_by_counts) l7 c7 k7
 have b7:=F7.binds1 (p1:="counts") fun _ _ _ _ _ _ _=>rfl
 have m7:=PySem.W.mg_of X G a7
 have F8:=fun_mk (st:=s_sizes_by_rounds) l8 c8 k8
 have b8:=F8.binds1 (p1:="row") fun _ _ _ _ _ _ _=>rfl
 have m8:=PySem.W.mg_of X G a8
 have F9:=fun_mk (st:=s_run_length) l9 c9 k9
 have b9:=F9.binds1 (p1:="run") fun _ _ _ _ _ _ _=>rfl
 have m9:=PySem.W.mg_of X G a9
 have F10:=fun_mk (st:=s_cut_run) l10 c10 k10
 have b10:=F10.binds2 (p1:="run") (p2:="many") fun _ _ _ _ _ _ _ _=>rfl
 have m10:=PySem.W.mg_of X G a10
 have F11:=fun_mk (st:=s_found_run) l11 c11 k11
 have b11:=F11.binds1 (p1:="runs") fun _ _ _ _ _ _ _=>rfl
 have m11:=PySem.W.mg_of X G a11
 have F12:=fun_mk (st:=s_road_runs) l12 c12 k12
 have b12:=F12.binds1 (p1:="row") fun _ _ _ _ _ _ _=>rfl
 have m12:=PySem.W.mg_of X G a12
 have F13:=fun_mk (st:=s_heads) l13 c13 k13
 have b13:=F13.binds1 (p1:="row") fun _ _ _ _ _ _ _=>rfl
 have m13:=PySem.W.mg_of X G a13
 have F14:=fun_mk (st:=s_law_numbers) l14 c14 k14
 have b14:=F14.binds2 (p1:="_law_script") (p2:="_law_many") fun _ _ _ _ _ _ _ _=>rfl
 have m14:=PySem.W.mg_of X G a14
 have F15:=fun_mk (st:=s_law_row) l15 c15 k15
 have b15:=F15.binds2 (p1:="_law_d") (p2:="_law_most") fun _ _ _ _ _ _ _ _=>rfl
 have m15:=PySem.W.mg_of X G a15
 have F16:=fun_mk (st:=s_law_long_row) l16 c16 k16
 have b16:=F16.binds2 (p1:="_law_d") (p2:="_law_most") fun _ _ _ _ _ _ _ _=>rfl
 have m16:=PySem.W.mg_of X G a16
 have F17:=fun_mk (st:=s_law_all) l17 c17 k17
 have b17:=F17.binds2 (p1:="_law_pairs") (p2:="_law_side") fun _ _ _ _ _ _ _ _=>rfl
 have m17:=PySem.W.mg_of X G a17
 have F18:=fun_mk (st:=s_law) l18 c18 k18
 have b18:=F18.binds1 (p1:="_law_script") fun _ _ _ _ _ _ _=>rfl
 have m18:=PySem.W.mg_of X G a18
 refine⟨PySem.W.fnOf "law" "law" (defArgs s_law) (defBody s_law) (defScope s_law) .none kV18 dc18 pm18 an18 cd18 ct18,cC,PT,hts,hcp,hlp,fun s v=>.of_eq rfl,fun base _ _ hbm hC=>?_⟩
 have A_look_row:FnAt l.prog w K mg base "look_row" 1 ["row"] spLook:=⟨f0,_,ok_look F0 B C,m0,k0,b0⟩
 have A_look_creel:FnAt l.prog w K mg base "look_creel" 1 ["creel"] spLookCreel:=⟨f1,_,ok_look_creel F1 B,m1,k1,b1⟩
 have A_stretches:FnAt l.prog w K mg base "stretches" 2 ["row"] spStretches:=⟨f2,_,ok_stretches F2 B A_look_row,m2,k2,b2⟩
 have A_walked:FnAt l.prog w K mg base "walked" 2 ["row","creel"] spWalked:=⟨f3,_,ok_walked F3 B A_look_row A_look_creel,m3,k3,b3⟩
 have A_closings:FnAt l.prog w K mg base "closings" 2 ["row"] spClosings:=⟨f4,_,ok_closings F4 B A_look_row,m4,k4,b4⟩
 have A_peeled:FnAt l.prog w K mg base "peeled" 3 ["row"] spPeeled:=⟨f5,_,ok_peeled F5 B A_stretches,m5,k5,b5⟩
 have A_rounds:FnAt l.prog w K mg base "rounds" 4 ["row"] spRounds:=⟨f6,_,ok_rounds F6 B A_stretches A_peeled,m6,k6,b6⟩
 have A_sizes_by_counts:FnAt l.prog w K mg base "sizes_by_counts" 1 ["counts"] spCounts:=⟨f7,_,ok_counts F7 B,m7,k7,b7⟩
 have A_sizes_by_rounds:FnAt l.prog w K mg base "sizes_by_rounds" 5 ["row"] spSizes:=⟨f8,_,ok_sizes_rounds F8 B A_rounds A_sizes_by_counts,m8,k8,b8⟩
 have A_run_length:FnAt l.prog w K mg base "run_length" 1 ["run"] spRunLen:=⟨f9,_,ok_run_length F9 B,m9,k9,b9⟩
 have A_cut_run:FnAt l.prog w K mg base "cut_run" 1 ["run","many"] spCutRun:=⟨f10,_,ok_cut_run F10 B,m10,k10,b10⟩
 have A_found_run:FnAt l.prog w K mg base "found_run" 2 ["runs"] spFoundRun:=⟨f11,_,ok_found_run F11 B A_run_length,m11,k11,b11⟩
 have A_road_runs:FnAt l.prog w K mg base "road_runs" 3 ["row"] spRoad:=⟨f12,_,ok_road_runs F12 B A_stretches,m12,k12,b12⟩
 have A_heads:FnAt l.prog w K mg base "heads" 5 ["row"] (spHeadsG PT ⟨109,29,109,62⟩):=⟨f13,_,ok_heads ⟨⟨_,_,_,_,_,_,_,_,rfl,l13,c13⟩⟩ hC hbm B A_road_runs A_found_run A_run_length A_cut_run,m13,k13,b13⟩
 have A_law_numbers:FnAt l.prog w K mg base "_law_numbers" 1 ["_law_script","_law_many"] (spNumbers K):=⟨f14,_,ok_numbers F14 B,m14,k14,b14⟩
 have A_law_row:FnAt l.prog w K mg base "_law_row" 1 ["_law_d","_law_most"] spRow:=⟨f15,_,ok_row F15 B,m15,k15,b15⟩
 have A_law_long_row:FnAt l.prog w K mg base "_law_long_row" 2 ["_law_d","_law_most"] spLong:=⟨f16,_,ok_long F16 B A_law_row,m16,k16,b16⟩
 have A_law_all:FnAt l.prog w K mg base "_law_all" 1 ["_law_pairs","_law_side"] spAll:=⟨f17,_,ok_all F17 B,m17,k17,b17⟩
 exact ok_law F18 B A_law_numbers A_law_long_row A_law_all A_heads A_closings A_sizes_by_rounds A_walked
theorem walk {l:PySem.W.OpenLaw} {q:Program} {loose:List Str} {XP:(Str→Option Value)→Heap→Prop} {YP:World→Heap→Prop} {d:DefRec} {K:Params→PySem.W.Frag} (hn:l.most=some 63) (hdf:d.params.defaults=[]) {ts:List Addr}
 (hY:∀ (w:World) (h:Heap),YP w h→(K w.params).In h) (hTab:∀ (w:World) (h:Heap),YP w h→∀ P∈ts,h.get? P=some (PySem.W.tabObj #[]))
 (F:∀ (w:World) (mg:Str→Option Value) (fa:Addr) (h:Heap),(K w.params).In h→h.Ns mainGlobals mg→mg d.name=some (.ref fa) →
  ∃ (fd:FuncData) (c P:Addr),P∈ts∧PySem.W.codeHdIn (K w.params) c P=true∧(K w.params).lookup P=none∧(∀ (s:Shared) (v:Value),BindsTo s fd ⟨[v],[]⟩ [("_law_script",v)])∧∀ base:Heap,(K w.params).In base→base.Ns mainGlobals mg→BMain mg base→PySem.W.CodeHd base c P→FnOk l.prog w (K w.params) mg base CX0 6 fa fd ["_law_script"] (spLawT (K w.params) P)) :
 PySem.W.WalkO q loose XP YP l.row.toRowW d [] (fun f vs=>PySem.call f vs) :=
 L2.walk_ofT (n:=63) (k:=6) (x:="_law_script") (CX:=fun _=>CX0) (sp:=fun w P=>spLawT (K w.params) P) hn (by decide) hdf ⟨rfl,by decide,by decide⟩ hY hTab F (fun _ P H a ns hl hP hS=>⟨a,ns,rfl,hP,hS,hl,fun _=>rfl⟩) fun _ _ _ _ _ z=>z
end CW
def PySem.W.Fast.tw1915650368294861973:Unit:=()
def PySem.W.Fast.tw5480236643188284051:Unit:=()
def PySem.W.Fast.tw15743629512570524623:Unit:=()
def PySem.W.Fast.tw11902038483812867474:Unit:=()
def PySem.W.Fast.tw3072039069418838922:Unit:=()
def PySem.W.Fast.tw2603990100826696688:Unit:=()
def PySem.W.Fast.tw3674645489424434997:Unit:=()
def PySem.W.Fast.tw16019729410918799367:Unit:=()
def PySem.W.Fast.tw54086301698912822:Unit:=()
def PySem.W.Fast.tw4206535235122615823:Unit:=()
def PySem.W.Fast.tw936743251178846971:Unit:=()
def PySem.W.Fast.tw12943674814891099011:Unit:=()
def PySem.W.Fast.tw12351576560081776719:Unit:=()
def PySem.W.Fast.tw43154066355945984:Unit:=()
def PySem.W.Fast.tw15080753036128559532:Unit:=()
def PySem.W.Fast.tw14060905158847292236:Unit:=()
def PySem.W.Fast.tw585999287235173939:Unit:=()
def PySem.W.Fast.tw17414683213786131187:Unit:=()
def PySem.W.Fast.tw1689358274221424186:Unit:=()
def PySem.W.Fast.tw151353084946984506:Unit:=()
def PySem.W.Fast.tw6053171114843822323:Unit:=()
def PySem.W.Fast.tw17792543904000647611:Unit:=()
def PySem.W.Fast.tw375074288341683031:Unit:=()
def PySem.W.Fast.tw14305283447426965888:Unit:=()
def PySem.W.Fast.tw1177269776157652574:Unit:=()
def PySem.W.Fast.tw7744478905518456268:Unit:=()
def PySem.W.Fast.tw18095242507048106011:Unit:=()
def PySem.W.Fast.tw9799061191687280733:Unit:=()
def PySem.W.Fast.tw16025844136139102964:Unit:=()
def PySem.W.Fast.tw7550676780983032547:Unit:=()
def PySem.W.Fast.tw17258768487065276677:Unit:=()
def PySem.W.Fast.tw12192109615909290461:Unit:=()
def PySem.W.Fast.tw17085561545632003083:Unit:=()
def PySem.W.Fast.tw14311405143210667997:Unit:=()
def PySem.W.Fast.tw13484134964939120308:Unit:=()
def PySem.W.Fast.tw655191290523097967:Unit:=()
def PySem.W.Fast.tw15777938674537386007:Unit:=()
def PySem.W.Fast.tw6001323666737787394:Unit:=()
def PySem.W.Fast.tw14369164561704744566:Unit:=()
def PySem.W.Fast.tw9821288131863684897:Unit:=()
def PySem.W.Fast.tw6265469494911945343:Unit:=()
def PySem.W.Fast.tw660280369969231310:Unit:=()
def PySem.W.Fast.tw14602349039344374228:Unit:=()
def PySem.W.Fast.tw6632481893253334834:Unit:=()
def PySem.W.Fast.tw7866614733158654259:Unit:=()
def PySem.W.Fast.tw1554879470301042720:Unit:=()
def PySem.W.Fast.tw13804361721292453972:Unit:=()
def PySem.W.Fast.tw13964892394512954124:Unit:=()
def PySem.W.Fast.tw9075801616099644308:Unit:=()
def PySem.W.Fast.tw4522351966566020200:Unit:=()
def PySem.W.Fast.tw16748476727539751202:Unit:=()
def PySem.W.Fast.tw2136160376686276025:Unit:=()
def PySem.W.Fast.tw4842669673509652915:Unit:=()
def PySem.W.Fast.tw17160940341142706115:Unit:=()
def PySem.W.Fast.tw16387467943536707015:Unit:=()
def PySem.W.Fast.tw10759319541384237040:Unit:=()
def PySem.W.Fast.tw12385247292602477263:Unit:=()
def PySem.W.Fast.tw117702946013991753:Unit:=()
def PySem.W.Fast.tw3096533426580612392:Unit:=()
def PySem.W.Fast.tw1307263299224374538:Unit:=()
def PySem.W.Fast.tw5463675579052862542:Unit:=()
def PySem.W.Fast.tw8985628105510194917:Unit:=()
def PySem.W.Fast.tw11226924680326177631:Unit:=()
def PySem.W.Fast.tw15278626824119484184:Unit:=()
def PySem.W.Fast.tw10734585395590009647:Unit:=()
def PySem.W.Fast.tw9630656733257573432:Unit:=()
def PySem.W.Fast.tw16476441085762625534:Unit:=()
def PySem.W.Fast.tw12013589512538071142:Unit:=()
def PySem.W.Fast.tw2408049630291019858:Unit:=()
def PySem.W.Fast.tw5196596787925974886:Unit:=()
def PySem.W.Fast.tw8550226448206629459:Unit:=()
def PySem.W.Fast.tw8587037348103439653:Unit:=()
def PySem.W.Fast.tw1136142298370446355:Unit:=()
def PySem.W.Fast.tw2278602012269365848:Unit:=()
def PySem.W.Fast.tw4565097430652344500:Unit:=()
def PySem.W.Fast.tw14290008364284047977:Unit:=()
def PySem.W.Fast.tw14607937104912769097:Unit:=()
def PySem.W.Fast.tw214218432099358127:Unit:=()
def PySem.W.Fast.tw11436005817229338841:Unit:=()
def PySem.W.Fast.tw14005469012093188467:Unit:=()
def PySem.W.Fast.tw3092464276456939347:Unit:=()
def PySem.W.Fast.tw4155529917750123842:Unit:=()
def PySem.W.Fast.tw3934998632673545449:Unit:=()
def PySem.W.Fast.tw10465428513359635424:Unit:=()
def PySem.W.Fast.tw9124181802974960977:Unit:=()
def PySem.W.Fast.tw1484065732939018555:Unit:=()
def PySem.W.Fast.tw11792537831995638744:Unit:=()
def PySem.W.Fast.tw5268621782147969352:Unit:=()
def PySem.W.Fast.tw15691941991178791816:Unit:=()
def PySem.W.Fast.tw3132554185598694296:Unit:=()
def PySem.W.Fast.tw13367847741907360030:Unit:=()
open PySem PySem.W PyProof.Rows
set_option maxRecDepth 100000 in
set_option maxHeartbeats 0 in
theorem PySem.Challenge.cw_creelway_k15_whole_tails_become_heads_holds : PySem.Challenge.rw_creelway_k15_whole_tails_become_heads.Holds := by
 w_on;o_law;k_head;(case hw=>w_witness2)
 k_fill
 refine CW.walk (l:=PySem.Challenge.rw_creelway_k15_whole_tails_become_heads) rfl rfl (fun w h Y=>PySem.W.km_in_of Y) (fun w h Y=>PySem.W.km_tabs_of Y) ?F
 case F =>
  intro w mg fa h KX G hmg
  refine' CW.all_mk (List.Mem.head _) KX G hmg ?a0 ?l0 ?c0 ?k0 ?a1 ?l1 ?c1 ?k1 ?a2 ?l2 ?c2 ?k2 ?a3 ?l3 ?c3 ?k3 ?a4 ?l4 ?c4 ?k4 ?a5 ?l5 ?c5 ?k5 ?a6 ?l6 ?c6 ?k6 ?a7 ?l7 ?c7 ?k7 ?a8 ?l8 ?c8 ?k8 ?a9 ?l9 ?c9 ?k9 ?a10 ?l10 ?c10 ?k10 ?a11 ?l11 ?c11 ?k11 ?a12 ?l12 ?c12 ?k12 ?a13 ?l13 ?c13 ?k13 ?a14 ?l14 ?c14 ?k14 ?a15 ?l15 ?c15 ?k15 ?a16 ?l16 ?c16 ?k16 ?a17 ?l17 ?c17 ?k17 ?a18 ?l18 ?c18 ?k18 ?z_len ?z_range ?z_list ?z_tuple ?z_bool ?z_str ?z_int ?z_isinstance ?z_all ?z_sorted ?z_max ?z_min ?z_set ?z_reversed ?z_sum ?z_enumerate ?z_zip ?z_any ?z_abs ?y_MOST_STONES ?hcp ?hlp
  (case a0=>k_is)
  (case l0=>k_is)
  (case c0=>k_is)
  (case k0=>k_is)
  (case a1=>k_is)
  (case l1=>k_is)
  (case c1=>k_is)
  (case k1=>k_is)
  (case a2=>k_is)
  (case l2=>k_is)
  (case c2=>k_is)
  (case k2=>k_is)
  (case a3=>k_is)
  (case l3=>k_is)
  (case c3=>k_is)
  (case k3=>k_is)
  (case a4=>k_is)
  (case l4=>k_is)
  (case c4=>k_is)
  (case k4=>k_is)
  (case a5=>k_is)
  (case l5=>k_is)
  (case c5=>k_is)
  (case k5=>k_is)
  (case a6=>k_is)
  (case l6=>k_is)
  (case c6=>k_is)
  (case k6=>k_is)
  (case a7=>k_is)
  (case l7=>k_is)
  (case c7=>k_is)
  (case k7=>k_is)
  (case a8=>k_is)
  (case l8=>k_is)
  (case c8=>k_is)
  (case k8=>k_is)
  (case a9=>k_is)
  (case l9=>k_is)
  (case c9=>k_is)
  (case k9=>k_is)
  (case a10=>k_is)
  (case l10=>k_is)
  (case c10=>k_is)
  (case k10=>k_is)
  (case a11=>k_is)
  (case l11=>k_is)
  (case c11=>k_is)
  (case k11=>k_is)
  (case a12=>k_is)
  (case l12=>k_is)
  (case c12=>k_is)
  (case k12=>k_is)
  (case a13=>k_is)
  (case l13=>k_is)
  (case c13=>k_is)
  (case k13=>k_is)
  (case a14=>k_is)
  (case l14=>k_is)
  (case c14=>k_is)
  (case k14=>k_is)
  (case a15=>k_is)
  (case l15=>k_is)
  (case c15=>k_is)
  (case k15=>k_is)
  (case a16=>k_is)
  (case l16=>k_is)
  (case c16=>k_is)
  (case k16=>k_is)
  (case a17=>k_is)
  (case l17=>k_is)
  (case c17=>k_is)
  (case k17=>k_is)
  (case a18=>k_is)
  (case l18=>k_is)
  (case c18=>k_is)
  (case k18=>k_is)
  (case z_len=>k_is)
  (case z_range=>k_is)
  (case z_list=>k_is)
  (case z_tuple=>k_is)
  (case z_bool=>k_is)
  (case z_str=>k_is)
  (case z_int=>k_is)
  (case z_isinstance=>k_is)
  (case z_all=>k_is)
  (case z_sorted=>k_is)
  (case z_max=>k_is)
  (case z_min=>k_is)
  (case z_set=>k_is)
  (case z_reversed=>k_is)
  (case z_sum=>k_is)
  (case z_enumerate=>k_is)
  (case z_zip=>k_is)
  (case z_any=>k_is)
  (case z_abs=>k_is)
  (case y_MOST_STONES=>k_is)
  (case hcp=>kernel_rfl)
  (case hlp=>kernel_rfl)
