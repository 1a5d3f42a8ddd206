import PyProof.Rows.All
import Wide.All
import OpenK.AllK
import Wide.FinOn
import Lean
import PyProof.EqAt
import PyProof.EqKinds
import PyProof.TupleCall
import PySem.Challenge.RW_creelway_k39_counted_refused_in_order
set_option Elab.async false
set_option linter.all false
set_option maxRecDepth 100000
namespace L2
open PySem PySem.Spec PyProof.Rows
noncomputable abbrev Key:=Sum Int Str
noncomputable def keyIs:Key→Value→Bool
 | .inl k,v=>Value.isInt k v
 | .inr x,v=>Value.isStrOf x v
noncomputable def keyH (w:World):Key→Int
 | .inl k=>hashInt k
 | .inr x=>hashStr w x
theorem keyIs_shape:∀ {k:Key} {v:Value},keyIs k v=true→(∃ i t,k=Sum.inl i∧v=Value.int i t)∨(∃ x t,k=Sum.inr x∧v=Value.str x t)
 | .inl i,v,h=>by
  obtain⟨t,e⟩:=Value.isInt_shape (k:=i) (v:=v) h
  exact .inl ⟨i,t,rfl,e⟩
 | .inr x,v,h=>by
  obtain⟨t,e⟩:=Value.isStrOf_shape (x:=x) (v:=v) h
  exact .inr ⟨x,t,rfl,e⟩
theorem keyIs_int (i:Int) (t:Tok):keyIs (.inl i) (.int i t)=true:=by simp[keyIs,Value.isInt]
theorem keyIs_str (x:Str) (t:Tok):keyIs (.inr x) (.str x t)=true:=by simp[keyIs,Value.isStrOf]
theorem key_ll (a b:Int):decide ((Sum.inl a:Key)=Sum.inl b)=(a == b):=by
 by_cases e:a=b
 ·subst e;simp
 ·have h:¬ (Sum.inl a:Key)=Sum.inl b:=fun q=>e (Sum.inl.inj q)
  rw[decide_eq_false h]
  exact(beq_eq_false_iff_ne.mpr e).symm
theorem key_rr (a b:Str):decide ((Sum.inr a:Key)=Sum.inr b)=decide (a=b):=by
 by_cases e:a=b
 ·subst e;simp
 ·have h:¬ (Sum.inr a:Key)=Sum.inr b:=fun q=>e (Sum.inr.inj q)
  rw[decide_eq_false h,decide_eq_false e]
theorem key_lr (a:Int) (b:Str):decide ((Sum.inl a:Key)=Sum.inr b)=false:=decide_eq_false (fun q=>nomatch q)
theorem key_rl (a:Str) (b:Int):decide ((Sum.inr a:Key)=Sum.inl b)=false:=decide_eq_false (fun q=>nomatch q)
noncomputable def mixKind (prog:Program) (w:World):PySem.KeyKind prog w Key where
 is:=keyIs
 hash:=keyH w
 inj:=fun v a b ha hb=>by
  rcases keyIs_shape ha with ⟨i,t,rfl,rfl⟩ | ⟨x,t,rfl,rfl⟩
  ·rcases keyIs_shape hb with ⟨j,u,rfl,e⟩ | ⟨y,u,rfl,e⟩
   ·injection e with e1 _;rw[e1]
   ·exact nomatch e
  ·rcases keyIs_shape hb with ⟨j,u,rfl,e⟩ | ⟨y,u,rfl,e⟩
   ·exact nomatch e
   ·injection e with e1 _;rw[e1]
 byValue:=fun k v h=>by
  rcases keyIs_shape h with ⟨i,t,rfl,rfl⟩ | ⟨x,t,rfl,rfl⟩ <;> rfl
 pyHash:=fun hv h=>by
  rcases keyIs_shape hv with ⟨i,t,rfl,rfl⟩ | ⟨x,t,rfl,rfl⟩
  ·exact wpAny_pyHash_int h
  ·exact wpAny_pyHash_str h
 eqBool:=fun hu hv h=>by
  rcases keyIs_shape hu with ⟨i,t,rfl,rfl⟩ | ⟨x,t,rfl,rfl⟩
  ·rcases keyIs_shape hv with ⟨j,u,rfl,rfl⟩ | ⟨y,u,rfl,rfl⟩
   ·rw[key_ll]at h;exact wpAny_eqBool_int h
   ·rw[key_lr]at h;exact SeqAt.EqAt.int_str i t y u _ _ _ _ h
  ·rcases keyIs_shape hv with ⟨j,u,rfl,rfl⟩ | ⟨y,u,rfl,rfl⟩
   ·rw[key_rl]at h;exact SeqAt.EqAt.str_int x t j u _ _ _ _ h
   ·rw[key_rr]at h;exact wpAny_eqBool_str h
 «strs»:=fun k x t v h=>by
  rcases keyIs_shape h with ⟨i,u,rfl,e⟩ | ⟨y,u,rfl,e⟩
  ·exact nomatch e
  ·injection e with e1 _
   subst e1
   cases v <;> rfl
theorem mixKind_is (prog:Program) (w:World) (k:Key) (v:Value):(mixKind prog w).is k v=keyIs k v:=rfl
theorem mixKind_int (prog:Program) (w:World) (i:Int) (t:Tok):(mixKind prog w).is (.inl i) (.int i t)=true:=keyIs_int i t
theorem mixKind_str (prog:Program) (w:World) (x:Str) (t:Tok):(mixKind prog w).is (.inr x) (.str x t)=true:=keyIs_str x t
end L2
namespace L2
open PySem PySem.Spec PyProof.Rows
inductive V where
 | non | bl (b:Bool) | int (i:Int) | str (x:Str) | byt (b:Array UInt8) | flt (b:UInt64) | ref (a:Addr) | ty (n:String)
 deriving DecidableEq
noncomputable def RelV:V→Value→Prop
 | .non,u=>u=Value.none
 | .bl b,u=>u=Value.bool b
 | .int i,u=>∃ t,u=Value.int i t
 | .str x,u=>∃ t,u=Value.str x t
 | .byt b,u=>∃ t,u=Value.bytes b t
 | .flt b,u=>∃ t,u=Value.float b t
 | .ref a,u=>u=Value.ref a
 | .ty n,u=>u=Value.type n
noncomputable abbrev Vals:List V→List Value→Prop:=Paired RelV
theorem Vals.length {xs:List V} {us:List Value} (r:Vals xs us):xs.length=us.length:=Paired.length r
theorem Vals.get:∀ {xs:List V} {us:List Value} {i:Nat} {x:V},Vals xs us→xs[i]?=some x→∃ u,us[i]?=some u∧RelV x u
 | _,_,_,_,.nil,e=>by simp at e
 | _,_,0,_,.cons r _,e=>by simp at e;subst e;exact⟨_,rfl,r⟩
 | _,_,i+1,x,.cons _ t,e=>by
  obtain⟨u,h1,h2⟩:=Vals.get (i:=i) (x:=x) t (by simpa using e)
  exact⟨u,by simpa using h1,h2⟩
theorem Vals.set {x:V} {u:Value} (r:RelV x u):∀ {xs:List V} {us:List Value} (i:Nat),Vals xs us→Vals (xs.set i x) (us.set i u)
 | _,_,_,.nil=>.nil
 | _,_,0,.cons _ t=>.cons r t
 | _,_,i+1,.cons q t=>.cons q (Vals.set r i t)
theorem Vals.append:∀ {xs ys:List V} {us ws:List Value},Vals xs us→Vals ys ws→Vals (xs++ys) (us++ws)
 | _,_,_,_,.nil,s=>s
 | _,_,_,_,.cons r t,s=>.cons r (Vals.append t s)
theorem Vals.take:∀ {xs:List V} {us:List Value} (n:Nat),Vals xs us→Vals (xs.take n) (us.take n)
 | _,_,0,_=>.nil
 | _,_,_+1,.nil=>.nil
 | _,_,n+1,.cons r t=>.cons r (Vals.take n t)
theorem Vals.drop:∀ {xs:List V} {us:List Value} (n:Nat),Vals xs us→Vals (xs.drop n) (us.drop n)
 | _,_,0,r=>r
 | _,_,_+1,.nil=>.nil
 | _,_,n+1,.cons _ t=>Vals.drop n t
noncomputable def RelO:Option V→Option Value→Prop
 | some v,some u=>RelV v u
 | none,none=>True
 | _,_=>False
noncomputable def KV {κ:Type}:List (κ×V)→List (κ×Value)→Prop:=Paired fun(p:κ×V) (q:κ×Value)=>p.1=q.1∧RelV p.2 q.2
noncomputable def kV:Key→V
 | .inl i=>.int i
 | .inr x=>.str x
inductive HO where
 | lst (xs:List V)
 | tup (xs:List V)
 | dK (kvs:List (Key×V)) | dT (kvs:List (List Key×V))
 | set (S:Int→Bool) (n:Nat)
 | ins (C dx:Addr) (fs:List (Str×V))
 | own (x:Addr)
 | xd (fs:List (Str×V))
 | met (f x:Addr)
 | rng (lo hi:Int)
 | frz (o:Obj) (u:HO)
 | tbl (ps:Array Value)
 | ext (φ:Heap→Prop)
noncomputable abbrev Hp:=Addr→Option HO
noncomputable def upd (H:Hp) (a:Addr) (o:HO):Hp:=fun b=>if b=a then some o else H b
theorem upd_same {H:Hp} {a:Addr} {o:HO}:upd H a o a=some o:=by unfold upd;rw[if_pos rfl]
theorem upd_ne {H:Hp} {a b:Addr} {o:HO} (h:b≠a):upd H a o b=H b:=by unfold upd;rw[if_neg h]
theorem ne_of {H:Hp} {a b:Addr} {o u:HO} (h:H a=some o) (h':H b=some u) (d:o≠u):a≠b:=by
 intro e;subst e;rw[h]at h';exact d (Option.some.inj h')
theorem ne_of_none {H:Hp} {a b:Addr} {o:HO} (h:H a=some o) (h':H b=none):a≠b:=by
 intro e;subst e;rw[h]at h';cases h'
section
variable (P:Program) (w:World)
noncomputable def ObjOk (H:Hp) (h:Heap) (a:Addr):HO→Prop
 | .lst xs=>xs.length≤sizeLine∧∃ (its:List Value) (n:Nat),Vals xs its∧h.get? a=some { cls:=.type "list",data:=.seq its.toArray n }
 | .tup xs=>xs.length≤sizeLine∧∃ its:List Value,Vals xs its∧IsTup h a its.toArray
 | .dK kvs=>kvs.length≤sizeLine∧(a == sysModules)=false∧∃ vs,KV kvs vs∧h.DictOf (mixKind P w) a vs
 | .dT kvs=>kvs.length≤sizeLine∧(a == sysModules)=false∧∃ xs:List (List Key×Addr×Value),
  Paired (fun(p:List Key×V) (q:List Key×Addr×Value)=>p.1=q.1∧H q.2.1=some (.tup (p.1.map kV))∧RelV p.2 q.2.2) kvs xs ∧
  ∃ o es ep,h.get? a=some o∧o.ExactDict∧o.data=.dict es ep∧es.toList=xs.map (entryOfKey (tupleKind (mixKind P w)))∧(xs.map (·.1)).Nodup
 | .set S n=>h.SetOf (intKind P w) a S n
 | .ins C dx fs=>H dx=some (.own a)∧fs.length≤1000∧dx≠a∧h.get? a=some (PySem.W.instObj C dx) ∧
  ∃ mA,h.Ns1 dx mA∧(∀ f,RelO (fs.lookup f) (mA f))∧PySem.Within mA (fs.map (·.1))
 | .own _=>∃ o,h.get? a=some o
 | .xd fs=>∃ mA,h.Ns1 a mA∧∀ f,RelO (fs.lookup f) (mA f)
 | .rng lo hi=>∃ t u v,h.get? a=some { cls:=.type "range",data:=.fields #[.int lo t,.int hi u,.int 1 v] }
 | .frz o u=>h.get? a=some o∧ObjOk H h a u
 | .tbl ps=>h.get? a=some { cls:=.none,data:=.fields ps }
 | .met f x=>h.get? a=some (PySem.W.methodObj (.ref f) (.ref x))
 | .ext φ=>φ h∧(∃ o,h.get? a=some o)∧∀ h1 h2:Heap,φ h1→(∀ o,h1.get? a=some o→h2.get? a=some o)→φ h2
noncomputable def HOk (H:Hp) (h:Heap):Prop:=∀ a o,H a=some o→ObjOk P w H h a o
end
section
variable {P:Program} {w:World} {H H':Hp} {h h':Heap} {a:Addr} {o:HO}
theorem ObjOk.lt (x:ObjOk P w H h a o):a<h.objs.size:=by
 cases o with
 | lst xs=>obtain⟨_,_,_,_,e⟩:=x;exact Heap.lt_size e
 | tup xs=>obtain⟨_,_,_,p⟩:=x;exact p.lt
 | dK kvs=>obtain⟨_,_,_,_,o,_,_,e,_⟩:=x;exact Heap.lt_size e
 | dT kvs=>obtain⟨_,_,_,_,o,_,_,e,_⟩:=x;exact Heap.lt_size e
 | set S n=>obtain⟨o,_,_,_,e,_⟩:=x;exact Heap.lt_size e
 | ins C dx fs=>obtain⟨_,_,_,e,_⟩:=x;exact Heap.lt_size e
 | own y=>obtain⟨_,e⟩:=x;exact Heap.lt_size e
 | xd fs=>obtain⟨_,⟨_,_,_,e,_⟩,_⟩:=x;exact Heap.lt_size e
 | rng lo hi=>obtain⟨_,_,_,e⟩:=x;exact Heap.lt_size e
 | frz ob u=>obtain⟨e,_⟩:=x;exact Heap.lt_size e
 | tbl ps=>exact Heap.lt_size (show h.get? a=some _ from x)
 | met f y=>exact Heap.lt_size (show h.get? a=some _ from x)
 | ext φ=>obtain⟨_,⟨_,e⟩,_⟩:=x;exact Heap.lt_size e
theorem Paired.mapP {α β:Type} {F G:α→β→Prop}:∀ {l₁:List α} {l₂:List β},Paired F l₁ l₂→(∀ a b,F a b→G a b)→Paired G l₁ l₂
 | _,_,.nil,_=>.nil
 | _,_,.cons r t,f=>.cons (f _ _ r) (Paired.mapP t f)
theorem ObjOk.stay (x:ObjOk P w H h a o) (k:∀ b u,(b=a∨H b=some (.own a))→h.get? b=some u→h'.get? b=some u)
 (ho:∀ b,H b=some (.own a)→H' b=some (.own a)) (ht:∀ b xs,H b=some (.tup xs)→H' b=some (.tup xs)):ObjOk P w H' h' a o:=by
 induction o with
 | lst xs=>obtain⟨z,its,n,r,e⟩:=x;exact⟨z,its,n,r,k _ _ (.inl rfl) e⟩
 | tup xs=>obtain⟨z,its,r,ob,e,c⟩:=x;exact⟨z,its,r,ob,k _ _ (.inl rfl) e,c⟩
 | dK kvs=>obtain⟨z,y,vs,r,ob,es,ep,e,c⟩:=x;exact⟨z,y,vs,r,ob,es,ep,k _ _ (.inl rfl) e,c⟩
 | dT kvs =>
  obtain⟨z,y,xs,r,ob,es,ep,e,c⟩:=x
  exact⟨z,y,xs,Paired.mapP r fun p q z=>⟨z.1,ht _ _ z.2.1,z.2.2⟩,ob,es,ep,k _ _ (.inl rfl) e,c⟩
 | set S n=>obtain⟨ob,es,ep,t,e,c⟩:=x;exact⟨ob,es,ep,t,k _ _ (.inl rfl) e,c⟩
 | ins C dx fs =>
  obtain⟨d,z,ne,e,mA,⟨od,es,ep,e2,c⟩,r⟩:=x
  exact⟨ho _ d,z,ne,k _ _ (.inl rfl) e,mA,⟨od,es,ep,k _ _ (.inr d) e2,c⟩,r⟩
 | own y=>obtain⟨ob,e⟩:=x;exact⟨ob,k _ _ (.inl rfl) e⟩
 | xd fs=>obtain⟨mA,⟨od,es,ep,e,c⟩,r⟩:=x;exact⟨mA,⟨od,es,ep,k _ _ (.inl rfl) e,c⟩,r⟩
 | rng lo hi=>obtain⟨t,u,v,e⟩:=x;exact⟨t,u,v,k _ _ (.inl rfl) e⟩
 | frz ob u ih=>obtain⟨e,q⟩:=x;exact⟨k _ _ (.inl rfl) e,ih q⟩
 | tbl ps =>
  have e:h.get? a=some { cls:=.none,data:=.fields ps }:=x
  show h'.get? a=some { cls:=.none,data:=.fields ps }
  exact k a _ (.inl rfl) e
 | met f y =>
  have e:h.get? a=some (PySem.W.methodObj (.ref f) (.ref y)):=x
  show h'.get? a=some (PySem.W.methodObj (.ref f) (.ref y))
  exact k a _ (.inl rfl) e
 | ext φ=>obtain⟨p,⟨o,e⟩,st⟩:=x;exact⟨st _ _ p fun o q=>k _ _ (.inl rfl) q,⟨o,k _ _ (.inl rfl) e⟩,st⟩
theorem HOk.lt (x:HOk P w H h) (e:H a=some o):a<h.objs.size:=(x a o e).lt
theorem HOk.fresh (x:HOk P w H h) (e:h.objs.size≤a):H a=none:=by
 cases q:H a with
 | none=>rfl
 | some u=>exact absurd (Nat.lt_of_lt_of_le (x.lt q) e) (Nat.lt_irrefl _)
theorem HOk.kept (x:HOk P w H h) (k:∀ b u,h.get? b=some u→h'.get? b=some u):HOk P w H h':=fun a o e =>
 (x a o e).stay (fun b u _ q=>k b u q) (fun _ q=>q) fun _ _ q=>q
theorem HOk.laid (x:HOk P w H h) (k:∀ b u,h.get? b=some u→h'.get? b=some u) (hp:h.objs.size≤a) (new:ObjOk P w (upd H a o) h' a o):HOk P w (upd H a o) h':=fun b u e=>by
 have hn:=x.fresh hp
 by_cases hb:b=a
 ·subst hb;rw[upd_same]at e;cases e;exact new
 ·rw[upd_ne hb]at e
  exact(x b u e).stay (fun c v _ q=>k c v q) (fun c q=>by rw[upd_ne (ne_of_none q hn)];exact q) fun c xs q=>by rw[upd_ne (ne_of_none q hn)];exact q
end
noncomputable def Rd (H:Hp) (a:Addr) (u:HO):Prop:=H a=some u∨∃ o,H a=some (.frz o u)
theorem Rd.ok {P:Program} {w:World} {H:Hp} {h:Heap} {a:Addr} {u:HO} (r:Rd H a u) (x:HOk P w H h):ObjOk P w H h a u:=by
 rcases r with r | ⟨o,r⟩
 ·exact x a u r
 ·obtain⟨_,q⟩:=x a _ r
  exact q
noncomputable def Mut:Option HO→Prop
 | some (.lst _)=>True
 | some (.dK _)=>True
 | some (.dT _)=>True
 | some (.set _ _)=>True
 | some (.ins _ _ _)=>True
 | some (.ext _)=>True
 | _=>False
section
variable {P:Program} {w:World} {H:Hp} {h h':Heap} {x e:Addr} {o':HO}
theorem HOk.write (ok:HOk P w H h) (mu:Mut (H x)) (he:e=x∨H e=some (.own x)) (k:∀ b u,b≠e→h.get? b=some u→h'.get? b=some u) (heo:∃ u,h'.get? e=some u)
 (new:ObjOk P w (upd H x o') h' x o'):HOk P w (upd H x o') h':=fun b u q=>by
 have nown:∀ c y,H c=some (.own y)→c≠x:=fun c y r z=>by subst z;rw[r]at mu;exact mu
 have ntup:∀ c xs,H c=some (.tup xs)→c≠x:=fun c xs r z=>by subst z;rw[r]at mu;exact mu
 by_cases hb:b=x
 ·subst hb;rw[upd_same]at q;cases q;exact new
 ·rw[upd_ne hb]at q
  by_cases hbe:b=e
  ·have q':H b=some (.own x):=by
    rcases he with z | z
    ·exact absurd (hbe.trans z) hb
    ·rw[hbe];exact z
   rw[q]at q';cases q'
   obtain⟨v,hv⟩:=heo
   exact⟨v,by rw[hbe];exact hv⟩
  ·refine(ok b u q).stay (fun c v hc r=>k c v ?_ r) (fun c r=>by rw[upd_ne (nown c b r)];exact r) fun c xs r=>by rw[upd_ne (ntup c xs r)];exact r
   rcases hc with rfl | hc
   ·exact hbe
   ·rintro rfl
    rcases he with z | z
    ·exact nown c b hc z
    ·rw[hc]at z;cases z;exact hb rfl
end
structure Un (fs ex:List Addr) (H H':Hp) (h h':Heap):Prop where
 keep:∀ b o,h.get? b=some o→H b=none→b∉fs→b∉ex→h'.get? b=some o
 slot:∀ b o,h.get? b=some o→H b=none→b∈fs→b∉ex→∃ sl,h'.get? b=some { o with slots:=sl }
 free:∀ b o,h.get? b=some o→H b=none→b∉ex→H' b=none
 there:∀ b o,h.get? b=some o→b∉ex→∃ o',h'.get? b=some o'
 tups:∀ b xs,H b=some (.tup xs)→H' b=some (.tup xs)
 frzs:∀ b o u,H b=some (.frz o u)→H' b=some (.frz o u)
 tbls:∀ b ps,H b=some (.tbl ps)→∃ more,H' b=some (.tbl (ps++more))
section
variable {fs fs' ex ex':List Addr} {H H1 H2:Hp} {h h1 h2 h':Heap} {a x e:Addr} {o:HO}
theorem Un.any (u:Un fs ex H H1 h h1) {b:Addr} {ob:Obj} (q:h.get? b=some ob) (n:H b=none) (hx:b∉ex):∃ sl,h1.get? b=some { ob with slots:=sl }:=by
 by_cases hb:b∈fs
 ·exact u.slot b ob q n hb hx
 ·exact⟨ob.slots,u.keep b ob q n hb hx⟩
theorem Un.trans (a:Un fs ex H H1 h h1) (b:Un fs ex H1 H2 h1 h2):Un fs ex H H2 h h2 where
 keep:=fun c ob q n hc hx=>b.keep c ob (a.keep c ob q n hc hx) (a.free c ob q n hx) hc hx
 slot:=fun c ob q n hc hx=>by
  obtain⟨sl,e1⟩:=a.slot c ob q n hc hx
  obtain⟨sl',e2⟩:=b.slot c _ e1 (a.free c ob q n hx) hc hx
  exact⟨sl',e2⟩
 free:=fun c ob q n hx=>by
  obtain⟨o',e1⟩:=a.there c ob q hx
  exact b.free c o' e1 (a.free c ob q n hx) hx
 there:=fun c ob q hx=>by
  obtain⟨o',e1⟩:=a.there c ob q hx
  exact b.there c o' e1 hx
 tups:=fun c xs q=>b.tups c xs (a.tups c xs q)
 frzs:=fun c ob xs q=>b.frzs c ob xs (a.frzs c ob xs q)
 tbls:=fun c ps q=>by
  obtain⟨m1,e1⟩:=a.tbls c ps q
  obtain⟨m2,e2⟩:=b.tbls c _ e1
  exact⟨m1++m2,by rw[e2,Array.append_assoc]⟩
theorem Un.kept (k:∀ b u,h.get? b=some u→h'.get? b=some u):Un fs ex H H h h' :=
 ⟨fun b ob q _ _ _=>k b ob q,fun b ob q _ _ _=>⟨ob.slots,k b ob q⟩,fun _ _ _ n _=>n,fun b ob q _=>⟨ob,k b ob q⟩,fun _ _ q=>q,fun _ _ _ q=>q,fun _ ps q=>⟨#[],by rw[q];simp⟩⟩
theorem Un.refl:Un fs ex H H h h:=Un.kept fun _ _ q=>q
theorem Un.laid (k:∀ b u,h.get? b=some u→h'.get? b=some u) (hp:h.objs.size≤a) (hn:H a=none):Un fs ex H (upd H a o) h h' where
 keep:=fun b u q _ _ _=>k b u q
 slot:=fun b u q _ _ _=>⟨u.slots,k b u q⟩
 free:=fun b u q n _=>by rw[upd_ne (Nat.ne_of_lt (Nat.lt_of_lt_of_le (Heap.lt_size q) hp))];exact n
 there:=fun b u q _=>⟨u,k b u q⟩
 tups:=fun b xs q=>by rw[upd_ne (ne_of_none q hn)];exact q
 frzs:=fun b u xs q=>by rw[upd_ne (ne_of_none q hn)];exact q
 tbls:=fun b ps q=>⟨#[],by rw[upd_ne (ne_of_none q hn),q];simp⟩
theorem Un.write (mu:Mut (H x)) (he:e=x∨H e=some (.own x)) (k:∀ b u,b≠e→h.get? b=some u→h'.get? b=some u) (heo:∃ u,h'.get? e=some u):Un fs ex H (upd H x o) h h':=by
 have hx:∀ b,H b=none→b≠x:=fun b n z=>by subst z;rw[n]at mu;exact mu
 have hb:∀ b,H b=none→b≠e:=fun b n z=>by
  subst z
  rcases he with r | r
  ·exact hx b n r
  ·rw[n]at r;cases r
 have hm:∀ b u,H b=some u→¬ Mut (some u)→b≠x:=fun b u q nm z=>by subst z;rw[q]at mu;exact nm mu
 refine⟨fun b u q n _ _=>k b u (hb b n) q,fun b u q n _ _=>⟨u.slots,k b u (hb b n) q⟩,fun b u q n _=>by rw[upd_ne (hx b n)];exact n,fun b u q _=>?_,
  fun b xs q=>by rw[upd_ne (hm b _ q fun z=>z)];exact q,fun b u xs q=>by rw[upd_ne (hm b _ q fun z=>z)];exact q,fun b ps q=>⟨#[],by rw[upd_ne (hm b _ q fun z=>z),q];simp⟩⟩
 by_cases hbe:b=e
 ·subst hbe;exact heo
 ·exact⟨u,k b u hbe q⟩
end
noncomputable def trk (h:Heap) (H:Hp):List Addr:=(List.range h.objs.size).filter fun a=>(H a).isSome
noncomputable def hidT (h:Heap) (H:Hp):Heap:=PySem.W.hideAll h (trk h H)
theorem hidT_size (h:Heap) (H:Hp):(hidT h H).objs.size=h.objs.size:=PySem.W.hideAll_size _ _
theorem hidT_get {h:Heap} {H:Hp} {b:Addr} {o:Obj} (e:h.get? b=some o) (n:H b=none):(hidT h H).get? b=some o :=
 PySem.W.hideAll_get _ e fun hm=>by
  have q:(H b).isSome=true:=(List.mem_filter.mp hm).2
  rw[n]at q;simp at q
theorem of_hidT {h:Heap} {H:Hp} {b:Addr} {o:Obj} (e:(hidT h H).get? b=some o):h.get? b=some o∧H b=none:=by
 have e':h.get? b=some o:=PySem.W.of_hideAll (trk h H) e
 refine⟨e',?_⟩
 cases q:H b with
 | none=>rfl
 | some x =>
  have hm:b∈trk h H:=List.mem_filter.mpr ⟨List.mem_range.mpr (Heap.lt_size e'),by simp[q]⟩
  have z:(hidT h H).get? b=none:=PySem.W.hideAll_none (trk h H) hm
  rw[z]at e;cases e
noncomputable def allNews (g h:Heap) (L:Addr):List (Addr×Obj):=(List.range h.objs.size).filterMap fun a=>if a=L∨(g.get? a).isSome=true then none else (h.get? a).map fun o=>(a,o)
noncomputable def rest (g h:Heap) (L d:Addr):List (Addr×Obj):=(allNews g h L).filter fun p=>decide (p.1≠d)
end L2
namespace L2
open PySem PySem.Spec PyProof.Rows
structure Mod (K:PySem.W.Frag) (mg:Str→Option Value) (base:Heap):Prop where
 kin:K.In base
 glob:base.Ns mainGlobals mg
 blt:∃ mb,base.Ns builtinsNs mb∧∀ x:Str,x≠"__name__"→mb x=bootBuiltins x
 nolimit:base.NoLimit
structure Cx where
 prog:Program
 w:World
 K:PySem.W.Frag
 mg:Str→Option Value
 base:Heap
 A:Around
 N:List Str
 s₀:Shared
 H₀:Hp
 env:Env
 outer:List Env
 stack:List Env
 ex:List Addr
 fn:Str→Bool
 calm:Bool
 pn:List (Addr×Obj)
 xe:Value→Shared→Prop
noncomputable def frs (l:List Env):List Addr:=l.filterMap (·.frame)
noncomputable abbrev Cx.fs (X:Cx):List Addr:=frs X.outer
noncomputable def Vis (sc:Scope) (x:Str):Prop:=sc.names.lookup x=some .local∨sc.names.lookup x=some .cell∨sc.names.lookup x=some .free
noncomputable def Loc (sc:Scope) (x:Str):Prop:=sc.names.lookup x=some .local∨sc.names.lookup x=some .cell
noncomputable def Look (env:Env) (h:Heap) (m:Str→Option Value) (x:Str) (u:Value):Prop :=
 (env.kindOf x=some .local∧m x=some u)∨((env.kindOf x=some .cell∨env.kindOf x=some .free)∧∃ c,env.cells.lookup x=some c∧h.IsCell c (some u))
structure Cx.Ok (X:Cx):Prop where
 mod:Mod X.K X.mg X.base
 kind:X.env.scope.kind=.function
 glob:X.env.globals=mainGlobals
 blt:X.env.builtins=builtinsNs
 above:X.s₀.heap.objs.size≤X.env.locals
 inj:∀ x y c,X.env.cells.lookup x=some c→X.env.cells.lookup y=some c→x=y
 has:∀ x,(X.env.kindOf x=some .cell∨X.env.kindOf x=some .free)→∃ c,X.env.cells.lookup x=some c
 cab:∀ x c,X.fn x=true→X.env.cells.lookup x=some c→X.s₀.heap.objs.size≤c
 hd:X.calm=true→X.A.handled=none
 frames:X.A.frames=some X.stack
 stk:X.stack=X.outer∨(X.stack=X.env :: X.outer∧X.env.frame=some X.env.locals)
 exf:∀ b∈X.ex,b≠X.env.locals∧∀ x c,X.env.cells.lookup x=some c→c≠b
 bs:∀ b o,X.base.get? b=some o→X.s₀.heap.get? b=some o∧X.H₀ b=none
 bsz:X.base.objs.size≤X.s₀.heap.objs.size
 noex:∀ b o,X.base.get? b=some o→b∉X.ex
 exfs:∀ b∈X.ex,b∉X.fs
 funs:X.s₀.heap.FunFrames X.base X.outer
 frf:∀ b∈X.fs,X.H₀ b=none
structure Inv (X:Cx) (pins:List (Addr×Obj)) (σ:List (Option V)) (H:Hp) (s:Shared):Prop where
 ok:X.Ok
 os:s.os=X.s₀.os
 bare:AllBare s.gens
 base:Un X.fs X.ex X.H₀ H X.s₀.heap s.heap
 loc:∃ m,s.heap.Ns X.env.locals m∧∀ (i:Nat) (x:Str) (v:V),X.N[i]?=some x→σ[i]?=some (some v)→Vis X.env.scope x→∃ u,RelV v u∧Look X.env s.heap m x u
 cell:∀ x c,X.env.cells.lookup x=some c→∃ v,s.heap.IsCell c v
 free:H X.env.locals=none
 freeC:∀ x c,X.env.cells.lookup x=some c→H c=none
 pin:∀ p∈X.pn++pins,s.heap.get? p.1=some p.2∧H p.1=none∧p.1≠X.env.locals∧p.1∉X.fs∧∀ v,p.2.data≠.cell v
 hok:HOk X.prog X.w H s.heap
 len:σ.length=X.N.length
section
variable {X:Cx} {pins:List (Addr×Obj)} {σ:List (Option V)} {H H':Hp} {s:Shared} {h':Heap}
theorem Cx.Ok.nofr (ok:X.Ok) {b:Addr} {o:Obj} (e:X.base.get? b=some o):b∉X.fs:=fun hb=>by
 have:=(ok.funs.mem hb).1
 rw[e]at this;cases this
theorem Inv.bs (I:Inv X pins σ H s):∀ b o,X.base.get? b=some o→s.heap.get? b=some o∧H b=none:=fun b o e =>
 ⟨I.base.keep b o (I.ok.bs b o e).1 (I.ok.bs b o e).2 (I.ok.nofr e) (I.ok.noex b o e),I.base.free b o (I.ok.bs b o e).1 (I.ok.bs b o e).2 (I.ok.noex b o e)⟩
theorem Inv.bk (I:Inv X pins σ H s):∀ b o,X.base.get? b=some o→s.heap.get? b=some o:=fun b o e=>(I.bs b o e).1
theorem Inv.mod (I:Inv X pins σ H s):Mod X.K X.mg X.base:=I.ok.mod
theorem Inv.kIn (I:Inv X pins σ H s):X.K.In s.heap:=I.ok.mod.kin.keeps I.bk
theorem Inv.nolimit (I:Inv X pins σ H s):s.heap.NoLimit:=I.ok.mod.nolimit.keeps I.bk
theorem Inv.fr (I:Inv X pins σ H s):∃ m,Fr X.base X.env.locals s.heap m :=
 let ⟨m,hn,_⟩:=I.loc
 ⟨m,hn,I.bk,Nat.le_trans I.ok.bsz I.ok.above⟩
theorem Inv.lt (I:Inv X pins σ H s):X.env.locals<s.heap.objs.size:=let ⟨_,hn,_⟩:=I.loc;hn.lt
theorem Inv.sz (I:Inv X pins σ H s):X.s₀.heap.objs.size≤s.heap.objs.size:=Nat.le_trans I.ok.above (Nat.le_of_lt I.lt)
theorem Inv.nofs (I:Inv X pins σ H s) {a:Addr} (h:s.heap.objs.size≤a):a∉X.fs:=fun hb=>by
 obtain⟨_,o,ho,_⟩:=I.ok.funs.mem hb
 exact absurd (Nat.lt_of_lt_of_le (Heap.lt_size ho) (Nat.le_trans I.sz h)) (Nat.lt_irrefl _)
theorem Inv.cne (I:Inv X pins σ H s):∀ x c,X.env.cells.lookup x=some c→c≠X.env.locals:=fun x c e z=>by
 obtain⟨v,o,ho,hd⟩:=I.cell x c e
 obtain⟨m,⟨o',es,ep,ho',hd',_⟩,_⟩:=I.loc
 rw[z,ho']at ho;cases ho;rw[hd']at hd;cases hd
theorem Inv.funs (I:Inv X pins σ H s):s.heap.FunFrames X.base X.outer:=by
 have all:∀ (l:List Env),(∀ b∈frs l,b∈X.fs)→X.s₀.heap.FunFrames X.base l→s.heap.FunFrames X.base l:=by
  intro l
  induction l with
  | nil=>intro _ _;trivial
  | cons env r ih =>
   intro hs hl
   obtain⟨hk,⟨L,o,hf,hn,ho,hd⟩,hr⟩:=hl
   have hL:L∈X.fs:=hs L (by unfold frs;rw[List.filterMap_cons,hf];exact List.mem_cons_self)
   obtain⟨sl,e⟩:=I.base.slot L o ho (I.ok.frf L hL) hL fun z=>I.ok.exfs L z hL
   exact⟨hk,⟨L,_,hf,hn,e,hd⟩,ih (fun b hb=>hs b (by unfold frs;rw[List.filterMap_cons,hf];exact List.mem_cons_of_mem _ hb)) hr⟩
 exact all X.outer (fun _ hb=>hb) I.ok.funs
theorem Inv.stack (I:Inv X pins σ H s):s.heap.FunFrames X.base X.stack:=by
 rcases I.ok.stk with e | ⟨e,hf⟩
 ·rw[e];exact I.funs
 ·rw[e]
  obtain⟨m,hn,_⟩:=I.loc
  refine .cons (by rw[I.ok.kind];decide) hf hn ?_ I.funs
  exact Heap.get?_none_of_le (Nat.le_trans I.ok.bsz I.ok.above)
theorem Inv.stkSub (I:Inv X pins σ H s):∀ b∈frs X.stack,b∈X.env.locals :: X.fs:=fun b hb=>by
 rcases I.ok.stk with e | ⟨e,hf⟩
 ·rw[e]at hb;exact List.mem_cons_of_mem _ hb
 ·rw[e]at hb
  unfold frs at hb
  rw[List.filterMap_cons,hf]at hb
  exact hb
theorem Inv.stkFree (I:Inv X pins σ H s):∀ b∈frs X.stack,H b=none:=fun b hb=>by
 rcases List.mem_cons.mp (I.stkSub b hb)with e | hb
 ·rw[e];exact I.free
 ·obtain⟨_,o,ho,_⟩:=I.ok.funs.mem hb
  exact I.base.free b o ho (I.ok.frf b hb) fun z=>I.ok.exfs b z hb
theorem Inv.step {g':Array GenState} {t':Nat} {d':Drawn} {ch:List Addr} (I:Inv X pins σ H s)
 (hch:∀ b∈ch,(b∈X.ex∨X.s₀.heap.objs.size≤b)∧b≠X.env.locals∧(∀ x c,X.env.cells.lookup x=some c→c≠b)∧∀ p∈X.pn++pins,p.1≠b)
 (keep:∀ b o,b≠X.env.locals→b∉X.fs→b∉ch→s.heap.get? b=some o→H b=none→h'.get? b=some o)
 (slot:∀ b o,b≠X.env.locals→b∈X.fs→b∉ch→s.heap.get? b=some o→H b=none→∃ sl,h'.get? b=some { o with slots:=sl }) (free:∀ b o,b∉ch→s.heap.get? b=some o→H b=none→H' b=none)
 (there:∀ b o,b∉ch→s.heap.get? b=some o→∃ o',h'.get? b=some o')
 (tups:∀ b xs,H b=some (.tup xs)→H' b=some (.tup xs)) (frzs:∀ b o u,H b=some (.frz o u)→H' b=some (.frz o u)) (tbls:∀ b ps,H b=some (.tbl ps)→∃ more,H' b=some (.tbl (ps++more)))
 (ns:∀ m,s.heap.Ns X.env.locals m→h'.Ns X.env.locals m) (hok:HOk X.prog X.w H' h') (hg:AllBare g') :
 Inv X pins σ H' { s with heap:=h',gens:=g',drawn:=d',toks:=t' }:=by
 have neL:∀ b o,X.s₀.heap.get? b=some o→b≠X.env.locals:=fun b o e=>Nat.ne_of_lt (Nat.lt_of_lt_of_le (Heap.lt_size e) I.ok.above)
 have neC:∀ b o,X.s₀.heap.get? b=some o→b∉X.ex→b∉ch:=fun b o e hx hb=>by
  rcases (hch b hb).1 with z | z
  ·exact hx z
  ·exact absurd (Nat.lt_of_lt_of_le (Heap.lt_size e) z) (Nat.lt_irrefl _)
 have cellK:∀ x c,X.env.cells.lookup x=some c→∀ v,s.heap.IsCell c v→h'.IsCell c v:=fun x c e v ⟨o,ho,hd⟩=>by
  have nch:c∉ch:=fun z=>(hch c z).2.2.1 x c e rfl
  by_cases hc:c∈X.fs
  ·obtain⟨sl,q⟩:=slot c o (I.cne x c e) hc nch ho (I.freeC x c e)
   exact⟨_,q,hd⟩
  ·exact⟨o,keep c o (I.cne x c e) hc nch ho (I.freeC x c e),hd⟩
 refine⟨I.ok,I.os,hg,⟨fun b o e n hb hx=>?_,fun b o e n hb hx=>?_,fun b o e n hx=>?_,fun b o e hx=>?_,fun b xs e=>tups b xs (I.base.tups b xs e),fun b o xs e=>frzs b o xs (I.base.frzs b o xs e),fun b ps e=>?_⟩,?_,fun x c e=>?_,?_,fun x c e=>?_,fun p hp=>?_,hok,I.len⟩
 ·exact keep b o (neL b o e) hb (neC b o e hx) (I.base.keep b o e n hb hx) (I.base.free b o e n hx)
 ·obtain⟨sl,e1⟩:=I.base.slot b o e n hb hx
  obtain⟨sl',e2⟩:=slot b _ (neL b o e) hb (neC b o e hx) e1 (I.base.free b o e n hx)
  exact⟨sl',e2⟩
 ·obtain⟨o',e1⟩:=I.base.there b o e hx
  exact free b o' (neC b o e hx) e1 (I.base.free b o e n hx)
 ·obtain⟨o',e1⟩:=I.base.there b o e hx
  exact there b o' (neC b o e hx) e1
 ·obtain⟨m1,e1⟩:=I.base.tbls b ps e
  obtain⟨m2,e2⟩:=tbls b _ e1
  exact⟨m1++m2,by rw[e2,Array.append_assoc]⟩
 ·obtain⟨m,hn,hl⟩:=I.loc
  refine⟨m,ns m hn,fun i x v e1 e2 e3=>?_⟩
  obtain⟨u,r,l⟩:=hl i x v e1 e2 e3
  refine⟨u,r,?_⟩
  rcases l with l | ⟨k,c,e,z⟩
  ·exact .inl l
  ·exact .inr ⟨k,c,e,cellK x c e _ z⟩
 ·obtain⟨v,z⟩:=I.cell x c e
  exact⟨v,cellK x c e v z⟩
 ·obtain⟨m,⟨o,_,_,ho,_⟩,_⟩:=I.loc
  exact free _ o (fun z=>(hch _ z).2.1 rfl) ho I.free
 ·obtain⟨v,o,ho,hd⟩:=I.cell x c e
  exact free c o (fun z=>(hch c z).2.2.1 x c e rfl) ho (I.freeC x c e)
 ·obtain⟨e,n,ne,nf,d⟩:=I.pin p hp
  have nch:p.1∉ch:=fun z=>(hch p.1 z).2.2.2 p hp rfl
  exact⟨keep p.1 p.2 ne nf nch e n,free p.1 p.2 nch e n,ne,nf,d⟩
theorem Inv.un {t':Nat} (I:Inv X pins σ H s) (u:Un X.fs [] H H' s.heap h') (hok:HOk X.prog X.w H' h'):Inv X pins σ H' { s with heap:=h',toks:=t' }:=by
 obtain⟨m,⟨o,es,ep,ho,r⟩,_⟩:=id I.loc
 obtain⟨sl,hL⟩:=u.any ho I.free (by simp)
 exact I.step (g':=s.gens) (d':=s.drawn) (ch:=[]) (fun _ z=>nomatch z) (fun b o _ hb _ e n=>u.keep b o e n hb (by simp)) (fun b o _ hb _ e n=>u.slot b o e n hb (by simp)) (fun b o _ e n=>u.free b o e n (by simp)) (fun b o _ e=>u.there b o e (by simp)) u.tups u.frzs u.tbls (fun m' hm=>by
  obtain⟨o',es',ep',ho',r'⟩:=hm
  rw[ho]at ho';cases ho'
  exact⟨_,es',ep',hL,r'⟩) hok I.bare
theorem Inv.call {g':Array GenState} {t':Nat} {d':Drawn} {ch:List Addr} (I:Inv X pins σ H s) (u:Un (frs X.stack) ch H H' s.heap h') (hok:HOk X.prog X.w H' h') (hg:AllBare g')
 (hch:∀ b∈ch,(b∈X.ex∨X.s₀.heap.objs.size≤b)∧b≠X.env.locals∧(∀ x c,X.env.cells.lookup x=some c→c≠b)∧∀ p∈X.pn++pins,p.1≠b) :
 Inv X pins σ H' { s with heap:=h',gens:=g',drawn:=d',toks:=t' }:=by
 obtain⟨m,⟨o,es,ep,ho,r⟩,_⟩:=id I.loc
 obtain⟨sl,hL⟩:=u.any ho I.free fun z=>(hch _ z).2.1 rfl
 exact I.step (ch:=ch) hch (fun b o hL hb hc e n=>u.keep b o e n (fun z=>(List.mem_cons.mp (I.stkSub b z)).elim hL hb) hc) (fun b o _ _ hc e n=>u.any e n hc) (fun b o hc e n=>u.free b o e n hc) (fun b o hc e=>u.there b o e hc) u.tups u.frzs u.tbls (fun m' hm=>by
  obtain⟨o',es',ep',ho',r'⟩:=hm
  rw[ho]at ho';cases ho'
  exact⟨_,es',ep',hL,r'⟩) hok hg
theorem Inv.turned {t':Nat} {it:Addr} (I:Inv X pins σ H s) (k:∀ b o,b≠it→s.heap.get? b=some o→h'.get? b=some o) (hn:H it=none) (hL:it≠X.env.locals)
 (h1:it∈X.ex∨X.s₀.heap.objs.size≤it) (h2:∀ x c,X.env.cells.lookup x=some c→c≠it) (h3:∀ p∈X.pn++pins,p.1≠it):Inv X pins σ H { s with heap:=h',toks:=t' }:=by
 have nit:∀ b u,H b=some u→b≠it:=fun b u e z=>by rw[z,hn]at e;cases e
 refine I.step (g':=s.gens) (d':=s.drawn) (ch:=[it]) (fun b hb=>?_) (fun b o _ _ hc e _=>k b o (fun z=>hc (by simp[z])) e) (fun b o _ _ hc e _=>⟨o.slots,k b o (fun z=>hc (by simp[z])) e⟩) (fun _ _ _ _ n=>n)
  (fun b o hc e=>⟨o,k b o (fun z=>hc (by simp[z])) e⟩) (fun _ _ e=>e) (fun _ _ _ e=>e) (fun b ps e=>⟨#[],by rw[e];simp⟩) (fun m hm=>?_) (fun b u e=>?_) I.bare
 ·have e:b=it:=by simpa using hb
  subst e
  exact⟨h1,hL,h2,h3⟩
 ·obtain⟨o,es,ep,ho,r⟩:=hm
  exact⟨o,es,ep,k _ o (Ne.symm hL) ho,r⟩
 ·refine(I.hok b u e).stay (fun c v hc q=>k c v ?_ q) (fun _ q=>q) fun _ _ q=>q
  rcases hc with z | z
  ·rw[z];exact nit b u e
  ·exact nit c _ z
theorem Inv.tok (I:Inv X pins σ H s) (t:Nat):Inv X pins σ H { s with toks:=t }:=I.un (h':=s.heap) (t':=t) Un.refl I.hok
theorem Inv.kept {t':Nat} (I:Inv X pins σ H s) (k:∀ b u,s.heap.get? b=some u→h'.get? b=some u):Inv X pins σ H { s with heap:=h',toks:=t' }:=I.un (Un.kept k) (I.hok.kept k)
theorem Inv.laid {a:Addr} {o:HO} {t':Nat} (I:Inv X pins σ H s) (k:∀ b u,s.heap.get? b=some u→h'.get? b=some u) (hp:s.heap.objs.size≤a) (new:ObjOk X.prog X.w (upd H a o) h' a o) :
 Inv X pins σ (upd H a o) { s with heap:=h',toks:=t' }:=I.un (Un.laid k hp (I.hok.fresh hp)) (I.hok.laid k hp new)
theorem Inv.write {x e:Addr} {o:HO} {t':Nat} (I:Inv X pins σ H s) (mu:Mut (H x)) (he:e=x∨H e=some (.own x)) (k:∀ b u,b≠e→s.heap.get? b=some u→h'.get? b=some u) (heo:∃ u,h'.get? e=some u)
 (new:ObjOk X.prog X.w (upd H x o) h' x o):Inv X pins σ (upd H x o) { s with heap:=h',toks:=t' }:=I.un (Un.write mu he k heo) (I.hok.write mu he k heo new)
theorem Inv.weak {σ':List (Option V)} (I:Inv X pins σ H s) (hl:σ'.length=σ.length) (w:∀ (i:Nat) v,σ'[i]?=some (some v)→σ[i]?=some (some v)):Inv X pins σ' H s :=
 ⟨I.ok,I.os,I.bare,I.base,let ⟨m,hn,hl'⟩:=I.loc;⟨m,hn,fun i x v e1 e2 e3=>hl' i x v e1 (w i v e2) e3⟩,I.cell,I.free,I.freeC,I.pin,I.hok,hl.trans I.len⟩
theorem Inv.pins_of {pins':List (Addr×Obj)} (I:Inv X pins σ H s) (h:∀ p∈pins',s.heap.get? p.1=some p.2∧H p.1=none∧p.1≠X.env.locals∧p.1∉X.fs∧∀ v,p.2.data≠.cell v):Inv X pins' σ H s :=
 ⟨I.ok,I.os,I.bare,I.base,I.loc,I.cell,I.free,I.freeC,fun p hp=>(List.mem_append.mp hp).elim (fun z=>I.pin p (List.mem_append_left _ z)) (h p),I.hok,I.len⟩
theorem nodup_ix {N:List Str} (hN:N.Nodup) {i j:Nat} {x:Str} (a:N[i]?=some x) (b:N[j]?=some x):i=j:=by
 obtain⟨h1,e1⟩:=List.getElem?_eq_some_iff.mp a
 obtain⟨h2,e2⟩:=List.getElem?_eq_some_iff.mp b
 exact(List.getElem_inj hN).mp (e1.trans e2.symm)
theorem store_ok2 {M:Model} {A:Around} {E:Value→Shared→Prop} {i:Nat} {x:Str} {v:V} {u:Value} {Q:Unit→Shared→Prop} (I:Inv X pins σ H s) (hN:X.N.Nodup) (hi:X.N[i]?=some x) (hx:Loc X.env.scope x) (r:RelV v u)
 (h:∀ s',Inv X pins (σ.set i (some v)) H s'→(∃ a,Heap.SameBut a s.heap s'.heap∧(a=X.env.locals∨X.env.cells.lookup x=some a))→Q () s') (hf:X.fn x=true∨X.env.scope.names.lookup x=some .local:=by first | exact .inl rfl | exact .inr rfl | assumption):wpAny M A (storeName X.env x u) Q E s:=by
 obtain⟨m,hn,hl⟩:=id I.loc
 have hcls:(X.env.scope.kind == .class || (X.env.scope.kind == .module && X.env.locals != X.env.globals))=false:=by rw[I.ok.kind];rfl
 have hiσ:i<σ.length:=by rw[I.len];exact(List.getElem?_eq_some_iff.mp hi).1
 have cne:=I.cne
 have tracked:∀ {a:Addr} {h':Heap},(∃ o,s.heap.get? a=some o∧H a=none)→Heap.SameBut a s.heap h'→HOk X.prog X.w H h':=fun {a h'} ha hs b ob e=>by
  obtain⟨_,_,hfree⟩:=ha
  refine(I.hok b ob e).stay (fun c w' hc q=>(hs.2 c ?_).trans q) (fun _ q=>q) fun _ _ q=>q
  rintro rfl
  rcases hc with rfl | hc
  ·rw[hfree]at e;cases e
  ·rw[hfree]at hc;cases hc
 rcases hx with hk | hk
 ·refine wpAny_storeName_local hk hn (fun h' hn' hs=>?_) hcls
  obtain⟨oL,_,_,hoL,_⟩:=id hn
  refine h _ ⟨I.ok,I.os,I.bare,⟨fun b o e n hb hx=>?_,fun b o e n hb hx=>?_,I.base.free,fun b o e hx=>?_,I.base.tups,I.base.frzs,I.base.tbls⟩,⟨_,hn',fun j y v' e1 e2 e3=>?_⟩,fun y c e=>?_,I.free,I.freeC,fun p hp=>?_,tracked ⟨oL,hoL,I.free⟩ hs,by simpa using I.len⟩ ⟨_,hs,.inl rfl⟩
  ·exact(hs.2 b (Nat.ne_of_lt (Nat.lt_of_lt_of_le (Heap.lt_size e) I.ok.above))).trans (I.base.keep b o e n hb hx)
  ·obtain⟨sl,e1⟩:=I.base.slot b o e n hb hx
   exact⟨sl,(hs.2 b (Nat.ne_of_lt (Nat.lt_of_lt_of_le (Heap.lt_size e) I.ok.above))).trans e1⟩
  ·obtain⟨o',e1⟩:=I.base.there b o e hx
   exact⟨o',(hs.2 b (Nat.ne_of_lt (Nat.lt_of_lt_of_le (Heap.lt_size e) I.ok.above))).trans e1⟩
  ·by_cases hj:j=i
   ·subst hj
    rw[hi]at e1;cases e1
    rw[List.getElem?_set_self hiσ]at e2
    cases e2
    exact⟨u,r,.inl ⟨hk,by simp⟩⟩
   ·rw[List.getElem?_set_ne (Ne.symm hj)]at e2
    obtain⟨u',r',q⟩:=hl j y v' e1 e2 e3
    refine⟨u',r',?_⟩
    rcases q with ⟨k,e⟩ | ⟨k,c,e,z⟩
    ·refine .inl ⟨k,?_⟩
     have:y≠x:=fun e=>hj (nodup_ix hN e1 (e ▸ hi))
     simp[this,e]
    ·exact .inr ⟨k,c,e,z.sameBut hs (cne y c e)⟩
  ·obtain⟨w',z⟩:=I.cell y c e
   exact⟨w',z.sameBut hs (cne y c e)⟩
  ·obtain⟨e,n,ne,nf,d⟩:=I.pin p hp
   exact⟨(hs.2 p.1 ne).trans e,n,ne,nf,d⟩
 ·have hfn:X.fn x=true:=by
   rcases hf with z | z
   ·exact z
   ·rw[z]at hk;cases hk
  obtain⟨c,hc⟩:=I.ok.has x (.inl hk)
  obtain⟨w',z⟩:=I.cell x c hc
  refine wpAny_storeName_cell I.ok.kind hk hc z (fun h' hc' hs=>?_)
  obtain⟨oc,hoc,hocd⟩:=id z
  refine h { s with heap:=h' } ⟨I.ok,I.os,I.bare,⟨fun b o e n hb hx=>?_,fun b o e n hb hx=>?_,I.base.free,fun b o e hx=>?_,I.base.tups,I.base.frzs,I.base.tbls⟩,⟨m,hn.sameBut hs (Ne.symm (cne x c hc)),fun j y v' e1 e2 e3=>?_⟩,fun y c' e=>?_,I.free,I.freeC,fun p hp=>?_,tracked ⟨oc,hoc,I.freeC x c hc⟩ hs,by simpa using I.len⟩ ⟨c,hs,.inr hc⟩
  ·exact(hs.2 b (Nat.ne_of_lt (Nat.lt_of_lt_of_le (Heap.lt_size e) (I.ok.cab x c hfn hc)))).trans (I.base.keep b o e n hb hx)
  ·obtain⟨sl,e1⟩:=I.base.slot b o e n hb hx
   exact⟨sl,(hs.2 b (Nat.ne_of_lt (Nat.lt_of_lt_of_le (Heap.lt_size e) (I.ok.cab x c hfn hc)))).trans e1⟩
  ·obtain⟨o',e1⟩:=I.base.there b o e hx
   exact⟨o',(hs.2 b (Nat.ne_of_lt (Nat.lt_of_lt_of_le (Heap.lt_size e) (I.ok.cab x c hfn hc)))).trans e1⟩
  ·by_cases hj:j=i
   ·subst hj
    rw[hi]at e1;cases e1
    rw[List.getElem?_set_self hiσ]at e2
    cases e2
    exact⟨u,r,.inr ⟨.inl hk,c,hc,hc'⟩⟩
   ·rw[List.getElem?_set_ne (Ne.symm hj)]at e2
    obtain⟨u',r',q⟩:=hl j y v' e1 e2 e3
    refine⟨u',r',?_⟩
    rcases q with q | ⟨k,c',e,z'⟩
    ·exact .inl q
    ·refine .inr ⟨k,c',e,z'.sameBut hs ?_⟩
     rintro rfl
     exact hj (nodup_ix hN e1 (I.ok.inj _ _ _ e hc ▸ hi))
  ·by_cases hcc:c'=c
   ·subst hcc;exact⟨_,hc'⟩
   ·obtain⟨w2,z2⟩:=I.cell y c' e
    exact⟨w2,z2.sameBut hs hcc⟩
  ·obtain⟨e,n,ne,nf,d⟩:=I.pin p hp
   refine⟨(hs.2 p.1 ?_).trans e,n,ne,nf,d⟩
   intro q
   rw[q,hoc]at e
   have q':oc=p.2:=Option.some.inj e
   exact d w' (by rw[← q'];exact hocd)
theorem store_ok {M:Model} {A:Around} {E:Value→Shared→Prop} {i:Nat} {x:Str} {v:V} {u:Value} {Q:Unit→Shared→Prop} (I:Inv X pins σ H s) (hN:X.N.Nodup) (hi:X.N[i]?=some x) (hx:Loc X.env.scope x) (r:RelV v u)
 (h:∀ s',Inv X pins (σ.set i (some v)) H s'→Q () s') (hf:X.fn x=true∨X.env.scope.names.lookup x=some .local:=by first | exact .inl rfl | exact .inr rfl | assumption):wpAny M A (storeName X.env x u) Q E s :=
 store_ok2 I hN hi hx r (fun s' I' _=>h s' I') hf
theorem Inv.call' {s':Shared} {ch:List Addr} (I:Inv X pins σ H s) (ho:s'.os=s.os) (u:Un (frs X.stack) ch H H' s.heap s'.heap) (hok:HOk X.prog X.w H' s'.heap) (hg:AllBare s'.gens)
 (hch:∀ b∈ch,(b∈X.ex∨X.s₀.heap.objs.size≤b)∧b≠X.env.locals∧(∀ x c,X.env.cells.lookup x=some c→c≠b)∧∀ p∈X.pn++pins,p.1≠b):Inv X pins σ H' s':=by
 obtain⟨h',g',d',t',o'⟩:=s'
 have e:o'=s.os:=ho
 subst e
 exact I.call (g':=g') (t':=t') (d':=d') u hok hg hch
end
noncomputable abbrev XK:=Value→Option Addr→Hp→Prop
noncomputable abbrev St:=List (Option V)
noncomputable abbrev VK:=V→Hp→Prop
noncomputable abbrev TE:=St→Hp→VK→Prop
noncomputable abbrev TT:=St→Hp→(Bool→Hp→Prop)→Prop
noncomputable abbrev TA:=St→Hp→(List V→Hp→Prop)→Prop
structure Ends where
 nx:St→Hp→Prop
 rt:VK
 bk:St→Hp→Prop:=fun _ _=>False
 ct:St→Hp→Prop:=fun _ _=>False
noncomputable abbrev TS:=Ends→St→Hp→Prop
noncomputable def EP (X:Cx) (pins:List (Addr×Obj)) (σ:St) (Q:VK) (u:Value) (s':Shared):Prop:=∃ v H',Inv X pins σ H' s'∧RelV v u∧Q v H'
noncomputable def TP (X:Cx) (pins:List (Addr×Obj)) (σ:St) (Q:Bool→Hp→Prop) (b:Bool) (s':Shared):Prop:=∃ H',Inv X pins σ H' s'∧Q b H'
noncomputable def AP (X:Cx) (pins:List (Addr×Obj)) (σ:St) (Q:List V→Hp→Prop) (us:List Value) (s':Shared):Prop:=∃ vs H',Inv X pins σ H' s'∧Vals vs us∧Q vs H'
noncomputable def SP (X:Cx) (pins:List (Addr×Obj)) (D:Ends) (f:Flow) (s':Shared):Prop :=
 match f with
 | .next=>∃ σ' H',Inv X pins σ' H' s'∧D.nx σ' H'
 | .brk=>∃ σ' H',Inv X pins σ' H' s'∧D.bk σ' H'
 | .cont=>∃ σ' H',Inv X pins σ' H' s'∧D.ct σ' H'
 | .ret u=>∃ v σ' H',Inv X pins σ' H' s'∧RelV v u∧D.rt v H'
noncomputable def PE (X:Cx) (e:Expr) (t:TE):Prop :=
 ∀ (pins:List (Addr×Obj)) (s:Shared) (σ:St) (H:Hp) (Q:VK),Inv X pins σ H s→t σ H Q→wpAny (model X.prog X.w) X.A (eval e X.env) (EP X pins σ Q) X.xe s
noncomputable def PT (X:Cx) (e:Expr) (t:TT):Prop :=
 ∀ (pins:List (Addr×Obj)) (s:Shared) (σ:St) (H:Hp) (Q:Bool→Hp→Prop),Inv X pins σ H s→t σ H Q→wpAny (model X.prog X.w) X.A (isTrue e X.env (eval e X.env)) (TP X pins σ Q) X.xe s
noncomputable def PW (X:Cx) (e:Expr) (t:TT):Prop :=
 ∀ (whole:Sem Value) (pins:List (Addr×Obj)) (s:Shared) (σ:St) (H:Hp) (Q:Bool→Hp→Prop),Inv X pins σ H s→t σ H Q→wpAny (model X.prog X.w) X.A (isTrue e X.env whole) (TP X pins σ Q) X.xe s
theorem PW.pt {X:Cx} {e:Expr} {t:TT} (h:PW X e t):PT X e t:=h _
noncomputable def PA (X:Cx) (es:List Expr) (t:TA):Prop :=
 ∀ (pos:Pos) (pins:List (Addr×Obj)) (s:Shared) (σ:St) (H:Hp) (Q:List V→Hp→Prop),Inv X pins σ H s→t σ H Q→wpAny (model X.prog X.w) X.A (spliced (backTo pos (starEach es X.env))) (AP X pins σ Q) X.xe s
noncomputable def PS (X:Cx) (st:Stmt) (t:TS):Prop :=
 ∀ (pins:List (Addr×Obj)) (s:Shared) (σ:St) (H:Hp) (D:Ends),Inv X pins σ H s→t D σ H→wpAny (model X.prog X.w) X.A (exec st X.env) (SP X pins D) X.xe s
noncomputable def PSs (X:Cx) (st:List Stmt) (t:TS):Prop :=
 ∀ (pins:List (Addr×Obj)) (s:Shared) (σ:St) (H:Hp) (D:Ends),Inv X pins σ H s→t D σ H→wpAny (model X.prog X.w) X.A (execs st X.env) (SP X pins D) X.xe s
theorem thn {α:Type} {t:Sem α} {Q Q':α→Shared→Prop} {M:Model} {A:Around} {E:Value→Shared→Prop} {s:Shared} (h:wpAny M A t Q E s) (hQ:∀ a s,Q a s→Q' a s):wpAny M A t Q' E s:=wpAny_mono h hQ fun _ _ x=>x
end L2
namespace L2
open PySem PySem.Spec PyProof.Rows
section
variable {X:Cx}
noncomputable def tVar (i:Nat):TE:=fun σ H Q=>∃ v,σ[i]?=some (some v)∧Q v H
noncomputable def tC (v:V):TE:=fun _ H Q=>Q v H
theorem pe_var {i:Nat} {x:Str} {pos:Pos} (hN:X.N[i]?=some x) (hv:Vis X.env.scope x) (hd:(x == ("__debug__":Str))=false:=by decide) (hcd:(x == ("__classdict__":Str))=false:=by decide):PE X (.Name x pos) (tVar i):=by
 intro pins s σ H Q I h
 obtain⟨v,e,h⟩:=h
 obtain⟨m,hn,hl⟩:=I.loc
 obtain⟨u,r,l⟩:=hl i x v hN e hv
 have fin:EP X pins σ Q u s:=⟨v,H,I,r,h⟩
 rcases l with ⟨hk,hm⟩ | ⟨hk,c,hc,hcell⟩
 ·exact wpAny_Name (wpAny_loadName_local I.ok.kind hk hn hm fin) hd
 ·rcases hk with hk | hk
  ·exact wpAny_Name (wpAny_loadName_cell I.ok.kind hk hc hcell fin) hd
  ·exact wpAny_Name (wpAny_loadName_free I.ok.kind hk hc hcell fin hcd) hd
theorem pe_int {i j pos}:PE X (.Constant (.int i) j pos) (tC (.int i)):=fun _ _ _ H _ I h=>wpAny_Constant_int ⟨.int i,H,I.tok _,⟨_,rfl⟩,h⟩
theorem pe_bl {b j pos}:PE X (.Constant (.bool b) j pos) (tC (.bl b)):=fun _ _ _ H _ I h=>Constant_bool ⟨.bl b,H,I,rfl,h⟩
theorem pe_str {x j pos}:PE X (.Constant (.str x) j pos) (tC (.str x)):=fun _ _ _ H _ I h=>Calls.Constant_str ⟨.str x,H,I.tok _,⟨_,rfl⟩,h⟩
noncomputable def Gl (X:Cx) (x:Str):Prop:=X.env.kindOf x=some .globalImplicit
theorem ld_glob {E:Value→Shared→Prop} {pins:List (Addr×Obj)} {s:Shared} {σ:St} {H:Hp} {x:Str} {u:Value} {pos:Pos} {Q:Value→Shared→Prop} (I:Inv X pins σ H s) (hg:Gl X x) (hm:X.mg x=some u) (h:Q u s)
 (hd:(x == ("__debug__":Str))=false:=by decide):wpAny (model X.prog X.w) X.A (eval (.Name x pos) X.env) Q E s :=
 Calls.Name_function_global I.ok.kind hg (Calls.loadGlobal_global (by rw[I.ok.glob];exact I.mod.glob.keeps I.bk) hm h) hd
theorem ld_blt {E:Value→Shared→Prop} {pins:List (Addr×Obj)} {s:Shared} {σ:St} {H:Hp} {x:Str} {u:Value} {pos:Pos} {Q:Value→Shared→Prop} (I:Inv X pins σ H s) (hg:Gl X x) (hm:X.mg x=none) (hv:bootBuiltins x=some u) (h:Q u s)
 (hn:x≠"__name__":=by decide) (hd:(x == ("__debug__":Str))=false:=by decide):wpAny (model X.prog X.w) X.A (eval (.Name x pos) X.env) Q E s:=by
 obtain⟨mb,h1,h2⟩:=I.mod.blt
 exact Calls.Name_function_global I.ok.kind hg (Calls.loadGlobal_builtin (by rw[I.ok.glob];exact I.mod.glob.keeps I.bk) hm (by rw[I.ok.blt];exact h1.keeps I.bk) ((h2 x hn).trans hv) h) hd
theorem pe_glob {x:Str} {v:V} {u:Value} {pos:Pos} (hg:Gl X x) (hm:X.mg x=some u) (r:RelV v u) (hd:(x == ("__debug__":Str))=false:=by decide):PE X (.Name x pos) (tC v) :=
 fun _ _ _ H _ I h=>ld_glob I hg hm ⟨v,H,I,r,h⟩ hd
variable {a b:Expr} {ta tb:TE} {pos:Pos}
variable {tA tB':TT} {rest:List Expr}
noncomputable def tAnd (t u:TT):TT:=fun σ H Q=>t σ H fun c H1=>if c=true then u σ H1 Q else Q false H1
noncomputable def tOr (t u:TT):TT:=fun σ H Q=>t σ H fun c H1=>if c=true then Q true H1 else u σ H1 Q
noncomputable def tNot (t:TT):TT:=fun σ H Q=>t σ H fun c H1=>Q (!c) H1
theorem pw_and1 (ha:PT X a tA):PW X (.BoolOp .And [a] pos) tA:=by
 intro wh pins s σ H Q I h
 refine isTrue_and (thn (ha pins s σ H Q I h) fun c s1 e=>?_)
 cases c with
 | true=>exact isTrue_and_nil e
 | false=>exact e
theorem pw_or1 (ha:PT X a tA):PW X (.BoolOp .Or [a] pos) tA:=by
 intro wh pins s σ H Q I h
 refine isTrue_or (thn (ha pins s σ H Q I h) fun c s1 e=>?_)
 cases c with
 | false=>exact isTrue_or_nil e
 | true=>exact e
theorem pw_and (ha:PT X a tA) (hb:PW X (.BoolOp .And (b :: rest) pos) tB'):PW X (.BoolOp .And (a :: b :: rest) pos) (tAnd tA tB'):=by
 intro wh pins s σ H Q I h
 refine isTrue_and (thn (ha pins s σ H _ I h) fun c s1 ⟨H1,I1,q1⟩=>?_)
 cases c with
 | true=>exact hb wh pins s1 σ H1 Q I1 q1
 | false=>exact⟨H1,I1,q1⟩
theorem pw_or (ha:PT X a tA) (hb:PW X (.BoolOp .Or (b :: rest) pos) tB'):PW X (.BoolOp .Or (a :: b :: rest) pos) (tOr tA tB'):=by
 intro wh pins s σ H Q I h
 refine isTrue_or (thn (ha pins s σ H _ I h) fun c s1 ⟨H1,I1,q1⟩=>?_)
 cases c with
 | true=>exact⟨H1,I1,q1⟩
 | false=>exact hb wh pins s1 σ H1 Q I1 q1
theorem pt_not (ha:PT X a tA):PT X (.UnaryOp .Not a pos) (tNot tA):=by
 intro pins s σ H Q I h
 exact isTrue_not (ha pins s σ H (fun c H1=>Q (!c) H1) I h)
noncomputable def tAndV (ta tb:TE):TE:=fun σ H Q=>ta σ H fun x H1=>∃ c,x=.bl c∧if c=true then tb σ H1 Q else Q (.bl false) H1
theorem pe_one {op} {t:TE} (h:PE X a t):PE X (.BoolOp op [a] pos) t:=fun pins s σ H Q I hw=>BoolOp_one (h pins s σ H Q I hw)
theorem pe_and (ha:PE X a ta) (hb:PE X (.BoolOp .And (b :: rest) pos) tb):PE X (.BoolOp .And (a :: b :: rest) pos) (tAndV ta tb):=by
 intro pins s σ H Q I h
 refine BoolOp_and (thn (ha pins s σ H _ I h) fun v s1 ⟨x,H1,I1,r1,q1⟩=>?_)
 obtain⟨c,rfl,q1⟩:=q1
 cases r1
 refine wpAny_truthy_bool ?_
 cases c with
 | true=>exact hb pins s1 σ H1 Q I1 q1
 | false=>exact⟨.bl false,H1,I1,rfl,q1⟩
noncomputable def tIf (t:TT) (ta tb:TE):TE:=fun σ H Q=>t σ H fun c H1=>if c=true then ta σ H1 Q else tb σ H1 Q
theorem pe_ifExp {c:Expr} (hc:PT X c tA) (ha:PE X a ta) (hb:PE X b tb):PE X (.IfExp c a b pos) (tIf tA ta tb):=by
 intro pins s σ H Q I h
 refine wpAny_IfExp (thn (hc pins s σ H _ I h) fun d s1 ⟨H1,I1,q1⟩=>?_)
 cases d with
 | true=>exact ha pins s1 σ H1 Q I1 q1
 | false=>exact hb pins s1 σ H1 Q I1 q1
end
end L2
namespace L2
open PySem PySem.Spec PyProof.Rows
noncomputable def SqL (K:PySem.W.Frag) (H:Hp) (a:Addr) (xs:List V):Prop :=
 Rd H a (.lst xs) ∨
  ∃ (o:Obj) (its:Array Value) (n:Nat),K.lookup a=some o∧o.cls=.type "list"∧o.dict=none∧o.data=.seq its n∧its.size≤sizeLine∧Vals xs its.toList
noncomputable def SqT (K:PySem.W.Frag) (H:Hp) (a:Addr) (xs:List V):Prop :=
 Rd H a (.tup xs) ∨
  ∃ (o:Obj) (its:Array Value) (n:Nat),K.lookup a=some o∧o.cls=.type "tuple"∧o.data=.seq its n∧its.size≤sizeLine∧Vals xs its.toList
noncomputable def absV:Value→Option V
 | .none=>some .non
 | .bool b=>some (.bl b)
 | .int i _=>some (.int i)
 | .str x _=>some (.str x)
 | .bytes b _=>some (.byt b)
 | .float b _=>some (.flt b)
 | .ref a=>some (.ref a)
 | .type n=>some (.ty n)
 | _=>none
theorem RelV.abs {x:V} {u:Value} (r:RelV x u):absV u=some x:=by
 cases x with
 | non=>cases r;rfl
 | bl _=>cases r;rfl
 | int _=>obtain⟨t,rfl⟩:=r;rfl
 | str _=>obtain⟨t,rfl⟩:=r;rfl
 | byt _=>obtain⟨t,rfl⟩:=r;rfl
 | flt _=>obtain⟨t,rfl⟩:=r;rfl
 | ref _=>cases r;rfl
 | ty _=>cases r;rfl
theorem RelV.inj {x y:V} {u:Value} (r:RelV x u) (q:RelV y u):x=y:=Option.some.inj (r.abs.symm.trans q.abs)
theorem Vals.inj:∀ {xs ys:List V} {us:List Value},Vals xs us→Vals ys us→xs=ys
 | _,_,_,.nil,.nil=>rfl
 | _,_,_,.cons r t,.cons r' t'=>by rw[r.inj r',Vals.inj t t']
section
variable {X:Cx} {pins:List (Addr×Obj)} {σ:St} {H:Hp} {s:Shared} {a:Addr} {xs ys:List V}
theorem SqL.of {K:PySem.W.Frag} (h:H a=some (.lst xs)):SqL K H a xs:=.inl (.inl h)
theorem SqT.of {K:PySem.W.Frag} (h:H a=some (.tup xs)):SqT K H a xs:=.inl (.inl h)
theorem Inv.list (I:Inv X pins σ H s) (h:SqL X.K H a xs):∃ its:List Value,Vals xs its∧PlainL s.heap a its.toArray∧xs.length≤sizeLine:=by
 rcases h with h | ⟨o,its,n,hk,hc,hd,hs,hz,r⟩
 ·obtain⟨z,its,n,r,e⟩:=h.ok I.hok
  exact⟨its,r,⟨_,n,e,rfl,rfl,rfl⟩,z⟩
 ·refine⟨its.toList,r,⟨o,n,I.kIn a o hk,hc,hd,by simpa using hs⟩,?_⟩
  have e:=r.length
  simp only[Array.length_toList]at e
  omega
theorem Inv.tuple (I:Inv X pins σ H s) (h:SqT X.K H a xs):∃ its:List Value,Vals xs its∧IsTup s.heap a its.toArray∧xs.length≤sizeLine:=by
 rcases h with h | ⟨o,its,n,hk,hc,hs,hz,r⟩
 ·obtain⟨z,its,r,p⟩:=h.ok I.hok
  exact⟨its,r,p,z⟩
 ·refine⟨its.toList,r,⟨o,I.kIn a o hk,hc,n,by simpa using hs⟩,?_⟩
  have e:=r.length
  simp only[Array.length_toList]at e
  omega
theorem Inv.list_inj (I:Inv X pins σ H s) (h:SqL X.K H a xs) (h':SqL X.K H a ys):xs=ys:=by
 obtain⟨its,r,⟨o,n,e,_,_,d⟩,_⟩:=I.list h
 obtain⟨its',r',⟨o',n',e',_,_,d'⟩,_⟩:=I.list h'
 rw[e]at e';cases e'
 rw[d]at d'
 injection d' with d1 _
 have:its=its':=by simpa using congrArg Array.toList d1
 subst this
 exact r.inj r'
end
noncomputable abbrev Cx.wish (X:Cx) (E:Value→Shared→Prop):Cx:={ X with xe:=E }
noncomputable abbrev Cx.nox (X:Cx):Cx:=X.wish fun _ _=>False
theorem Cx.Ok.wish {X:Cx} (ok:X.Ok) (E:Value→Shared→Prop):(X.wish E).Ok :=
 ⟨ok.mod,ok.kind,ok.glob,ok.blt,ok.above,ok.inj,ok.has,ok.cab,ok.hd,ok.frames,ok.stk,ok.exf,ok.bs,ok.bsz,ok.noex,ok.exfs,ok.funs,ok.frf⟩
theorem Cx.Ok.unwish {X:Cx} {E:Value→Shared→Prop} (ok:(X.wish E).Ok):X.Ok :=
 ⟨ok.mod,ok.kind,ok.glob,ok.blt,ok.above,ok.inj,ok.has,ok.cab,ok.hd,ok.frames,ok.stk,ok.exf,ok.bs,ok.bsz,ok.noex,ok.exfs,ok.funs,ok.frf⟩
section
variable {X:Cx} {pins:List (Addr×Obj)} {σ:St} {H:Hp} {s:Shared} {E:Value→Shared→Prop}
theorem Inv.wish (I:Inv X pins σ H s) (E:Value→Shared→Prop):Inv (X.wish E) pins σ H s:=⟨I.ok.wish E,I.os,I.bare,I.base,I.loc,I.cell,I.free,I.freeC,I.pin,I.hok,I.len⟩
theorem Inv.unwish (I:Inv (X.wish E) pins σ H s):Inv X pins σ H s:=⟨I.ok.unwish,I.os,I.bare,I.base,I.loc,I.cell,I.free,I.freeC,I.pin,I.hok,I.len⟩
theorem SP.unwish {D:Ends} {f:Flow} {s':Shared} (h:SP (X.wish E) pins D f s'):SP X pins D f s':=by
 cases f with
 | next=>obtain⟨σ',H',I,q⟩:=h;exact⟨σ',H',I.unwish,q⟩
 | brk=>obtain⟨σ',H',I,q⟩:=h;exact⟨σ',H',I.unwish,q⟩
 | cont=>obtain⟨σ',H',I,q⟩:=h;exact⟨σ',H',I.unwish,q⟩
 | ret u=>obtain⟨v,σ',H',I,r,q⟩:=h;exact⟨v,σ',H',I.unwish,r,q⟩
theorem PSs.nox {st:List Stmt} {t:TS} (h:PSs X.nox st t):PSs X st t:=fun pins s σ H D I hw =>
 wpAny_mono (h pins s σ H D (I.wish _) hw) (fun _ _ q=>q.unwish) fun _ _ z=>False.elim z
end
section
variable {X:Cx} {st:Stmt} {rest:List Stmt} {t u:TS} {e:Expr} {te:TE} {pos:Pos}
noncomputable def tNext:TS:=fun D σ H=>D.nx σ H
noncomputable def tSeq (t u:TS):TS:=fun D σ H=>t { D with nx:=u D } σ H
theorem pss_nil:PSs X [] tNext:=fun _ _ σ H _ I h=>wpAny_execs_nil ⟨σ,H,I,h⟩
theorem pss_cons (h1:PS X st t) (h2:PSs X rest u):PSs X (st :: rest) (tSeq t u):=by
 intro pins s σ H D I h
 refine wpAny_execs_cons (thn (h1 pins s σ H { D with nx:=u D } I h) fun f s1 q=>?_)
 cases f with
 | next =>
  obtain⟨σ',H',I',q⟩:=q
  exact h2 pins s1 σ' H' D I' q
 | ret v=>exact q
 | brk=>exact q
 | cont=>exact q
theorem pss_one (h1:PS X st t):PSs X [st] t:=by
 intro pins s σ H D I h
 refine wpAny_execs_cons (thn (h1 pins s σ H D I h) fun f s1 q=>?_)
 cases f with
 | next=>exact wpAny_execs_nil q
 | ret v=>exact q
 | brk=>exact q
 | cont=>exact q
theorem Inv.quiet {pins:List (Addr×Obj)} {σ:St} {H:Hp} {s:Shared} (I:Inv X pins σ H s):interactive X.env=false:=by simp[interactive,I.ok.kind]
noncomputable def tDrop (te:TE):TS:=fun D σ H=>te σ H fun _ H1=>D.nx σ H1
theorem ps_expr (he:PE X e te) (hs:swapsWith e none pos.line X.env=pure false:=by rfl):PS X (.Expr e pos) (tDrop te):=by
 intro pins s σ H D I h
 exact wpAny_Expr_any (thn (he pins s σ H _ I h) fun v s1 ⟨x,H1,I1,r1,q1⟩=>⟨σ,H1,I1,q1⟩) I.quiet hs
noncomputable def tRet (te:TE):TS:=fun D σ H=>te σ H D.rt
theorem ps_ret (he:PE X e te):PS X (.Return (some e) pos) (tRet te):=by
 intro pins s σ H D I h
 exact wpAny_Return_some (thn (he pins s σ H _ I h) fun v s1 ⟨x,H1,I1,r1,q1⟩=>⟨x,σ,H1,I1,r1,q1⟩)
noncomputable def tIfS (c:TT) (t u:TS):TS:=fun D σ H=>c σ H fun b H1=>if b=true then t D σ H1 else u D σ H1
theorem ps_if {c:Expr} {a b:List Stmt} {tc:TT} (hc:PT X c tc) (ha:PSs X a t) (hb:PSs X b u):PS X (.If c a b pos) (tIfS tc t u):=by
 intro pins s σ H D I h
 refine wpAny_If (thn (hc pins s σ H _ I h) fun d s1 ⟨H1,I1,q1⟩=>?_)
 cases d with
 | true=>exact ha pins s1 σ H1 D I1 q1
 | false=>exact hb pins s1 σ H1 D I1 q1
noncomputable def tNever:TS:=fun _ _ _=>False
theorem ps_never:PS X st tNever:=fun _ _ _ _ _ _ h=>h.elim
end
noncomputable abbrev TG:=V→St→Hp→(St→Hp→Prop)→Prop
noncomputable abbrev TGs:=List V→St→Hp→(St→Hp→Prop)→Prop
noncomputable def PG (X:Cx) (target:Expr) (t:TG):Prop :=
 ∀ (pins:List (Addr×Obj)) (s:Shared) (σ:St) (H:Hp) (v:V) (u:Value) (Q:St→Hp→Prop),Inv X pins σ H s→RelV v u→t v σ H Q →
  wpAny (model X.prog X.w) X.A (assign target X.env u) (fun _ s'=>∃ σ' H',Inv X pins σ' H' s'∧Q σ' H') X.xe s
noncomputable def PGs (X:Cx) (ts:List Expr) (t:TGs):Prop :=
 ∀ (pins:List (Addr×Obj)) (s:Shared) (σ:St) (H:Hp) (vs:List V) (us:List Value) (Q:St→Hp→Prop),Inv X pins σ H s→Vals vs us→t vs σ H Q →
  wpAny (model X.prog X.w) X.A (assignInOrder ((assignEach ts X.env).map (·.2)) us) (fun _ s'=>∃ σ' H',Inv X pins σ' H' s'∧Q σ' H') X.xe s
noncomputable abbrev TSet:=V→V→V→Hp→(Hp→Prop)→Prop
noncomputable def PSet (X:Cx) (t:TSet):Prop :=
 ∀ (pins:List (Addr×Obj)) (s:Shared) (σ:St) (H:Hp) (o i v:V) (ov iv u:Value) (Q:Hp→Prop),Inv X pins σ H s→RelV o ov→RelV i iv→RelV v u→t o i v H Q →
  wpAny (model X.prog X.w) X.A (setItem ov iv u) (fun _ s'=>∃ H',Inv X pins σ H' s'∧Q H') X.xe s
noncomputable abbrev TIp:=V→V→Hp→VK→Prop
noncomputable def PIp (X:Cx) (op:Operator) (t:TIp):Prop :=
 ∀ (pins:List (Addr×Obj)) (s:Shared) (σ:St) (H:Hp) (x y:V) (v u:Value) (Q:VK),Inv X pins σ H s→RelV x v→RelV y u→t x y H Q →
  wpAny (model X.prog X.w) X.A (inplaceOp op v u) (EP X pins σ Q) X.xe s
section
variable {X:Cx} {pos:Pos}
noncomputable def gName (i:Nat):TG:=fun v σ H Q=>Q (σ.set i (some v)) H
theorem pg_name {i:Nat} {x:Str} (hN:X.N.Nodup) (hi:X.N[i]?=some x) (hx:Loc X.env.scope x) (hf:X.fn x=true∨X.env.scope.names.lookup x=some .local:=by first | exact .inl rfl | exact .inr rfl | assumption):PG X (.Name x pos) (gName i):=by
 intro pins s σ H v u Q I r h
 exact wpAny_assign_Name (store_ok I hN hi hx r (fun s' I'=>⟨_,H,I',h⟩) hf)
noncomputable def gNil:TGs:=fun vs σ H Q=>vs=[]∧Q σ H
noncomputable def gCons (t:TG) (u:TGs):TGs:=fun vs σ H Q=>∃ v r,vs=v :: r∧t v σ H fun σ' H'=>u r σ' H' Q
theorem pgs_nil:PGs X [] gNil:=by
 intro pins s σ H vs us Q I r h
 obtain⟨e,h⟩:=h
 subst e
 cases r
 exact assignInOrder_nil ⟨σ,H,I,h⟩
theorem pgs_cons {e:Expr} {es:List Expr} {t:TG} {u:TGs} (h1:PG X e t) (h2:PGs X es u)
 (hs:(assignEach (e :: es) X.env).map (·.2)=assign e X.env :: (assignEach es X.env).map (·.2):=by rfl):PGs X (e :: es) (gCons t u):=by
 intro pins s σ H vs us Q I r h
 obtain⟨v,vr,e1,h⟩:=h
 subst e1
 cases r with
 | cons r rr =>
  rw[hs]
  refine assignInOrder_cons (thn (h1 pins s σ H _ _ _ I r h) fun _ s1 ⟨σ1,H1,I1,q1⟩=>?_)
  exact h2 pins s1 σ1 H1 _ _ Q I1 rr q1
noncomputable def gTup (K:PySem.W.Frag) (n:Nat) (t:TGs):TG:=fun v σ H Q=>∃ a xs,v=.ref a∧SqT K H a xs∧xs.length=n∧t xs σ H Q
theorem pg_tup {es:List Expr} {k:Nat} {t:TGs} {n:Nat} (hc:X.calm=true) (h:PGs X es t)
 (hn:(assignEach es X.env).length=n:=by rfl) (hst:(assignEach es X.env).findIdx? (·.1)=none:=by rfl):PG X (.Tuple es k pos) (gTup X.K n t):=by
 intro pins s σ H v u Q I r hw
 obtain⟨a,xs,e1,hq,hl,hw⟩:=hw
 subst e1
 cases r
 obtain⟨its,rv,ht,hz⟩:=I.tuple hq
 refine assign_Tuple_tuple (I.ok.hd hc) ht (by simp[hn,← hl,rv.length]) hst fun h' hx=>?_
 have I1:Inv X pins σ H { s with heap:=h' }:=I.kept (t':=s.toks) fun b o e=>hx b o (Nat.ne_of_lt (Heap.lt_size e)) e
 exact h pins _ σ H xs _ Q I1 (by simpa using rv) hw
noncomputable def gSub (to ti:TE) (t:TSet):TG:=fun v σ H Q=>to σ H fun o H1=>ti σ H1 fun i H2=>t o i v H2 fun H3=>Q σ H3
theorem pg_sub {o i:Expr} {to ti:TE} {t:TSet} (ho:PE X o to) (hi:PE X i ti) (hs:PSet X t)
 (ha:∀ v,assign (.Subscript o i pos) X.env v=(do
  let ov ← holding [v] (eval o X.env)
  let iv ← holding [v,ov] (eval i X.env)
  standAt pos
  holding [v,ov,iv] (setItem ov iv v)
  release [v,ov,iv] []):=by intro _;rfl):PG X (.Subscript o i pos) (gSub to ti t):=by
 intro pins s σ H v u Q I r h
 rw[ha]
 refine wpAny_bind (wpAny_holding (thn (ho pins s σ H _ I h) fun ov s1 ⟨x,H1,I1,r1,q1⟩=>?_))
 refine wpAny_bind (wpAny_holding (thn (hi pins s1 σ H1 _ I1 q1) fun iv s2 ⟨y,H2,I2,r2,q2⟩=>?_))
 refine wpAny_bind (wpAny_standAt (wpAny_bind (wpAny_holding (thn (hs pins s2 σ H2 x y v ov iv u _ I2 r1 r2 r q2) fun _ s3 ⟨H3,I3,q3⟩=>?_))))
 exact wpAny_release ⟨σ,H3,I3,q3⟩
noncomputable def tAsg (te:TE) (g:TG):TS:=fun D σ H=>te σ H fun x H1=>g x σ H1 D.nx
theorem ps_asg {tg e:Expr} {te:TE} {g:TG} (he:PE X e te) (hg:PG X tg g) (hs:swapsWithSole [tg] e pos.line X.env=pure false:=by rfl) (hw:swappedStores [tg] e X.env=pure none:=by rfl)
 (h1:(assignEach [tg] X.env).map (·.2)=[assign tg X.env]:=by rfl):PS X (.Assign [tg] e pos) (tAsg te g):=by
 intro pins s σ H D I h
 refine wpAny_Assign_stores (thn (he pins s σ H _ I h) fun v s1 ⟨x,H1,I1,r1,q1⟩=>?_) hs hw
 rw[h1]
 exact thn (hg pins s1 σ H1 x v _ I1 r1 q1) fun _ s2 q=>q
theorem ps_set {i:Nat} {x:Str} {e:Expr} {te:TE} {pos':Pos} (hN:X.N.Nodup) (hi:X.N[i]?=some x) (hx:Loc X.env.scope x) (he:PE X e te) (hs:swapsWith e (some (.Name x pos')) pos.line X.env=pure false:=by rfl) (hf:X.fn x=true∨X.env.scope.names.lookup x=some .local:=by first | exact .inl rfl | exact .inr rfl | assumption) :
 PS X (.Assign [.Name x pos'] e pos) (tAsg te (gName i)):=by
 intro pins s σ H D I h
 refine wpAny_Assign_Name (thn (he pins s σ H _ I h) fun v s1 ⟨y,H1,I1,r1,q1⟩=>?_) hs
 exact store_ok I1 hN hi hx r1 (fun s2 I2=>⟨_,H1,I2,q1⟩) hf
noncomputable def tAug (i:Nat) (te:TE) (ti:TIp):TS:=fun D σ H=>∃ x,σ[i]?=some (some x)∧te σ H fun y H1=>ti x y H1 fun z H2=>D.nx (σ.set i (some z)) H2
theorem ps_aug {i:Nat} {x:Str} {e:Expr} {te:TE} {op:Operator} {ti:TIp} {pos':Pos} (hN:X.N.Nodup) (hi:X.N[i]?=some x) (hx:Loc X.env.scope x) (he:PE X e te) (ho:PIp X op ti) (hf:X.fn x=true∨X.env.scope.names.lookup x=some .local:=by first | exact .inl rfl | exact .inr rfl | assumption) :
 PS X (.AugAssign (.Name x pos') op e pos) (tAug i te ti):=by
 intro pins s σ H D I h
 obtain⟨v,e1,h⟩:=h
 obtain⟨m,hn,hl⟩:=I.loc
 have vis:Vis X.env.scope x:=by rcases hx with k | k;exact .inl k;exact .inr (.inl k)
 obtain⟨u,r,l⟩:=hl i x v hi e1 vis
 refine wpAny_AugAssign_Name ?_
 have go:wpAny (model X.prog X.w) X.A (eval e X.env) (fun w s₂=>wpAny (model X.prog X.w) X.A (inplaceOp op u w) (fun r s₃=>wpAny (model X.prog X.w) X.A (storeName X.env x r) (fun _=>SP X pins D .next) X.xe s₃) X.xe s₂) X.xe s:=by
  refine thn (he pins s σ H _ I h) fun w s1 ⟨y,H1,I1,r1,q1⟩=>?_
  refine thn (ho pins s1 σ H1 v y u w _ I1 r r1 q1) fun z s2 ⟨zv,H2,I2,r2,q2⟩=>?_
  exact store_ok I2 hN hi hx r2 (fun s3 I3=>⟨_,H2,I3,q2⟩) hf
 rcases l with ⟨hk,hm⟩ | ⟨hk,c,hc,hcell⟩
 ·exact wpAny_loadName_local I.ok.kind hk hn hm go
 ·rcases hk with hk | hk
  ·exact wpAny_loadName_cell I.ok.kind hk hc hcell go
  ·rcases hx with k | k
   ·have:X.env.scope.names.lookup x=some .free:=hk
    rw[k]at this;cases this
   ·have:X.env.scope.names.lookup x=some .free:=hk
    rw[k]at this;cases this
noncomputable def ipI (f:Int→Int→Int):TIp:=fun x y H Q=>∃ i j,x=.int i∧y=.int j∧Q (.int (f i j)) H
theorem ip_add:PIp X .Add (ipI fun i j=>i+j):=by
 intro pins s σ H x y v u Q I r1 r2 h
 obtain⟨i,j,e1,e2,q⟩:=h
 subst e1;subst e2
 obtain⟨t,rfl⟩:=r1
 obtain⟨t',rfl⟩:=r2
 exact iadd_int ⟨.int _,H,I.tok _,⟨_,rfl⟩,q⟩
theorem ip_sub:PIp X .Sub (ipI fun i j=>i - j):=by
 intro pins s σ H x y v u Q I r1 r2 h
 obtain⟨i,j,e1,e2,q⟩:=h
 subst e1;subst e2
 obtain⟨t,rfl⟩:=r1
 obtain⟨t',rfl⟩:=r2
 exact isub_int ⟨.int _,H,I.tok _,⟨_,rfl⟩,q⟩
end
section
variable {X:Cx} {pos:Pos}
noncomputable def tWhile (c:TT) (tb:TS):TS:=fun D σ H=>∃ W:Nat→St→Hp→Prop,(∃ m,W m σ H)∧∀ m σ H,W m σ H →
 c σ H fun b H1=>if b=true then ∃ N:St→Hp→Prop,(∀ σ' H',N σ' H'→∃ m',m'<m∧W m' σ' H')∧tb { D with nx:=N,ct:=N,bk:=D.nx } σ H1 else D.nx σ H1
theorem ps_while {c:Expr} {body:List Stmt} {tc:TT} {tb:TS} (hp:PassesOwn (model X.prog X.w) X.A X.env X.xe) (hc:PT X c tc) (hb:PSs X body tb):PS X (.While c body [] pos) (tWhile tc tb):=by
 intro pins s σ H D I h
 obtain⟨W,⟨m0,w0⟩,turn⟩:=h
 refine wpAny_While (codeAny_whileLoop (fun n s'=>∃ σ' H',Inv X pins σ' H' s'∧W n σ' H') ?_ m0 ⟨σ,H,I,w0⟩)
 rintro n s1 ⟨σ1,H1,I1,w1⟩
 refine wpAny_passesOwn hp (thn (hc pins s1 σ1 H1 _ I1 (turn n σ1 H1 w1)) fun b s2 ⟨H2,I2,q2⟩=>?_)
 cases b with
 | true =>
  obtain⟨N,hN,q2⟩:=q2
  rw[if_pos rfl]
  refine wpAny_passesOwn hp (thn (hb pins s2 σ1 H2 _ I2 q2) fun f s3 q3=>?_)
  cases f with
  | next =>
   obtain⟨σ3,H3,I3,n3⟩:=q3
   obtain⟨m',hm,w3⟩:=hN σ3 H3 n3
   exact⟨m',hm,σ3,H3,I3,w3⟩
  | cont =>
   obtain⟨σ3,H3,I3,n3⟩:=q3
   obtain⟨m',hm,w3⟩:=hN σ3 H3 n3
   exact⟨m',hm,σ3,H3,I3,w3⟩
  | brk=>exact q3
  | ret v=>exact q3
 | false =>
  rw[if_neg Bool.false_ne_true]
  exact wpAny_execs_nil ⟨σ1,H2,I2,q2⟩
end
structure It where
 go:Nat→Hp→Prop
 yld:Nat→Hp→V→Hp→Prop
 stop:Nat→Hp→Prop
noncomputable def FpOk (X:Cx) (pins:List (Addr×Obj)) (H:Hp) (b:Addr):Prop :=
 H b=none∧b≠X.env.locals∧b∉X.fs∧(b∈X.ex∨X.s₀.heap.objs.size≤b)∧(∀ x c,X.env.cells.lookup x=some c→c≠b)∧∀ p∈X.pn++pins,p.1≠b
theorem Inv.fpOk {X:Cx} {pins:List (Addr×Obj)} {σ:St} {H H':Hp} {s:Shared} {b:Addr} (I:Inv X pins σ H s) (hb:s.heap.objs.size≤b) (hn:H' b=none):FpOk X pins H' b:=by
 refine⟨hn,Nat.ne_of_gt (Nat.lt_of_lt_of_le I.lt hb),I.nofs hb,.inr (Nat.le_trans I.sz hb),fun x c e z=>?_,fun p hp z=>?_⟩
 ·obtain⟨v,q⟩:=I.cell x c e
  exact absurd (Nat.lt_of_lt_of_le q.lt (by rw[z];exact hb)) (Nat.lt_irrefl _)
 ·exact absurd (Nat.lt_of_lt_of_le (Heap.lt_size (I.pin p hp).1) (by rw[z];exact hb)) (Nat.lt_irrefl _)
structure Turn (P:Program) (w:World) (K:PySem.W.Frag) (tg:Expr) (J:It) (fp:List Addr) (it:Addr) (tn:Nat→Heap→Prop):Prop where
 mem:it∈fp
 obj:∀ i h,tn i h→∀ b∈fp,∃ o,h.get? b=some o∧∀ v,o.data≠.cell v
 keep:∀ i h h',tn i h→(∀ b∈fp,∀ o,h.get? b=some o→h'.get? b=some o)→tn i h'
 item:∀ (X:Cx),X.prog=P→X.w=w→X.K=K→X.calm=true→∀ (i:Nat) (pins:List (Addr×Obj)) (s:Shared) (σ:St) (H:Hp) (E:Value→Shared→Prop),Inv X pins σ H s→(∀ b∈fp,FpOk X pins H b)→tn i s.heap→J.go i H →
  wpAny (model P w) X.A (pyNext (.ref it)) (fun r s1=>∃ u,r=some u ∧
   wpAny (model P w) X.A (letOwnedTupleGo tg (.ref it) u) (fun _ s2=>∃ x H',Inv X pins σ H' s2∧RelV x u∧J.yld i H x H'∧tn (i+1) s2.heap∧∀ b∈fp,H' b=none) E s1) E s
 done:∀ (X:Cx),X.prog=P→X.w=w→X.K=K→X.calm=true→∀ (i:Nat) (pins:List (Addr×Obj)) (s:Shared) (σ:St) (H:Hp) (E:Value→Shared→Prop),Inv X pins σ H s→(∀ b∈fp,FpOk X pins H b)→tn i s.heap→J.stop i H →
  wpAny (model P w) X.A (pyNext (.ref it)) (fun r s1=>r=none∧Inv X pins σ H s1) E s
 self:∀ (A:Around) (i:Nat) (s:Shared) (Q:Value→Shared→Prop) (E:Value→Shared→Prop),tn i s.heap→Q (.ref it) s→wpAny (model P w) A (pyIter (.ref it)) Q E s
noncomputable abbrev TI:=St→Hp→(It→Hp→Prop)→Prop
noncomputable def PIE (X:Cx) (pins:List (Addr×Obj)) (σ:St) (tg:Expr) (R:It→Hp→Prop) (itv:Value) (s2:Shared):Prop :=
 ∃ (it:Addr) (fp:List Addr) (tn:Nat→Heap→Prop) (J:It) (H':Hp),itv=.ref it∧Inv X pins σ H' s2∧Turn X.prog X.w X.K tg J fp it tn∧tn 0 s2.heap∧(∀ b∈fp,FpOk X pins H' b)∧R J H'
noncomputable def PI (X:Cx) (tg iter:Expr) (wi:TI):Prop :=
 ∀ (pins:List (Addr×Obj)) (s:Shared) (σ:St) (H:Hp) (R:It→Hp→Prop),Inv X pins σ H s→wi σ H R →
  wpAny (model X.prog X.w) X.A (eval iter X.env) (fun v s1=>wpAny (model X.prog X.w) X.A (pyIter v) (PIE X pins σ tg R) X.xe s1) X.xe s
theorem go_of {M:Model} {A:Around} {E:Value→Shared→Prop} {s:Shared} {tg:Expr} {it:Addr} {u:Value} {o:Obj} {n:String} {vs:Array Value} {Q:Unit→Shared→Prop} (ho:s.heap.get? it=some o) (hc:o.cls=.type n) (hd:o.data=.fields vs)
 (hn:["enumerate","zip","dict_itemiterator","dict_reverseitemiterator","odict_iterator","itertools.zip_longest","itertools.pairwise"].contains n=false) (hQ:Q () s):wpAny M A (letOwnedTupleGo tg (.ref it) u) Q E s:=by
 unfold letOwnedTupleGo
 cases tg <;> first
  | exact wpAny_pure hQ
  | (cases u <;> first
   | exact wpAny_pure hQ
   | (refine wpAny_bind (wpAny_load ho ?_)
      rw[hc,hd]
      show wpAny M A (if (["enumerate","zip","dict_itemiterator","dict_reverseitemiterator","odict_iterator","itertools.zip_longest","itertools.pairwise"].contains n && vs[0]? == some (rawInt _))=true then _ else _) Q E s
      rw[if_neg (by intro h;rw[hn,Bool.false_and]at h;cases h)]
      exact wpAny_pure hQ))
noncomputable def Itl (K:PySem.W.Frag) (a:Addr):It :=
 ⟨fun i H=>∃ xs x,SqL K H a xs∧xs[i]?=some x,fun i H x H'=>H'=H∧∀ xs,SqL K H a xs→xs[i]?=some x,fun i H=>∃ xs,SqL K H a xs∧xs.length≤i⟩
noncomputable def Itr (lo:Int) (n:Nat):It:=⟨fun i _=>i<n,fun i H x H'=>H'=H∧x=.int (lo+i),fun i _=>n≤i⟩
theorem turn_list {P:Program} {w:World} {K:PySem.W.Frag} {tg:Expr} (a it:Addr):Turn P w K tg (Itl K a) [it] it (fun i h=>h.IsListIter it a i) where
 mem:=by simp
 obj:=fun i h st b hb=>by
  have e:b=it:=by simpa using hb
  subst e
  obtain⟨o,e,c,d⟩:=st
  exact⟨o,e,fun v z=>by rw[d]at z;cases z⟩
 keep:=fun i h h' st k=>st.at fun o e=>k it (by simp) o e
 item:=by
  intro X hP hw hK hc i pins s σ H E I hf st hg
  subst hP hw hK
  obtain⟨xs,x,hq,hx⟩:=hg
  obtain⟨its,rv,p,hz⟩:=I.list hq
  obtain⟨u,hu,ru⟩:=rv.get hx
  obtain⟨f0,f1,f2,f3,f4,f5⟩:=hf it (by simp)
  refine wpAny_pyNext_list_item st p.isList (x:=u) (by simpa using hu) fun h' st' sb=>?_
  have I1:Inv X pins σ H { s with heap:=h' }:=I.turned (t':=s.toks) (fun b o hb e=>(sb.2 b hb).trans e) f0 f1 f3 f4 f5
  obtain⟨o,e,c,d⟩:=id st'
  exact⟨u,rfl,go_of (s:={ s with heap:=h' }) e c d (by decide) ⟨x,H,I1,ru,⟨rfl,fun ys hy=>by rw[I.list_inj hy hq];exact hx⟩,st',fun b hb=>(hf b hb).1⟩⟩
 done:=by
  intro X hP hw hK hc i pins s σ H E I hf st hg
  subst hP hw hK
  obtain⟨xs,hq,hx⟩:=hg
  obtain⟨its,rv,p,hz⟩:=I.list hq
  obtain⟨f0,f1,f2,f3,f4,f5⟩:=hf it (by simp)
  have hl:=rv.length
  exact wpAny_pyNext_list_end (I.ok.hd hc) st p.isList (by simp;omega) fun h' eb=>⟨rfl,I.turned (t':=s.toks) (fun b o hb e=>eb b o hb e) f0 f1 f3 f4 f5⟩
 self:=fun _ _ _ _ _ st h=>wpAny_pyIter_listiter st h
theorem turn_range {P:Program} {w:World} {K:PySem.W.Frag} {tg:Expr} (it:Addr) (lo:Int) (n:Nat):Turn P w K tg (Itr lo n) [it] it (fun i h=>IsRangeIter h it (lo+(i:Nat) * 1) ((n:Int) - (i:Nat)) 1) where
 mem:=by simp
 obj:=fun i h st b hb=>by
  have e:b=it:=by simpa using hb
  subst e
  exact⟨_,st,fun v z=>by
   have z':Data.fields _=Data.cell v:=z
   cases z'⟩
 keep:=fun i h h' st k=>k it (by simp) _ st
 item:=by
  intro X hP hw hK hc i pins s σ H E I hf st hg
  subst hP hw hK
  obtain⟨f0,f1,f2,f3,f4,f5⟩:=hf it (by simp)
  have W:=Walks.range (prog:=X.prog) (w:=X.w) (I.ok.hd hc) it lo 1 n
  refine W.item i s _ _ hg st fun v h' tk hv st' kk=>?_
  obtain⟨t,rfl⟩:=hv
  have I1:Inv X pins σ H { s with heap:=h',toks:=tk }:=I.turned (fun b o hb e=>kk b o (by simpa using hb) e) f0 f1 f3 f4 f5
  refine⟨_,rfl,go_of (s:={ s with heap:=h',toks:=tk }) (n:="range_iterator") st' rfl rfl (by decide) ⟨.int (lo+i),H,I1,⟨t,?_⟩,⟨rfl,rfl⟩,st',fun b hb=>(hf b hb).1⟩⟩
  rw[Int.mul_one]
 done:=by
  intro X hP hw hK hc i pins s σ H E I hf st hg
  subst hP hw hK
  obtain⟨f0,f1,f2,f3,f4,f5⟩:=hf it (by simp)
  exact wpAny_pyNext_range_end (I.ok.hd hc) st (by have:n≤i:=hg;omega) fun h' eb=>⟨rfl,I.turned (t':=s.toks) (fun b o hb e=>eb b o hb e) f0 f1 f3 f4 f5⟩
 self:=fun _ _ _ _ _ st h=>wpAny_pyIter_rangeiter st h
end L2
namespace L2
open PySem PySem.Spec PyProof.Rows
section
variable {X:Cx} {tg:Expr}
noncomputable def iList (K:PySem.W.Frag) (tl:TE):TI:=fun σ H R=>tl σ H fun x H1=>∃ a,x=.ref a∧(∃ xs,SqL K H1 a xs)∧R (Itl K a) H1
theorem pi_list {l:Expr} {tl:TE} (hl:PE X l tl):PI X tg l (iList X.K tl):=by
 intro pins s σ H R I h
 refine thn (hl pins s σ H _ I h) fun v s1 ⟨x,H1,I1,r1,q1⟩=>?_
 obtain⟨a,e,⟨xs,hq⟩,q⟩:=q1
 subst e
 cases r1
 obtain⟨its,rv,p,hz⟩:=I1.list hq
 refine wpAny_pyIter_list p.isList ?_
 refine⟨s1.heap.objs.size,[s1.heap.objs.size],_,_,H1,rfl,I1.kept (t':=s1.toks) fun b o e=>Heap.get?_push_of_some _ e,turn_list a _,⟨_,Heap.get?_push_size _ rfl,rfl,rfl⟩,fun b hb=>?_,q⟩
 have e:b=s1.heap.objs.size:=by simpa using hb
 subst e
 exact I1.fpOk (Nat.le_refl _) (I1.hok.fresh (Nat.le_refl _))
theorem range_it {pins:List (Addr×Obj)} {σ:St} {H:Hp} {s:Shared} {R:It→Hp→Prop} {E:Value→Shared→Prop} {lo hi:Int} {t u v:Tok} {tk:Nat} (I:Inv X pins σ H s) (h1:-(2 ^ 62)≤lo) (h2:lo<2 ^ 62) (h3:-(2 ^ 62)≤hi) (h4:hi<2 ^ 62)
 (q:R (Itr lo (hi - lo).toNat) H):wpAny (model X.prog X.w) X.A (pyIter (.ref s.heap.objs.size)) (PIE X pins σ tg R) E { s with heap:=s.heap.push { cls:=.type "range",data:=.fields #[.int lo t,.int hi u,.int 1 v] },toks:=tk }:=by
 refine wpAny_pyIter_range (IsRange.new ..) (small_one h1 h2 h3 h4) ?_
 have I1:Inv X pins σ H { s with heap:=s.heap.push { cls:=.type "range",data:=.fields #[.int lo t,.int hi u,.int 1 v] },toks:=tk }:=I.kept fun b o e=>Heap.get?_push_of_some _ e
 refine⟨(s.heap.push { cls:=.type "range",data:=.fields #[.int lo t,.int hi u,.int 1 v] }).objs.size,[(s.heap.push { cls:=.type "range",data:=.fields #[.int lo t,.int hi u,.int 1 v] }).objs.size],_,_,H,rfl,
  I1.kept (t':=tk) fun b o e=>Heap.get?_push_of_some _ e,turn_range _ lo (hi - lo).toNat,?_,fun b hb=>?_,q⟩
 ·have e1:lo+((0:Nat):Int) * 1=lo:=by simp
  have e2:(((hi - lo).toNat:Nat):Int) - ((0:Nat):Int)=Builtin.Range.rangeSize lo hi 1:=by rw[rangeSize_one];split <;> omega
  show IsRangeIter _ _ (lo+((0:Nat):Int) * 1) ((((hi - lo).toNat:Nat):Int) - ((0:Nat):Int)) 1
  rw[e1,e2]
  exact Heap.get?_push_size _ rfl
 ·have e:b=(s.heap.push { cls:=.type "range",data:=.fields #[.int lo t,.int hi u,.int 1 v] }).objs.size:=by simpa using hb
  subst e
  exact I1.fpOk (Nat.le_refl _) (I1.hok.fresh (Nat.le_refl _))
noncomputable def iRng1 (ta:TA):TI:=fun σ H R=>ta σ H fun vs H1=>∃ j:Int,vs=[.int j]∧-(2 ^ 62)≤j∧j<2 ^ 62∧R (Itr 0 j.toNat) H1
noncomputable def iRng2 (ta:TA):TI:=fun σ H R=>ta σ H fun vs H1=>∃ i j:Int,vs=[.int i,.int j]∧(-(2 ^ 62)≤i∧i<2 ^ 62∧-(2 ^ 62)≤j∧j<2 ^ 62)∧R (Itr i (j - i).toNat) H1
theorem pi_range1 {a:Expr} {ta:TA} {p pos:Pos} (hg:Gl X "range") (hm:X.mg "range"=none) (ha:PA X [a] ta) (hs:starEach [a] X.env=[(false,eval a X.env)]:=by rfl):PI X tg (.Call (.Name "range" p) [a] [] pos) (iRng1 ta):=by
 intro pins s σ H R I h
 refine Call_ (ld_blt I hg hm boot_range (PyProof.Rows.callWith_type1 (thn (ha pos pins s σ H _ I h) fun us s1 ⟨vs,H1,I1,r1,q1⟩=>?_) hs rfl))
 obtain⟨j,e,q1,q2,q⟩:=q1
 subst e
 cases r1 with
 | cons r rr =>
  cases rr
  obtain⟨t,rfl⟩:=r
  exact call_range_1 (range_it I1 (by omega) (by omega) q1 q2 (by simpa using q))
theorem pi_range2 {a b:Expr} {ta:TA} {p pos:Pos} (hg:Gl X "range") (hm:X.mg "range"=none) (ha:PA X [a,b] ta) (hs:starEach [a,b] X.env=[(false,eval a X.env),(false,eval b X.env)]:=by rfl) (hs2:starEach [b] X.env=[(false,eval b X.env)]:=by rfl) :
 PI X tg (.Call (.Name "range" p) [a,b] [] pos) (iRng2 ta):=by
 intro pins s σ H R I h
 refine Call_ (ld_blt I hg hm boot_range (PyProof.Rows.callWith_type1 (thn (ha pos pins s σ H _ I h) fun us s1 ⟨vs,H1,I1,r1,q1⟩=>?_) (by rw[hs,hs2]) (by rw[hs2];rfl)))
 obtain⟨i,j,e,⟨q1,q2,q3,q4⟩,q⟩:=q1
 subst e
 cases r1 with
 | cons r rr =>
  cases rr with
  | cons r' rr =>
   cases rr
   obtain⟨t,rfl⟩:=r
   obtain⟨t',rfl⟩:=r'
   exact call_range_2 (range_it I1 q1 q2 q3 q4 q)
noncomputable def tFor (wi:TI) (g:TG) (tb:TS):TS:=fun D σ H=>wi σ H fun J H1=>∃ W:Nat→Nat→St→Hp→Prop,(∃ m,W 0 m σ H1)∧∀ i m σ H,W i m σ H →
 (J.stop i H∧D.nx σ H)∨(J.go i H∧∃ N:St→Hp→Prop,(∀ σ' H',N σ' H'→∃ m',m'<m∧W (i+1) m' σ' H')∧∀ x H',J.yld i H x H'→g x σ H' fun σ2 H2=>tb { D with nx:=N,ct:=N,bk:=D.nx } σ2 H2)
noncomputable def pinsAt (fp:List Addr) (h:Heap):List (Addr×Obj):=fp.filterMap fun b=>(h.get? b).map fun o=>(b,o)
theorem mem_pinsAt {fp:List Addr} {h:Heap} {b:Addr} {o:Obj} (hb:b∈fp) (e:h.get? b=some o):(b,o)∈pinsAt fp h:=List.mem_filterMap.mpr ⟨b,hb,by rw[e];rfl⟩
theorem of_pinsAt {fp:List Addr} {h:Heap} {p:Addr×Obj} (hp:p∈pinsAt fp h):p.1∈fp∧h.get? p.1=some p.2:=by
 obtain⟨b,hb,e⟩:=List.mem_filterMap.mp hp
 cases q:h.get? b with
 | none=>rw[q]at e;cases e
 | some o =>
  rw[q]at e
  have e':(b,o)=p:=Option.some.inj e
  subst e'
  exact⟨hb,q⟩
theorem Inv.pinned {pins:List (Addr×Obj)} {σ:St} {H:Hp} {s:Shared} {fp:List Addr} (I:Inv X pins σ H s) (hf:∀ b∈fp,FpOk X pins H b) (ho:∀ b∈fp,∃ o,s.heap.get? b=some o∧∀ v,o.data≠.cell v):Inv X (pins++pinsAt fp s.heap) σ H s :=
 I.pins_of fun p hp=>(List.mem_append.mp hp).elim (fun z=>I.pin p (List.mem_append_right _ z)) fun z=>by
  obtain⟨hb,e⟩:=of_pinsAt z
  obtain⟨f0,f1,f2,_⟩:=hf p.1 hb
  obtain⟨o,e',d⟩:=ho p.1 hb
  rw[e]at e';cases e'
  exact⟨e,f0,f1,f2,d⟩
theorem Inv.unpinned {pins pl:List (Addr×Obj)} {σ:St} {H:Hp} {s:Shared} (I:Inv X (pins++pl) σ H s):Inv X pins σ H s:=I.pins_of fun p hp=>I.pin p (List.mem_append_right _ (List.mem_append_left _ hp))
theorem ps_for {iter:Expr} {body:List Stmt} {wi:TI} {g:TG} {tb:TS} {pos:Pos} (hp:PassesOwn (model X.prog X.w) X.A X.env X.xe) (hc:X.calm=true) (hi:PI X tg iter wi) (hg:PG X tg g) (hb:PSs X body tb)
 (hs:∀ x,foldedSetIterable iter X.env x=pure x:=by intro _;rfl):PS X (.For tg iter body [] pos) (tFor wi g tb):=by
 intro pins s σ H D I h
 refine wpAny_For (thn (hi pins s σ H _ I h) fun v s1 h1=>thn h1 fun itv s2 h2=>?_) hs
 obtain⟨it,fp,tn,J,H2,e,I2,T,st2,f2,W,⟨m0,w0⟩,turn⟩:=h2
 subst e
 have stat:∀ {H':Hp},(∀ b∈fp,H' b=none)→∀ b∈fp,FpOk X pins H' b:=fun hn b hb=>⟨hn b hb,(f2 b hb).2⟩
 refine codeAny_forLoop_any (fun n s'=>∃ i σ' H',Inv X pins σ' H' s'∧tn i s'.heap∧(∀ b∈fp,H' b=none)∧W i n σ' H') ?_ m0 ⟨0,σ,H2,I2,st2,fun b hb=>(f2 b hb).1,w0⟩
 rintro n s3 ⟨i,σ3,H3,I3,st3,fr3,w3⟩
 rcases turn i n σ3 H3 w3 with ⟨stop,qn⟩ | ⟨go,N,hN,step⟩
 ·refine wpAny_passesOwn hp (thn (T.done X rfl rfl rfl hc i pins s3 σ3 H3 X.xe I3 (stat fr3) st3 stop) fun r s4 ⟨hr,I4⟩=>?_)
  subst hr
  exact wpAny_execs_nil ⟨σ3,H3,I4,qn⟩
 ·refine wpAny_passesOwn hp (thn (T.item X rfl rfl rfl hc i pins s3 σ3 H3 X.xe I3 (stat fr3) st3 go) fun r s4 ⟨u,hr,h4⟩=>?_)
  subst hr
  refine wpAny_passesOwn hp (thn h4 fun _ s5 ⟨x,H5,I5,r5,y5,st5,fr5⟩=>?_)
  have I5':=I5.pinned (stat fr5) (T.obj _ _ st5)
  refine wpAny_passesOwn hp (thn (hg _ s5 σ3 H5 x u _ I5' r5 (step x H5 y5)) fun _ s6 ⟨σ6,H6,I6,q6⟩=>?_)
  refine wpAny_passesOwn hp (thn (hb _ s6 σ6 H6 _ I6 q6) fun f s7 q7=>?_)
  have again:∀ {σ7:St} {H7:Hp},Inv X (pins++pinsAt fp s5.heap) σ7 H7 s7→N σ7 H7→∃ m,m<n∧∃ i σ' H',Inv X pins σ' H' s7∧tn i s7.heap∧(∀ b∈fp,H' b=none)∧W i m σ' H':=fun {σ7 H7} I7 n7=>by
   obtain⟨m',hm,w7⟩:=hN σ7 H7 n7
   refine⟨m',hm,i+1,σ7,H7,I7.unpinned,T.keep _ _ _ st5 fun b hb o e=>(I7.pin (b,o) (List.mem_append_right _ (List.mem_append_right _ (mem_pinsAt hb e)))).1,fun b hb=>?_,w7⟩
   obtain⟨o,e,d⟩:=T.obj _ _ st5 b hb
   exact(I7.pin (b,o) (List.mem_append_right _ (List.mem_append_right _ (mem_pinsAt hb e)))).2.1
  cases f with
  | next=>obtain⟨σ7,H7,I7,n7⟩:=q7;exact again I7 n7
  | cont=>obtain⟨σ7,H7,I7,n7⟩:=q7;exact again I7 n7
  | brk=>obtain⟨σ7,H7,I7,q7⟩:=q7;exact⟨σ7,H7,I7.unpinned,q7⟩
  | ret v=>obtain⟨x7,σ7,H7,I7,r7,q7⟩:=q7;exact⟨x7,σ7,H7,I7.unpinned,r7,q7⟩
end
theorem for_list {K:PySem.W.Frag} {a:Addr} {xs:List V} {g:TG} {tb:TS} {D:Ends} {σ:St} {H:Hp} (Pv:Nat→St→Hp→Prop) (h0:Pv 0 σ H) (hl:∀ i σ H,i≤xs.length→Pv i σ H→SqL K H a xs)
 (hs:∀ i x σ H,xs[i]?=some x→Pv i σ H→g x σ H fun σ2 H2=>tb { D with nx:=Pv (i+1),ct:=Pv (i+1),bk:=D.nx } σ2 H2) (hd:∀ σ H,Pv xs.length σ H→D.nx σ H) :
 ∃ W:Nat→Nat→St→Hp→Prop,(∃ m,W 0 m σ H)∧∀ i m σ H,W i m σ H →
  ((Itl K a).stop i H∧D.nx σ H)∨((Itl K a).go i H∧∃ N:St→Hp→Prop,(∀ σ' H',N σ' H'→∃ m',m'<m∧W (i+1) m' σ' H')∧∀ x H',(Itl K a).yld i H x H'→g x σ H' fun σ2 H2=>tb { D with nx:=N,ct:=N,bk:=D.nx } σ2 H2):=by
 refine⟨fun i m σ H=>m=xs.length - i∧i≤xs.length∧Pv i σ H,⟨xs.length,by simp,Nat.zero_le _,h0⟩,?_⟩
 rintro i m σ H ⟨rfl,hi,p⟩
 have q:=hl i σ H hi p
 by_cases hlt:i<xs.length
 ·refine .inr ⟨⟨xs,xs[i],q,by simp[hlt]⟩,Pv (i+1),fun σ' H' p'=>⟨xs.length - (i+1),by omega,rfl,hlt,p'⟩,fun x H' y=>?_⟩
  obtain⟨e,y⟩:=y
  subst e
  exact hs i x σ _ (y xs q) p
 ·have e:i=xs.length:=by omega
  subst e
  exact .inl ⟨⟨xs,q,Nat.le_refl _⟩,hd σ H p⟩
theorem for_range {lo:Int} {n:Nat} {g:TG} {tb:TS} {D:Ends} {σ:St} {H:Hp} (Pv:Nat→St→Hp→Prop) (h0:Pv 0 σ H)
 (hs:∀ i σ H,i<n→Pv i σ H→g (.int (lo+i)) σ H fun σ2 H2=>tb { D with nx:=Pv (i+1),ct:=Pv (i+1),bk:=D.nx } σ2 H2) (hd:∀ σ H,Pv n σ H→D.nx σ H) :
 ∃ W:Nat→Nat→St→Hp→Prop,(∃ m,W 0 m σ H)∧∀ i m σ H,W i m σ H →
  ((Itr lo n).stop i H∧D.nx σ H)∨((Itr lo n).go i H∧∃ N:St→Hp→Prop,(∀ σ' H',N σ' H'→∃ m',m'<m∧W (i+1) m' σ' H')∧∀ x H',(Itr lo n).yld i H x H'→g x σ H' fun σ2 H2=>tb { D with nx:=N,ct:=N,bk:=D.nx } σ2 H2):=by
 refine⟨fun i m σ H=>m=n - i∧i≤n∧Pv i σ H,⟨n,by simp,Nat.zero_le _,h0⟩,?_⟩
 rintro i m σ H ⟨rfl,hi,p⟩
 by_cases hlt:i<n
 ·refine .inr ⟨hlt,Pv (i+1),fun σ' H' p'=>⟨n - (i+1),by omega,rfl,hlt,p'⟩,fun x H' y=>?_⟩
  obtain⟨e,y⟩:=y
  subst e y
  exact hs i σ _ hlt p
 ·have e:i=n:=by omega
  subst e
  exact .inl ⟨Nat.le_refl _,hd σ H p⟩
theorem while_by {c:TT} {tb:TS} {D:Ends} {σ:St} {H:Hp} (Pv:St→Hp→Prop) (μ:St→Hp→Nat) (h0:Pv σ H)
 (hs:∀ σ H,Pv σ H→c σ H fun b H1=>if b=true then tb { D with nx:=fun σ' H'=>Pv σ' H'∧μ σ' H'<μ σ H,ct:=fun σ' H'=>Pv σ' H'∧μ σ' H'<μ σ H,bk:=D.nx } σ H1 else D.nx σ H1)
 (mono:∀ σ H Q Q',(∀ b H1,Q b H1→Q' b H1)→c σ H Q→c σ H Q'):tWhile c tb D σ H:=by
 refine⟨fun m σ H=>m=μ σ H∧Pv σ H,⟨_,rfl,h0⟩,?_⟩
 rintro m σ H ⟨rfl,p⟩
 refine mono σ H _ _ (fun b H1 q=>?_) (hs σ H p)
 cases b with
 | true=>exact⟨_,fun σ' H' ⟨p',l⟩=>⟨_,l,rfl,p'⟩,q⟩
 | false=>exact q
end L2
namespace L2
open PySem PySem.Spec PyProof.Rows
noncomputable abbrev R2:=V→V→Hp→VK→Prop
noncomputable def OpR (X:Cx) (f:Value→Value→Sem Value) (r:R2):Prop :=
 ∀ (pins:List (Addr×Obj)) (s:Shared) (σ:St) (H:Hp) (x y:V) (v u:Value) (Q:VK),Inv X pins σ H s→RelV x v→RelV y u→r x y H Q →
  wpAny (model X.prog X.w) X.A (f v u) (EP X pins σ Q) X.xe s
noncomputable def UnR (X:Cx) (f:Value→Sem Value) (r:V→Hp→VK→Prop):Prop :=
 ∀ (pins:List (Addr×Obj)) (s:Shared) (σ:St) (H:Hp) (x:V) (v:Value) (Q:VK),Inv X pins σ H s→RelV x v→r x H Q →
  wpAny (model X.prog X.w) X.A (f v) (EP X pins σ Q) X.xe s
noncomputable def CallR (X:Cx) (f:Value) (r:List V→Hp→VK→Prop):Prop :=
 ∀ (pins:List (Addr×Obj)) (s:Shared) (σ:St) (H:Hp) (xs:List V) (us:List Value) (Q:VK),Inv X pins σ H s→Vals xs us→r xs H Q →
  wpAny (model X.prog X.w) X.A (call f us) (EP X pins σ Q) X.xe s
noncomputable def TruR (X:Cx) (r:V→Hp→(Bool→Hp→Prop)→Prop):Prop :=
 ∀ (pins:List (Addr×Obj)) (s:Shared) (σ:St) (H:Hp) (x:V) (v:Value) (Q:Bool→Hp→Prop),Inv X pins σ H s→RelV x v→r x H Q →
  wpAny (model X.prog X.w) X.A (truthy v) (TP X pins σ Q) X.xe s
noncomputable def tOp (r:R2) (ta tb:TE):TE:=fun σ H Q=>ta σ H fun x H1=>tb σ H1 fun y H2=>r x y H2 Q
noncomputable def tUn (r:V→Hp→VK→Prop) (ta:TE):TE:=fun σ H Q=>ta σ H fun x H1=>r x H1 Q
noncomputable def rI (C:Int→Int→Prop) (g:Int→Int→V):R2:=fun x y H Q=>∃ i j,x=.int i∧y=.int j∧C i j∧Q (g i j) H
noncomputable def rI0 (g:Int→Int→V):R2:=fun x y H Q=>∃ i j,x=.int i∧y=.int j∧Q (g i j) H
noncomputable def rU (g:Int→V):V→Hp→VK→Prop:=fun x H Q=>∃ i,x=.int i∧Q (g i) H
section
variable {X:Cx} {a b c:Expr} {ta tb tc:TE} {pos:Pos}
theorem binT (ha:PE X a ta) (hb:PE X b tb) {pins:List (Addr×Obj)} {s:Shared} {σ:St} {H:Hp} {R:V→V→Hp→Prop} (I:Inv X pins σ H s)
 (h:ta σ H fun x H1=>tb σ H1 fun y H2=>R x y H2) {Q:Value→Shared→Prop} {f:Value→Value→Sem Value}
 (hf:∀ v u s2 x y H2,Inv X pins σ H2 s2→RelV x v→RelV y u→R x y H2→wpAny (model X.prog X.w) X.A (f v u) Q X.xe s2) :
 wpAny (model X.prog X.w) X.A (eval a X.env) (fun v s₁=>wpAny (model X.prog X.w) X.A (eval b X.env) (fun u s₂=>wpAny (model X.prog X.w) X.A (f v u) Q X.xe s₂) X.xe s₁) X.xe s:=by
 refine thn (ha pins s σ H _ I h) fun v s1 ⟨x,H1,I1,r1,q1⟩=>?_
 refine thn (hb pins s1 σ H1 _ I1 q1) fun u s2 ⟨y,H2,I2,r2,q2⟩=>?_
 exact hf v u s2 x y H2 I2 r1 r2 q2
theorem pe_op {op:Operator} {r:R2} (ho:OpR X (binaryOp op) r) (ha:PE X a ta) (hb:PE X b tb):PE X (.BinOp a op b pos) (tOp r ta tb):=by
 intro pins s σ H Q I h
 exact wpAny_BinOp (binT ha hb I h fun v u s2 x y H2 I2 rx ry q=>ho pins s2 σ H2 x y v u Q I2 rx ry q)
theorem pe_un {op:UnaryOp} {r:V→Hp→VK→Prop} (ho:UnR X (unaryOp op) r) (ha:PE X a ta):PE X (.UnaryOp op a pos) (tUn r ta):=by
 intro pins s σ H Q I h
 exact UnaryOp_ (thn (ha pins s σ H _ I h) fun v s1 ⟨x,H1,I1,r1,q1⟩=>ho pins s1 σ H1 x v Q I1 r1 q1)
theorem opI {f:Value→Value→Sem Value} {C:Int→Int→Prop} {g:Int→Int→Int}
 (rule:∀ (i j:Int) (t u:Tok) (s:Shared) (Q:Value→Shared→Prop) (E:Value→Shared→Prop),C i j→Q (.int (g i j) s.toks) { s with toks:=s.toks+1 }→wpAny (model X.prog X.w) X.A (f (.int i t) (.int j u)) Q E s) :
 OpR X f (rI C fun i j=>.int (g i j)):=by
 intro pins s σ H x y v u Q I rx ry h
 obtain⟨i,j,rfl,rfl,hc,q⟩:=h
 obtain⟨t,rfl⟩:=rx
 obtain⟨t',rfl⟩:=ry
 exact rule i j t t' s _ _ hc ⟨.int (g i j),H,I.tok _,⟨_,rfl⟩,q⟩
theorem opI0 {f:Value→Value→Sem Value} {g:Int→Int→Int}
 (rule:∀ (i j:Int) (t u:Tok) (s:Shared) (Q:Value→Shared→Prop) (E:Value→Shared→Prop),Q (.int (g i j) s.toks) { s with toks:=s.toks+1 }→wpAny (model X.prog X.w) X.A (f (.int i t) (.int j u)) Q E s) :
 OpR X f (rI0 fun i j=>.int (g i j)):=by
 intro pins s σ H x y v u Q I rx ry h
 obtain⟨i,j,rfl,rfl,q⟩:=h
 obtain⟨t,rfl⟩:=rx
 obtain⟨t',rfl⟩:=ry
 exact rule i j t t' s _ _ ⟨.int (g i j),H,I.tok _,⟨_,rfl⟩,q⟩
theorem opB0 {f:Value→Value→Sem Value} {g:Int→Int→Bool}
 (rule:∀ (i j:Int) (t u:Tok) (s:Shared) (Q:Value→Shared→Prop) (E:Value→Shared→Prop),Q (.bool (g i j)) s→wpAny (model X.prog X.w) X.A (f (.int i t) (.int j u)) Q E s) :
 OpR X f (rI0 fun i j=>.bl (g i j)):=by
 intro pins s σ H x y v u Q I rx ry h
 obtain⟨i,j,rfl,rfl,q⟩:=h
 obtain⟨t,rfl⟩:=rx
 obtain⟨t',rfl⟩:=ry
 exact rule i j t t' s _ _ ⟨.bl (g i j),H,I,rfl,q⟩
noncomputable def CDiv (i j:Int):Prop:=0<j∧j<1073741824
noncomputable def CPow (i j:Int):Prop:=0≤j∧j≤1000000∧i.natAbs<2 ^ 64
noncomputable def CMul (i j:Int):Prop:=(-(2 ^ 64)<i∧i<2 ^ 64)∨(-(2 ^ 64)<j∧j<2 ^ 64)
theorem CMul.ok {i j:Int} (h:CMul i j):IntMulOk i j:=by
 rcases h with ⟨h1,h2⟩ | ⟨h1,h2⟩
 ·exact .of_left (intBits_le_64 h1 h2)
 ·exact .of_right (intBits_le_64 h1 h2)
theorem op_add:OpR X (binaryOp .Add) (rI0 fun i j=>.int (i+j)):=opI0 fun _ _ _ _ _ _ _ q=>add_int q
theorem op_sub:OpR X (binaryOp .Sub) (rI0 fun i j=>.int (i - j)):=opI0 fun _ _ _ _ _ _ _ q=>sub_int q
theorem op_mul:OpR X (binaryOp .Mult) (rI CMul fun i j=>.int (i * j)):=opI fun _ _ _ _ _ _ _ hc q=>mul_int q hc.ok
theorem op_fdiv:OpR X (binaryOp .FloorDiv) (rI CDiv fun i j=>.int (i / j)):=opI fun i j _ _ _ _ _ hc q=>by
 have h1:(0:Int)<j:=hc.1
 have h2:j<1073741824:=hc.2
 exact floordiv_int (by omega) (by rw[Int.fdiv_eq_ediv_of_nonneg i (by omega)];exact q) (.inl (PyProof.noPylong_small (by omega)))
theorem op_mod:OpR X (binaryOp .Mod) (rI (fun _ j=>0<j) fun i j=>.int (i % j)):=opI fun i j _ _ _ _ _ hc q=>by
 have h1:(0:Int)<j:=hc
 exact mod_int' (by omega) (by rw[Int.fmod_eq_emod_of_nonneg i (by omega)];exact q)
theorem op_pow:OpR X (binaryOp .Pow) (rI CPow fun i j=>.int (i ^ j.toNat)):=opI fun _ _ _ _ _ _ _ hc q=>pow_int_small hc.1 hc.2.1 hc.2.2 q
theorem unI {f:Value→Sem Value} {g:Int→Int}
 (rule:∀ (i:Int) (t:Tok) (s:Shared) (Q:Value→Shared→Prop) (E:Value→Shared→Prop),Q (.int (g i) s.toks) { s with toks:=s.toks+1 }→wpAny (model X.prog X.w) X.A (f (.int i t)) Q E s) :
 UnR X f (rU fun i=>.int (g i)):=by
 intro pins s σ H x v Q I rx h
 obtain⟨i,rfl,q⟩:=h
 obtain⟨t,rfl⟩:=rx
 exact rule i t s _ _ ⟨.int (g i),H,I.tok _,⟨_,rfl⟩,q⟩
theorem un_neg:UnR X (unaryOp .USub) (rU fun i=>.int (-i)):=unI fun _ _ _ _ _ q=>neg_int q
end
section
variable {X:Cx} {a b c:Expr} {ta tb tc:TE} {pos:Pos}
theorem op_lt:OpR X (compareOp .Lt) (rI0 fun i j=>.bl (decide (i<j))):=opB0 fun _ _ _ _ _ _ _ q=>lt_int q
theorem op_le:OpR X (compareOp .LtE) (rI0 fun i j=>.bl (decide (i≤j))):=opB0 fun _ _ _ _ _ _ _ q=>le_int q
theorem op_gt:OpR X (compareOp .Gt) (rI0 fun i j=>.bl (decide (j<i))):=opB0 fun _ _ _ _ _ _ _ q=>gt_int q
theorem op_ge:OpR X (compareOp .GtE) (rI0 fun i j=>.bl (decide (j≤i))):=opB0 fun _ _ _ _ _ _ _ q=>ge_int q
theorem nomark (b:Expr) {op:CmpOp} (h:op≠.In:=by decide) (h2:op≠.NotIn:=by decide):behindInMarks op b=false:=by
 have e1:(op == CmpOp.In)=false:=by cases op <;> first | rfl | exact absurd rfl h
 have e2:(op == CmpOp.NotIn)=false:=by cases op <;> first | rfl | exact absurd rfl h2
 cases b <;> simp[behindInMarks,e1,e2]
theorem pe_cmpR {op:CmpOp} {r:R2} (ho:OpR X (compareOp op) r) (ha:PE X a ta) (hb:PE X b tb) (hm:behindInMarks op b=false):PE X (.Compare a [op] [b] pos) (tOp r ta tb):=by
 intro pins s σ H Q I h
 exact wpAny_Compare1 (binT ha hb I h fun v u s2 x y H2 I2 rx ry q=>ho pins s2 σ H2 x y v u Q I2 rx ry q) hm
noncomputable def tTest (t:TE):TT:=fun σ H Q=>t σ H fun x H'=>∃ k,x=.bl k∧Q k H'
theorem pt_cmpR {op:CmpOp} {r:R2} (ho:OpR X (compareOp op) r) (ha:PE X a ta) (hb:PE X b tb) (hm:behindInMarks op b=false):PT X (.Compare a [op] [b] pos) (tTest (tOp r ta tb)):=by
 intro pins s σ H Q I h
 refine wpAny_isTrue_Compare1 (thn (ha pins s σ H _ I h) fun v s1 ⟨x,H1,I1,r1,q1⟩=>thn (hb pins s1 σ H1 _ I1 q1) fun u s2 ⟨y,H2,I2,r2,q2⟩ =>
  thn (ho pins s2 σ H2 x y v u _ I2 r1 r2 q2) fun c s3 ⟨z,H3,I3,r3,k,e,q3⟩=>?_) hm
 subst e
 cases r3
 exact wpAny_truthy_bool ⟨H3,I3,q3⟩
noncomputable def tChain (r r':R2) (ta tb tc:TE):TE:=fun σ H Q=>ta σ H fun x H1=>tb σ H1 fun y H2=>r x y H2 fun z H3=>∃ k,z=.bl k ∧
 (if k=true then tc σ H3 fun w' H4=>r' y w' H4 Q else Q (.bl false) H3)
theorem pe_chain {op op':CmpOp} {r r':R2} (ho:OpR X (compareOp op) r) (ho':OpR X (compareOp op') r') (ha:PE X a ta) (hb:PE X b tb) (hc:PE X c tc)
 (hm:lastMarks [op,op'] [b,c]=false:=by with_unfolding_all rfl):PE X (.Compare a [op,op'] [b,c] pos) (tChain r r' ta tb tc):=by
 intro pins s σ H Q I h
 refine Compare_chain (thn (ha pins s σ H _ I h) fun v s1 ⟨x,H1,I1,r1,q1⟩=>chain_link (thn (hb pins s1 σ H1 _ I1 q1) fun u s2 ⟨y,H2,I2,r2,q2⟩ =>
  thn (ho pins s2 σ H2 x y v u _ I2 r1 r2 q2) fun d s3 ⟨z,H3,I3,r3,k,e,q3⟩=>?_)) hm
 subst e
 cases r3
 refine wpAny_truthy_bool ?_
 cases k with
 | false=>exact ite_ff ⟨.bl false,H3,I3,rfl,q3⟩
 | true=>exact ite_tt (chain_last (thn (hc pins s3 σ H3 _ I3 q3) fun w' s4 ⟨z',H4,I4,r4,q4⟩=>ho' pins s4 σ H4 y z' u w' Q I4 r2 r4 q4))
theorem pt_chain {op op':CmpOp} {r r':R2} (ho:OpR X (compareOp op) r) (ho':OpR X (compareOp op') r') (ha:PE X a ta) (hb:PE X b tb) (hc:PE X c tc)
 (hm:lastMarks [op,op'] [b,c]=false:=by with_unfolding_all rfl):PT X (.Compare a [op,op'] [b,c] pos) (tTest (tChain r r' ta tb tc)):=by
 intro pins s σ H Q I h
 refine isTrue_chain (thn (ha pins s σ H _ I h) fun v s1 ⟨x,H1,I1,r1,q1⟩=>test_link (thn (hb pins s1 σ H1 _ I1 q1) fun u s2 ⟨y,H2,I2,r2,q2⟩ =>
  thn (ho pins s2 σ H2 x y v u _ I2 r1 r2 q2) fun d s3 ⟨z,H3,I3,r3,k,e,q3⟩=>?_)) hm
 subst e
 cases r3
 refine wpAny_truthy_bool ?_
 cases k with
 | false =>
  obtain⟨k',e',q'⟩:=q3
  cases e'
  exact ite_ff ⟨H3,I3,q'⟩
 | true =>
  refine ite_tt (test_last (thn (hc pins s3 σ H3 _ I3 q3) fun w' s4 ⟨z',H4,I4,r4,q4⟩=>thn (ho' pins s4 σ H4 y z' u w' _ I4 r2 r4 q4) fun d' s5 ⟨z2,H5,I5,r5,k2,e2,q5⟩=>?_))
  subst e2
  cases r5
  exact wpAny_truthy_bool ⟨H5,I5,q5⟩
noncomputable def TruV (K:PySem.W.Frag) (x:V) (H:Hp) (k:Bool):Prop :=
 match x with
 | .non=>k=false
 | .bl b=>k=b
 | .int i=>k=(i != 0)
 | .str y=>y.length≤sizeLine∧k=((y.length:Int) != 0)
 | .byt y=>y.size≤sizeLine∧k=((y.size:Int) != 0)
 | .ref p=>(∃ xs,SqL K H p xs∧k=!xs.isEmpty)∨(∃ xs,SqT K H p xs∧k=!xs.isEmpty)∨∃ kvs,H p=some (.dK kvs)∧k=!kvs.isEmpty
 | _=>False
theorem isEmpty_kv {κ:Type} {kvs:List (κ×V)} {vs:List (κ×Value)} (r:KV kvs vs):(!vs.isEmpty)=!kvs.isEmpty:=by
 cases r <;> rfl
theorem isEmpty_of {xs:List V} {its:List Value} (r:Vals xs its):(!its.toArray.isEmpty)=!xs.isEmpty:=by
 cases r <;> simp
theorem line63:(sizeLine:Nat)<2 ^ 63:=by rw[sizeLine_eq];decide
theorem tru_ok:TruR X (fun x H Q=>∃ k,TruV X.K x H k∧Q k H):=by
 intro pins s σ H x v Q I rx h
 obtain⟨k,e,q⟩:=h
 have hl:=line63
 have hs:sizeLine=16777216:=sizeLine_eq
 cases x with
 | non =>
  cases rx
  have e':k=false:=e
  subst e'
  exact truthy_none ⟨H,I,q⟩
 | bl b =>
  cases rx
  have e':k=b:=e
  subst e'
  exact wpAny_truthy_bool ⟨H,I,q⟩
 | int i =>
  obtain⟨t,rfl⟩:=rx
  have e':k=(i != 0):=e
  subst e'
  exact PySem.P.truthy_int ⟨H,I,q⟩
 | str y =>
  obtain⟨t,rfl⟩:=rx
  obtain⟨hy,e'⟩:y.length≤sizeLine∧k=((y.length:Int) != 0):=e
  subst e'
  exact PySem.P.truthy_str (by omega) ⟨H,I.tok _,q⟩
 | byt y =>
  obtain⟨t,rfl⟩:=rx
  obtain⟨hy,e'⟩:y.size≤sizeLine∧k=((y.size:Int) != 0):=e
  subst e'
  exact PySem.W.truthy_bytes (by omega) ⟨H,I.tok _,q⟩
 | ref p =>
  cases rx
  have e':(∃ xs,SqL X.K H p xs∧k=!xs.isEmpty)∨(∃ xs,SqT X.K H p xs∧k=!xs.isEmpty)∨∃ kvs,H p=some (.dK kvs)∧k=!kvs.isEmpty:=e
  rcases e' with ⟨xs,hx,e'⟩ | ⟨xs,hx,e'⟩ | ⟨kvs,hx,e'⟩
  ·subst e'
   obtain⟨its,r,pl,hz⟩:=I.list hx
   have hlen:=r.length
   exact wpAny_truthy_list pl.isList (by simp only[List.size_toArray];omega) ⟨H,I.tok _,by rw[isEmpty_of r];exact q⟩
  ·subst e'
   obtain⟨its,r,pl,hz⟩:=I.tuple hx
   have hlen:=r.length
   exact truthy_tuple pl (by simp only[List.size_toArray];omega) ⟨H,I.tok _,by rw[isEmpty_of r];exact q⟩
  ·subst e'
   obtain⟨hz,hS,vs,r,m⟩:kvs.length≤sizeLine∧(p == sysModules)=false∧∃ vs,KV kvs vs∧s.heap.DictOf (mixKind X.prog X.w) p vs:=I.hok p _ hx
   have hlen:kvs.length=vs.length:=Paired.length r
   exact wpAny_truthy_dict hS m (by omega) ⟨H,I.tok _,by rw[isEmpty_kv r];exact q⟩
 | _=>exact(show False from e).elim
theorem pt_truth (ha:PE X a ta) (he:∀ whole,isTrue a X.env whole=(do let v ← whole;standAt a.pos;holding [v] (truthy v))) :
 PT X a (fun σ H Q=>ta σ H fun x H'=>∃ k,TruV X.K x H' k∧Q k H'):=by
 intro pins s σ H Q I h
 exact isTrue_plain (thn (ha pins s σ H _ I h) fun v s1 ⟨x,H1,I1,r1,q1⟩=>tru_ok pins s1 σ H1 x v Q I1 r1 q1) (he _)
theorem vals1 {x:V} {us:List Value} (r:Vals [x] us):∃ u,us=[u]∧RelV x u:=by
 cases r with
 | cons r1 r2=>cases r2;exact⟨_,rfl,r1⟩
theorem vals2 {x y:V} {us:List Value} (r:Vals [x,y] us):∃ u w',us=[u,w']∧RelV x u∧RelV y w':=by
 cases r with
 | cons r1 r2 =>
  cases r2 with
  | cons r3 r4=>cases r4;exact⟨_,_,rfl,r1,r3⟩
theorem call_min2 (hc:X.calm=true):CallR X (.builtin "min") (fun xs H Q=>∃ i j,xs=[.int i,.int j]∧Q (.int (if j<i then j else i)) H):=by
 intro pins s σ H xs us Q I r h
 obtain⟨i,j,rfl,q⟩:=h
 obtain⟨u,w',rfl,⟨t,rfl⟩,⟨t',rfl⟩⟩:=vals2 r
 refine min_two_ints (I.ok.hd hc) fun h' tk k=>⟨_,H,I.kept k,?_,q⟩
 by_cases hj:j<i
 ·rw[if_pos hj,if_pos hj];exact⟨_,rfl⟩
 ·rw[if_neg hj,if_neg hj];exact⟨_,rfl⟩
theorem call_int1:CallR X (.type "int") (fun xs H Q=>(∃ i,xs=[.int i]∧Q (.int i) H)∨∃ k,xs=[.bl k]∧Q (.int (if k then 1 else 0)) H):=by
 intro pins s σ H xs us Q I r h
 rcases h with ⟨i,rfl,q⟩ | ⟨k,rfl,q⟩
 ·obtain⟨u,rfl,t,rfl⟩:=vals1 r
  exact call_int_int ⟨.int i,H,I,⟨_,rfl⟩,q⟩
 ·obtain⟨u,rfl,r1⟩:=vals1 r
  cases r1
  exact call_int_bool ⟨.int (if k then 1 else 0),H,I.tok _,⟨_,rfl⟩,q⟩
end
end L2
namespace L2
open PySem PySem.Spec PyProof.Rows
theorem lookIn_ns {h:Heap} {dx:Addr} {mA:Str→Option Value} (n:h.Ns1 dx mA):∃ od,h.get? dx=some od∧∀ name,PySem.W.lookIn name od=some (mA name):=by
 obtain⟨o,es,ep,ho,hd,hk,_,hm⟩:=n
 refine⟨o,ho,fun name=>?_⟩
 have e:=hm name
 unfold nsFind findBy at e
 rw[← Array.find?_toList]at e
 unfold PySem.W.lookIn
 rw[hd]
 dsimp only
 split
 ·rename_i y q
  rw[q]at e
  exact congrArg some e
 ·rename_i q
  rw[q]at e
  have a:es.toList.any (·.refKey)=false:=by
   rw[List.any_eq_false]
   intro y hy
   obtain⟨z,t,hkey⟩:=hk y (Array.mem_toList_iff.mp hy)
   simp[DictEntry.refKey,hkey]
  have a':¬ es.toList.any (·.refKey)=true:=by rw[a];exact Bool.false_ne_true
  rw[if_neg a']
  exact congrArg some e
section
variable {prog:Program} {w:World} {A:Around} {E:Value→Shared→Prop} {s:Shared} {K:PySem.W.Frag} {x dx C f:Addr} {mA:Str→Option Value} {name:Str} {v:Value}
end
theorem RelO.some_of {v:V} {o:Option Value} (r:RelO (some v) o):∃ u,o=some u∧RelV v u:=by
 cases o with
 | none=>exact(show False from r).elim
 | some u=>exact⟨u,rfl,r⟩
theorem RelO.none_of {o:Option Value} (r:RelO none o):o=none:=by
 cases o with
 | none=>rfl
 | some u=>exact(show False from r).elim
theorem handed_of {v:V} {u:Value} (r:RelV v u):PySem.W.handedIn u=true:=by
 cases v with
 | non=>cases (show u=Value.none from r);rfl
 | bl b=>cases (show u=Value.bool b from r);rfl
 | int i=>obtain⟨t,e⟩:=(show ∃ t,u=Value.int i t from r);cases e;rfl
 | str x=>obtain⟨t,e⟩:=(show ∃ t,u=Value.str x t from r);cases e;rfl
 | byt b=>obtain⟨t,e⟩:=(show ∃ t,u=Value.bytes b t from r);cases e;rfl
 | flt b=>obtain⟨t,e⟩:=(show ∃ t,u=Value.float b t from r);cases e;rfl
 | ref a=>cases (show u=Value.ref a from r);rfl
 | ty n=>cases (show u=Value.type n from r);rfl
section
variable {P:Program} {w:World} {H H':Hp} {h h':Heap} {a C dx:Addr} {fs fs':List (Str×V)}
end
structure Cls (K:PySem.W.Frag) (C:Addr):Prop where
 pg:PySem.W.plainGet K C Str.empty=true
 hd:PySem.W.hasDictIn K C=true
 po:PySem.W.plainOver K C=true
 sa:PySem.W.findIn K (.ref C) "__setattr__"=some (some (.builtin "object.__setattr__"))
section
variable {X:Cx} {pins:List (Addr×Obj)} {σ:St} {H:Hp} {s:Shared} {a C dx:Addr} {fs:List (Str×V)} {f:Str} {v:V} {A:Around} {E:Value→Shared→Prop}
theorem Inv.made (I:Inv X pins σ H s):Inv X pins σ (upd (upd H s.heap.objs.size (.own (s.heap.objs.size+1))) (s.heap.objs.size+1) (.ins C s.heap.objs.size []))
 { s with heap:=(s.heap.push PySem.W.emptyDict).push (PySem.W.instObj C s.heap.objs.size) }:=by
 have e1:(s.heap.push PySem.W.emptyDict).get? s.heap.objs.size=some PySem.W.emptyDict:=Heap.get?_push_size s.heap rfl
 have e2:((s.heap.push PySem.W.emptyDict).push (PySem.W.instObj C s.heap.objs.size)).get? (s.heap.objs.size+1)=some (PySem.W.instObj C s.heap.objs.size):=by
  have:=Heap.get?_push_size (s.heap.push PySem.W.emptyDict) (o:=PySem.W.instObj C s.heap.objs.size) rfl
  rwa [Heap.size_push]at this
 have e3:(s.heap.push PySem.W.emptyDict).Ns s.heap.objs.size (fun _=>none):=⟨PySem.W.emptyDict,#[],_,e1,rfl,(fun e he=>absurd he (by simp)),fun _=>rfl⟩
 have I1:=I.laid (a:=s.heap.objs.size) (o:=.own (s.heap.objs.size+1)) (h':=s.heap.push PySem.W.emptyDict) (t':=s.toks) (fun b u q=>Heap.get?_push_of_some _ q) (Nat.le_refl _) ⟨_,e1⟩
 refine I1.laid (a:=s.heap.objs.size+1) (o:=.ins C s.heap.objs.size []) (t':=s.toks) (fun b u q=>Heap.get?_push_of_some _ q) (Nat.le_of_eq (Heap.size_push _ _)) ?_
 have ne:s.heap.objs.size≠s.heap.objs.size+1:=Nat.ne_of_lt (Nat.lt_succ_self _)
 refine⟨by rw[upd_ne ne,upd_same],Nat.zero_le _,ne,e2,fun _=>none,(Heap.Ns1.of_empty e3).at fun o q=>Heap.get?_push_of_some _ q,fun _=>True.intro,fun y hy=>absurd rfl hy⟩
theorem attr_of {prog:Program} {w:World} {env:Env} {e:Expr} {f:Str} {pos:Pos} {s:Shared} {Q:Value→Shared→Prop} (hb:attributeBase e f env (eval e env)=eval e env)
 (h:wpAny (model prog w) A (eval e env) (fun o s₁=>wpAny (model prog w) A (getAttr o f true) Q E s₁) E s):wpAny (model prog w) A (eval (.Attribute e f pos) env) Q E s :=
 Attribute_any_ h (by rw[arm_eval_Attribute,hb])
end
section
variable {X:Cx} {o e value:Expr} {f:Str} {pos pos' tpos:Pos} {ta tv:TE}
end
section
variable {X:Cx} {pins:List (Addr×Obj)} {σ:St} {H:Hp} {s:Shared} {A:Around} {E:Value→Shared→Prop} {Q:Value→Shared→Prop} {c:Value} {b:Bool}
inductive TyOf (K:PySem.W.Frag) (H:Hp):V→Value→Prop where
 | non:TyOf K H .non (.type "NoneType")
 | bl (x:Bool):TyOf K H (.bl x) (.type "bool")
 | int (i:Int):TyOf K H (.int i) (.type "int")
 | str (x:Str):TyOf K H (.str x) (.type "str")
 | flt (x:UInt64):TyOf K H (.flt x) (.type "float")
 | lst {a:Addr} {xs:List V} (e:H a=some (.lst xs)):TyOf K H (.ref a) (.type "list")
 | frz {a:Addr} {o:Obj} {xs:List V} (e:H a=some (.frz o (.lst xs))):TyOf K H (.ref a) (.type "list")
 | tup {a:Addr} {xs:List V} (e:H a=some (.tup xs)):TyOf K H (.ref a) (.type "tuple")
 | dK {a:Addr} {kvs:List (Key×V)} (e:H a=some (.dK kvs)):TyOf K H (.ref a) (.type "dict")
 | dT {a:Addr} {kvs:List (List Key×V)} (e:H a=some (.dT kvs)):TyOf K H (.ref a) (.type "dict")
 | ins {a C dx:Addr} {fs:List (Str×V)} (e:H a=some (.ins C dx fs)) (cl:Cls K C) (ha:PySem.W.findIn K (.ref C) "__class__"=some (some (.builtin "object.__class__")))
  (hn:PySem.W.specialIn K (.builtin "object.__class__") "__get__"=some (some (.builtin "getset_descriptor.__get__"))) (htk:PySem.W.takesIn K (.builtin "object.__class__")=some true)
  (hm:PySem.W.mroIn K C (.type "object")=some true):TyOf K H (.ref a) (.ref C)
end
end L2
namespace L2
open PySem PySem.Spec PyProof.Rows
structure Room (k:Nat) (A:Around):Prop where
 hd:A.handled=none
 dp:A.depth+3 * k+5<recursionLimit
 un:A.units+16 * k+200<cLine
theorem Room.mono {j k:Nat} {A:Around} (r:Room k A) (h:j≤k):Room j A:=⟨r.hd,by have:=r.dp;omega,by have:=r.un;omega⟩
theorem Room.deeper {k:Nat} {A:Around} (r:Room (k+1) A) (env:Env):Room k (A.deeper env) :=
 ⟨r.hd,by have:=r.dp;show A.depth+1+3 * k+5<_;omega,by have:=r.un;show A.units+3+16 * k+200<_;omega⟩
theorem make_depth {A:Around} {C:Addr} {us:List Value} {kw:List (Str×Value)}:(A.under (.builtin "type.__call__" ⟨.ref C :: us,kw⟩)).depth=A.depth+1:=by
 first | rfl | simp[Around.under,Code.weight,Code.isCreation,Code.isGuard,Code.isCaller,Code.frames,Code.isFrame,guardIds]
theorem make_units {A:Around} {C:Addr} {us:List Value} {kw:List (Str×Value)}:(A.under (.builtin "type.__call__" ⟨.ref C :: us,kw⟩)).units=A.units+1:=by
 first | rfl | simp[Around.under,Code.cUnits,Code.frames,Code.isFrame]
theorem Room.make {k:Nat} {A:Around} (r:Room (k+1) A) (C:Addr) (us:List Value) (kw:List (Str×Value)):Room k (A.under (.builtin "type.__call__" ⟨.ref C :: us,kw⟩)) :=
 ⟨r.hd,by have:=r.dp;rw[make_depth];omega,by have:=r.un;rw[make_units];omega⟩
theorem Room.depth {k:Nat} {A:Around} (r:Room k A):A.depth<recursionLimit:=by have:=r.dp;omega
theorem Room.units {k:Nat} {A:Around} (r:Room k A):A.units+64<cLine:=by have:=r.un;omega
noncomputable def tNil:TA:=fun _ H Q=>Q [] H
noncomputable def tCons (ta:TE) (tr:TA):TA:=fun σ H Q=>ta σ H fun x H1=>tr σ H1 fun xs H2=>Q (x :: xs) H2
section
variable {X:Cx} {e:Expr} {es:List Expr} {te:TE} {t:TA} {pos:Pos}
theorem pa_nil:PA X [] tNil:=fun _ _ _ _ H Q I h=>Calls.spliced_nil ⟨[],H,I,.nil,h⟩
theorem pa_cons (ha:PE X e te) (hr:PA X es t) (hs:starEach (e :: es) X.env=(false,eval e X.env) :: starEach es X.env:=by rfl):PA X (e :: es) (tCons te t):=by
 intro pos pins s σ H Q I h
 rw[hs]
 show wpAny _ _ (spliced ((false,eval e X.env) :: backTo pos (starEach es X.env))) _ _ s
 refine Calls.spliced_cons (thn (ha pins s σ H _ I h) fun u s1 ⟨x,H1,I1,r1,q1⟩=>?_)
 exact thn (hr pos pins s1 σ H1 _ I1 q1) fun us s2 ⟨xs,H2,I2,r2,q2⟩=>⟨x :: xs,H2,I2,.cons r1 r2,q2⟩
noncomputable def tTup (t:TA):TE:=fun σ H Q=>t σ H fun xs H1=>xs.length≤sizeLine∧∀ p,H1 p=none→Q (.ref p) (upd H1 p (.tup xs))
noncomputable def tLst (t:TA):TE:=fun σ H Q=>t σ H fun xs H1=>xs.length≤sizeLine∧∀ p,H1 p=none→Q (.ref p) (upd H1 p (.lst xs))
theorem pe_tup {x1} (h:PA X es t):PE X (.Tuple es x1 pos) (tTup t):=by
 intro pins s σ H Q I hq
 refine wpAny_Tuple_spliced (thn (h pos pins s σ H _ I hq) fun us s1 ⟨xs,H1,I1,r,z,q⟩=>⟨by rw[← r.length];exact z,?_⟩)
 have hf:H1 s1.heap.objs.size=none:=I1.hok.fresh (Nat.le_refl _)
 refine⟨.ref s1.heap.objs.size,upd H1 s1.heap.objs.size (.tup xs),I1.laid (t':=s1.toks) (fun b u e=>Heap.get?_push_of_some _ e) (Nat.le_refl _) ?_,rfl,q _ hf⟩
 exact⟨z,us,r,⟨_,Heap.get?_push_size _ rfl,rfl,_,rfl⟩⟩
theorem pe_lst (h:PA X es t):PE X (.List es pos) (tLst t):=by
 intro pins s σ H Q I hq
 refine wpAny_List_spliced (thn (h pos pins s σ H _ I hq) fun us s1 ⟨xs,H1,I1,r,z,q⟩=>⟨by rw[← r.length];exact z,?_⟩)
 have hf:H1 s1.heap.objs.size=none:=I1.hok.fresh (Nat.le_refl _)
 refine⟨.ref s1.heap.objs.size,upd H1 s1.heap.objs.size (.lst xs),I1.laid (t':=s1.toks) (fun b u e=>Heap.get?_push_of_some _ e) (Nat.le_refl _) ?_,rfl,q _ hf⟩
 exact⟨z,us,0,r,Heap.get?_push_size _ rfl⟩
end
noncomputable abbrev Sp:=List V→Hp→VK→XK→Prop
noncomputable abbrev CXT:=List Env→Hp→Shared→XK→Value→Shared→Prop
structure Env0 (P:Program) (w:World) (K:PySem.W.Frag) (mg:Str→Option Value) (base:Heap) (A:Around) (outer:List Env) (s:Shared) (H:Hp):Prop where
 frames:A.frames=some outer
 mod:Mod K mg base
 bs:∀ b o,base.get? b=some o→s.heap.get? b=some o∧H b=none
 bsz:base.objs.size≤s.heap.objs.size
 funs:s.heap.FunFrames base outer
 frf:∀ b∈frs outer,H b=none
 hok:HOk P w H s.heap
 bare:AllBare s.gens
noncomputable def CE (outer:List Env) (P:Program) (w:World) (H:Hp) (s:Shared) (Q:VK) (u:Value) (s':Shared):Prop :=
 ∃ v H',s'.os=s.os∧AllBare s'.gens∧Un (frs outer) [] H H' s.heap s'.heap∧HOk P w H' s'.heap∧RelV v u∧Q v H'
noncomputable def CR (CX:CXT) (outer:List Env) (P:Program) (w:World) (H:Hp) (s:Shared) (Q:VK) (E:XK) (r:Result) (s':Shared):Prop :=
 match r with
 | .ok (.ret u)=>CE outer P w H s Q u s'
 | .ok _=>False
 | .error e=>CX outer H s E e s'
structure FnOk (P:Program) (w:World) (K:PySem.W.Frag) (mg:Str→Option Value) (base:Heap) (CX:CXT) (k:Nat) (f:Addr) (fd:FuncData) (ps:List Str) (sp:Sp):Prop where
 len:∀ vs H Q E,sp vs H Q E→vs.length=ps.length
 run:∀ (A:Around) (outer:List Env) (s:Shared) (H:Hp) (args:Args) (us:List Value) (vs:List V) (Q:VK) (E:XK),Room k A→Env0 P w K mg base A outer s H→BindsTo s fd args (ps.zip us)→Vals vs us→sp vs H Q E →
  codeAny (model P w) A (.call (.ref f) args) (CR CX outer P w H s Q E) s
theorem FnOk.imp {P:Program} {w:World} {K:PySem.W.Frag} {mg:Str→Option Value} {base:Heap} {CX:CXT} {k:Nat} {f:Addr} {fd:FuncData} {ps:List Str} {sp sp':Sp} (F:FnOk P w K mg base CX k f fd ps sp)
 (h:∀ vs H Q E,sp' vs H Q E→sp vs H Q E):FnOk P w K mg base CX k f fd ps sp' :=
 ⟨fun vs H Q E q=>F.len vs H Q E (h _ _ _ _ q),fun A outer s H args us vs Q E hr he hb hv hs=>F.run A outer s H args us vs Q E hr he hb hv (h _ _ _ _ hs)⟩
theorem Env0.make {P:Program} {w:World} {K:PySem.W.Frag} {mg:Str→Option Value} {base:Heap} {A:Around} {outer:List Env} {s:Shared} {H:Hp} (e:Env0 P w K mg base A outer s H) (C:Addr) (us:List Value) (kw:List (Str×Value)) :
 Env0 P w K mg base (A.under (.builtin "type.__call__" ⟨.ref C :: us,kw⟩)) outer s H:=⟨by first | exact e.frames | (simpa[Around.under,Code.envs,Code.isFrame,pushEnvs]using e.frames),e.mod,e.bs,e.bsz,e.funs,e.frf,e.hok,e.bare⟩
section
variable {X:Cx} {pins:List (Addr×Obj)} {σ:St} {H:Hp} {s s':Shared}
theorem Inv.env0 (I:Inv X pins σ H s):Env0 X.prog X.w X.K X.mg X.base X.A X.stack s H :=
 ⟨I.ok.frames,I.ok.mod,I.bs,Nat.le_trans I.ok.bsz I.sz,I.stack,I.stkFree,I.hok,I.bare⟩
theorem Inv.after {Q:VK} {u:Value} (I:Inv X pins σ H s) (h:CE X.stack X.prog X.w H s Q u s'):EP X pins σ Q u s':=by
 obtain⟨v,H',os,bare,un,hok,r,q⟩:=h
 obtain⟨hh,g,d,t,os'⟩:=s'
 obtain rfl:os'=s.os:=os
 exact⟨v,H',I.call (h':=hh) (g':=g) (d':=d) (t':=t) (ch:=[]) un hok bare (fun b z=>absurd z (by simp)),r,q⟩
end
noncomputable def tCall (sp:Sp) (dvs:List V) (E:XK) (t:TA):TE:=fun σ H Q=>t σ H fun vs H1=>sp (vs++dvs) H1 Q E
noncomputable def Binds (K:PySem.W.Frag) (fd:FuncData) (ps:List Str) (ds:List Value):Prop :=
 ∀ (s:Shared) (us:List Value),K.In s.heap→(us++ds).length=ps.length→BindsTo s fd ⟨us,[]⟩ (ps.zip (us++ds))
theorem Binds.all {K:PySem.W.Frag} {fd:FuncData} {ps:List Str} (h:∀ us:List Value,us.length=ps.length→bindArgs fd ⟨us,[]⟩=pure (ps.zip us)):Binds K fd ps []:=fun s us _ hl=>by
 rw[List.append_nil]at hl ⊢
 exact .of_eq (h us hl)
noncomputable def Passes (CX:CXT) (X:Cx) (E:XK):Prop:=∀ (pins:List (Addr×Obj)) (σ:St) (H:Hp) (s:Shared) (e:Value) (s':Shared),Inv X pins σ H s→CX X.stack H s E e s'→X.xe e s'
section
variable {X:Cx} {CX:CXT} {k:Nat} {f C:Addr} {fd:FuncData} {ps:List Str} {sp:Sp} {dvs:List V} {ds:List Value} {E:XK} {x m:Str} {p pos apos:Pos} {e o:Expr} {es:List Expr} {ta:TE} {t:TA}
theorem run_fn {pins:List (Addr×Obj)} {σ:St} {H:Hp} {s:Shared} {Q:VK} {us:List Value} {vs:List V} (F:FnOk X.prog X.w X.K X.mg X.base CX k f fd ps sp) (hr:Room k X.A) (hb:Binds X.K fd ps ds) (hd:Vals dvs ds) (hx:Passes CX X E)
 (I:Inv X pins σ H s) (r:Vals vs us) (h:sp (vs++dvs) H Q E):wpAny (model X.prog X.w) X.A (call (.ref f) us) (EP X pins σ Q) X.xe s:=by
 have r2:Vals (vs++dvs) (us++ds):=r.append hd
 have hl:(us++ds).length=ps.length:=by rw[← r2.length];exact F.len _ _ _ _ h
 refine wpAny_call (codeAny_mono (F.run X.A X.stack s H ⟨us,[]⟩ (us++ds) (vs++dvs) Q E hr I.env0 (hb s us I.kIn hl) r2 h) fun r s' hq=>?_)
 cases r with
 | error e=>exact hx pins σ H s e s' I hq
 | ok fl =>
  cases fl with
  | ret u=>exact I.after hq
  | next=>exact False.elim hq
  | brk=>exact False.elim hq
  | cont=>exact False.elim hq
theorem pe_call (F:FnOk X.prog X.w X.K X.mg X.base CX k f fd ps sp) (hr:Room k X.A) (hg:Gl X x) (hm:X.mg x=some (.ref f)) (hk:PySem.W.keepIn X.K (.ref f)=true) (hb:Binds X.K fd ps ds) (hd:Vals dvs ds) (hx:Passes CX X E)
 (ha:PA X (e :: es) t) (hdb:(x == ("__debug__":Str))=false:=by decide) (he:starEach (e :: es) X.env=(false,eval e X.env) :: starEach es X.env:=by rfl) (hpl:(backTo pos (starEach es X.env)).any (·.1)=false:=by rfl) :
 PE X (.Call (.Name x p) (e :: es) [] pos) (tCall sp dvs E t):=by
 intro pins s σ H Q I h
 refine wpAny_Call_Name_kw (ld_glob I hg hm ?_ hdb)
 refine PySem.W.callWith_K (h₀:=X.base) I.ok.mod.kin hk (thn (ha pos pins s σ H _ I h) fun us s1 ⟨vs,H1,I1,r,q⟩=>⟨I1.kIn,?_⟩) he hpl
 exact run_fn F hr hb hd hx I1 r q
end
noncomputable def PK (X:Cx) (kws:List Keyword) (t:TA):Prop :=
 ∀ (pos:Pos) (pins:List (Addr×Obj)) (s:Shared) (σ:St) (H:Hp) (Q:List V→Hp→Prop),Inv X pins σ H s→t σ H Q→wpAny (model X.prog X.w) X.A (evalAll ((backToKw pos (keywordEach kws X.env)).map (·.2))) (AP X pins σ Q) X.xe s
section
variable {X:Cx} {CX:CXT} {k:Nat} {f C:Addr} {fd:FuncData} {ps ks:List Str} {sp:Sp} {E:XK} {x m:Str} {p pos apos kpos:Pos} {e o:Expr} {es:List Expr} {kws:List Keyword} {te ta:TE} {t tk:TA} {nm:Option Str}
theorem pk_nil:PK X [] tNil:=fun _ _ _ _ H Q I h=>wpAny_evalAll_nil ⟨[],H,I,.nil,h⟩
theorem pk_cons (ha:PE X e te) (hr:PK X kws t):PK X (⟨nm,e,kpos⟩ :: kws) (tCons te t):=by
 intro pos pins s σ H Q I h
 show wpAny _ _ (evalAll ((do let v ← eval e X.env;standAt pos;pure v) :: (backToKw pos (keywordEach kws X.env)).map (·.2))) _ _ s
 refine wpAny_evalAll_cons (wpAny_bind (thn (ha pins s σ H _ I h) fun u s1 ⟨x,H1,I1,r1,q1⟩=>wpAny_bind (wpAny_standAt (wpAny_pure ?_))))
 exact thn (hr pos pins s1 σ H1 _ I1 q1) fun us s2 ⟨xs,H2,I2,r2,q2⟩=>⟨x :: xs,H2,I2,.cons r1 r2,q2⟩
variable {g:List Value→List Value→List Value} {gV:List V→List V→List V}
end
structure FnScope (N P:List Str) (sc:Scope):Prop where
 kind:sc.kind=.function
 co:sc.isCoroutine=false
 gen:sc.isGenerator=false
 nd:N.Nodup
 pre:N.take P.length=P
 par:∀ x∈P,sc.names.lookup x=some .local∨sc.names.lookup x=some .cell
 nofree:∀ y∈sc.names,y.2≠.free
theorem bindL_out {kindOf:Str→Option NameKind} {x:Str}:∀ {binds:List (Str×Value)} {m:Str→Option Value},(∀ v,(x,v)∉binds)→bindL kindOf binds m x=m x
 | [],_,_=>rfl
 | (n,v) :: r,m,h=>by
  unfold bindL
  rw[bindL_out fun w hw=>h w (List.mem_cons_of_mem _ hw)]
  split
  ·have:x≠n:=by rintro rfl;exact h v List.mem_cons_self
   simp[this]
  ·rfl
theorem bindC_out {kindOf:Str→Option NameKind} {x:Str}:∀ {binds:List (Str×Value)} {m:Str→Option Value},(∀ v,(x,v)∉binds)→bindC kindOf binds m x=m x
 | [],_,_=>rfl
 | (n,v) :: r,m,h=>by
  unfold bindC
  rw[bindC_out fun w hw=>h w (List.mem_cons_of_mem _ hw)]
  split
  ·rfl
  ·have:x≠n:=by rintro rfl;exact h v List.mem_cons_self
   simp[this]
theorem bindL_get {kindOf:Str→Option NameKind} {x:Str} {v:Value}:∀ {P:List Str} {vs:List Value} {i:Nat} {m:Str→Option Value},P.Nodup→P[i]?=some x→vs[i]?=some v→kindOf x=some .local →
 bindL kindOf (P.zip vs) m x=some v
 | [],_,_,_,_,h,_,_=>by simp at h
 | _ :: _,[],_,_,_,_,h,_=>by simp at h
 | p :: P,w :: vs,0,m,nd,h1,h2,hk=>by
  simp at h1 h2;subst h1;subst h2
  show bindL kindOf ((p,w) :: P.zip vs) m p=_
  unfold bindL
  rw[bindL_out fun v hv=>(List.nodup_cons.mp nd).1 (List.of_mem_zip hv).1,if_pos hk]
  simp
 | p :: P,w :: vs,i+1,m,nd,h1,h2,hk=>by
  show bindL kindOf ((p,w) :: P.zip vs) m x=_
  unfold bindL
  exact bindL_get (i:=i) (List.nodup_cons.mp nd).2 (by simpa using h1) (by simpa using h2) hk
theorem bindC_get {kindOf:Str→Option NameKind} {x:Str} {v:Value}:∀ {P:List Str} {vs:List Value} {i:Nat} {m:Str→Option Value},P.Nodup→P[i]?=some x→vs[i]?=some v→kindOf x≠some .local →
 bindC kindOf (P.zip vs) m x=some v
 | [],_,_,_,_,h,_,_=>by simp at h
 | _ :: _,[],_,_,_,_,h,_=>by simp at h
 | p :: P,w :: vs,0,m,nd,h1,h2,hk=>by
  simp at h1 h2;subst h1;subst h2
  show bindC kindOf ((p,w) :: P.zip vs) m p=_
  unfold bindC
  rw[bindC_out fun v hv=>(List.nodup_cons.mp nd).1 (List.of_mem_zip hv).1,if_neg hk]
  simp
 | p :: P,w :: vs,i+1,m,nd,h1,h2,hk=>by
  show bindC kindOf ((p,w) :: P.zip vs) m x=_
  unfold bindC
  exact bindC_get (i:=i) (List.nodup_cons.mp nd).2 (by simpa using h1) (by simpa using h2) hk
noncomputable def start (N:List Str) (vs:List V):St:=vs.map some++List.replicate (N.length - vs.length) none
noncomputable def cxOf (CX:CXT) (P:Program) (w:World) (K:PySem.W.Frag) (mg:Str→Option Value) (base:Heap) (N:List Str) (qual:Str) (scope:Scope) (f:Addr) (cd:Value) (A:Around) (outer:List Env) (s:Shared) (H:Hp) (E:XK):Cx where
 prog:=P
 w:=w
 K:=K
 mg:=mg
 base:=base
 A:=A.deeper (envOfC qual scope s.heap.objs.size f cd)
 N:=N
 s₀:=s
 H₀:=H
 env:=envOfC qual scope s.heap.objs.size f cd
 outer:=outer
 stack:=envOfC qual scope s.heap.objs.size f cd :: outer
 ex:=[]
 calm:=true
 fn:=fun _=>true
 pn:=[]
 xe:=fun e s'=>wpAny (model P w) (A.deeper (envOfC qual scope s.heap.objs.size f cd)) (leaving (envOfC qual scope s.heap.objs.size f cd) e) (fun _ s''=>CX outer H s E e s'') (fun e' s''=>CX outer H s E e' s'') s'
theorem cell_has {sc:Scope} {n:Nat} {x:Str} (h:sc.names.lookup x=some .cell):∃ c,(cellsFrom n sc.names []).lookup x=some c:=by
 have q:=PySem.W.cellsFrom_some sc.names n [] (.inl h)
 exact Option.isSome_iff_exists.mp q
theorem inv_start {CX:CXT} {P:Program} {w:World} {K:PySem.W.Frag} {mg:Str→Option Value} {base:Heap} {N ps:List Str} {qual:Str} {scope:Scope} {f:Addr} {cd:Value} {A:Around} {outer:List Env} {s s1:Shared} {H:Hp} {E:XK} {us:List Value} {vs:List V}
 (S:FnScope N ps scope) (hd:A.handled=none) (e0:Env0 P w K mg base A outer s H) (hl:vs.length=ps.length) (r:Vals vs us)
 (x:InCallC s s.heap.objs.size (bindL (envOfC qual scope s.heap.objs.size f cd).kindOf (ps.zip us) fun _=>none) (cellsFrom (s.heap.objs.size+1) scope.names []) (bindC (envOfC qual scope s.heap.objs.size f cd).kindOf (ps.zip us) fun _=>none) s1) :
 Inv (cxOf CX P w K mg base N qual scope f cd A outer s H E) [] (start N vs) H s1:=by
 have hpl:ps.length≤N.length:=by have:=congrArg List.length S.pre;rw[List.length_take]at this;omega
 obtain⟨h1,tk,rfl,hk⟩:=x.done
 have noA:∀ b:Addr,b∉(cxOf CX P w K mg base N qual scope f cd A outer s H E).ex:=fun b z=>absurd (show b∈([]:List Addr) from z) (by simp)
 refine⟨⟨e0.mod,S.kind,rfl,rfl,Nat.le_refl _,fun y z c h1 h2=>?_,fun y hy=>?_,fun y c _ h=>?_,fun _=>hd,Around.frames_deeper e0.frames,.inr ⟨rfl,rfl⟩,fun b z=>absurd z (noA b),e0.bs,e0.bsz,fun b _ _=>noA b,fun b z=>absurd z (noA b),e0.funs,e0.frf⟩,
  rfl,e0.bare,Un.kept hk,⟨_,x.toInCall.ns,fun i y v h1 h2 h3=>?_⟩,fun y c h=>⟨_,x.cell y c h⟩,e0.hok.fresh (Nat.le_refl _),fun y c h=>?_,fun p hp=>absurd (show p∈([]:List (Addr×Obj)) from hp) (by simp),e0.hok.kept hk,?_⟩
 ·exact name_of_addr x.apart (PySem.mem_of_lookup h1) (PySem.mem_of_lookup h2)
 ·have hy:scope.names.lookup y=some .cell∨scope.names.lookup y=some .free:=hy
  rcases hy with hy | hy
  ·exact cell_has hy
  ·exact absurd rfl (S.nofree _ (PySem.mem_of_lookup hy))
 ·exact Nat.le_of_lt (x.above y c (PySem.mem_of_lookup h))
 ·have hi:i<vs.length:=by
   unfold start at h2
   by_cases hi:i<vs.length
   ·exact hi
   ·rw[List.getElem?_append_right (by simpa using hi)]at h2
    rw[List.getElem?_replicate]at h2
    split at h2 <;> cases h2
  have ha:vs[i]?=some v:=by
   unfold start at h2
   rw[List.getElem?_append_left (by simpa using hi),List.getElem?_map]at h2
   cases e:vs[i]? with
   | none=>rw[e]at h2;cases h2
   | some a=>rw[e]at h2;cases h2;rfl
  obtain⟨u,hu,rv⟩:=r.get ha
  have hp:ps[i]?=some y:=by
   rw[← S.pre,List.getElem?_take_of_lt (by omega)];exact h1
  have ndP:ps.Nodup:=by rw[← S.pre];exact S.nd.sublist (List.take_sublist _ _)
  refine⟨u,rv,?_⟩
  rcases S.par y (List.mem_of_getElem? hp)with k | k
  ·exact .inl ⟨k,bindL_get ndP hp hu k⟩
  ·obtain⟨c,e⟩:=cell_has (n:=s.heap.objs.size+1) k
   refine .inr ⟨.inl k,c,e,?_⟩
   have q:=x.cell y c e
   rw[bindC_get ndP hp hu (by show scope.names.lookup y≠_;rw[k];decide)]at q
   exact q
 ·exact e0.hok.fresh (Nat.le_of_lt (x.above y c (PySem.mem_of_lookup h)))
 ·unfold start
  show _=N.length
  rw[List.length_append,List.length_map,List.length_replicate]
  omega
theorem fn_of {CX:CXT} {P:Program} {w:World} {K:PySem.W.Frag} {mg:Str→Option Value} {base:Heap} {k:Nat} {f:Addr} {name qual:Str} {params:Arguments} {body:List Stmt} {scope:Scope} {dV kV doc pm cdv ct oc:Value} {an od:Option Addr}
 {osl:Array (Option Value)} {N ps:List Str} {sp:Sp} (lk:K.lookup f=some ⟨oc,od,.func (PySem.W.fnOf name qual params body scope dV kV doc pm an cdv ct),osl⟩) (hcd:PySem.W.codeIn K cdv qual=true) (S:FnScope N ps scope)
 (len:∀ vs H Q E,sp vs H Q E→vs.length=ps.length)
 (hbody:∀ (A:Around) (outer:List Env) (s:Shared) (H:Hp) (vs:List V) (Q:VK) (E:XK),Room k (A.deeper (envOfC qual scope s.heap.objs.size f cdv))→sp vs H Q E →
  ∃ t,PSs (cxOf CX P w K mg base N qual scope f cdv A outer s H E) body t∧t { nx:=fun _ H'=>Q .non H',rt:=Q } (start N vs) H) :
 FnOk P w K mg base CX (k+1) f (PySem.W.fnOf name qual params body scope dV kV doc pm an cdv ct) ps sp:=by
 refine⟨len,fun A outer s H args us vs Q E hr e0 hb r hsp=>?_⟩
 have hl:=len _ _ _ _ hsp
 have KX:K.In s.heap:=e0.mod.kin.keeps fun b o e=>(e0.bs b o e).1
 have lim:s.heap.NoLimit:=e0.mod.nolimit.keeps fun b o e=>(e0.bs b o e).1
 have hkind:∀ y∈ps.zip us,scope.names.lookup y.1=some .local∨(scope.names.lookup y.1=some .cell∧((cellsFrom (s.heap.objs.size+1) scope.names []).lookup y.1).isSome=true):=fun⟨n,v⟩ hy=>by
  rcases S.par n (List.of_mem_zip hy).1 with q | q
  ·exact .inl q
  ·exact .inr ⟨q,PySem.W.cellsFrom_some _ _ _ (.inl q)⟩
 refine codeAny_call_function hr.depth (KX _ _ lk) rfl S.co S.gen rfl (PySem.W.codeRec_of KX hcd) (hb _ _ _ _ ?_)
 refine wpAny_newFunctionEnv_cells S.kind hkind fun env he s1 x=>?_
 subst he
 refine⟨lim.keeps x.toInCall.keep,codeAny_func ?_⟩
 obtain⟨t,ht,hq⟩:=hbody A outer s H vs Q E (hr.deeper _) hsp
 have I:Inv (cxOf CX P w K mg base N qual scope f cdv A outer s H E) [] (start N vs) H s1:=inv_start S hr.hd e0 hl r x
 refine wpAny_mono (ht [] s1 (start N vs) H _ I hq) (fun fl s' hs=>?_) fun e s' hs=>hs
 have fin:∀ {σ':St} {H':Hp} {v:V} {u:Value},Inv (cxOf CX P w K mg base N qual scope f cdv A outer s H E) [] σ' H' s'→RelV v u→Q v H'→CE outer P w H s Q u s' :=
  fun {σ' H' v u} J rv q=>⟨v,H',J.os,J.bare,J.base,J.hok,rv,q⟩
 cases fl with
 | ret u =>
  obtain⟨v,σ',H',J,rv,q⟩:=hs
  exact fin J rv q
 | next =>
  obtain⟨σ',H',J,q⟩:=hs
  exact fin (v:=V.non) (u:=Value.none) J rfl q
 | brk =>
  obtain⟨_,_,_,q⟩:=hs
  exact False.elim q
 | cont =>
  obtain⟨_,_,_,q⟩:=hs
  exact False.elim q
end L2
namespace L2
open PySem PySem.Spec PyProof.Rows
section
variable {X:Cx} {x:Str} {p pos:Pos} {e:Expr} {es:List Expr} {t:TA} {id T:String} {r:List V→Hp→VK→Prop}
noncomputable def tCB (r:List V→Hp→VK→Prop) (t:TA):TE:=fun σ H Q=>t σ H fun vs H1=>r vs H1 Q
theorem pe_callB (hc:CallR X (.builtin id) r) (hg:Gl X x) (hm:X.mg x=none) (hv:bootBuiltins x=some (.builtin id)) (ha:PA X (e :: es) t) (hn:x≠"__name__":=by decide) (hdb:(x == ("__debug__":Str))=false:=by decide)
 (he:starEach (e :: es) X.env=(false,eval e X.env) :: starEach es X.env:=by rfl) (hpl:(backTo pos (starEach es X.env)).any (·.1)=false:=by rfl):PE X (.Call (.Name x p) (e :: es) [] pos) (tCB r t):=by
 intro pins s σ H Q I h
 refine wpAny_Call_Name_kw (ld_blt I hg hm hv ?_ hn hdb)
 exact PyProof.Rows.callWith_builtin1 (thn (ha pos pins s σ H _ I h) fun us s1 ⟨vs,H1,I1,r1,q1⟩=>hc pins s1 σ H1 vs us Q I1 r1 q1) he hpl
theorem pe_callTy (hc:CallR X (.type T) r) (hg:Gl X x) (hm:X.mg x=none) (hv:bootBuiltins x=some (.type T)) (ha:PA X (e :: es) t) (hn:x≠"__name__":=by decide) (hdb:(x == ("__debug__":Str))=false:=by decide)
 (he:starEach (e :: es) X.env=(false,eval e X.env) :: starEach es X.env:=by rfl) (hpl:(backTo pos (starEach es X.env)).any (·.1)=false:=by rfl):PE X (.Call (.Name x p) (e :: es) [] pos) (tCB r t):=by
 intro pins s σ H Q I h
 refine wpAny_Call_Name_kw (ld_blt I hg hm hv ?_ hn hdb)
 exact PyProof.Rows.callWith_type1 (thn (ha pos pins s σ H _ I h) fun us s1 ⟨vs,H1,I1,r1,q1⟩=>hc pins s1 σ H1 vs us Q I1 r1 q1) he hpl
end
end L2
namespace HT
open PySem PyProof.Rows
section
open PySem.SeqAt
open PySem.AutoSeq1 (wpAny_loadPart')
open PySem.MeetsSeq PySem.MeetsSeq2 PySem.MeetsSeq3
end
section
variable {prog:Program} {w:World} {A:Around} {E:Value→Shared→Prop} {s:Shared}
noncomputable def sIx (n d:Nat):Option Int→Nat
 | none=>d
 | some v=>if v<0 then (v+(n:Int)).toNat else min v.toNat n
theorem sIx_none (n d:Nat):sIx n d none=d:=rfl
theorem sIx_nat (n d k:Nat):sIx n d (some (k:Int))=min k n:=by
 show (if (k:Int)<0 then ((k:Int)+(n:Int)).toNat else min (k:Int).toNat n)=min k n
 rw[if_neg (by omega),Int.toNat_natCast]
end
end HT
namespace L2
open PySem PySem.Spec PyProof.Rows
noncomputable abbrev TO:=St→Hp→(Option Int→Hp→Prop)→Prop
noncomputable def PO (X:Cx) (e:Option Expr) (t:TO):Prop :=
 ∀ (pins:List (Addr×Obj)) (s:Shared) (σ:St) (H:Hp) (Q:Option Int→Hp→Prop),Inv X pins σ H s→t σ H Q →
  wpAny (model X.prog X.w) X.A (evalPart e X.env) (fun u s'=>∃ o H',Inv X pins σ H' s'∧IsPart u o∧Q o H') X.xe s
noncomputable def tNoPart:TO:=fun _ H Q=>Q none H
noncomputable def tPart (t:TE):TO:=fun σ H Q=>t σ H fun x H1=>∃ i,x=.int i∧Q (some i) H1
theorem intsAre_of {ns:List Int}:∀ {us:List Value},Vals (ns.map V.int) us→IntsAre us ns:=by
 induction ns with
 | nil=>intro us r;rw[List.map_nil]at r;cases r;exact .nil
 | cons n ns ih =>
  intro us r
  rw[List.map_cons]at r
  cases r with
  | cons r1 r2 =>
   obtain⟨t,e⟩:=r1
   subst e
   exact .cons n t (ih r2)
section
variable {X:Cx} {e:Expr} {te:TE} {lo hi:Option Expr} {tl th:TO} {pos p2:Pos}
theorem po_none:PO X none tNoPart:=by
 intro pins s σ H Q I h
 rw[evalPart_none]
 exact wpAny_pure ⟨none,H,I,.none,h⟩
theorem po_some (h:PE X e te):PO X (some e) (tPart te):=by
 intro pins s σ H Q I hw
 rw[evalPart_some]
 refine thn (h pins s σ H _ I hw) fun u s1 ⟨x,H1,I1,r1,q1⟩=>?_
 obtain⟨i,rfl,q⟩:=q1
 obtain⟨t,rfl⟩:=r1
 exact⟨some i,H1,I1,.int i t,q⟩
noncomputable def SlR (X:Cx) (r:V→Option Int→Option Int→Hp→VK→Prop):Prop :=
 ∀ (pins:List (Addr×Obj)) (s:Shared) (σ:St) (H:Hp) (x:V) (v vl vu:Value) (lo hi:Option Int) (sl:Addr) (Q:VK),Inv X pins σ H s→RelV x v→s.heap.IsSliceOf sl vl vu .none→IsPart vl lo→IsPart vu hi→r x lo hi H Q →
  ∃ T id,typeLookup (.type T) "__getitem__"=pure (some (.builtin id))∧s.TypeIs v T∧wpAny (model X.prog X.w) X.A (getItem v (.ref sl)) (EP X pins σ Q) X.xe s
noncomputable def tSl (r:V→Option Int→Option Int→Hp→VK→Prop) (te:TE) (tl th:TO):TE:=fun σ H Q=>te σ H fun x H1=>tl σ H1 fun l H2=>th σ H2 fun u H3=>r x l u H3 Q
theorem pe_slice {r:V→Option Int→Option Int→Hp→VK→Prop} (hr:SlR X r) (he:PE X e te) (hl:PO X lo tl) (hu:PO X hi th):PE X (.Subscript e (.Slice lo hi none p2) pos) (tSl r te tl th):=by
 intro pins s σ H Q I h
 refine Subscript_ (thn (he pins s σ H _ I h) fun v s1 ⟨x,H1,I1,r1,q1⟩=>?_)
 refine wpAny_Slice (thn (hl pins s1 σ H1 _ I1 q1) fun vl s2 ⟨l,H2,I2,pl,q2⟩=>thn (hu pins s2 σ H2 _ I2 q2) fun vu s3 ⟨u,H3,I3,pu,q3⟩=>?_)
 rw[evalPart_none]
 refine wpAny_pure ?_
 have I4:Inv X pins σ H3 { s3 with heap:=s3.heap.push { cls:=.type "slice",data:=.fields #[vl,vu,.none] } }:=I3.kept (t':=s3.toks) fun b ob q=>Heap.get?_push_of_some _ q
 obtain⟨T,id,hT,ht,hg⟩:=hr pins { s3 with heap:=s3.heap.push { cls:=.type "slice",data:=.fields #[vl,vu,.none] } } σ H3 x v vl vu l u s3.heap.objs.size Q I4 r1 (Heap.IsSliceOf.new ..) pl pu q3
 show wpAny (model X.prog X.w) X.A (subscriptTail e (.Slice lo hi none p2) v (.ref s3.heap.objs.size)) (EP X pins σ Q) X.xe { s3 with heap:=s3.heap.push { cls:=.type "slice",data:=.fields #[vl,vu,.none] } }
 exact tail_any (ops:=[.ref s3.heap.objs.size,v]) ht hT hg (by with_unfolding_all rfl)
noncomputable def cutV (xs:List V) (lo hi:Option Int):List V:=(xs.drop (HT.sIx xs.length 0 lo)).take (HT.sIx xs.length xs.length hi - HT.sIx xs.length 0 lo)
theorem cutV_length (xs:List V) (lo hi:Option Int):(cutV xs lo hi).length≤xs.length:=by
 unfold cutV
 rw[List.length_take,List.length_drop]
 omega
end
end L2
namespace L2
open PySem PySem.Spec PyProof.Rows
noncomputable def ixN (n:Nat) (i:Int):Option Nat:=if 0≤i then (if i<n then some i.toNat else none)else if -(n:Int)≤i then some (i+n).toNat else none
noncomputable def atI {α:Type} (xs:List α) (i:Int):Option α:=(ixN xs.length i).bind fun j=>xs[j]?
theorem ixN_seq {n:Nat} {i:Int} {j:Nat} (h:ixN n i=some j):seqIndex? i n=some j∧j<n∧-(n:Int)≤i∧i<n:=by
 unfold ixN at h
 by_cases h0:0≤i
 ·rw[if_pos h0]at h
  by_cases h1:i<n
  ·rw[if_pos h1]at h
   have e:i.toNat=j:=Option.some.inj h
   exact⟨by rw[seqIndex_of h0 h1,e],by omega,by omega,h1⟩
  ·rw[if_neg h1]at h;cases h
 ·rw[if_neg h0]at h
  by_cases h1:-(n:Int)≤i
  ·rw[if_pos h1]at h
   have e:(i+n).toNat=j:=Option.some.inj h
   exact⟨by rw[seqIndex_neg (by omega) h1,e],by omega,h1,by omega⟩
  ·rw[if_neg h1]at h;cases h
theorem atI_get {α:Type} {xs:List α} {i:Int} {v:α} (h:atI xs i=some v):∃ j,seqIndex? i xs.length=some j∧xs[j]?=some v∧j<xs.length∧-(xs.length:Int)≤i∧i<xs.length:=by
 unfold atI at h
 cases e:ixN xs.length i with
 | none=>rw[e]at h;cases h
 | some j =>
  rw[e]at h
  obtain⟨h1,h2,h3,h4⟩:=ixN_seq e
  exact⟨j,h1,h,h2,h3,h4⟩
theorem atI_nat {α:Type} {xs:List α} {j:Nat} {v:α} (h:xs[j]?=some v):atI xs (j:Int)=some v:=by
 have hj:j<xs.length:=(List.getElem?_eq_some_iff.mp h).1
 have e:ixN xs.length (j:Int)=some j:=by
  unfold ixN
  rw[if_pos (by omega),if_pos (by omega)];simp
 unfold atI;rw[e];exact h
theorem atI_last {α:Type} (xs:List α) (v:α):atI (xs++[v]) (-1)=some v:=by
 have hl:(xs++[v]).length=xs.length+1:=by simp
 have e:ixN (xs++[v]).length (-1)=some xs.length:=by
  unfold ixN
  rw[hl,if_neg (by decide),if_pos (by omega)]
  congr 1
  omega
 unfold atI
 rw[e]
 show (xs++[v])[xs.length]?=some v
 simp
noncomputable def PlainIx (b:Expr):Prop:=∀ o i,subscripted b false o i=operate [o,i] (getItem o i)
noncomputable def IxR (X:Cx) (r:R2):Prop :=
 ∀ (value slice:Expr) (pins:List (Addr×Obj)) (s:Shared) (σ:St) (H:Hp) (x y:V) (v u:Value) (Q:VK),Inv X pins σ H s→RelV x v→RelV y u→r x y H Q →
  subscripted slice false v u=operate [v,u] (getItem v u)→wpAny (model X.prog X.w) X.A (subscriptTail value slice v u) (EP X pins σ Q) X.xe s
noncomputable def MtR (X:Cx) (id:String) (r:V→List V→Hp→VK→Prop):Prop :=
 ∀ (pins:List (Addr×Obj)) (s:Shared) (σ:St) (H:Hp) (x:V) (xs:List V) (v:Value) (us:List Value) (Q:VK),Inv X pins σ H s→RelV x v→Vals xs us→r x xs H Q →
  wpAny (model X.prog X.w) X.A (call (.builtin id) (v :: us)) (EP X pins σ Q) X.xe s
section
variable {X:Cx} {a b:Expr} {ta tb:TE} {pos:Pos}
theorem pe_ix {r:R2} (hr:IxR X r) (ha:PE X a ta) (hb:PE X b tb) (hs:PlainIx b):PE X (.Subscript a b pos) (tOp r ta tb):=by
 intro pins s σ H Q I h
 exact Subscript_ (binT ha hb I h fun v u s2 x y H2 I2 rx ry q=>hr a b pins s2 σ H2 x y v u Q I2 rx ry q (hs _ _))
noncomputable def rIxL (K:PySem.W.Frag):R2:=fun x y H Q=>∃ p xs i v,x=.ref p∧y=.int i∧SqL K H p xs∧atI xs i=some v∧Q v H
noncomputable def rIxT (K:PySem.W.Frag):R2:=fun x y H Q=>∃ p xs i v,x=.ref p∧y=.int i∧SqT K H p xs∧atI xs i=some v∧Q v H
theorem ix_list:IxR X (rIxL X.K):=by
 intro value slice pins s σ H x y v u Q I rx ry h hs
 obtain⟨p,xs,i,z,rfl,rfl,hq,he,q⟩:=h
 cases rx
 obtain⟨t,rfl⟩:=ry
 obtain⟨its,r,pl,hz⟩:=I.list hq
 obtain⟨j,h1,h2,h3,h4,h5⟩:=atI_get he
 obtain⟨w,ew,rw'⟩:=r.get h2
 have hl:=r.length
 have hn:=line63
 have fin:EP X pins σ Q w s:=⟨z,H,I,rw',q⟩
 by_cases h0:0≤i
 ·have hj:i.toNat=j:=by
   rw[seqIndex_of h0 h5]at h1
   exact Option.some.inj h1
  exact item_listR pl.isList h0 (by omega) (by rw[hj];simpa using ew) fin hs
 ·have hj:(i+(its.toArray.size:Int)).toNat=j:=by
   rw[seqIndex_neg (by omega) h4]at h1
   rw[List.size_toArray,← hl]
   exact Option.some.inj h1
  exact subscriptTail_builtinR (x:=w) pl.isList.typeIs slot_list_getitem.lookup
   (wpAny_getItem_list_neg (Q:=fun r s'=>r=w∧EP X pins σ Q r s') pl.isList (by omega) (by rw[List.size_toArray] <;> omega) (by omega) (by rw[hj];simpa using ew) ⟨rfl,fin⟩) hs
theorem ix_tup:IxR X (rIxT X.K):=by
 intro value slice pins s σ H x y v u Q I rx ry h hs
 obtain⟨p,xs,i,z,rfl,rfl,hq,he,q⟩:=h
 cases rx
 obtain⟨t,rfl⟩:=ry
 obtain⟨its,r,pl,hz⟩:=I.tuple hq
 obtain⟨j,h1,h2,h3,h4,h5⟩:=atI_get he
 obtain⟨w,ew,rw'⟩:=r.get h2
 have hl:=r.length
 have hn:=line63
 have fin:EP X pins σ Q w s:=⟨z,H,I,rw',q⟩
 exact subscriptTail_builtinR (x:=w) pl.typeIs slot_tuple_getitem.lookup
  (getItem_tuple (j:=j) (Q:=fun r s'=>r=w∧EP X pins σ Q r s') pl (by omega) (by omega) (by rw[List.size_toArray,← hl];exact h1) (by simpa using ew) ⟨rfl,fin⟩) hs
theorem mapSeq_set (its:List Value) (n j:Nat) (u:Value):Obj.mapSeq (·.setIfInBounds j u) { cls:=.type "list",data:=.seq its.toArray n }={ cls:=.type "list",data:=.seq (its.set j u).toArray n }:=by
 simp[Obj.mapSeq]
theorem Inv.lst {pins:List (Addr×Obj)} {σ:St} {H:Hp} {s:Shared} {p:Addr} {xs:List V} (I:Inv X pins σ H s) (h:H p=some (.lst xs)) :
 ∃ (its:List Value) (n:Nat),Vals xs its∧s.heap.get? p=some { cls:=.type "list",data:=.seq its.toArray n }∧xs.length≤sizeLine:=by
 obtain⟨z,its,n,r,e⟩:=I.hok p _ h
 exact⟨its,n,r,e,z⟩
theorem Inv.lstUpd {pins:List (Addr×Obj)} {σ:St} {H:Hp} {s:Shared} {p:Addr} {xs ys:List V} {its its':List Value} {n n':Nat} {f:Obj→Obj} (I:Inv X pins σ H s) (h:H p=some (.lst xs))
 (ho:s.heap.get? p=some { cls:=.type "list",data:=.seq its.toArray n }) (hf:f { cls:=.type "list",data:=.seq its.toArray n }={ cls:=.type "list",data:=.seq its'.toArray n' }) (r:Vals ys its') (hz:ys.length≤sizeLine) (t:Nat) :
 Inv X pins σ (upd H p (.lst ys)) { s with heap:=s.heap.update p f,toks:=t }:=by
 have e:(s.heap.update p f).get? p=some { cls:=.type "list",data:=.seq its'.toArray n' }:=by
  rw[Heap.get?_update_self f ho (by rw[hf] <;> rfl),hf]
 refine I.write (x:=p) (e:=p) (by rw[h];trivial) (.inl rfl) (fun b u hb q=>(Heap.get?_update_other _ _ (Ne.symm hb)).trans q) ⟨_,e⟩ ?_
 exact⟨hz,its',n',r,e⟩
noncomputable def rSetL:V→V→V→Hp→(Hp→Prop)→Prop:=fun o i v H Q=>∃ p xs k j,o=.ref p∧i=.int k∧H p=some (.lst xs)∧ixN xs.length k=some j∧Q (upd H p (.lst (xs.set j v)))
theorem set_list:PSet X rSetL:=by
 intro pins s σ H o i v ov iv u Q I ro ri rv h
 obtain⟨p,xs,k,j,rfl,rfl,hp,hj,q⟩:=h
 cases ro
 obtain⟨t,rfl⟩:=ri
 obtain⟨its,n,r,ho,hz⟩:=I.lst hp
 obtain⟨h1,h2,h3,h4⟩:=ixN_seq hj
 have hl:=r.length
 have hn:=line63
 have I':Inv X pins σ (upd H p (.lst (xs.set j v))) { s with heap:=s.heap.update p (Obj.mapSeq (·.setIfInBounds j u)) } :=
  I.lstUpd hp ho (mapSeq_set its n j u) (r.set rv j) (by rw[List.length_set];exact hz) s.toks
 by_cases h0:0≤k
 ·have hk:k.toNat=j:=by
   rw[seqIndex_of h0 h4]at h1
   exact Option.some.inj h1
  exact PySem.W.ki_setAt ho h0 (by omega) (by rw[List.size_toArray,← hl];exact h4) (by rw[hk];exact⟨_,I',q⟩)
 ·have hk:(k+(its.toArray.size:Int)).toNat=j:=by
   rw[seqIndex_neg (by omega) h3]at h1
   rw[List.size_toArray,← hl]
   exact Option.some.inj h1
  exact PySem.W.ki_setBack ho (by omega) (by rw[List.size_toArray,← hl];exact h3) (by omega) (by rw[hk];exact⟨_,I',q⟩)
theorem slice_bounds (lo hi:Option Int) (n:Nat):(sliceBounds lo hi none n).1=((HT.sIx n 0 lo:Nat):Int)∧(sliceBounds lo hi none n).2.1=((HT.sIx n n hi:Nat):Int)∧(sliceBounds lo hi none n).2.2=1:=by
 refine⟨?_,?_,rfl⟩
 ·cases lo with
  | none=>simp[sliceBounds,HT.sIx]
  | some i =>
   simp only[sliceBounds,HT.sIx,Option.getD_none,show (1:Int) > 0 by decide,if_true]
   by_cases h:i<0
   ·simp only[h,if_true] <;> omega
   ·simp only[h,if_false] <;> omega
 ·cases hi with
  | none=>simp[sliceBounds,HT.sIx]
  | some i =>
   simp only[sliceBounds,HT.sIx,Option.getD_none,show (1:Int) > 0 by decide,if_true]
   by_cases h:i<0
   ·simp only[h,if_true] <;> omega
   ·simp only[h,if_false] <;> omega
theorem slicePick_cut (its:List Value) (lo hi:Option Int):slicePick its.toArray lo hi none=((its.drop (HT.sIx its.length 0 lo)).take (HT.sIx its.length its.length hi - HT.sIx its.length 0 lo)).toArray:=by
 obtain⟨h1,h2,h3⟩:=slice_bounds lo hi its.toArray.size
 unfold slicePick
 rw[h1,h2,h3]
 simp only[sliceRange_one,pick_run,List.size_toArray] <;> rfl
noncomputable def rSlL (K:PySem.W.Frag):V→Option Int→Option Int→Hp→VK→Prop:=fun x lo hi H Q=>∃ a xs,x=.ref a∧SqL K H a xs∧∀ p,H p=none→Q (.ref p) (upd H p (.lst (cutV xs lo hi)))
theorem sl_list:SlR X (rSlL X.K):=by
 intro pins s σ H x v vl vu lo hi sl Q I rx hs pl pu h
 obtain⟨a,xs,rfl,hx,q⟩:=h
 cases rx
 obtain⟨its,r,ht,hz⟩:=I.list hx
 have hlen:=r.length
 refine⟨"list",_,slot_list_getitem.lookup,ht.isList.typeIs,?_⟩
 refine wpAny_getItem_list_slice ht.isList hs pl pu .none (by simp) ?_ (by rw[List.size_toArray] <;> omega)
 rw[slicePick_cut,← hlen]
 refine⟨.ref s.heap.objs.size,_,I.laid (t':=s.toks) (o:=.lst (cutV xs lo hi)) (fun b ob q=>Heap.get?_push_of_some _ q) (Nat.le_refl _) ?_,rfl,q _ (I.hok.fresh (Nat.le_refl _))⟩
 exact⟨Nat.le_trans (cutV_length xs lo hi) hz,_,0,(r.drop (HT.sIx xs.length 0 lo)).take (HT.sIx xs.length xs.length hi - HT.sIx xs.length 0 lo),Heap.get?_push_size _ rfl⟩
noncomputable def flatV:V→Bool
 | .non=>true
 | .bl _=>true
 | .int _=>true
 | .str _=>true
 | _=>false
noncomputable def eqV:V→V→Bool
 | .non,.non=>true
 | .bl a,.bl b=>a == b
 | .bl a,.int b=>(if a then 1 else 0) == b
 | .int a,.bl b=>a == (if b then 1 else 0)
 | .int a,.int b=>a == b
 | .str a,.str b=>a == b
 | _,_=>false
theorem eqAt_V {A:Around} {s:Shared} {y x:V} {u v:Value} (ry:RelV y u) (rx:RelV x v) (fy:flatV y=true) (fx:flatV x=true):SeqAt.EqAt A s u v (eqV y x):=by
 cases y with
 | non =>
  cases ry
  cases x with
  | non=>cases rx;exact SeqAt.EqAt.same _
  | bl b=>cases rx;exact SeqAt.EqAt.none_bool b
  | int b=>obtain⟨t,rfl⟩:=rx;exact SeqAt.EqAt.none_int b t
  | str b=>obtain⟨t,rfl⟩:=rx;exact SeqAt.EqAt.none_str b t
  | _=>exact absurd (show false=true from fx) Bool.false_ne_true
 | bl a =>
  cases ry
  cases x with
  | non=>cases rx;exact SeqAt.EqAt.bool_none a
  | bl b=>cases rx;exact SeqAt.EqAt.bool_bool a b
  | int b=>obtain⟨t,rfl⟩:=rx;exact SeqAt.EqAt.bool_int a b t
  | str b=>obtain⟨t,rfl⟩:=rx;exact SeqAt.EqAt.bool_str a b t
  | _=>exact absurd (show false=true from fx) Bool.false_ne_true
 | int a =>
  obtain⟨t',rfl⟩:=ry
  cases x with
  | non=>cases rx;exact SeqAt.EqAt.int_none a t'
  | bl b=>cases rx;exact SeqAt.EqAt.int_bool a t' b
  | int b=>obtain⟨t,rfl⟩:=rx;exact SeqAt.EqAt.int_int a t' b t
  | str b=>obtain⟨t,rfl⟩:=rx;exact SeqAt.EqAt.int_str a t' b t
  | _=>exact absurd (show false=true from fx) Bool.false_ne_true
 | str a =>
  obtain⟨t',rfl⟩:=ry
  cases x with
  | non=>cases rx;exact SeqAt.EqAt.str_none a t'
  | bl b=>cases rx;exact SeqAt.EqAt.str_bool a t' b
  | int b=>obtain⟨t,rfl⟩:=rx;exact SeqAt.EqAt.str_int a t' b t
  | str b=>obtain⟨t,rfl⟩:=rx;exact SeqAt.EqAt.str_str a t' b t
  | _=>exact absurd (show false=true from fx) Bool.false_ne_true
 | _=>exact absurd (show false=true from fy) Bool.false_ne_true
noncomputable def eqU (x:V) (u:Value):Bool:=match u with
 | .none=>eqV .non x
 | .bool b=>eqV (.bl b) x
 | .int i _=>eqV (.int i) x
 | .str z _=>eqV (.str z) x
 | _=>false
theorem eqU_of {x y:V} {u:Value} (r:RelV y u) (f:flatV y=true):eqU x u=eqV y x:=by
 cases y with
 | non=>cases r;rfl
 | bl b=>cases r;rfl
 | int i=>obtain⟨t,rfl⟩:=r;rfl
 | str z=>obtain⟨t,rfl⟩:=r;rfl
 | _=>exact absurd (show false=true from f) Bool.false_ne_true
theorem any_eqU {x:V}:∀ {xs:List V} {us:List Value},Vals xs us→xs.all flatV=true→us.any (eqU x)=xs.any fun y=>eqV y x
 | _,_,.nil,_=>rfl
 | y :: xs,u :: us,.cons r t,f=>by
  rw[List.all_cons,Bool.and_eq_true]at f
  rw[List.any_cons,List.any_cons,eqU_of r f.1,any_eqU t f.2]
theorem mem_eqAt {A:Around} {s:Shared} {x:V} {v:Value} (rx:RelV x v) (fx:flatV x=true):∀ {xs:List V} {us:List Value},Vals xs us→xs.all flatV=true→∀ u∈us,SeqAt.EqAt A s u v (eqU x u)
 | _,_,.nil,_=>fun u hu=>by cases hu
 | y :: xs,u :: us,.cons r t,f=>fun u' hu=>by
  rw[List.all_cons,Bool.and_eq_true]at f
  rcases List.mem_cons.mp hu with rfl | hu
  ·rw[eqU_of r f.1];exact eqAt_V r rx f.1 fx
  ·exact mem_eqAt rx fx t f.2 u' hu
noncomputable def inV (x:V) (xs:List V):Bool:=xs.any fun y=>eqV y x
noncomputable def rIn (K:PySem.W.Frag) (neg:Bool):R2:=fun x y H Q=>∃ p xs,y=.ref p∧(SqL K H p xs∨SqT K H p xs)∧flatV x=true∧xs.all flatV=true∧Q (.bl (if neg then !inV x xs else inV x xs)) H
theorem op_in_seq:OpR X (compareOp .In) (rIn X.K false):=by
 intro pins s σ H x y v u Q I rx ry h
 obtain⟨p,xs,rfl,hq,fx,fs,q⟩:=h
 cases ry
 rcases hq with hq | hq
 ·obtain⟨its,r,pl,hz⟩:=I.list hq
  refine SeqAt.in_listAt (eqU x) pl.isList (fun w hw=>mem_eqAt rx fx r fs w (by simpa using hw)) ⟨.bl _,H,I,rfl,?_⟩
  rw[show its.toArray.any (eqU x)=its.any (eqU x)by simp,any_eqU r fs]
  exact q
 ·obtain⟨its,r,pl,hz⟩:=I.tuple hq
  refine SeqAt.in_tupleAt (eqU x) pl (fun w hw=>mem_eqAt rx fx r fs w (by simpa using hw)) ⟨.bl _,H,I,rfl,?_⟩
  rw[show its.toArray.any (eqU x)=its.any (eqU x)by simp,any_eqU r fs]
  exact q
theorem call_len_seq:CallR X (.builtin "len") (fun xs H Q=>∃ p ys,xs=[.ref p]∧(SqL X.K H p ys∨SqT X.K H p ys)∧Q (.int ys.length) H):=by
 intro pins s σ H xs us Q I r h
 obtain⟨p,ys,rfl,hq,q⟩:=h
 obtain⟨u,rfl,rx⟩:=vals1 r
 cases rx
 have hn:=line63
 rcases hq with hq | hq
 ·obtain⟨its,r',pl,hz⟩:=I.list hq
  have hlen:=r'.length
  exact Calls.call_len_list pl.isList (by simp only[List.size_toArray] <;> omega) ⟨.int ys.length,H,I.tok _,⟨s.toks+1,by rw[List.size_toArray,hlen]⟩,q⟩
 ·obtain⟨its,r',pl,hz⟩:=I.tuple hq
  have hlen:=r'.length
  exact len_tuple pl (by simp only[List.size_toArray] <;> omega) ⟨.int ys.length,H,I.tok _,⟨s.toks+1,by rw[List.size_toArray,hlen]⟩,q⟩
theorem call_list_of:CallR X (.type "list") (fun xs H Q=>∃ p ys,xs=[.ref p]∧(SqL X.K H p ys∨SqT X.K H p ys)∧∀ l,H l=none→Q (.ref l) (upd H l (.lst ys))):=by
 intro pins s σ H xs us Q I r h
 obtain⟨p,ys,rfl,hq,q⟩:=h
 obtain⟨u,rfl,rx⟩:=vals1 r
 cases rx
 have fin:∀ (its:List Value),Vals ys its→ys.length≤sizeLine→∀ (h':Heap) (c':Nat),(∀ b o',s.heap.get? b=some o'→h'.get? b=some o') →
  h'.get? s.heap.objs.size=some { cls:=.type "list",dict:=none,data:=.seq its.toArray c',slots:=#[] }→EP X pins σ Q (.ref s.heap.objs.size) { s with heap:=h' }:=fun its r' hz h' c' kp e =>
  ⟨.ref s.heap.objs.size,_,I.laid (t':=s.toks) kp (Nat.le_refl _) (show ObjOk X.prog X.w _ h' _ (.lst ys) from ⟨hz,its,c',r',e⟩),rfl,q _ (I.hok.fresh (Nat.le_refl _))⟩
 rcases hq with hq | hq
 ·obtain⟨its,r',pl,hz⟩:=I.list hq
  have hlen:=r'.length
  obtain⟨o,ho,hc,n,hd⟩:=pl.isList
  exact call_list_seq p (.inl rfl) ho hc hd (fun h' c' kp e=>fin its r' hz h' c' kp e) (by simp only[List.size_toArray] <;> omega)
 ·obtain⟨its,r',pl,hz⟩:=I.tuple hq
  have hlen:=r'.length
  obtain⟨o,ho,hc,n,hd⟩:=pl
  exact call_list_seq p (.inr rfl) ho hc hd (fun h' c' kp e=>fin its r' hz h' c' kp e) (by simp only[List.size_toArray] <;> omega)
noncomputable def tyV (K:PySem.W.Frag) (T:String) (x:V) (H:Hp):Prop:=match x with
 | .str _=>T="str"
 | .int _=>T="int"
 | .ref p=>(T="list"∧∃ xs,SqL K H p xs)∨(T="tuple"∧∃ o,K.lookup p=some o∧o.cls=.type "tuple"∧o.dict=none) ∨
  (T="dict"∧((∃ kvs,H p=some (.dK kvs))∨∃ kvs,H p=some (.dT kvs)))∨(T="set"∧∃ S n,H p=some (.set S n))
 | _=>False
theorem tyV_is {pins:List (Addr×Obj)} {σ:St} {H:Hp} {s:Shared} {T:String} {x:V} {v:Value} (I:Inv X pins σ H s) (r:RelV x v) (ty:tyV X.K T x H) :
 s.TypeIs v T∧∀ a,v=.ref a→∃ ob,s.heap.get? a=some ob∧ob.dict=none:=by
 cases x with
 | str z =>
  obtain⟨t,rfl⟩:=r
  cases (show T="str" from ty)
  exact⟨typeIs_str s z t,fun _ e=>nomatch e⟩
 | int i =>
  obtain⟨t,rfl⟩:=r
  cases (show T="int" from ty)
  exact⟨typeIs_int s i t,fun _ e=>nomatch e⟩
 | ref p =>
  cases r
  rcases ty with ⟨rfl,xs,hq⟩ | ⟨rfl,o,hk,hc,hd⟩ | ⟨rfl,hk⟩ | ⟨rfl,S,n,hk⟩
  ·obtain⟨its,_,pl,_⟩:=I.list hq
   refine⟨pl.isList.typeIs,fun a e=>?_⟩
   cases e
   obtain⟨o,n,e,c,hd,_⟩:=pl
   exact⟨o,e,hd⟩
  ·refine⟨⟨o,I.kIn p o hk,hc⟩,fun a e=>?_⟩
   cases e
   exact⟨o,I.kIn _ o hk,hd⟩
  ·have z:∃ o,s.heap.get? p=some o∧o.ExactDict:=by
    rcases hk with ⟨kvs,hk⟩ | ⟨kvs,hk⟩
    ·obtain⟨_,_,_,_,o,_,_,e,ex,_⟩:=I.hok p _ hk
     exact⟨o,e,ex⟩
    ·obtain⟨_,_,_,_,o,_,_,e,ex,_⟩:=I.hok p _ hk
     exact⟨o,e,ex⟩
   obtain⟨o,e,ex⟩:=z
   refine⟨⟨o,e,ex.1⟩,fun a e2=>?_⟩
   cases e2
   exact⟨o,e,ex.2.1⟩
  ·obtain⟨o,_,_,_,e,ex,_⟩:=I.hok p _ hk
   refine⟨⟨o,e,ex.1⟩,fun a e2=>?_⟩
   cases e2
   exact⟨o,e,ex.2.1⟩
 | _=>exact False.elim ty
noncomputable def tBM0 (K:PySem.W.Frag) (T:String) (r:V→List V→Hp→VK→Prop) (to:TE):TE:=fun σ H Q=>to σ H fun x H1=>tyV K T x H1∧r x [] H1 Q
noncomputable def tBM (K:PySem.W.Frag) (T:String) (r:V→List V→Hp→VK→Prop) (to:TE) (t:TA):TE:=fun σ H Q=>to σ H fun x H1=>tyV K T x H1∧t σ H1 fun xs H2=>r x xs H2 Q
variable {o e:Expr} {es:List Expr} {to:TE} {t:TA} {name:Str} {apos cpos:Pos} {T id:String} {r:V→List V→Hp→VK→Prop}
theorem pe_bm0 (pa:PlainAttrs T) (slot:Slot T name id) (hty:typeOf (.builtin id)=pure (.type "method_descriptor")) (hm:MtR X id r) (ho:PE X o to)
 (hbase:attributeBase o name X.env (eval o X.env)=eval o X.env:=by rfl) (hline:(apos.endLine == cpos.line)=true:=by rfl):PE X (.Call (.Attribute o name apos) [] [] cpos) (tBM0 X.K T r to):=by
 intro pins s σ H Q I h
 refine wpAny_Call_method0_late hbase hline (thn (ho pins s σ H _ I h) fun v s1 ⟨x,H1,I1,r1,ty,q1⟩=>?_)
 obtain⟨h1,h2⟩:=tyV_is I1 r1 ty
 exact⟨T,id,pa,slot,hty,h1,h2,Calls.callWith_builtin rfl (PySem.evalArgs_none (hm pins s1 σ H1 x [] v [] Q I1 r1 .nil q1))⟩
theorem pe_bm (pa:PlainAttrs T) (slot:Slot T name id) (hty:typeOf (.builtin id)=pure (.type "method_descriptor")) (hm:MtR X id r) (ho:PE X o to) (ha:PA X (e :: es) t)
 (hbase:attributeBase o name X.env (eval o X.env)=eval o X.env:=by rfl)
 (hfew:((backTo cpos (starEach (e :: es) X.env)).all (fun x=>!x.1) && (backToKw cpos (keywordEach [] X.env)).all (fun x=>x.1.isSome)
  && decide ((e :: es).length+([]:List Keyword).length+(if ([]:List Keyword).isEmpty then 0 else 1)<30))=true:=by rfl)
 (hline:(apos.endLine == cpos.line)=true:=by rfl) (hs:starEach (e :: es) X.env=(false,eval e X.env) :: starEach es X.env:=by rfl) (hplain:(backTo cpos (starEach es X.env)).any (·.1)=false:=by rfl) :
 PE X (.Call (.Attribute o name apos) (e :: es) [] cpos) (tBM X.K T r to t):=by
 intro pins s σ H Q I h
 refine wpAny_Call_method_late hbase hfew hline rfl (thn (ho pins s σ H _ I h) fun v s1 ⟨x,H1,I1,r1,ty,q1⟩=>?_)
 obtain⟨h1,h2⟩:=tyV_is I1 r1 ty
 refine⟨T,id,pa,slot,hty,h1,h2,?_⟩
 have hA:=ha cpos pins s1 σ H1 _ I1 q1
 rw[hs]at hA ⊢
 refine Calls.callWith_builtin (by show (false || (backTo cpos (starEach es X.env)).any (·.1))=false;rw[hplain] <;> rfl) (Calls.evalArgs_plain ?_)
 exact thn hA fun us s2 ⟨vs,H2,I2,r2,q2⟩=>hm pins s2 σ H2 x vs v us Q I2 r1 r2 q2
/- xs.append(e),list.index on a module's tuple .. are MtR facts of 06m -/
end
end L2
namespace L2
open PySem PySem.Spec PyProof.Rows
noncomputable def MtM (X:Cx) (id:String) (r:V→List V→Hp→VK→Prop):Prop :=
 ∀ (pins:List (Addr×Obj)) (s:Shared) (σ:St) (H:Hp) (x:V) (xs:List V) (v:Value) (us:List Value) (Q:VK),Inv X pins σ H s→RelV x v→Vals xs us→r x xs H Q →
  wpAny (model X.prog X.w) X.A (call (.builtin id) (v :: us)) (EP X pins σ Q) X.xe s
theorem Vals.one:∀ {x:V} {us:List Value},Vals [x] us→∃ u,us=[u]∧RelV x u
 | _,_,.cons r .nil=>⟨_,rfl,r⟩
theorem Vals.zero:∀ {us:List Value},Vals [] us→us=[]
 | _,.nil=>rfl
theorem Vals.dropLast {xs:List V} {us:List Value} (h:Vals xs us):Vals xs.dropLast us.dropLast:=by
 induction h with
 | nil=>exact .nil
 | cons r t ih =>
  cases t with
  | nil=>exact .nil
  | cons q t'=>exact .cons r ih
theorem Vals.eraseIdx:∀ {xs:List V} {us:List Value} (i:Nat),Vals xs us→Vals (xs.eraseIdx i) (us.eraseIdx i)
 | _,_,_,.nil=>.nil
 | _,_,0,.cons _ t=>t
 | _,_,i+1,.cons r t=>.cons r (Vals.eraseIdx i t)
theorem Vals.reverse {xs:List V} {us:List Value} (h:Vals xs us):Vals xs.reverse us.reverse:=by
 induction h with
 | nil=>exact .nil
 | cons r t ih=>rw[List.reverse_cons,List.reverse_cons];exact Vals.append ih (.cons r .nil)
theorem erase_last {α:Type} (l:List α):l.eraseIdx (l.length - 1)=l.dropLast:=by
 induction l with
 | nil=>rfl
 | cons a r ih =>
  cases r with
  | nil=>rfl
  | cons b r =>
   have e:(a :: b :: r).length - 1=((b :: r).length - 1)+1:=by
    have h1:(a :: b :: r).length=r.length+2:=rfl
    have h2:(b :: r).length=r.length+1:=rfl
    omega
   rw[e,List.eraseIdx_cons_succ,ih]
   all_goals rfl
section
variable {X:Cx} {pins:List (Addr×Obj)} {σ:St} {H:Hp} {s:Shared} {l b:Addr} {xs ys zs:List V}
theorem Inv.lset {its its':List Value} {n:Nat} {f:Array Value→Array Value} {t':Nat} (I:Inv X pins σ H s) (hH:H l=some (.lst xs))
 (e:s.heap.get? l=some { cls:=.type "list",data:=.seq its.toArray n }) (hf:f its.toArray=its'.toArray) (hv:Vals ys its') (hz:ys.length≤sizeLine) :
 Inv X pins σ (upd H l (.lst ys)) { s with heap:=s.heap.update l (Obj.mapSeq f),toks:=t' }:=by
 have q:=PySem.IsL.update e f
 rw[hf]at q
 refine I.write (x:=l) (e:=l) (by rw[hH];exact trivial) (.inl rfl) (fun b' u hb hu=>(Heap.get?_update_other s.heap (Obj.mapSeq f) (Ne.symm hb)).trans hu) ⟨_,q⟩ ?_
 exact⟨hz,its',_,hv,q⟩
theorem Inv.lnew {its:List Value} {t':Nat} (I:Inv X pins σ H s) (hv:Vals ys its) (hz:ys.length≤sizeLine) :
 Inv X pins σ (upd H s.heap.objs.size (.lst ys)) { s with heap:=s.heap.push { cls:=.type "list",data:=.seq its.toArray },toks:=t' } :=
 I.laid (fun _ _ q=>Heap.get?_push_of_some _ q) (Nat.le_refl _) ⟨hz,its,0,hv,Heap.get?_push_size _ rfl⟩
theorem Inv.fresh (I:Inv X pins σ H s):H s.heap.objs.size=none:=I.hok.fresh (Nat.le_refl _)
theorem Inv.lstM (I:Inv X pins σ H s) (hH:H l=some (.lst xs)):xs.length≤sizeLine∧∃ (its:List Value) (n:Nat),Vals xs its∧xs.length=its.length∧s.heap.get? l=some { cls:=.type "list",data:=.seq its.toArray n }:=by
 obtain⟨z,its,n,r,e⟩:=I.hok l _ hH
 exact⟨z,its,n,r,r.length,e⟩
end
section
variable {X:Cx}
noncomputable def rAppend:V→List V→Hp→VK→Prop:=fun x vs H Q=>∃ l xs y,x=.ref l∧vs=[y]∧H l=some (.lst xs)∧xs.length<sizeLine∧Q .non (upd H l (.lst (xs++[y])))
theorem mt_append:MtM X "list.append" rAppend:=by
 intro pins s σ H x vs v us Q I rx rv h
 obtain⟨l,xs,y,rfl,rfl,hH,hz,q⟩:=h
 cases rx
 obtain⟨u,rfl,ru⟩:=rv.one
 obtain⟨z,its,n,r,hl,e⟩:=I.lstM hH
 refine call_meets F.slot_list_append ⟨_,e,rfl⟩ F.entry_list_append (F.args_list_append_2 _ _) (PySem.list_append l its.toArray n u (by rw[List.size_toArray];omega)) ⟨e,?_⟩
 refine⟨.non,_,I.lset (its':=its++[u]) hH e (by simp) (r.append (.cons ru .nil)) ?_,rfl,q⟩
 rw[List.length_append,List.length_singleton]
 omega
noncomputable def rPop:V→List V→Hp→VK→Prop:=fun x vs H Q=>∃ l xs y,x=.ref l∧vs=[]∧H l=some (.lst xs)∧xs[xs.length - 1]?=some y∧Q y (upd H l (.lst xs.dropLast))
theorem mt_pop:MtM X "list.pop" rPop:=by
 intro pins s σ H x vs v us Q I rx rv h
 obtain⟨l,xs,y,rfl,rfl,hH,hy,q⟩:=h
 cases rx
 have hus:=rv.zero
 subst hus
 obtain⟨z,its,n,r,hl,e⟩:=I.lstM hH
 obtain⟨u,hu,ru⟩:=r.get hy
 have hy':its.toArray[its.toArray.size - 1]?=some u:=by
  show its.toArray[its.length - 1]?=some u
  rw[← Array.getElem?_toList,← hl]
  exact hu
 refine call_meets F.slot_list_pop ⟨_,e,rfl⟩ F.entry_list_pop (F.args_list_pop_1 _) (MeetsSeq.list_pop_last l its.toArray n u hy' (by rw[List.size_toArray];omega)) ⟨e,?_⟩
 refine⟨y,_,I.lset (its':=its.dropLast) hH e ?_ r.dropLast ?_,ru,q⟩
 ·show its.toArray.eraseIdxIfInBounds (its.toArray.size - 1)=its.dropLast.toArray
  rw[List.size_toArray,List.eraseIdxIfInBounds_toArray,erase_last]
 ·rw[List.length_dropLast]
  omega
noncomputable def rCat:R2:=fun x y H Q=>∃ l b xs zs,x=.ref l∧y=.ref b∧H l=some (.lst xs)∧H b=some (.lst zs)∧xs.length+zs.length≤sizeLine∧∀ p,H p=none→Q (.ref p) (upd H p (.lst (xs++zs)))
theorem op_cat:OpR X (binaryOp .Add) rCat:=by
 intro pins s σ H x y v u Q I rx ry h
 obtain⟨l,b,xs,zs,rfl,rfl,hH,hB,hz,q⟩:=h
 cases rx
 cases ry
 obtain⟨z,its,n,r,hl,e⟩:=I.lstM hH
 obtain⟨z2,its2,n2,r2,hl2,e2⟩:=I.lstM hB
 refine PySem.P.add_list e e2 ?_ (by rw[List.size_toArray,List.size_toArray];omega)
 have ea:its.toArray++its2.toArray=(its++its2).toArray:=by simp
 rw[ea]
 exact⟨.ref _,_,I.lnew (t':=s.toks) (r.append r2) (by rw[List.length_append];omega),rfl,q _ I.fresh⟩
end
section
variable {prog:Program} {w:World} {A:Around} {E:Value→Shared→Prop} {s:Shared}
end
section
variable {X:Cx}
end
end L2
namespace Att
open PySem PySem.W PySem.Calls PyProof.Rows
theorem ints_of_wellAll {P:Params} {h:Heap}:∀ (ns:List Int) (vs:List Value),WellAll P h vs (ns.map WData.int)→IntsAre vs ns:=by
 intro ns
 induction ns with
 | nil =>
  intro vs w
  rw[List.map_nil]at w
  cases w
  exact .nil
 | cons n ns ih =>
  intro vs w
  rw[List.map_cons]at w
  cases w with
  | cons a b =>
   cases a
   exact .cons _ _ (ih _ b)
theorem script_of {l:OpenLaw} {n:Nat} (hn:l.most=some n) {P:Params} {h:Heap} {args:List WData} {vals:List Value}
 (hpre:l.row.toRowW.claim.pre args=true) (hwl:WellAll P h vals args) :
 ∃ a vs ns,vals=[Value.ref a]∧args=[WData.list (ns.map WData.int)]∧h.get? a=some { cls:=.type "list",data:=.seq vs.toArray }∧IntsAre vs ns∧ns.length≤n:=by
 have hsh:WShape.hasAll [] args [.list .int]=true:=(pre_splitW hpre).1
 have hc:l.pre.holds [] { args:=args }=true:=(pre_splitW hpre).2
 obtain⟨d,r,rfl,h1,h2⟩:=hasAllW_cons hsh
 obtain rfl:=hasAllW_nil h2
 obtain⟨xs,rfl,h3⟩:=hasW_list h1
 obtain⟨ns,rfl⟩:=items_int h3
 have hlen:ns.length≤n:=by
  unfold OpenLaw.pre at hc
  have h4:(WTm.not (.lt (.lit (.int (n:Int))) (.len (.arg 0)))).holds [] { args:=[.list (ns.map .int)] }=true:=by
   have h4:=(holds_andW hc).1
   rw[hn]at h4
   exact h4
  have h5:=condW_of h4 (w_not (w_lt w_lit (w_len_list (w_arg rfl))))
  rw[List.length_map]at h5
  refine Nat.le_of_not_lt fun q=>?_
  have q':(n:Int)<((ns.length:Nat):Int):=by omega
  first
   | (rw[decide_eq_true q']at h5;exact absurd h5 (by decide))
   | (simp at h5;omega)
 cases hwl with
 | cons w1 w2 =>
  cases w2
  cases w1 with
  | list ho hall=>exact⟨_,_,ns,rfl,rfl,ho,ints_of_wellAll ns _ hall,hlen⟩
theorem post_true (l:OpenLaw) (args:List WData):l.row.toRowW.claim.post args (.bool true) args=true :=
 postW_of (r:=l.row.toRowW) (X:=(true == true))
  (show WShape.has [] (.bool true) .bool=true by first | rfl | decide | simp[WShape.has,WShape.arms,WShape.armsAll])
  (show (WTm.eq .res (.lit (.bool true))).value [] { args:=args,res:=some (.bool true),after:=args }=some (.bool (true == true)) from w_eq_bool (w_res rfl) w_lit) rfl
theorem attach_call {l:OpenLaw} {n:Nat} {q:Program} {loose:List Str} {XP:(Str→Option Value)→Heap→Prop} {YP:World→Heap→Prop} {d:DefRec}
 (hn:l.most=some n) (hdf:d.params.defaults=[])
 (call:∀ (w:World) (s₀ s₁:Shared) (mg mb:Str→Option Value) (fa:Addr) (o:Obj) (pm cd doc:Value) (a:Addr) (vs:List Value) (ns:List Int),
  Ground q loose [] XP w s₀ mg mb s₁.heap→YP w s₁.heap →
  s₁.heap.get? fa=some o→o.data=.func (docDef d.name d.params d.body d.scope pm cd doc)→s₁.heap.CodeRec cd d.name→mg d.name=some (.ref fa) →
  s₁.heap.get? a=some { cls:=.type "list",data:=.seq vs.toArray }→IntsAre vs ns→ns.length≤n→s₁.gens=#[] →
  codeAny (model l.prog w) callerA (.call (.ref fa) ⟨[.ref a],[]⟩) (fun r s'=>r=.ok (.ret (.bool true))∧OldK s₁.heap s'.heap∧s'.os=s₁.os∧AllBare s'.gens) s₁) :
 WalkO q loose XP YP l.row.toRowW d [] (fun f vs=>PySem.call f vs):=by
 intro w s₀ s₁ mg mb G Y fa o pm cd doc dV kV ho hd hcd hD hmg hg args vals as hpre hlay hrd hwl hlo
 obtain rfl:dV=.none:=Dflts.none hD hdf
 obtain rfl:kV=.none:=Dflts.noKw hD
 obtain⟨a,vs,ns,rfl,rfl,hobj,hints,hlen⟩:=script_of hn hpre hwl
 refine enter_call (codeAny_mono (call w s₀ s₁ mg mb fa o pm cd doc a vs ns G Y ho (fd_plain hd) hcd hmg hobj hints hlen hg) fun r s' hq=>?_)
 obtain⟨rfl,h2,h3,h4⟩:=hq
 exact⟨.inl ⟨.bool true,.bool true,[],rfl,fun _=>rfl,.bool true,post_true l _,fun _=>⟨List.Pairwise.nil,fun _ hm=>(nomatch hm)⟩⟩,h2,h3,h4⟩
section
variable {prog:Program} {w:World} {A:Around} {E:Value→Shared→Prop} {s:Shared} {K:Frag}
end
end Att
namespace L2
open PySem PySem.Spec PyProof.Rows
theorem vals_ints:∀ {vs:List Value} {ns:List Int},IntsAre vs ns→Vals (ns.map V.int) vs
 | _,_,.nil=>.nil
 | _,_,.cons n t h=>.cons ⟨t,rfl⟩ (vals_ints h)
end L2
namespace L2
open PySem PySem.Spec PyProof.Rows
end L2
namespace L2
open PySem PySem.Spec PyProof.Rows
noncomputable def inClass (s:Stmt) (j:Nat):Stmt:=match s with
 | .ClassDef _ _ _ body _ _ _ _ _ _ _=>body.getD j (.Pass ⟨0,0,0,0⟩)
 | _=>.Pass ⟨0,0,0,0⟩
noncomputable def defArgs (s:Stmt):Arguments:=match s with
 | .FunctionDef _ a _ _ _ _ _ _ _ _=>a
 | _=>{ posonlyargs:=[],args:=[],vararg:=none,kwonlyargs:=[],kw_defaults:=[],kwarg:=none,defaults:=[] }
noncomputable def defBody (s:Stmt):List Stmt:=match s with
 | .FunctionDef _ _ b _ _ _ _ _ _ _=>b
 | _=>[]
noncomputable def defScope (s:Stmt):Scope:=match s with
 | .FunctionDef _ _ _ _ _ _ sc _ _ _=>sc
 | _=>{ kind:=.function,names:=[],isGenerator:=false,isCoroutine:=false }
noncomputable abbrev CX0:CXT:=fun _ _ _ _ _ _=>False
noncomputable abbrev E0:XK:=fun _ _ _=>False
theorem pass0 {X:Cx}:Passes CX0 X E0:=fun _ _ _ _ _ _ _ h=>h.elim
structure Fun (K:PySem.W.Frag) (x qual:Str) (st:Stmt) (f:Addr) (fd:FuncData):Prop where
 ex:∃ (oc:Value) (od:Option Addr) (kV doc pm:Value) (an:Option Addr) (cdv ct:Value) (osl:Array (Option Value)),
  fd=PySem.W.fnOf x qual (defArgs st) (defBody st) (defScope st) .none kV doc pm an cdv ct∧K.lookup f=some ⟨oc,od,.func fd,osl⟩∧PySem.W.codeIn K cdv qual=true
 kp:PySem.W.keepIn K (.ref f)=true
section
variable {P:Program} {w:World} {K:PySem.W.Frag} {mg:Str→Option Value} {base:Heap}
theorem Fun.ok {x qual:Str} {st:Stmt} {f:Addr} {fd:FuncData} {N ps:List Str} {k:Nat} {sp:Sp} (F:Fun K x qual st f fd) (S:FnScope N ps (defScope st)) (len:∀ vs H Q E,sp vs H Q E→vs.length=ps.length)
 (hbody:∀ (cdv:Value) (A:Around) (outer:List Env) (s:Shared) (H:Hp) (vs:List V) (Q:VK) (E:XK),Room k (A.deeper (envOfC qual (defScope st) s.heap.objs.size f cdv))→sp vs H Q E →
  ∃ t,PSs (cxOf CX0 P w K mg base N qual (defScope st) f cdv A outer s H E).nox (defBody st) t∧t { nx:=fun _ H'=>Q .non H',rt:=Q } (start N vs) H):FnOk P w K mg base CX0 (k+1) f fd ps sp:=by
 obtain⟨oc,od,kV,doc,pm,an,cdv,ct,osl,rfl,lk,hcd⟩:=F.ex
 refine fn_of lk hcd S len fun A outer s H vs Q E hr hsp=>?_
 obtain⟨t,h,q⟩:=hbody cdv A outer s H vs Q E hr hsp
 exact⟨t,h.nox,q⟩
theorem Fun.binds {x qual:Str} {st:Stmt} {f:Addr} {fd:FuncData} {ps:List Str} (F:Fun K x qual st f fd)
 (h:∀ (kV doc pm:Value) (an:Option Addr) (cdv ct:Value) (us:List Value),us.length=ps.length→bindArgs (PySem.W.fnOf x qual (defArgs st) (defBody st) (defScope st) .none kV doc pm an cdv ct) ⟨us,[]⟩=pure (ps.zip us)):Binds K fd ps []:=by
 obtain⟨oc,od,kV,doc,pm,an,cdv,ct,osl,rfl,lk,hcd⟩:=F.ex
 exact .all (h kV doc pm an cdv ct)
theorem fun_mk {x qual:Str} {st:Stmt} {f:Addr} {oc:Value} {od an:Option Addr} {osl:Array (Option Value)} {kV doc pm cdv ct:Value} (l:K.lookup f=some ⟨oc,od,.func (PySem.W.fnOf x qual (defArgs st) (defBody st) (defScope st) .none kV doc pm an cdv ct),osl⟩)
 (c:PySem.W.codeIn K cdv qual=true) (k:PySem.W.keepIn K (.ref f)=true):Fun K x qual st f (PySem.W.fnOf x qual (defArgs st) (defBody st) (defScope st) .none kV doc pm an cdv ct):=⟨⟨oc,od,kV,doc,pm,an,cdv,ct,osl,rfl,l,c⟩,k⟩
end
theorem hu_of {A:Around} {k:Nat} (hr:Room k A):A.units+1<cLine:=Nat.lt_of_le_of_lt (Nat.add_le_add_left (by decide:1≤64) _) hr.units
section
variable {X:Cx}
theorem pv (i:Nat) {x:Str} {pos:Pos} (hN:X.N[i]?=some x:=by rfl) (hv:Vis X.env.scope x:=by first | exact Or.inl rfl | exact Or.inr (Or.inl rfl) | exact Or.inr (Or.inr rfl)) (hd:(x == ("__debug__":Str))=false:=by decide)
 (hcd:(x == ("__classdict__":Str))=false:=by decide):PE X (.Name x pos) (tVar i):=pe_var hN hv hd hcd
end
theorem iteF {A B:Prop} (h:B):if false=true then A else B:=by
 rw[if_neg Bool.false_ne_true]
 exact h
theorem iteNS {c A B:Prop} [Decidable c] (hc:c) (h:B):if (!decide c)=true then A else B:=by
 rw[decide_eq_true hc]
 exact iteF h
noncomputable def Same (H H':Hp):Prop:=∀ b o,H b=some o→H' b=some o
theorem Same.refl (H:Hp):Same H H:=fun _ _ h=>h
theorem Same.trans {H H1 H2:Hp} (a:Same H H1) (b:Same H1 H2):Same H H2:=fun c o h=>b c o (a c o h)
theorem Same.free {H H':Hp} (e:Same H H') {l:Addr} (h:H' l=Option.none):H l=Option.none:=by
 cases q:H l with
 | none=>rfl
 | some o =>
  rw[e l o q]at h
  cases h
theorem Same.seq {K:PySem.W.Frag} {H H':Hp} {a:Addr} {xs:List V} (e:Same H H') (h:SqL K H a xs):SqL K H' a xs:=by
 rcases h with (h | ⟨o,h⟩) | h
 ·exact .inl (.inl (e _ _ h))
 ·exact .inl (.inr ⟨o,e _ _ h⟩)
 ·exact .inr h
end L2
namespace L2
open PySem PySem.Spec PyProof.Rows
noncomputable def closL (scope:Scope) (env:Env):List (Str×Addr) :=
 scope.names.foldl (fun acc y=>if y.2 == .free then (match env.cells.lookup y.1 with | some c=>(y.1,c) :: acc | none=>acc)else acc) []
theorem closFor_aux {env:Env}:∀ (names:List (Str×NameKind)) (acc:List (Str×Addr)),(∀ y∈names,y.2=.free→∃ c,env.cells.lookup y.1=some c) →
 (forIn names acc fun(y:Str×NameKind) (r:List (Str×Addr))=>(match y with | (name,kind)=>if (kind == NameKind.free)=true then (do let a ← cellOf env name;pure (ForInStep.yield ((name,a) :: r)))else pure (ForInStep.yield r):Sem (ForInStep (List (Str×Addr))))) =
  pure (names.foldl (fun acc y=>if y.2 == .free then (match env.cells.lookup y.1 with | some c=>(y.1,c) :: acc | none=>acc)else acc) acc)
 | [],acc,_=>rfl
 | (n,k) :: r,acc,h=>by
  rw[List.forIn_cons,List.foldl_cons]
  have ih:=fun acc=>closFor_aux (env:=env) r acc fun y hy=>h y (List.mem_cons_of_mem _ hy)
  by_cases hk:k=.free
  ·subst hk
   obtain⟨c,e⟩:=h (n,.free) List.mem_cons_self rfl
   have e':env.cells.lookup n=some c:=e
   simp only[cellOf,e',beq_self_eq_true,if_true]
   exact ih _
  ·have hb:(k == NameKind.free)=false:=by simpa using hk
   simp only[hb,Bool.false_eq_true,if_false]
   exact ih _
theorem closFor {scope:Scope} {env:Env} (h:∀ y∈scope.names,y.2=.free→∃ c,env.cells.lookup y.1=some c):closureFor scope env=pure (closL scope env):=by
 have e:=closFor_aux (env:=env) scope.names [] h
 unfold closureFor closL
 rw[← e]
 first | rfl | simp
theorem closL_aux {env:Env} {x:Str} {c:Addr}:∀ (names:List (Str×NameKind)) (acc:List (Str×Addr)),(∀ z d,acc.lookup z=some d→env.cells.lookup z=some d) →
 (names.foldl (fun acc y=>if y.2 == .free then (match env.cells.lookup y.1 with | some c=>(y.1,c) :: acc | none=>acc)else acc) acc).lookup x=some c→env.cells.lookup x=some c
 | [],acc,h,e=>h x c e
 | (n,k) :: r,acc,h,e=>by
  rw[List.foldl_cons]at e
  refine closL_aux r _ ?_ e
  intro z d q
  by_cases hk:(k == NameKind.free)=true
  ·simp only[hk,if_true]at q
   cases el:env.cells.lookup n with
   | none=>simp only[el]at q;exact h z d q
   | some a =>
    simp only[el,List.lookup_cons]at q
    by_cases hz:(z == n)=true
    ·simp only[hz]at q
     have:z=n:=by simpa using hz
     subst this
     rw[el];exact q
    ·have hz':(z == n)=false:=by simpa using hz
     simp only[hz']at q
     exact h z d q
  ·simp only[hk,if_false]at q
   exact h z d q
theorem closL_sub {scope:Scope} {env:Env} {x:Str} {c:Addr} (e:(closL scope env).lookup x=some c):env.cells.lookup x=some c:=closL_aux _ _ (fun _ _ q=>by simp at q) e
theorem closL_has_aux {env:Env} {x:Str}:∀ (names:List (Str×NameKind)) (acc:List (Str×Addr)),(∀ y∈names,y.2=.free→∃ c,env.cells.lookup y.1=some c)→((x,NameKind.free)∈names∨(acc.lookup x).isSome=true) →
 ((names.foldl (fun acc y=>if y.2 == .free then (match env.cells.lookup y.1 with | some c=>(y.1,c) :: acc | none=>acc)else acc) acc).lookup x).isSome=true
 | [],acc,_,h=>by
  rcases h with h | h
  ·cases h
  ·exact h
 | (n,k) :: r,acc,hc,h=>by
  rw[List.foldl_cons]
  refine closL_has_aux r _ (fun y hy=>hc y (List.mem_cons_of_mem _ hy)) ?_
  rcases h with h | h
  ·rcases List.mem_cons.mp h with h | h
   ·cases h
    obtain⟨c,e⟩:=hc (x,.free) List.mem_cons_self rfl
    have e':env.cells.lookup x=some c:=e
    right
    simp[e',List.lookup_cons]
   ·exact .inl h
  ·right
   by_cases hk:(k == NameKind.free)=true
   ·simp only[hk,if_true]
    cases el:env.cells.lookup n with
    | none=>exact h
    | some a =>
     simp only[List.lookup_cons]
     by_cases hz:(x == n)=true
     ·simp[hz]
     ·have hz':(x == n)=false:=by simpa using hz
      simp only[hz'];exact h
   ·simp only[hk];exact h
theorem closL_has {scope:Scope} {env:Env} {x:Str} (hc:∀ y∈scope.names,y.2=.free→∃ c,env.cells.lookup y.1=some c) (h:(x,NameKind.free)∈scope.names):∃ c,(closL scope env).lookup x=some c :=
 Option.isSome_iff_exists.mp (closL_has_aux _ _ hc (.inl h))
noncomputable def compOk (sc inn:Scope) (N:List Str) (js:List Nat) (cs:List Str):Bool :=
 (inn.kind == .function) && inn.names.all (fun y=>y.2 != .cell && (y.2 != .local || inn.names.lookup y.1 == some .local) && (y.2 != .free || (sc.names.lookup y.1 == some .cell || sc.names.lookup y.1 == some .free))) &&
 (js.map fun j=>N[j]?) == cs.map some && cs.all (fun x=>inn.names.lookup x == some .free)
structure CompOk (sc inn:Scope) (N:List Str) (js:List Nat) (cs:List Str):Prop where
 kind:inn.kind=.function
 nocell:∀ y∈inn.names,y.2≠.cell
 names:∀ y∈inn.names,y.2=.local→inn.names.lookup y.1=some .local
 frees:∀ y∈inn.names,y.2=.free→sc.names.lookup y.1=some .cell∨sc.names.lookup y.1=some .free
 slots:(js.map fun j=>N[j]?)=cs.map some
 caps:∀ x∈cs,inn.names.lookup x=some .free
theorem CompOk.of {sc inn:Scope} {N:List Str} {js:List Nat} {cs:List Str} (h:compOk sc inn N js cs=true):CompOk sc inn N js cs:=by
 unfold compOk at h
 simp only[Bool.and_eq_true]at h
 obtain⟨⟨⟨h1,h2⟩,h3⟩,h4⟩:=h
 rw[List.all_eq_true]at h2 h4
 refine⟨by simpa using h1,fun y hy=>?_,fun y hy e=>?_,fun y hy e=>?_,by simpa using h3,fun x hx=>by simpa using h4 x hx⟩
 ·have:=h2 y hy
  simp only[Bool.and_eq_true]at this
  simpa using this.1.1
 ·have:=h2 y hy
  simp only[Bool.and_eq_true,e]at this
  simpa using this.1.2
 ·have:=h2 y hy
  simp only[Bool.and_eq_true,e]at this
  simpa using this.2
noncomputable def sIn (nt:Nat) (js:List Nat) (σ:St):St:=List.replicate nt none++js.map fun j=>(σ[j]?).join
noncomputable def cxIn (X:Cx) (inn:Scope) (N':List Str) (s₀:Shared) (H₀:Hp) (ex:List Addr):Cx where
 prog:=X.prog
 w:=X.w
 K:=X.K
 mg:=X.mg
 base:=X.base
 A:=X.A
 N:=N'
 s₀:=s₀
 H₀:=H₀
 env:=compEnvC inn (closL inn X.env) s₀.heap.objs.size X.env
 outer:=X.stack
 stack:=X.stack
 ex:=ex
 fn:=fun _=>false
 calm:=X.calm
 pn:=[]
 xe:=fun _ _=>False
noncomputable def PIf (X:Cx) (ifs:List Expr) (t:TT):Prop :=
 ∀ (pins:List (Addr×Obj)) (s:Shared) (σ:St) (H:Hp) (Q:Bool→Hp→Prop),Inv X pins σ H s→t σ H Q →
  wpAny (model X.prog X.w) X.A (forIn ifs true fun c r=>if r=true then do let ok ← isTrue c X.env (eval c X.env);pure (ForInStep.yield ok)else pure (ForInStep.yield r)) (TP X pins σ Q) X.xe s
noncomputable def tYes:TT:=fun _ H Q=>Q true H
theorem pif_nil {X:Cx}:PIf X [] tYes:=fun _ _ _ H _ I h=>wpAny_tests_nil ⟨H,I,h⟩
theorem pif_one {X:Cx} {c:Expr} {t:TT} (h:PT X c t):PIf X [c] t:=fun pins s σ H Q I hw=>wpAny_tests_one (h pins s σ H Q I hw)
noncomputable def CompR (J:It) (σ0:St) (g:TG) (tt:TT) (te:TE) (Q:VK) (H1:Hp):Prop:=∃ W:Nat→Nat→List V→Hp→Prop,(∃ m,W 0 m [] H1)∧∀ i m ys H,W i m ys H →
 ys.length<sizeLine∧((J.stop i H∧∀ D,H D=none→Q (.ref D) (upd H D (.lst ys))) ∨
  (J.go i H∧∃ N:List V→Hp→Prop,(∀ ys' H',N ys' H'→∃ m',m'<m∧W (i+1) m' ys' H')∧∀ x H',J.yld i H x H'→g x σ0 H' fun σ2 H2=>tt σ2 H2 fun b H3 =>
   if b=true then te σ2 H3 fun y H4=>N (ys++[y]) H4 else N ys H3))
noncomputable def tComp (wi:TI) (nt:Nat) (js:List Nat) (g:TG) (tt:TT) (te:TE):TE:=fun σ H Q=>wi σ H fun J H1=>CompR J (sIn nt js σ) g tt te Q H1
end L2
set_option maxHeartbeats 4000000
namespace L2
open PySem PySem.Spec PyProof.Rows
theorem lookup_relabel_free {env:Env}:∀ {names:List (Str×NameKind)} {x:Str},names.lookup x=some .free →
 (names.map fun(n,k)=>if (k == NameKind.free && env.scope.kind == .function && env.kindOf n == some .cell)then (n,NameKind.cell)else (n,k)).lookup x=some .cell ∨
 (names.map fun(n,k)=>if (k == NameKind.free && env.scope.kind == .function && env.kindOf n == some .cell)then (n,NameKind.cell)else (n,k)).lookup x=some .free
 | [],_,h=>by simp at h
 | (n,k) :: r,x,h=>by
  have ih:=@lookup_relabel_free env r x
  show List.lookup x ((if (k == NameKind.free && env.scope.kind == .function && env.kindOf n == some .cell)=true then (n,NameKind.cell)else (n,k)) :: _)=_∨List.lookup x ((if (k == NameKind.free && env.scope.kind == .function && env.kindOf n == some .cell)=true then (n,NameKind.cell)else (n,k)) :: _)=_
  cases hx:x == n with
  | true =>
   simp only[List.lookup_cons,hx]at h
   cases h
   by_cases hc:(NameKind.free == NameKind.free && env.scope.kind == .function && env.kindOf n == some .cell)=true
   ·left;rw[if_pos hc];simp[List.lookup_cons,hx]
   ·right;rw[if_neg hc];simp[List.lookup_cons,hx]
  | false =>
   simp only[List.lookup_cons,hx]at h
   by_cases hc:(k == NameKind.free && env.scope.kind == .function && env.kindOf n == some .cell)=true
   ·rw[if_pos hc];simp only[List.lookup_cons,hx];exact ih h
   ·rw[if_neg hc];simp only[List.lookup_cons,hx];exact ih h
theorem relabel_cf_mem {env:Env}:∀ {names:List (Str×NameKind)} {x:Str},(∀ y∈names,y.2≠NameKind.cell) →
 ((names.map fun(n,k)=>if (k == NameKind.free && env.scope.kind == .function && env.kindOf n == some .cell)then (n,NameKind.cell)else (n,k)).lookup x=some .cell ∨
 (names.map fun(n,k)=>if (k == NameKind.free && env.scope.kind == .function && env.kindOf n == some .cell)then (n,NameKind.cell)else (n,k)).lookup x=some .free)→(x,NameKind.free)∈names
 | [],_,_,h=>by simp at h
 | (n,k) :: r,x,hn,h=>by
  have ih:=@relabel_cf_mem env r x (fun y hy=>hn y (List.mem_cons_of_mem _ hy))
  have hk:=hn (n,k) List.mem_cons_self
  rw[List.map_cons]at h
  cases hx:x == n with
  | true =>
   have e:x=n:=by simpa using hx
   subst e
   by_cases hc:(k == NameKind.free && env.scope.kind == .function && env.kindOf x == some .cell)=true
   ·have:k=.free:=by simp only[Bool.and_eq_true]at hc;simpa using hc.1.1
    subst this
    exact List.mem_cons_self
   ·simp only[if_neg hc,List.lookup_cons,hx]at h
    rcases h with h | h
    ·cases h;exact absurd rfl hk
    ·cases h;exact List.mem_cons_self
  | false =>
   refine List.mem_cons_of_mem _ (ih ?_)
   by_cases hc:(k == NameKind.free && env.scope.kind == .function && env.kindOf n == some .cell)=true
   ·simp only[if_pos hc,List.lookup_cons,hx]at h;exact h
   ·simp only[if_neg hc,List.lookup_cons,hx]at h;exact h
section
variable {X:Cx} {pins:List (Addr×Obj)} {σ:St} {H H':Hp} {s:Shared} {inn:Scope} {js:List Nat} {cs ts:List Str} {nt:Nat}
theorem sIn_get {i:Nat} {v:V} (h:(sIn nt js σ)[i]?=some (some v)):nt≤i∧∃ j,js[i - nt]?=some j∧σ[j]?=some (some v):=by
 unfold sIn at h
 by_cases hi:i<nt
 ·rw[List.getElem?_append_left (by simpa using hi),List.getElem?_replicate]at h
  split at h <;> cases h
 ·rw[List.getElem?_append_right (by simpa using hi),List.length_replicate,List.getElem?_map]at h
  refine⟨by omega,?_⟩
  cases e:js[i - nt]? with
  | none=>rw[e]at h;cases h
  | some j =>
   rw[e]at h
   have h':(σ[j]?).join=some v:=Option.some.inj h
   refine⟨j,rfl,?_⟩
   cases q:σ[j]? with
   | none=>rw[q]at h';cases h'
   | some o =>
    rw[q]at h'
    have h'':o=some v:=h'
    rw[h'']
theorem in_ok {ex:List Addr} (I:Inv X pins σ H s) (O:CompOk X.env.scope inn X.N js cs) (hex:∀ b∈ex,b<s.heap.objs.size∧b≠X.env.locals∧b∉X.fs∧(∀ x c,X.env.cells.lookup x=some c→c≠b)∧∀ o,X.base.get? b≠some o) :
 (cxIn X inn (ts++cs) s H ex).Ok where
 mod:=I.ok.mod
 kind:=O.kind
 glob:=I.ok.glob
 blt:=I.ok.blt
 above:=Nat.le_refl _
 inj:=fun x y c h1 h2=>I.ok.inj x y c (closL_sub h1) (closL_sub h2)
 has:=fun x hx=>by
  have hm:(x,NameKind.free)∈inn.names:=relabel_cf_mem O.nocell hx
  exact closL_has (fun y hy e=>I.ok.has y.1 (O.frees y hy e)) hm
 cab:=fun _ _ h=>absurd h (by show ¬ (false=true);decide)
 hd:=I.ok.hd
 frames:=I.ok.frames
 stk:=.inl rfl
 exf:=fun b hb=>⟨Nat.ne_of_lt (hex b hb).1,fun x c e=>(hex b hb).2.2.2.1 x c (closL_sub e)⟩
 bs:=I.bs
 bsz:=Nat.le_trans I.ok.bsz I.sz
 noex:=fun b o e hb=>(hex b hb).2.2.2.2 o e
 exfs:=fun b hb hs=>by
  rcases List.mem_cons.mp (I.stkSub b hs)with e | e
  ·exact(hex b hb).2.1 e
  ·exact(hex b hb).2.2.1 e
 funs:=I.stack
 frf:=I.stkFree
theorem in_inv {ex:List Addr} {h':Heap} {tk:Nat} (hts:ts.length=nt) (I:Inv X pins σ H s) (O:CompOk X.env.scope inn X.N js cs) (hex:∀ b∈ex,b<s.heap.objs.size∧b≠X.env.locals∧b∉X.fs∧(∀ x c,X.env.cells.lookup x=some c→c≠b)∧∀ o,X.base.get? b≠some o)
 (hn:∃ m,h'.Ns s.heap.objs.size m) (hk:∀ b o,s.heap.get? b=some o→h'.get? b=some o) :
 Inv (cxIn X inn (ts++cs) s H ex) [] (sIn nt js σ) H { s with heap:=h',toks:=tk }:=by
 have ok:(cxIn X inn (ts++cs) s H ex).Ok:=in_ok I O hex
 obtain⟨m,hn⟩:=hn
 have cellK:∀ c v,s.heap.IsCell c v→h'.IsCell c v:=fun c v ⟨o,ho,hd⟩=>⟨o,hk c o ho,hd⟩
 have hlen:js.length=cs.length:=by have:=congrArg List.length O.slots;simpa using this
 refine⟨ok,rfl,I.bare,Un.kept hk,⟨m,hn,fun i x v e1 e2 e3=>?_⟩,fun x c e=>?_,I.hok.fresh (Nat.le_refl _),fun x c e=>I.freeC x c (closL_sub e),fun p hp=>?_,I.hok.kept hk,?_⟩
 ·obtain⟨hi,j,hj,hv⟩:=sIn_get e2
  have e1':(ts++cs)[i]?=some x:=e1
  rw[List.getElem?_append_right (by omega),hts]at e1'
  have hN:X.N[j]?=some x:=by
   have q:(js.map fun j=>X.N[j]?)[i - nt]?=(cs.map some)[i - nt]?:=by rw[O.slots]
   rw[List.getElem?_map,List.getElem?_map,hj,e1']at q
   exact Option.some.inj q
  have hcap:=O.caps x (List.mem_of_getElem? e1')
  have hmem:(x,NameKind.free)∈inn.names:=PySem.mem_of_lookup hcap
  have hout:=O.frees _ hmem rfl
  obtain⟨mo,hno,hl⟩:=I.loc
  obtain⟨u,r,l⟩:=hl j x v hN hv (.inr hout)
  refine⟨u,r,.inr ?_⟩
  rcases l with ⟨l1,_⟩ | ⟨k,c,ec,z⟩
  ·have l1':X.env.scope.names.lookup x=some .local:=l1
   rcases hout with q | q <;> (rw[q]at l1';cases l1')
  ·refine⟨?_,?_⟩
   ·exact lookup_relabel_free (env:=X.env) hcap
   ·obtain⟨c',ec'⟩:=closL_has (env:=X.env) (fun y hy e=>I.ok.has y.1 (O.frees y hy e)) hmem
    have:=closL_sub ec'
    rw[ec]at this;cases this
    exact⟨c,ec',cellK _ _ z⟩
 ·obtain⟨v,z⟩:=I.cell x c (closL_sub e)
  exact⟨v,cellK _ _ z⟩
 ·exact absurd (show p∈([]:List (Addr×Obj)) from hp) (by simp)
 ·show (sIn nt js σ).length=(ts++cs).length
  unfold sIn
  simp[hts,hlen]
theorem Inv.track {a:Addr} {o:HO} (I:Inv X pins σ H s) (hn:H a=none) (h0:X.s₀.heap.objs.size≤a) (hL:a≠X.env.locals) (hc:∀ x c,X.env.cells.lookup x=some c→c≠a) (hp:∀ p∈X.pn++pins,p.1≠a)
 (new:ObjOk X.prog X.w (upd H a o) s.heap a o):Inv X pins σ (upd H a o) s:=by
 have ne0:∀ b ob,X.s₀.heap.get? b=some ob→b≠a:=fun b ob e=>Nat.ne_of_lt (Nat.lt_of_lt_of_le (Heap.lt_size e) h0)
 have neT:∀ b u,H b=some u→b≠a:=fun b u e=>ne_of_none e hn
 refine⟨I.ok,I.os,I.bare,⟨I.base.keep,I.base.slot,fun b ob e n hx=>?_,I.base.there,fun b xs e=>?_,fun b ob u e=>?_,fun b ps e=>?_⟩,I.loc,I.cell,?_,fun x c e=>?_,fun p hp'=>?_,fun b u e=>?_,I.len⟩
 ·rw[upd_ne (ne0 b ob e)];exact I.base.free b ob e n hx
 ·have q:=I.base.tups b xs e;rw[upd_ne (neT b _ q)];exact q
 ·have q:=I.base.frzs b ob u e;rw[upd_ne (neT b _ q)];exact q
 ·obtain⟨more,q⟩:=I.base.tbls b ps e;exact⟨more,by rw[upd_ne (neT b _ q)];exact q⟩
 ·rw[upd_ne (Ne.symm hL)];exact I.free
 ·rw[upd_ne (hc x c e)];exact I.freeC x c e
 ·obtain⟨q1,q2,q3,q4,q5⟩:=I.pin p hp'
  exact⟨q1,by rw[upd_ne (hp p hp')];exact q2,q3,q4,q5⟩
 ·by_cases hb:b=a
  ·subst hb;rw[upd_same]at e;cases e;exact new
  ·rw[upd_ne hb]at e
   exact(I.hok b u e).stay (fun _ _ _ q=>q) (fun c q=>by rw[upd_ne (neT c _ q)];exact q) fun c xs q=>by rw[upd_ne (neT c _ q)];exact q
end
end L2
namespace L2
open PySem PySem.Spec PyProof.Rows
noncomputable def GK (nt:Nat) (g:TG):Prop:=∀ v σ H Q,g v σ H Q→g v σ H fun σ' H'=>((∀ i,nt≤i→σ'[i]?=σ[i]?)∧σ'.length=σ.length)∧Q σ' H'
noncomputable def GKs (nt:Nat) (g:TGs):Prop:=∀ vs σ H Q,g vs σ H Q→g vs σ H fun σ' H'=>((∀ i,nt≤i→σ'[i]?=σ[i]?)∧σ'.length=σ.length)∧Q σ' H'
theorem kg_name {nt i:Nat} (h:i<nt):GK nt (gName i):=fun v σ H Q q=>⟨⟨fun j hj=>by rw[List.getElem?_set_ne (by omega)],by simp⟩,q⟩
theorem kgs_nil {nt:Nat}:GKs nt gNil:=fun vs σ H Q ⟨e,q⟩=>⟨e,⟨fun _ _=>rfl,rfl⟩,q⟩
theorem kgs_cons {nt i:Nat} {u:TGs} (h:i<nt) (hu:GKs nt u):GKs nt (gCons (gName i) u):=fun vs σ H Q q=>by
 obtain⟨v,r,e,q⟩:=q
 refine⟨v,r,e,?_⟩
 have q':u r (σ.set i (some v)) H Q:=q
 have w:=hu r (σ.set i (some v)) H Q q'
 have e1:∀ j,nt≤j→(σ.set i (some v))[j]?=σ[j]?:=fun j hj=>by rw[List.getElem?_set_ne (by omega)]
 have:(fun(σ':St) (H':Hp)=>((∀ j,nt≤j→σ'[j]?=(σ.set i (some v))[j]?)∧σ'.length=(σ.set i (some v)).length)∧Q σ' H')=fun σ' H'=>((∀ j,nt≤j→σ'[j]?=σ[j]?)∧σ'.length=σ.length)∧Q σ' H':=by
  funext σ' H'
  apply propext
  constructor
  ·rintro ⟨⟨a,b⟩,c⟩
   exact⟨⟨fun j hj=>(a j hj).trans (e1 j hj),by simpa using b⟩,c⟩
  ·rintro ⟨⟨a,b⟩,c⟩
   exact⟨⟨fun j hj=>(a j hj).trans (e1 j hj).symm,by simpa using b⟩,c⟩
 rw[this]at w
 exact w
theorem kg_tup {K:PySem.W.Frag} {nt n:Nat} {t:TGs} (h:GKs nt t):GK nt (gTup K n t):=fun v σ H Q ⟨a,xs,e,hq,hl,q⟩=>⟨a,xs,e,hq,hl,h xs σ H Q q⟩
section
variable {X:Cx} {pins:List (Addr×Obj)} {σ:St} {inn:Scope} {js:List Nat} {cs ts:List Str} {nt:Nat} {elt tg iter:Expr} {ifs:List Expr} {pos:Pos} {g:TG} {tt:TT} {te:TE}
theorem comp_core {J:It} {fp:List Addr} {it:Addr} {tn:Nat→Heap→Prop} {H2:Hp} {s2:Shared} {E:Value→Shared→Prop} {Q:VK} {RR:Value→Addr→Result→Shared→Prop}
 (hcalm:X.calm=true) (O:CompOk X.env.scope inn X.N js cs) (hts:ts.length=nt)
 (hg:∀ s₀ H₀ ex,PG (cxIn X inn (ts++cs) s₀ H₀ ex) tg g) (hk:GK nt g) (ht:∀ s₀ H₀ ex,PIf (cxIn X inn (ts++cs) s₀ H₀ ex) ifs tt) (he:∀ s₀ H₀ ex,PE (cxIn X inn (ts++cs) s₀ H₀ ex) elt te)
 (I2:Inv X pins σ H2 s2) (T:Turn X.prog X.w X.K tg J fp it tn) (st2:tn 0 s2.heap) (f2:∀ b∈fp,FpOk X pins H2 b)
 (R:CompR J (sIn nt js σ) g tt te Q H2)
 (hRR:∀ D C s' H',Inv X pins σ H' s'→(∃ m,s'.heap.Ns C m)→H' C=none→C≠X.env.locals→X.s₀.heap.objs.size≤C→(∀ x c,X.env.cells.lookup x=some c→c≠C)→(∀ p∈X.pn++pins,p.1≠C)→Q (.ref D) H'→RR (.ref D) C (.ok .next) s') :
 wpAny (model X.prog X.w) X.A (newList []) (fun acc s₃=>wpAny (model X.prog X.w) X.A (newFunctionEnv inn X.env.globals (closL inn X.env) [] X.env.qual none .none (some X.env)) (fun cenv s₄ =>
  codeAny (model X.prog X.w) X.A (.compStart (.ListComp elt [⟨tg,iter,ifs,0⟩] inn pos) 0 (.ref it) acc { cenv with scope:=relabel inn X.env }) (RR acc cenv.locals) s₄) E s₃) E s2:=by
 refine wpAny_newObj_type (wpAny_newFunctionEnv O.nocell (by intro y hy;simp at hy) (fun h₁ hns₁ hsb₁=>?_) O.kind)
 dsimp only at hns₁ hsb₁ ⊢
 generalize hD:s2.heap.objs.size=D
 have I3:Inv X pins σ H2 { s2 with heap:=s2.heap.push { cls:=.type "list",dict:=none,data:=.seq ([]:List Value).toArray } }:=I2.kept (t':=s2.toks) fun b o e=>Heap.get?_push_of_some _ e
 generalize hs3:({ s2 with heap:=s2.heap.push { cls:=.type "list",dict:=none,data:=.seq ([]:List Value).toArray } }:Shared)=s3 at I3
 have e3:s3.heap=s2.heap.push { cls:=.type "list",dict:=none,data:=.seq ([]:List Value).toArray }:=by rw[← hs3]
 have hD3:s3.heap.get? D=some { cls:=.type "list",dict:=none,data:=.seq ([]:List Value).toArray }:=by rw[e3,← hD];exact Heap.get?_push_size _ rfl
 have hsz3:s3.heap.objs.size=D+1:=by rw[e3,Heap.size_push,hD]
 have e3':(s2.heap.push { cls:=.type "list",dict:=none,data:=.seq ([]:List Value).toArray })=s3.heap:=e3.symm
 rw[e3']at hns₁ hsb₁ ⊢
 have fH2D:H2 D=none:=I2.hok.fresh (by rw[hD];exact Nat.le_refl _)
 have up:∀ b o,s3.heap.get? b=some o→h₁.get? b=some o:=fun b o e=>hsb₁.extBut b o (Nat.ne_of_lt (Heap.lt_size e)) (Heap.get?_push_of_some _ e)
 have fpo:∀ b∈fp,b<s3.heap.objs.size∧b≠D:=fun b hb=>by
  obtain⟨o,eo,_⟩:=T.obj 0 _ st2 b hb
  have h1:=Heap.lt_size eo
  rw[hD]at h1
  exact⟨by rw[hsz3];exact Nat.lt_succ_of_lt h1,Nat.ne_of_lt h1⟩
 have nb:∀ b,X.s₀.heap.objs.size≤b→∀ o,X.base.get? b≠some o:=fun b hb o e=>absurd (Nat.lt_of_lt_of_le (Heap.lt_size e) (Nat.le_trans I2.ok.bsz hb)) (Nat.lt_irrefl _)
 have dge:s2.heap.objs.size≤D:=by rw[hD];exact Nat.le_refl _
 have fD:FpOk X pins H2 D:=I2.fpOk dge fH2D
 have hex:∀ b∈D :: fp,b<s3.heap.objs.size∧b≠X.env.locals∧b∉X.fs∧(∀ x c,X.env.cells.lookup x=some c→c≠b)∧∀ o,X.base.get? b≠some o:=fun b hb=>by
  rcases List.mem_cons.mp hb with rfl | hb
  ·exact⟨by rw[hsz3];exact Nat.lt_succ_self _,fD.2.1,fD.2.2.1,fD.2.2.2.2.1,nb _ (Nat.le_trans I2.sz dge)⟩
  ·obtain⟨f0,f1,f2',f3,f4,f5⟩:=f2 b hb
   refine⟨(fpo b hb).1,f1,f2',f4,fun o e=>?_⟩
   rcases f3 with z | z
   ·exact I2.ok.noex b o e z
   ·exact nb b z o e
 have hC:s3.heap.objs.size=s3.heap.objs.size:=rfl
 generalize hXi:cxIn X inn (ts++cs) s3 H2 (D :: fp)=Xi
 have I4:Inv Xi [] (sIn nt js σ) H2 { s3 with heap:=h₁,toks:=s3.toks }:=by
  rw[← hXi];exact in_inv hts I3 O hex ⟨_,hns₁⟩ up
 have xp:Xi.prog=X.prog:=by rw[← hXi];rfl
 have xw:Xi.w=X.w:=by rw[← hXi];rfl
 have xK:Xi.K=X.K:=by rw[← hXi];rfl
 have xA:Xi.A=X.A:=by rw[← hXi];rfl
 have xc:Xi.calm=true:=by rw[← hXi];exact hcalm
 have xe:Xi.env=compEnvC inn (closL inn X.env) s3.heap.objs.size X.env:=by rw[← hXi];rfl
 have xx:Xi.xe=fun _ _=>False:=by rw[← hXi];rfl
 have xex:Xi.ex=D :: fp:=by rw[← hXi];rfl
 have xpn:Xi.pn=[]:=by rw[← hXi];rfl
 have xs0:Xi.s₀=s3:=by rw[← hXi];rfl
 have xH0:Xi.H₀=H2:=by rw[← hXi];rfl
 have xfs:Xi.fs=frs X.stack:=by rw[← hXi];rfl
 have hgX:PG Xi tg g:=by rw[← hXi];exact hg _ _ _
 have htX:PIf Xi ifs tt:=by rw[← hXi];exact ht _ _ _
 have heX:PE Xi elt te:=by rw[← hXi];exact he _ _ _
 have okX:=I4.ok
 have xl:Xi.env.locals=s3.heap.objs.size:=by rw[xe];rfl
 have Dl:D≠Xi.env.locals:=by rw[xl,hsz3];exact Nat.ne_of_lt (Nat.lt_succ_self _)
 have stat:∀ {H':Hp} {pl:List (Addr×Obj)},(∀ b∈fp,H' b=none)→(∀ p∈pl,p.1=D)→∀ b∈fp,FpOk Xi pl H' b:=fun {H' pl} hn hpl b hb=>by
  have hbx:b∈Xi.ex:=by rw[xex];exact List.mem_cons_of_mem _ hb
  refine⟨hn b hb,(okX.exf b hbx).1,fun z=>okX.exfs b hbx z,.inl hbx,(okX.exf b hbx).2,fun p hp=>?_⟩
  rw[xpn,List.nil_append]at hp
  rw[hpl p hp]
  exact Ne.symm (fpo b hb).2
 have DX:D∈Xi.ex:=by rw[xex];exact List.mem_cons_self
 obtain⟨W,⟨m0,w0⟩,turn⟩:=R
 have loop:codeAny (model X.prog X.w) X.A (.compLoop (.ListComp elt [⟨tg,iter,ifs,0⟩] inn pos) 0 (.ref it) (.ref D) Xi.env) (RR (.ref D) s3.heap.objs.size) { s3 with heap:=h₁,toks:=s3.toks }:=by
  refine codeAny_loop rfl (fun n s'=>∃ i ys H',Inv Xi [] (sIn nt js σ) H' s'∧tn i s'.heap∧(∀ b∈fp,H' b=none)∧H' D=none∧(∃ (its:List Value) (c:Nat),Vals ys its∧s'.heap.get? D=some { cls:=.type "list",data:=.seq its.toArray c })∧W i n ys H') ?_ m0
   ⟨0,[],H2,I4,?_,fun b hb=>(f2 b hb).1,fH2D,⟨[],0,.nil,up D _ hD3⟩,w0⟩
  ·rintro n s5 ⟨i,ys,H5,I5,st5,fr5,fD5,⟨its,c,rv,eD⟩,w5⟩
   show wpAny _ X.A ((compTurn (.ListComp elt [⟨tg,iter,ifs,0⟩] inn pos) 0 (.ref it) (.ref D) Xi.env).onRaise (fun x=>do noteFrame x Xi.env;theTreesLotGoes x)) _ _ s5
   refine wpAny_noted ?_
   rw[compTurn_list]
   refine wpAny_bind (wpAny_standAt (wpAny_bind ?_))
   have pinD:Inv Xi (pinsAt [D] s5.heap) (sIn nt js σ) H5 s5:=by
    have q:=I5.pinned (fp:=[D]) (fun b hb=>?_) (fun b hb=>?_)
    ·simpa using q
    ·have e:b=D:=by simpa using hb
     subst e
     refine⟨fD5,Dl,fun z=>okX.exfs b DX z,.inl DX,(okX.exf b DX).2,fun p hp=>?_⟩
     rw[xpn,List.nil_append]at hp;cases hp
    ·have e:b=D:=by simpa using hb
     subst e
     exact⟨_,eD,fun v z=>by cases z⟩
   have plD:∀ p∈pinsAt [D] s5.heap,p.1=D:=fun p hp=>by simpa using (of_pinsAt hp).1
   have memD:(D,({ cls:=.type "list",data:=.seq its.toArray c }:Obj))∈pinsAt [D] s5.heap:=mem_pinsAt (by simp) eD
   obtain⟨hz,tn5⟩:=turn i n ys H5 w5
   rcases tn5 with ⟨stop,fin⟩ | ⟨go,N,hN,step⟩
   ·have q:=T.done Xi xp xw xK xc i _ s5 _ H5 (notedBy (model X.prog X.w) X.A Xi.env fun e s'=>RR (.ref D) s3.heap.objs.size (.error e) s') pinD (stat fr5 plD) st5 stop
    rw[xA]at q
    refine wpAny_mono q (fun r s6 ⟨hr,I6⟩=>?_) fun _ _ z=>z
    subst hr
    refine wpAny_pure ?_
    have eD6:=(I6.pin (D,_) (List.mem_append_right _ memD)).1
    have un:Un (frs X.stack) (D :: fp) H2 H5 s3.heap s6.heap:=by
     have z:=I6.base
     rw[xfs,xex,xH0,xs0]at z
     exact z
    have os6:s6.os=s3.os:=by have z:=I6.os;rw[xs0]at z;exact z
    have hok6:HOk X.prog X.w H5 s6.heap:=by have z:=I6.hok;rw[xp,xw]at z;exact z
    have I7:Inv X pins σ H5 s6:=I3.call' os6 un hok6 I6.bare fun b hb=>by
     rcases List.mem_cons.mp hb with e | hb
     ·rw[e];exact⟨.inr (Nat.le_trans I2.sz dge),fD.2.1,fD.2.2.2.2.1,fD.2.2.2.2.2⟩
     ·obtain⟨f0,f1,f2',f3,f4,f5⟩:=f2 b hb
      exact⟨f3,f1,f4,f5⟩
    have I8:Inv X pins σ (upd H5 D (.lst ys)) s6:=I7.track fD5 (Nat.le_trans I2.sz dge) fD.2.1 fD.2.2.2.2.1 fD.2.2.2.2.2 ⟨Nat.le_of_lt hz,its,c,rv,eD6⟩
    have Cge:s3.heap.objs.size≤s3.heap.objs.size:=Nat.le_refl _
    have fC:FpOk X pins (upd H5 D (.lst ys)) s3.heap.objs.size:=I3.fpOk Cge (by
     rw[upd_ne (by rw[← xl];exact Ne.symm Dl)]
     have z:=I6.free
     rw[xl]at z;exact z)
    obtain⟨mm,hmm,_⟩:=I6.loc
    rw[xl]at hmm
    exact hRR D _ s6 _ I8 ⟨mm,hmm⟩ fC.1 fC.2.1 (Nat.le_trans I3.sz Cge) fC.2.2.2.2.1 fC.2.2.2.2.2 (fin D fD5)
   ·have q:=T.item Xi xp xw xK xc i _ s5 _ H5 (notedBy (model X.prog X.w) X.A Xi.env fun e s'=>RR (.ref D) s3.heap.objs.size (.error e) s') pinD (stat fr5 plD) st5 go
    rw[xA]at q
    refine wpAny_mono q (fun r s6 ⟨u,hr,h6⟩=>?_) fun _ _ z=>z
    subst hr
    refine wpAny_bind (wpAny_mono h6 (fun _ s7 ⟨x,H7,I7,r7,y7,st7,fr7⟩=>?_) fun _ _ z=>z)
    have I7':=I7.pinned (fp:=fp) (fun b hb=>stat fr7 plD b hb) (T.obj _ _ st7)
    have q8:=hgX _ s7 _ H7 x u _ I7' r7 (hk x _ H7 _ (step x H7 y7))
    rw[xp,xw,xA,xx]at q8
    refine wpAny_bind (wpAny_mono q8 (fun _ s8 ⟨σ8,H8,I8,⟨k8,l8⟩,q8⟩=>?_) fun _ _ z=>z.elim)
    have q9:=htX _ s8 σ8 H8 _ I8 q8
    rw[xp,xw,xA,xx]at q9
    refine wpAny_bind (wpAny_mono q9 (fun ok s9 ⟨H9,I9,q9⟩=>?_) fun _ _ z=>z.elim)
    have keepσ:∀ (j:Nat) v,(sIn nt js σ)[j]?=some (some v)→σ8[j]?=some (some v):=fun j v e=>by
     have hj:=(sIn_get e).1
     rw[k8 j hj];exact e
    have ends:∀ {H9:Hp} {s9:Shared} {ys':List V},Inv Xi (pinsAt [D] s5.heap++pinsAt fp s7.heap) σ8 H9 s9→∀ {h':Heap} {its':List Value} {c':Nat},(∀ b o,b≠D→s9.heap.get? b=some o→h'.get? b=some o)→Vals ys' its'→h'.get? D=some { cls:=.type "list",data:=.seq its'.toArray c' }→N ys' H9 →
     ∀ tk,∃ m,m<n∧∃ i ys H',Inv Xi [] (sIn nt js σ) H' { s9 with heap:=h',toks:=tk }∧tn i h'∧(∀ b∈fp,H' b=none)∧H' D=none∧(∃ (its:List Value) (c:Nat),Vals ys its∧h'.get? D=some { cls:=.type "list",data:=.seq its.toArray c })∧W i m ys H':=fun {H9 s9 ys'} I9 {h' its' c'} kp rv' eD' n9 tk=>by
     obtain⟨m',hm,w9⟩:=hN ys' H9 n9
     have fD9:H9 D=none:=(I9.pin (D,_) (List.mem_append_right _ (List.mem_append_left _ memD))).2.1
     have fr9:∀ b∈fp,H9 b=none:=fun b hb=>by
      obtain⟨o,e,d⟩:=T.obj _ _ st7 b hb
      exact(I9.pin (b,o) (List.mem_append_right _ (List.mem_append_right _ (mem_pinsAt hb e)))).2.1
     have I10:Inv Xi [] σ8 H9 s9:=I9.pins_of fun p hp=>by cases hp
     have I11:Inv Xi [] σ8 H9 { s9 with heap:=h',toks:=tk }:=I10.turned (it:=D) kp fD9 Dl (.inl DX) (okX.exf D DX).2 (fun p hp=>by rw[xpn]at hp;cases hp)
     refine⟨m',hm,i+1,ys',H9,I11.weak l8.symm keepσ,T.keep _ _ _ st7 fun b hb o e=>kp b o (fpo b hb).2 (I9.pin (b,o) (List.mem_append_right _ (List.mem_append_right _ (mem_pinsAt hb e)))).1,fr9,fD9,⟨its',c',rv',eD'⟩,w9⟩
    cases ok with
    | false =>
     rw[if_neg Bool.false_ne_true]at q9
     have eD9:=(I9.pin (D,_) (List.mem_append_right _ (List.mem_append_left _ memD))).1
     exact wpAny_pure ⟨rfl,ends I9 (h':=s9.heap) (fun _ _ _ e=>e) rv eD9 q9 s9.toks⟩
    | true =>
     rw[if_pos rfl]at q9
     have q10:=heX _ s9 σ8 H9 _ I9 q9
     rw[xp,xw,xA,xx]at q10
     refine wpAny_bind (wpAny_bind (wpAny_mono q10 (fun v s10 ⟨y,H10,I10,r10,q10⟩=>?_) fun _ _ z=>z.elim))
     have eD10:=(I10.pin (D,_) (List.mem_append_right _ (List.mem_append_left _ memD))).1
     have hlen:=rv.length
     refine wpAny_bind (wpAny_list_append_plain (items:=its.toArray) ⟨c,eD10⟩ (fun h' hl hs=>wpAny_pure (wpAny_pure ⟨rfl,?_⟩)) (by rw[List.size_toArray];omega))
     obtain⟨c',e'⟩:=hl
     have e'':h'.get? D=some { cls:=.type "list",data:=.seq (its++[v]).toArray c' }:=by rw[e'];simp
     exact ends I10 (h':=h') (fun b o hb e=>hs.extBut b o hb e) (rv.append (.cons r10 .nil)) e'' q10 s10.toks
  ·exact T.keep 0 _ _ st2 fun b hb o e=>up b o (by rw[e3];exact Heap.get?_push_of_some _ e)
 have e4:({ s2 with heap:=h₁,toks:=s2.toks+([]:List (Str×Value)).length }:Shared)={ s3 with heap:=h₁,toks:=s3.toks }:=by rw[← hs3];rfl
 rw[e4]
 show codeAny _ _ (.compStart (.ListComp elt [⟨tg,iter,ifs,0⟩] inn pos) 0 (.ref it) (.ref D) (compEnvC inn (closL inn X.env) s3.heap.objs.size X.env)) (RR (.ref D) s3.heap.objs.size) _
 rw[← xe]
 refine codeAny_compStart_list loop ?_
 refine T.self X.A 0 _ _ _ ?_ loop
 exact T.keep 0 _ _ st2 fun b hb o e=>up b o (by rw[e3];exact Heap.get?_push_of_some _ e)
end
end L2
namespace L2
open PySem PySem.Spec PyProof.Rows
section
variable {X:Cx} {inn:Scope} {js:List Nat} {cs ts:List Str} {nt:Nat} {elt tg iter:Expr} {ifs:List Expr} {pos:Pos} {g:TG} {tt:TT} {te:TE} {wi:TI}
theorem pe_comp (ts cs:List Str) (js:List Nat) (hcalm:X.calm=true) (O:CompOk X.env.scope inn X.N js cs) (hi:PI X tg iter wi)
 (hg:∀ s₀ H₀ ex,PG (cxIn X inn (ts++cs) s₀ H₀ ex) tg g) (hk:GK ts.length g) (ht:∀ s₀ H₀ ex,PIf (cxIn X inn (ts++cs) s₀ H₀ ex) ifs tt) (he:∀ s₀ H₀ ex,PE (cxIn X inn (ts++cs) s₀ H₀ ex) elt te)
 (hs:∀ x,foldedSetIterable iter X.env x=pure x:=by intro _;rfl):PE X (.ListComp elt [⟨tg,iter,ifs,0⟩] inn pos) (tComp wi ts.length js g tt te):=by
 intro pins s σ H Q I h
 rw[eval_ListComp]
 refine wpAny_comprehension_free (use:=none) rfl hs (closFor fun y hy e=>I.ok.has y.1 (O.frees y hy e)) O.kind O.names (thn (hi pins s σ H _ I h) fun xv s1 h1=>thn h1 fun itv s2 h2=>?_)
 obtain⟨it,fp,tn,J,H2,e,I2,T,st2,f2,R⟩:=h2
 subst e
 refine comp_core (Q:=Q) (RR:=fun acc C=>compPost (model X.prog X.w) X.A X.xe none (EP X pins σ Q) acc C) hcalm O rfl hg hk ht he I2 T st2 f2 R ?_
 intro D C s' H' I' ⟨m,hm⟩ c1 c2 c3 c4 c5 q
 refine⟨m,hm,fun h' hsb=>?_⟩
 exact⟨.ref D,H',I'.turned (it:=C) (t':=s'.toks) (fun b o hb e=>hsb.extBut b o hb e) c1 c2 (.inr c3) c4 c5,rfl,q⟩
theorem ps_setc {i:Nat} {x:Str} {pos' spos:Pos} (ts cs:List Str) (js:List Nat) (hcalm:X.calm=true) (hN:X.N.Nodup) (hi':X.N[i]?=some x) (hx:X.env.scope.names.lookup x=some .local) (O:CompOk X.env.scope inn X.N js cs) (hi:PI X tg iter wi)
 (hg:∀ s₀ H₀ ex,PG (cxIn X inn (ts++cs) s₀ H₀ ex) tg g) (hk:GK ts.length g) (ht:∀ s₀ H₀ ex,PIf (cxIn X inn (ts++cs) s₀ H₀ ex) ifs tt) (he:∀ s₀ H₀ ex,PE (cxIn X inn (ts++cs) s₀ H₀ ex) elt te)
 (hsw:swapsWith (.ListComp elt [⟨tg,iter,ifs,0⟩] inn pos) (some (.Name x pos')) spos.line X.env=pure true) (hs:∀ x,foldedSetIterable iter X.env x=pure x:=by intro _;rfl) :
 PS X (.Assign [.Name x pos'] (.ListComp elt [⟨tg,iter,ifs,0⟩] inn pos) spos) (tAsg (tComp wi ts.length js g tt te) (gName i)):=by
 intro pins s σ H D I h
 rw[exec_Assign_Name_used _ _ _ _ hsw]
 refine wpAny_bind (wpAny_standAt (wpAny_bind ?_))
 show wpAny _ X.A (do let _ ← comprehension (.ListComp elt [⟨tg,iter,ifs,0⟩] inn pos) inn X.env _ (newList []) false (eval iter X.env) (some (assign (.Name x pos') X.env))) _ _ s
 refine wpAny_bind (wpAny_mono (wpAny_comprehension_free (use:=some (assign (.Name x pos') X.env)) (Q:=fun _ s'=>SP X pins D .next s') rfl hs (closFor fun y hy e=>I.ok.has y.1 (O.frees y hy e)) O.kind O.names
  (thn (hi pins s σ H _ I h) fun xv s1 h1=>thn h1 fun itv s2 h2=>?_)) (fun _ s' hq=>wpAny_pure (wpAny_pure hq)) fun _ _ e=>e)
 obtain⟨it,fp,tn,J,H2,e,I2,T,st2,f2,R⟩:=h2
 subst e
 refine comp_core (Q:=fun v H'=>D.nx (σ.set i (some v)) H') (RR:=fun acc C=>compPost (model X.prog X.w) X.A X.xe (some (assign (.Name x pos') X.env)) (fun _ s'=>SP X pins D .next s') acc C) hcalm O rfl hg hk ht he I2 T st2 f2 R ?_
 intro D' C s' H' I' ⟨m,hm⟩ c1 c2 c3 c4 c5 q
 show wpAny _ X.A (assign (.Name x pos') X.env (.ref D')) _ _ _
 refine wpAny_assign_Name (store_ok2 (v:=.ref D') I' hN hi' (.inl hx) rfl (fun s2 I2 ⟨a,hsb,ha⟩=>?_) (.inr hx))
 have hCa:C≠a:=by
  rcases ha with e | e
  ·rw[e];exact c2
  ·exact fun z=>c4 _ _ e z.symm
 refine⟨m,hm.sameBut hsb hCa,fun h' hsb'=>?_⟩
 exact⟨_,H',I2.turned (it:=C) (t':=s2.toks) (fun b o hb e=>hsb'.extBut b o hb e) c1 c2 (.inr c3) c4 c5,q⟩
end
theorem comp_list {K:PySem.W.Frag} {a:Addr} {xs:List V} {σ0:St} {g:TG} {tt:TT} {te:TE} {H:Hp} {Q:VK} (Pv:Nat→List V→Hp→Prop) (h0:Pv 0 [] H) (hl:∀ i ys H,i≤xs.length→Pv i ys H→SqL K H a xs∧ys.length<sizeLine)
 (hs:∀ i x ys H,xs[i]?=some x→Pv i ys H→g x σ0 H fun σ2 H2=>tt σ2 H2 fun b H3=>if b=true then te σ2 H3 fun y H4=>Pv (i+1) (ys++[y]) H4 else Pv (i+1) ys H3) (hd:∀ ys H,Pv xs.length ys H→∀ D,H D=none→Q (.ref D) (upd H D (.lst ys))) :
 CompR (Itl K a) σ0 g tt te Q H:=by
 refine⟨fun i m ys H=>m=xs.length - i∧i≤xs.length∧Pv i ys H,⟨xs.length,by simp,Nat.zero_le _,h0⟩,?_⟩
 rintro i m ys H ⟨rfl,hi,p⟩
 obtain⟨q,hz⟩:=hl i ys H hi p
 refine⟨hz,?_⟩
 by_cases hlt:i<xs.length
 ·refine .inr ⟨⟨xs,xs[i],q,by simp[hlt]⟩,Pv (i+1),fun ys' H' p'=>⟨xs.length - (i+1),by omega,rfl,hlt,p'⟩,fun x H' y=>?_⟩
  obtain⟨e,y⟩:=y
  subst e
  exact hs i x ys _ (y xs q) p
 ·have e:i=xs.length:=by omega
  subst e
  exact .inl ⟨⟨xs,q,Nat.le_refl _⟩,hd ys H p⟩
theorem comp_range {lo:Int} {n:Nat} {σ0:St} {g:TG} {tt:TT} {te:TE} {H:Hp} {Q:VK} (Pv:Nat→List V→Hp→Prop) (h0:Pv 0 [] H) (hl:∀ i ys H,i≤n→Pv i ys H→ys.length<sizeLine)
 (hs:∀ i ys H,i<n→Pv i ys H→g (.int (lo+i)) σ0 H fun σ2 H2=>tt σ2 H2 fun b H3=>if b=true then te σ2 H3 fun y H4=>Pv (i+1) (ys++[y]) H4 else Pv (i+1) ys H3) (hd:∀ ys H,Pv n ys H→∀ D,H D=none→Q (.ref D) (upd H D (.lst ys))) :
 CompR (Itr lo n) σ0 g tt te Q H:=by
 refine⟨fun i m ys H=>m=n - i∧i≤n∧Pv i ys H,⟨n,by simp,Nat.zero_le _,h0⟩,?_⟩
 rintro i m ys H ⟨rfl,hi,p⟩
 refine⟨hl i ys H hi p,?_⟩
 by_cases hlt:i<n
 ·refine .inr ⟨hlt,Pv (i+1),fun ys' H' p'=>⟨n - (i+1),by omega,rfl,hlt,p'⟩,fun x H' y=>?_⟩
  obtain⟨e,y⟩:=y
  subst e y
  exact hs i ys _ hlt p
 ·have e:i=n:=by omega
  subst e
  exact .inl ⟨Nat.le_refl _,hd ys H p⟩
end L2
namespace L2
open PySem PySem.Spec PyProof.Rows
mutual
inductive Den (H:Hp):V→PyData→Prop
 | non:Den H .non .none
 | bl (b:Bool):Den H (.bl b) (.bool b)
 | int (i:Int):Den H (.int i) (.int i)
 | str (x:Str):Den H (.str x) (.str x)
 | lst {a:Addr} {vs:List V} {ds:List PyData}:H a=some (.lst vs)→Dens H vs ds→Den H (.ref a) (.list ds)
 | tup {a:Addr} {vs:List V} {ds:List PyData}:H a=some (.tup vs)→Dens H vs ds→Den H (.ref a) (.tuple ds)
inductive Dens (H:Hp):List V→List PyData→Prop
 | nil:Dens H [] []
 | cons {v:V} {d:PyData} {vs:List V} {ds:List PyData}:Den H v d→Dens H vs ds→Dens H (v :: vs) (d :: ds)
end
theorem Dens.length:∀ {H:Hp} {vs:List V} {ds:List PyData},Dens H vs ds→vs.length=ds.length
 | _,_,_,.nil=>rfl
 | _,_,_,.cons _ t=>congrArg Nat.succ (Dens.length t)
theorem Dens.append:∀ {H:Hp} {vs us:List V} {ds es:List PyData},Dens H vs ds→Dens H us es→Dens H (vs++us) (ds++es)
 | _,_,_,_,_,.nil,s=>s
 | _,_,_,_,_,.cons r t,s=>.cons r (Dens.append t s)
mutual
theorem Den.mono {H H':Hp} (e:Same H H'):∀ {v:V} {d:PyData},Den H v d→Den H' v d
 | _,_,.non=>.non
 | _,_,.bl b=>.bl b
 | _,_,.int i=>.int i
 | _,_,.str x=>.str x
 | _,_,.lst h t=>.lst (e _ _ h) (Dens.mono e t)
 | _,_,.tup h t=>.tup (e _ _ h) (Dens.mono e t)
theorem Dens.mono {H H':Hp} (e:Same H H'):∀ {vs:List V} {ds:List PyData},Dens H vs ds→Dens H' vs ds
 | _,_,.nil=>.nil
 | _,_,.cons r t=>.cons (Den.mono e r) (Dens.mono e t)
end
theorem Dens.ints {H:Hp}:∀ ns:List Int,Dens H (ns.map V.int) (ns.map PyData.int)
 | []=>.nil
 | n :: r=>.cons (.int n) (Dens.ints r)
theorem Den.ints {H:Hp} {a:Addr} {ns:List Int} (h:H a=some (.lst (ns.map V.int))):Den H (.ref a) (.list (ns.map PyData.int)):=.lst h (Dens.ints ns)
theorem Same.upd {H:Hp} {a:Addr} {o:HO} (h:H a=none):Same H (upd H a o):=fun b u e=>by rw[upd_ne (ne_of_none e h)];exact e
theorem Same.upd' {H H0:Hp} {a:Addr} {o:HO} (h:H0 a=none) (s:Same H0 H):Same H0 (L2.upd H a o):=fun b u e=>by rw[upd_ne (ne_of_none e h)];exact s b u e
section
variable {P:Program} {w:World} {H:Hp} {h:Heap}
mutual
theorem Den.reads (ok:HOk P w H h):∀ {v:V} {d:PyData} {u:Value},Den H v d→RelV v u→∃ as,Reads h u d as
 | _,_,_,.non,r=>by cases r;exact⟨_,.none⟩
 | _,_,_,.bl b,r=>by cases r;exact⟨_,.bool b⟩
 | _,_,_,.int i,r=>by obtain⟨t,rfl⟩:=r;exact⟨_,.int i t⟩
 | _,_,_,.str x,r=>by obtain⟨t,rfl⟩:=r;exact⟨_,.str x t⟩
 | _,_,_,.lst (a:=a) e t,r=>by
  cases r
  obtain⟨_,its,n,rv,ho⟩:=ok a _ e
  obtain⟨as,q⟩:=Dens.reads ok t rv
  exact⟨_,.list ho rfl rfl (by simpa using q)⟩
 | _,_,_,.tup (a:=a) e t,r=>by
  cases r
  obtain⟨_,its,rv,o,ho,hc,n,hd⟩:=ok a _ e
  obtain⟨as,q⟩:=Dens.reads ok t rv
  exact⟨_,.tuple ho hc hd (by simpa using q)⟩
theorem Dens.reads (ok:HOk P w H h):∀ {vs:List V} {ds:List PyData} {us:List Value},Dens H vs ds→Vals vs us→∃ as,ReadsAll h us ds as
 | _,_,_,.nil,.nil=>⟨_,.nil⟩
 | _,_,_,.cons r t,.cons q s=>by
  obtain⟨a,x⟩:=Den.reads ok r q
  obtain⟨b,y⟩:=Dens.reads ok t s
  exact⟨_,.cons x y⟩
end
end
noncomputable def rEqD:R2:=fun x y H Q=>∃ d e,Den H x d∧Den H y e∧SeqAt.shaped d=true∧SeqAt.shaped e=true∧Q (.bl (PyData.eqv d e)) H
noncomputable def rNeD:R2:=fun x y H Q=>∃ d e,Den H x d∧Den H y e∧SeqAt.shaped d=true∧SeqAt.shaped e=true∧Q (.bl (!PyData.eqv d e)) H
section
variable {X:Cx}
theorem op_eqD (hu:X.A.units+64<cLine):OpR X (compareOp .Eq) rEqD:=by
 intro pins s σ H x y v u Q I rx ry h
 obtain⟨d,e,hd,he,sd,se,q⟩:=h
 obtain⟨as,r1⟩:=hd.reads I.hok rx
 obtain⟨bs,r2⟩:=he.reads I.hok ry
 exact eq_dataH r1 r2 sd se hu ⟨.bl _,H,I,rfl,q⟩
theorem op_neD (hu:X.A.units+64<cLine):OpR X (compareOp .NotEq) rNeD:=by
 intro pins s σ H x y v u Q I rx ry h
 obtain⟨d,e,hd,he,sd,se,q⟩:=h
 obtain⟨as,r1⟩:=hd.reads I.hok rx
 obtain⟨bs,r2⟩:=he.reads I.hok ry
 exact ne_dataH r1 r2 sd se hu ⟨.bl _,H,I,rfl,q⟩
noncomputable def tyD:PyData→String
 | .none=>"NoneType" | .bool _=>"bool" | .int _=>"int" | .str _=>"str" | .list _=>"list" | .tuple _=>"tuple" | .dict _=>"dict"
theorem Den.ty {K:PySem.W.Frag} {H:Hp} {v:V} {d:PyData} (h:Den H v d):TyOf K H v (.type (tyD d)):=by
 cases h with
 | non=>exact .non
 | bl b=>exact .bl b
 | int i=>exact .int i
 | str x=>exact .str x
 | lst e _=>exact .lst e
 | tup e _=>exact .tup e
theorem call_all (hc:X.calm=true):CallR X (.builtin "all") (fun xs H Q=>∃ (p:Addr) (bs:List Bool),xs=[.ref p]∧H p=some (.lst (bs.map V.bl))∧Q (.bl (bs.all id)) H):=by
 intro pins s σ H xs us Q I r h
 obtain⟨p,bs,rfl,hp,q⟩:=h
 obtain⟨u,rfl,rx⟩:=vals1 r
 cases rx
 obtain⟨its,rv,pl,hz⟩:=I.list (SqL.of hp)
 have hl:=pl.isList
 have hlt:p<s.heap.objs.size:=by obtain⟨_,e,_⟩:=hl;exact Heap.lt_size e
 have hlen:bs.length=its.length:=by have:=rv.length;simpa using this
 refine call_all_walk (wpAny_pyIter_list hl ?_)
 refine⟨s.heap.objs.size,[s.heap.objs.size,p],[s.heap.objs.size],its.toArray.size,_,_,fun i=>(bs[i]?).getD true,rfl,Walks.list (A:=X.A.in1) (I.ok.hd hc) _ p (Nat.ne_of_lt hlt) its.toArray,
  ⟨⟨_,Heap.get?_push_size _ rfl,rfl,rfl⟩,hl.push _⟩,fun i v s' Q' E' hP hQ=>?_,fun h' tk hk=>?_⟩
 ·have hv:its[i]?=some v:=by simpa using hP
  have hi:i<its.length:=(List.getElem?_eq_some_iff.mp hv).1
  have hb:(bs.map V.bl)[i]?=some (V.bl (bs[i]'(by omega))):=by simp[hlen,hi]
  obtain⟨u,eu,ru⟩:=rv.get hb
  rw[hv]at eu
  cases eu
  cases ru
  have e:(bs[i]?).getD true=bs[i]'(by omega):=by simp[show i<bs.length by omega]
  have hQ':Q' ((bs[i]?).getD true) s':=hQ
  rw[e]at hQ'
  exact wpAny_truthy_bool hQ'
 ·have e:((List.range its.toArray.size).all fun i=>(bs[i]?).getD true)=bs.all id:=by
   rw[List.size_toArray,← hlen];exact LSm.range_all bs
  rw[e]
  have kp:∀ b x,s.heap.get? b=some x→h'.get? b=some x:=LSm.kept_iter hk
  exact⟨.bl _,H,I.kept kp,rfl,q⟩
end
end L2
namespace L2
open PySem PySem.Spec PyProof.Rows
theorem boot_list:bootBuiltins "list"=some (.type "list"):=by decide +kernel
theorem boot_int:bootBuiltins "int"=some (.type "int"):=by decide +kernel
theorem boot_all:bootBuiltins "all"=some (.builtin "all"):=by decide +kernel
theorem boot_sorted:bootBuiltins "sorted"=some (.builtin "sorted"):=by decide +kernel
theorem boot_max:bootBuiltins "max"=some (.builtin "max"):=by decide +kernel
theorem boot_min:bootBuiltins "min"=some (.builtin "min"):=by decide +kernel
theorem boot_set:bootBuiltins "set"=some (.type "set"):=by decide +kernel
structure Bt (mg:Str→Option Value):Prop where
 len:mg "len"=none
 range:mg "range"=none
 list:mg "list"=none
 tuple:mg "tuple"=none
 bool:mg "bool"=none
 str:mg "str"=none
 int:mg "int"=none
 isinstance:mg "isinstance"=none
 all:mg "all"=none
 sorted:mg "sorted"=none
 max:mg "max"=none
 min:mg "min"=none
 set:mg "set"=none
 reversed:mg "reversed"=none
 sum:mg "sum"=none
 enumerate:mg "enumerate"=none
 zip:mg "zip"=none
 any:mg "any"=none
 abs:mg "abs"=none
noncomputable def FnAt (P:Program) (w:World) (K:PySem.W.Frag) (mg:Str→Option Value) (base:Heap) (x:Str) (k:Nat) (ps:List Str) (sp:Sp):Prop :=
 ∃ f fd,FnOk P w K mg base CX0 k f fd ps sp∧mg x=some (.ref f)∧PySem.W.keepIn K (.ref f)=true∧Binds K fd ps []
section
variable {X:Cx} {x:Str} {j k:Nat} {ps:List Str} {sp:Sp} {t:TA} {e:Expr} {es:List Expr} {p pos:Pos}
theorem pe_fn (F:FnAt X.prog X.w X.K X.mg X.base x j ps sp) (hr:Room k X.A) (hg:Gl X x) (ha:PA X (e :: es) t) (hj:j≤k:=by decide) (hdb:(x == ("__debug__":Str))=false:=by decide)
 (he:starEach (e :: es) X.env=(false,eval e X.env) :: starEach es X.env:=by rfl) (hpl:(backTo pos (starEach es X.env)).any (·.1)=false:=by rfl) :
 PE X (.Call (.Name x p) (e :: es) [] pos) (tCall sp [] E0 t):=by
 obtain⟨f,fd,G,hm,hk,hb⟩:=F
 exact pe_call (hdb:=hdb) (he:=he) (hpl:=hpl) G (hr.mono hj) hg hm hk hb .nil pass0 ha
theorem op_eqI:OpR X (compareOp .Eq) (rI0 fun i j=>.bl (decide (i=j))):=opB0 fun i j _ _ _ _ _ q=>eq_int (by
 have e:(i == j)=decide (i=j):=by rw[Bool.eq_iff_iff];simp
 rw[e];exact q)
end
noncomputable def tCut (t u:TS):TS:=fun D σ H=>∃ M:St→Hp→Prop,t { D with nx:=M } σ H∧∀ σ' H',M σ' H'→u D σ' H'
theorem pss_cut {X:Cx} {st:Stmt} {rest:List Stmt} {t u:TS} (h1:PS X st t) (h2:PSs X rest u):PSs X (st :: rest) (tCut t u):=by
 intro pins s σ H D I h
 obtain⟨M,h,hM⟩:=h
 refine wpAny_execs_cons (thn (h1 pins s σ H { D with nx:=M } I h) fun f s1 q=>?_)
 cases f with
 | next =>
  obtain⟨σ',H',I',q⟩:=q
  exact h2 pins s1 σ' H' D I' (hM σ' H' q)
 | ret v=>exact q
 | brk=>exact q
 | cont=>exact q
noncomputable def tCutE (t:TE):TE:=fun σ H Q=>∃ R:VK,t σ H R∧∀ v H',R v H'→Q v H'
theorem pe_cut {X:Cx} {e:Expr} {t:TE} (h:PE X e t):PE X e (tCutE t):=by
 intro pins s σ H Q I hw
 obtain⟨R,hw,hR⟩:=hw
 exact thn (h pins s σ H R I hw) fun u s1 ⟨v,H1,I1,r1,q1⟩=>⟨v,H1,I1,r1,hR v H1 q1⟩
theorem iteD {c:Prop} [Decidable c] {A B:Prop} (h1:c→A) (h2:¬ c→B):if decide c=true then A else B:=by
 by_cases h:c
 ·rw[decide_eq_true h,if_pos rfl];exact h1 h
 ·rw[decide_eq_false h,if_neg Bool.false_ne_true];exact h2 h
theorem iteDT {c:Prop} [Decidable c] {A B:Prop} (hc:c) (h1:A):if decide c=true then A else B:=by
 rw[decide_eq_true hc,if_pos rfl];exact h1
theorem iteDF {c:Prop} [Decidable c] {A B:Prop} (hc:¬ c) (h1:B):if decide c=true then A else B:=by
 rw[decide_eq_false hc,if_neg Bool.false_ne_true];exact h1
section
variable {X:Cx} (K:PySem.W.Frag)
theorem ix_listK (h:X.K=K):IxR X (rIxL K):=h ▸ ix_list
theorem call_len_seqK (h:X.K=K):CallR X (.builtin "len") (fun xs H Q=>∃ p ys,xs=[.ref p]∧(SqL K H p ys∨SqT K H p ys)∧Q (.int ys.length) H):=h ▸ call_len_seq
theorem pg_tupK {es:List Expr} {k:Nat} {t:TGs} {n:Nat} {pos:Pos} (h:X.K=K) (hc:X.calm=true) (hs:PGs X es t) (hn:(assignEach es X.env).length=n:=by rfl) (hst:(assignEach es X.env).findIdx? (·.1)=none:=by rfl):PG X (.Tuple es k pos) (gTup K n t):=h ▸ pg_tup hc hs hn hst
end
end L2
namespace CW
noncomputable def goM (c:Int):List Int→Nat→Int→List Int
 | [],h,n=>(List.range h).map (fun(k:Nat)=>n+(k:Int))
 | p :: r,h,n=>(List.range (min h (p - n).toNat)).map (fun(k:Nat)=>n+(k:Int)) ++
  (if ((h - min h (p - n).toNat:Nat):Int)<c then goM c r (h - min h (p - n).toNat+1) (p+1)else p :: goM c r (h - min h (p - n).toNat) (p+1))
noncomputable def walkM (row:List Int) (c:Int):List Int:=goM c row 0 0
theorem range_map_succ (k:Nat) (n:Int):(List.range (k+1)).map (fun(j:Nat)=>n+(j:Int))=n :: (List.range k).map (fun(j:Nat)=>(n+1)+(j:Int)):=by
 rw[List.range_succ_eq_map,List.map_cons,List.map_map]
 congr 1
 ·simp
 ·apply List.map_congr_left
  intro j _
  simp only[Function.comp]
  omega
theorem goM_hit {c:Int} {p:Int} {r:List Int} {h:Nat} {n:Int} (hh:h=0∨p≤n):goM c (p :: r) h n=if (h:Int)<c then goM c r (h+1) (p+1)else p :: goM c r h (p+1):=by
 have e:min h (p - n).toNat=0:=by omega
 simp only[goM,e,List.range_zero,List.map_nil,List.nil_append,Nat.sub_zero]
theorem goM_gap {c:Int} {p:Int} {r:List Int} {h:Nat} {n:Int} (hp:n<p):goM c (p :: r) (h+1) n=n :: goM c (p :: r) h (n+1):=by
 have e:min (h+1) (p - n).toNat=min h (p - (n+1)).toNat+1:=by omega
 have e2:h+1 - (min h (p - (n+1)).toNat+1)=h - min h (p - (n+1)).toNat:=by omega
 rw[goM,goM,e,e2,range_map_succ]
 simp
theorem goM_nil_succ (c:Int) (h:Nat) (n:Int):goM c [] (h+1) n=n :: goM c [] h (n+1):=by
 simp only[goM]
 exact range_map_succ h n
theorem goM_zero {c:Int} {row:List Int} {n m:Int}:goM c row 0 n=goM c row 0 m:=by
 cases row with
 | nil=>rfl
 | cons p r=>rw[goM_hit (.inl rfl),goM_hit (.inl rfl)]
noncomputable def RowP (r:List Int):Prop:=r.Pairwise (·<·)
end CW
namespace CW
noncomputable def stp (c:Int) (l:Nat) (x:Bool):Nat×Bool :=
 if x then (if (l:Int)<c then (l+1,false)else (l,true))else (if 0<l then (l - 1,true)else (0,false))
noncomputable def run (c:Int):Nat→List Bool→Nat×List Bool
 | l,[]=>(l,[])
 | l,x :: xs=>((run c (stp c l x).1 xs).1,(stp c l x).2 :: (run c (stp c l x).1 xs).2)
end CW
namespace CW
open PySem L2
theorem at_mem {ns:List Int} {i:Int} (h0:0≤i) (h1:i<ns.length):∃ n,n∈ns∧ns[i.toNat]?=some n∧atI (ns.map V.int) i=some (.int n):=by
 have hj:i.toNat<ns.length:=by omega
 refine⟨ns[i.toNat],List.getElem_mem hj,by simp[hj],?_⟩
 have q:atI (ns.map V.int) ((i.toNat:Nat):Int)=some (.int ns[i.toNat]):=atI_nat (by simp[hj])
 rw[Int.toNat_of_nonneg h0]at q
 exact q
theorem line_of {n:Nat} (h:n≤10000):n<sizeLine:=Nat.lt_of_le_of_lt h (by decide)
theorem line_le {n:Nat} (h:n≤10000):n≤sizeLine:=Nat.le_of_lt (line_of h)
noncomputable def Nums (ns:List Int):Prop:=∀ n∈ns,0≤n∧n<9967
theorem cutV_ints (ns:List Int) (lo hi:Option Int):∃ ms:List Int,cutV (ns.map V.int) lo hi=ms.map V.int∧ms.length≤ns.length∧∀ n∈ms,n∈ns:=by
 refine⟨(ns.drop (HT.sIx ns.length 0 lo)).take (HT.sIx ns.length ns.length hi - HT.sIx ns.length 0 lo),?_,?_,?_⟩
 ·unfold cutV
  simp only[List.length_map,List.map_take,List.map_drop]
 ·simp only[List.length_take,List.length_drop];omega
 ·intro n hn
  exact List.mem_of_mem_drop (List.mem_of_mem_take hn)
theorem cut_to (ns:List Int) (k:Nat) (h:k≤ns.length):cutV (ns.map V.int) none (some (k:Int))=(ns.take k).map V.int:=by
 unfold cutV
 rw[HT.sIx_none,HT.sIx_nat,List.length_map,List.drop_zero,Nat.sub_zero,Nat.min_eq_left h,List.map_take]
theorem cut_from (ns:List Int) (k:Nat) (h:k≤ns.length):cutV (ns.map V.int) (some (k:Int)) none=(ns.drop k).map V.int:=by
 unfold cutV
 rw[HT.sIx_none,HT.sIx_nat,List.length_map,Nat.min_eq_left h,← List.map_drop,← List.map_take,List.take_of_length_le (by simp)]
noncomputable def sd1 (seed z:Int):Int:=(seed * 40014+z % 999983+29) % 2147483563
noncomputable def sd2 (seed:Int) (ys:List Int):Int:=(seed * seed+52774 * seed+13 * ((List.map V.int ys).length:Int)+7) % 2147483629
noncomputable def rs1 (z:Int):Int:=z - 10 ^ (18:Int).toNat
inductive spNumbers (K:PySem.W.Frag) (vs:List V) (H:Hp) (Q:VK) (E_:XK):Prop
 | mk (a:Addr) (script:List Int) (m:Nat) (h0_:vs=[.ref a,.int m]) (h1_:SqL K H a (script.map V.int)) (h2_:script.length≤63) (h3_:m≤1000) (h4_:∀ (l:Addr) (ns:List Int) (H':Hp),ns.length=m→Nums ns→H l=none→Same H H'→H' l=some (.lst (ns.map V.int))→Q (.ref l) H'):spNumbers K vs H Q E_
noncomputable def Row (r:List Int):Prop:=r.Pairwise (·<·)
theorem Row.lt {r:List Int} (h:Row r) {i j:Nat} {x y:Int} (hij:i<j) (hx:r[i]?=some x) (hy:r[j]?=some y):x<y:=by
 obtain⟨h1,rfl⟩:=List.getElem?_eq_some_iff.mp hx
 obtain⟨h2,rfl⟩:=List.getElem?_eq_some_iff.mp hy
 exact List.pairwise_iff_getElem.mp h i j h1 h2 hij
noncomputable def RetL (H:Hp) (Q:VK) (ns:List Int):Prop:=∀ (l:Addr) (H':Hp),H l=none→Same H H'→H' l=some (.lst (ns.map V.int))→Q (.ref l) H'
inductive spLook (vs:List V) (H:Hp) (Q:VK) (E_:XK):Prop
 | mk (a:Addr) (row:List Int) (h0_:vs=[.ref a]) (h1_:H a=some (.lst (row.map V.int))) (h2_:Row row) (h3_:row.length≤60) (h4_:Q .non H):spLook vs H Q E_
structure Cn (mg:Str→Option Value) (tC:Tok):Prop where
 MOST_STONES:mg "MOST_STONES"=some (.int 60 tC)
theorem snoc_map {l:List Int} {i:Nat} {z:Int} (f:Int→Int) (h:l[i]?=some z):((l.take i).map f).map V.int++[V.int (f z)]=((l.take (i+1)).map f).map V.int:=by
 rw[List.take_succ,h]
 simp
theorem int_at {l:List Int} {i:Nat} {x:V} (h:(l.map V.int)[i]?=some x):∃ z,x=.int z∧l[i]?=some z:=by
 rw[List.getElem?_map]at h
 cases e:l[i]? with
 | none=>rw[e]at h;cases h
 | some z=>rw[e]at h;exact⟨z,(Option.some.inj h).symm,rfl⟩
theorem take_len {α:Type} (l:List α) (i:Nat) (h:i≤60) (f:α→Int):((((l.take i).map f).map V.int)).length<sizeLine:=by
 simp only[List.length_map,List.length_take]
 exact line_of (by omega)
noncomputable def PairAt (H:Hp) (v:V) (p:Int×Int):Prop:=∃ t,v=.ref t∧H t=some (.tup [.int p.1,.int p.2])
noncomputable abbrev Prs (H:Hp):List V→List (Int×Int)→Prop:=Paired (PairAt H)
noncomputable def TupS (H H':Hp):Prop:=∀ t xs,H t=some (.tup xs)→H' t=some (.tup xs)
theorem Prs.mono {H H':Hp} (h:TupS H H') {vs:List V} {ps:List (Int×Int)} (r:Prs H vs ps):Prs H' vs ps:=Paired.mapP r fun _ _ ⟨t,e,q⟩=>⟨t,e,h _ _ q⟩
theorem TupS.new {H:Hp} {a:Addr} {o:HO} (h:H a=none):TupS H (upd H a o):=fun t xs e=>by rw[upd_ne (ne_of_none e h)];exact e
theorem TupS.lst {H:Hp} {a:Addr} {xs ys:List V} (h:H a=some (.lst xs)):TupS H (upd H a (.lst ys)):=fun t zs e=>by rw[upd_ne (ne_of e h (by intro z;cases z))];exact e
theorem TupS.same {H H':Hp} (h:Same H H'):TupS H H':=fun t xs e=>h _ _ e
theorem TupS.trans {H H1 H2:Hp} (a:TupS H H1) (b:TupS H1 H2):TupS H H2:=fun t xs e=>b _ _ (a _ _ e)
theorem Paired.append' {α β:Type} {F:α→β→Prop}:∀ {l₁ m₁:List α} {l₂ m₂:List β},Paired F l₁ l₂→Paired F m₁ m₂→Paired F (l₁++m₁) (l₂++m₂)
 | _,_,_,_,.nil,s=>s
 | _,_,_,_,.cons r t,s=>.cons r (Paired.append' t s)
noncomputable def stepR (ps:List (Int×Int)) (x:Int):List (Int×Int) :=
 match ps.getLast? with
 | some p=>if p.2=x - 1 then ps.dropLast++[(p.1,x)]else ps++[(x,x)]
 | none=>[(x,x)]
noncomputable def runsM (row:List Int):List (Int×Int):=row.foldl stepR []
noncomputable def RetP (H:Hp) (Q:VK) (ps:List (Int×Int)):Prop:=∀ (l:Addr) (vs:List V) (H':Hp),H l=none→Same H H'→H' l=some (.lst vs)→Prs H' vs ps→Q (.ref l) H'
theorem canLay_ints (ns:List Int):PyData.canLayAll0 (ns.map PyData.int)=true:=by
 induction ns with
 | nil=>rfl
 | cons p r ih=>simp[PyData.canLayAll0,PyData.canLay0,ih]
theorem depth_ints (ns:List Int):PyData.depthAll (ns.map PyData.int)=0:=by
 induction ns with
 | nil=>simp[PyData.depthAll]
 | cons p r ih=>simp[PyData.depthAll,PyData.depth,ih]
theorem shaped_ints (ns:List Int):SeqAt.shaped (.list (ns.map PyData.int))=true:=by
 simp[SeqAt.shaped,PyData.canLay0,canLay_ints,PyData.depth,depth_ints]
inductive spRow (vs:List V) (H:Hp) (Q:VK) (E_:XK):Prop
 | mk (a:Addr) (ns:List Int) (m:Nat) (h0_:vs=[.ref a,.int m]) (h1_:H a=some (.lst (ns.map V.int))) (h2_:Nums ns) (h3_:m+3≤ns.length) (h4_:m≤60) (h5_:∀ row,Row row→row.length≤m→(∀ x∈row,-15≤x∧x≤800)→RetL H Q row):spRow vs H Q E_
theorem row_snoc {r:List Int} {x:Int} (h:Row r) (hx:∀ y∈r,y<x):Row (r++[x]):=by
 unfold Row
 rw[List.pairwise_append]
 exact⟨h,List.pairwise_singleton _ _,fun a ha b hb=>by rw[List.mem_singleton.mp hb];exact hx a ha⟩
mutual
noncomputable def sml:PyData→Bool
 | .list xs=>decide (xs.length≤5000) && smlAll xs
 | .tuple xs=>decide (xs.length≤5000) && smlAll xs
 | .dict _=>false
 | .none=>true
 | .bool _=>true
 | .int _=>true
 | .str _=>true
noncomputable def smlAll:List PyData→Bool
 | []=>true
 | x :: xs=>sml x && smlAll xs
end
theorem eqv_self {d:PyData} (h:SeqAt.shaped d=true):PyData.eqv d d=true:=SeqAt.eqv_refl d (SeqAt.canLay_of_shaped h)
end CW
namespace CW
end CW
namespace CW
open PySem L2
theorem paired_get {α β:Type} {F:α→β→Prop}:∀ {l₁:List α} {l₂:List β} {i:Nat} {x:α},Paired F l₁ l₂→l₁[i]?=some x→∃ y,l₂[i]?=some y∧F x y
 | _,_,_,_,.nil,e=>by simp at e
 | _,_,0,_,.cons r _,e=>by simp at e;subst e;exact⟨_,rfl,r⟩
 | _,_,i+1,x,.cons _ t,e=>by
  obtain⟨y,h1,h2⟩:=paired_get (i:=i) (x:=x) t (by simpa using e)
  exact⟨y,by simpa using h1,h2⟩
end CW
namespace L2
open PySem PySem.Spec PyProof.Rows
noncomputable abbrev two (b:Int) (t:Tok) (c:Nat):Obj:={ cls:=.type "list",dict:=none,data:=.seq #[.int b t,.int b t] c,slots:=#[] }
theorem ints_get:∀ {its:List Value} {ns:List Int} {i:Nat} {n:Int},IntsAre its ns→ns[i]?=some n→∃ t,its[i]?=some (.int n t)
 | _,_,_,_,.nil,e=>by simp at e
 | _,_,0,_,.cons n t _,e=>by simp at e;subst e;exact⟨t,rfl⟩
 | _,_,i+1,n,.cons _ _ r,e=>by
  obtain⟨t,h⟩:=ints_get (i:=i) (n:=n) r (by simpa using e)
  exact⟨t,by simpa using h⟩
section
variable {prog:Program} {w:World} {A:Around} {R:Result→Shared→Prop} {l it S:Addr} {its:List Value} {ns:List Int} {d:Value}
theorem mx_loop (hh:A.handled=none) (hI:IntsAre its ns) (hlt:l≠it) (hiS:it≠S) (hlS:l≠S) :
 ∀ (k i:Nat) (s:Shared) (b:Int) (t:Tok) (c:Nat),ns.length - i=k→i≤ns.length→s.heap.IsListIter it l i→s.heap.IsList l its.toArray→s.heap.get? S=some (two b t c) →
  (∀ h' tk t',(∀ x o,x≠it→x≠S→s.heap.get? x=some o→h'.get? x=some o)→R (.ok (.ret (.int ((ns.drop i).foldl max b) t'))) { s with heap:=h',toks:=tk }) →
  codeAny (model prog w) A (.builtin "max.loop" ⟨[.ref it,.none,.ref S],[(Str.ofString "default",d)]⟩) R s:=by
 have nm:(toString "max"++toString ".loop":String)="max.loop":=by decide
 intro k
 induction k with
 | zero =>
  intro i s b t c hk hi st hl hS hR
  have e:i=ns.length:=by omega
  refine codeAny_builtin PySem.F.entry_max_loop (by
   rw[Around.under_plainId PySem.F.plain_max_loop _]
   show wpAny _ A.in1 (seqItems? (Value.ref S) >>= _) _ _ s
   refine wpAny_bind (wpAny_seqItems hS rfl ?_)
   show wpAny _ A.in1 (tryCatch (pyNext (Value.ref it)) _ >>= _) _ _ s
   refine wpAny_bind (wpAny_tryCatch (wpAny_pyNext_list_end hh st hl (by have:=hI.length;simp;omega) fun h' eb=>?_))
   have hS':=eb S _ (Ne.symm hiS) hS
   show wpAny _ A.in1 (updateSeq S (fun _=>#[]) >>= _) _ _ { s with heap:=h' }
   refine wpAny_bind (wpAny_updateSeq hS' rfl (wpAny_bind (wpAny_letGo (wpAny_pure ?_))))
   have q:=hR (h'.update S (Obj.mapSeq fun _=>#[])) s.toks t (fun x o h1 h2 e=>(Heap.get?_update_other _ _ (Ne.symm h2)).trans (eb x o h1 e))
   rw[e,List.drop_length]at q
   exact q)
 | succ k ih =>
  intro i s b t c hk hi st hl hS hR
  have hi':i<ns.length:=by omega
  obtain⟨u,hu⟩:=ints_get (i:=i) (n:=ns[i]) hI (by simp[hi'])
  have hdr:ns.drop i=ns[i] :: ns.drop (i+1):=List.drop_eq_getElem_cons hi'
  refine codeAny_builtin PySem.F.entry_max_loop (by
   rw[Around.under_plainId PySem.F.plain_max_loop _]
   show wpAny _ A.in1 (seqItems? (Value.ref S) >>= _) _ _ s
   refine wpAny_bind (wpAny_seqItems hS rfl ?_)
   show wpAny _ A.in1 (tryCatch (pyNext (Value.ref it)) _ >>= _) _ _ s
   refine wpAny_bind (wpAny_tryCatch (wpAny_pyNext_list_item st hl (x:=.int ns[i] u) (by simpa using hu) fun h' st' sb=>?_))
   have hS':=sb.extBut S _ (Ne.symm hiS) hS
   have hl':=hl.extBut sb.extBut hlt
   show wpAny _ A.in1 (tryCatch (holding [.int ns[i] u,.int ns[i] u] (richCompare .Gt (.int ns[i] u) (.int b t) >>= _)) _ >>= _) _ _ { s with heap:=h' }
   refine wpAny_bind (wpAny_tryCatch (wpAny_holding (wpAny_bind (gt_int (s:={ s with heap:=h' }) ?_))))
   refine wpAny_bind (wpAny_holding (wpAny_truthy_bool (wpAny_bind (wpAny_letGo (wpAny_pure ?_)))))
   by_cases hb:b<ns[i]
   ·have hd:decide (b<ns[i])=true:=decide_eq_true hb
    simp only[hd,if_true]
    refine wpAny_bind (wpAny_updateSeq hS' rfl (wpAny_bind (wpAny_letGo ?_)))
    rw[nm]
    obtain⟨c',e1⟩:∃ c',(h'.update S (Obj.mapSeq fun _=>#[Value.int ns[i] u,Value.int ns[i] u])).get? S=some (two ns[i] u c'):=⟨_,Heap.get?_update_self _ hS' rfl⟩
    refine wpAny_pure ⟨plainId_quiet PySem.F.plain_max_loop _,ih (i+1) { s with heap:=h'.update S (Obj.mapSeq fun _=>#[Value.int ns[i] u,Value.int ns[i] u]) } ns[i] u _ (by omega) hi' (st'.at fun o e=>(Heap.get?_update_other _ _ (Ne.symm hiS)).trans e) (hl'.at fun o e=>(Heap.get?_update_other _ _ (Ne.symm hlS)).trans e) e1 fun h'' tk t' kp=>?_⟩
    have q:=hR h'' tk t' (fun x o h1 h2 e=>kp x o h1 h2 ((Heap.get?_update_other _ _ (Ne.symm h2)).trans (sb.extBut x o h1 e)))
    rw[hdr,List.foldl_cons,show max b ns[i]=ns[i]by omega]at q
    exact q
   ·have hd:decide (b<ns[i])=false:=decide_eq_false hb
    simp only[hd,Bool.false_eq_true,if_false]
    refine wpAny_bind (wpAny_letGo ?_)
    rw[nm]
    refine wpAny_pure ⟨plainId_quiet PySem.F.plain_max_loop _,ih (i+1) { s with heap:=h' } b t c (by omega) hi' st' hl' hS' fun h'' tk t' kp=>?_⟩
    have q:=hR h'' tk t' (fun x o h1 h2 e=>kp x o h1 h2 (sb.extBut x o h1 e))
    rw[hdr,List.foldl_cons,show max b ns[i]=b by omega]at q
    exact q)
theorem mx_first (hh:A.handled=none) (hI:IntsAre its ns) (hlt:l≠it) (hiS:it≠S) (hlS:l≠S) {s:Shared} {c:Nat} (st:s.heap.IsListIter it l 0) (hl:s.heap.IsList l its.toArray)
 (hS:s.heap.get? S=some { cls:=.type "list",dict:=none,data:=.seq #[] c,slots:=#[] }) (x0:V) (rx:RelV x0 d)
 (hR:∀ h' tk v u,(∀ x o,x≠it→x≠S→s.heap.get? x=some o→h'.get? x=some o)→RelV v u→(v=match ns with | []=>x0 | n :: r=>.int (r.foldl max n))→R (.ok (.ret u)) { s with heap:=h',toks:=tk }) :
 codeAny (model prog w) A (.builtin "max.loop" ⟨[.ref it,.none,.ref S],[(Str.ofString "default",d)]⟩) R s:=by
 have nm:(toString "max"++toString ".loop":String)="max.loop":=by decide
 cases hI with
 | nil =>
  refine codeAny_builtin PySem.F.entry_max_loop (by
   rw[Around.under_plainId PySem.F.plain_max_loop _]
   show wpAny _ A.in1 (seqItems? (Value.ref S) >>= _) _ _ s
   refine wpAny_bind (wpAny_seqItems hS rfl ?_)
   show wpAny _ A.in1 (tryCatch (pyNext (Value.ref it)) _ >>= _) _ _ s
   refine wpAny_bind (wpAny_tryCatch (wpAny_pyNext_list_end hh st hl (by simp) fun h' eb=>?_))
   refine wpAny_bind (wpAny_rule (wpAny_pure ?_))
   exact hR h' s.toks x0 d (fun x o h1 _ e=>eb x o h1 e) rx rfl)
 | @cons n t its' ns' r =>
  refine codeAny_builtin PySem.F.entry_max_loop (by
   rw[Around.under_plainId PySem.F.plain_max_loop _]
   show wpAny _ A.in1 (seqItems? (Value.ref S) >>= _) _ _ s
   refine wpAny_bind (wpAny_seqItems hS rfl ?_)
   show wpAny _ A.in1 (tryCatch (pyNext (Value.ref it)) _ >>= _) _ _ s
   refine wpAny_bind (wpAny_tryCatch (wpAny_pyNext_list_item st hl (x:=.int n t) (by simp) fun h' st' sb=>?_))
   have hS':=sb.extBut S _ (Ne.symm hiS) hS
   have hl':=hl.extBut sb.extBut hlt
   show wpAny _ A.in1 (updateSeq S (fun _=>#[Value.int n t,Value.int n t]) >>= _) _ _ { s with heap:=h' }
   refine wpAny_bind (wpAny_updateSeq hS' rfl ?_)
   rw[nm]
   obtain⟨c',e1⟩:∃ c',(h'.update S (Obj.mapSeq fun _=>#[Value.int n t,Value.int n t])).get? S=some (two n t c'):=⟨_,Heap.get?_update_self _ hS' rfl⟩
   refine wpAny_pure ⟨plainId_quiet PySem.F.plain_max_loop _,mx_loop hh (.cons n t r) hlt hiS hlS _ 1 { s with heap:=h'.update S (Obj.mapSeq fun _=>#[Value.int n t,Value.int n t]) } n t _ rfl (by simp) (st'.at fun o e=>(Heap.get?_update_other _ _ (Ne.symm hiS)).trans e) (hl'.at fun o e=>(Heap.get?_update_other _ _ (Ne.symm hlS)).trans e) e1 fun h'' tk t' kp=>?_⟩
   exact hR h'' tk (.int (ns'.foldl max n)) _ (fun x o h1 h2 e=>kp x o h1 h2 ((Heap.get?_update_other _ _ (Ne.symm h2)).trans (sb.extBut x o h1 e))) ⟨t',rfl⟩ rfl)
noncomputable def mxD (ns:List Int) (x0:V):V:=match ns with | []=>x0 | n :: r=>.int (r.foldl max n)
theorem args_maxd (a d:Value):argsOk "max" ⟨[a],[(Str.ofString "default",d)]⟩:=by unfold argsOk;kernel_rfl
theorem call_maxd {E:Value→Shared→Prop} {s:Shared} {x0:V} {Q:Value→Shared→Prop} (hh:A.handled=none) (hI:IntsAre its ns) (hl:s.heap.IsList l its.toArray) (rx:RelV x0 d)
 (h:∀ h' tk u,(∀ x o,s.heap.get? x=some o→h'.get? x=some o)→RelV (mxD ns x0) u→Q u { s with heap:=h',toks:=tk }):wpAny (model prog w) A (call (.builtin "max") [.ref l] [(Str.ofString "default",d)]) Q E s:=by
 have nm:(toString "max"++toString ".loop":String)="max.loop":=by decide
 refine kmk_tree PySem.F.kind_max PySem.F.plain_max PySem.F.entry_max (args_maxd _ _) (by
  show wpAny _ A.in1 (Builtin.Builtins.bindParams "max" ["key","default"] 0 ⟨[],[(Str.ofString "default",d)]⟩ >>= _) _ _ s
  refine wpAny_bind (wpAny_of_eq (show Builtin.Builtins.bindParams "max" ["key","default"] 0 ⟨[],[(Str.ofString "default",d)]⟩=pure [none,some d] from rfl) (wpAny_bind (wpAny_pure ?_)))
  refine wpAny_bind (wpAny_pyIter_list hl ?_)
  refine wpAny_bind (wpAny_newObj_type ?_)
  rw[nm]
  have hlt:l<s.heap.objs.size:=by obtain⟨_,e,_⟩:=hl;exact Heap.lt_size e
  refine wpAny_pure ⟨plainId_quiet PySem.F.plain_max_loop _,mx_first (l:=l) (it:=s.heap.objs.size) (its:=its) hh hI (Nat.ne_of_lt hlt) (by rw[Heap.size_push];exact Nat.ne_of_lt (Nat.lt_succ_self _)) (by rw[Heap.size_push];exact Nat.ne_of_lt (Nat.lt_succ_of_lt hlt)) ⟨_,Heap.get?_push_of_some _ (Heap.get?_push_size _ rfl),rfl,rfl⟩ ((hl.push _).push _) (Heap.get?_push_size _ rfl) x0 rx fun h' tk v u kp rv ev=>?_⟩
  subst ev
  refine h h' tk u (fun x o e=>?_) rv
  have hx:=Heap.lt_size e
  exact kp x o (Nat.ne_of_lt hx) (by rw[Heap.size_push];exact Nat.ne_of_lt (Nat.lt_succ_of_lt hx)) (Heap.get?_push_of_some _ (Heap.get?_push_of_some _ e)))
end
section
variable {X:Cx} {e f:Expr} {te tf:TE} {p pos kp:Pos}
noncomputable def tMxD (K:PySem.W.Frag) (te tf:TE):TE:=fun σ H Q=>te σ H fun x H1=>tf σ H1 fun y H2=>∃ a ns,x=.ref a∧SqL K H2 a (ns.map V.int)∧Q (mxD ns y) H2
theorem pe_maxdef (hc:X.calm=true) (hg:Gl X "max") (hm:X.mg "max"=none) (he:PE X e te) (hf:PE X f tf)
 (hs:starEach [e] X.env=(false,eval e X.env) :: starEach [] X.env:=by rfl) (he1:backTo pos (starEach [e] X.env)=(false,eval e X.env) :: backTo pos (starEach [] X.env):=by rfl) (hp1:(backTo pos (starEach [e] X.env)).any (·.1)=false:=by rfl)
 (ha1:(backToKw pos (keywordEach [⟨some "default",f,kp⟩] X.env)).all (·.1.isSome)=true:=by rfl) (hk1:(backToKw pos (keywordEach [⟨some "default",f,kp⟩] X.env)).any (·.1.isNone)=false:=by rfl) (hks:(backToKw pos (keywordEach [⟨some "default",f,kp⟩] X.env)).filterMap (·.1)=([Str.ofString "default"]:List Str):=by rfl) :
 PE X (.Call (.Name "max" p) [e] [⟨some "default",f,kp⟩] pos) (tMxD X.K te tf):=by
 intro pins s σ H Q I h
 refine wpAny_Call_Name_kw (ld_blt I hg hm boot_max ?_)
 refine callWith_kw ?_ he1 hp1 ha1 hk1
 refine thn ((pa_cons he pa_nil hs) pos pins s σ H (fun vs H1=>match vs with | [x]=>tf σ H1 fun y H2=>∃ a ns,x=.ref a∧SqL X.K H2 a (ns.map V.int)∧Q (mxD ns y) H2 | _=>False) I h) fun us s1 ⟨vs,H1,I1,r1,q1⟩=>?_
 obtain⟨x,rfl⟩:∃ x,vs=[x]:=by
  rcases vs with _ | ⟨x,_ | ⟨_,_⟩⟩
  ·exact q1.elim
  ·exact⟨x,rfl⟩
  ·exact q1.elim
 refine thn ((pk_cons hf pk_nil) pos pins s1 σ H1 (fun ks H2=>match ks with | [y]=>∃ a ns,x=.ref a∧SqL X.K H2 a (ns.map V.int)∧Q (mxD ns y) H2 | _=>False) I1 q1) fun ws s2 ⟨zs,H2,I2,r2,q2⟩=>?_
 obtain⟨y,rfl⟩:∃ y,zs=[y]:=by
  rcases zs with _ | ⟨x,_ | ⟨_,_⟩⟩
  ·exact q2.elim
  ·exact⟨x,rfl⟩
  ·exact q2.elim
 obtain⟨a,ns,rfl,hq,q2⟩:=q2
 obtain⟨u,rfl,ru⟩:=r1.one
 obtain⟨v,rfl,rv⟩:=r2.one
 cases ru
 rw[hks]
 obtain⟨its,rl,pl,hz⟩:=I2.list hq
 exact call_maxd (I.ok.hd hc) (intsAre_of rl) pl.isList rv fun h' tk u kp ru=>⟨_,H2,I2.kept kp,ru,q2⟩
end
end L2
namespace L2
open PySem PySem.Spec PyProof.Rows
section
variable {X:Cx}
end
end L2
namespace CW
open PySem L2
theorem flat_ints (ns:List Int):(ns.map V.int).all flatV=true:=by
 rw[List.all_eq_true]
 intro x hx
 obtain⟨z,_,rfl⟩:=List.mem_map.mp hx
 rfl
theorem inV_ints (z:Int) (ns:List Int):inV (.int z) (ns.map V.int)=decide (z∈ns):=by
 unfold inV
 induction ns with
 | nil=>rfl
 | cons n r ih =>
  rw[List.map_cons,List.any_cons,ih]
  have e:eqV (.int n) (.int z)=decide (n=z):=by
   show (n == z)=_
   rw[Bool.eq_iff_iff];simp
  rw[e,Bool.eq_iff_iff]
  simp only[Bool.or_eq_true,decide_eq_true_eq,List.mem_cons]
  constructor
  ·rintro (h | h)
   ·exact .inl h.symm
   ·exact .inr h
  ·rintro (h | h)
   ·exact .inl h.symm
   ·exact .inr h
end CW
namespace L2
open PySem PySem.Spec PyProof.Rows
theorem boot_sum:bootBuiltins "sum"=some (.builtin "sum"):=by decide +kernel
theorem boot_enumerate:bootBuiltins "enumerate"=some (.type "enumerate"):=by decide +kernel
theorem ints_are:∀ {ns:List Int} {us:List Value},Vals (ns.map V.int) us→IntsAre us ns
 | [],_,.nil=>.nil
 | _ :: _,_,.cons ⟨_,e⟩ t=>by subst e;exact .cons _ _ (ints_are t)
section
variable {X:Cx}
theorem call_sum (hc:X.calm=true):CallR X (.builtin "sum") (fun xs H Q=>∃ (p:Addr) (ns:List Int),xs=[.ref p]∧H p=some (.lst (ns.map V.int))∧Q (.int ns.sum) H):=by
 intro pins s σ H xs us Q I r h
 obtain⟨p,ns,rfl,hp,q⟩:=h
 obtain⟨u,rfl,rx⟩:=vals1 r
 cases rx
 obtain⟨its,rv,pl,hz⟩:=I.list (SqL.of hp)
 have hl:=pl.isList
 have hi:=ints_are rv
 obtain⟨xs,hx⟩:=hi.allInts.items
 have hl':s.heap.IsList p (intItems xs):=hx ▸ hl
 refine sum_intListG (I.ok.hd hc) hl' fun h' tk t' hk=>?_
 have e1:ns=xs.toList.map (·.1):=by
  rw[← nums_intItems,← hx]
  exact(show numsOf its.toArray.toList=ns from hi.numsOf).symm
 have e2:preSum (numAt xs) xs.size=ns.sum:=by
  rw[preSum_eq,List.take_of_length_le (by simp),e1]
 rw[e2]
 exact⟨.int _,H,I.kept hk,⟨_,rfl⟩,q⟩
theorem Inv.turnedF {h':Heap} {pins:List (Addr×Obj)} {σ:St} {H:Hp} {s:Shared} {t':Nat} {fp:List Addr} (I:Inv X pins σ H s) (k:∀ b o,b∉fp→s.heap.get? b=some o→h'.get? b=some o) (hf:∀ b∈fp,FpOk X pins H b):Inv X pins σ H { s with heap:=h',toks:=t' }:=by
 have nit:∀ b u,H b=some u→b∉fp:=fun b u e z=>by rw[(hf b z).1]at e;cases e
 refine I.step (g':=s.gens) (d':=s.drawn) (ch:=fp) (fun b hb=>?_) (fun b o _ _ hc e _=>k b o hc e) (fun b o _ _ hc e _=>⟨o.slots,k b o hc e⟩) (fun _ _ _ _ n=>n)
  (fun b o hc e=>⟨o,k b o hc e⟩) (fun _ _ e=>e) (fun _ _ _ e=>e) (fun b ps e=>⟨#[],by rw[e];simp⟩) (fun m hm=>?_) (fun b u e=>?_) I.bare
 ·obtain⟨_,h1,_,h3,h4,h5⟩:=hf b hb
  exact⟨h3,h1,h4,h5⟩
 ·obtain⟨o,es,ep,ho,r⟩:=hm
  exact⟨o,es,ep,k _ o (fun z=>(hf _ z).2.1 rfl) ho,r⟩
 ·refine(I.hok b u e).stay (fun c v hc q=>k c v ?_ q) (fun _ q=>q) fun _ _ q=>q
  rcases hc with z | z
  ·rw[z];exact nit b u e
  ·exact nit c _ z
theorem Inv.turnLaid {h':Heap} {pins:List (Addr×Obj)} {σ:St} {H:Hp} {s:Shared} {t':Nat} {fp:List Addr} {a:Addr} {o:HO} (I:Inv X pins σ H s) (k:∀ b o,b∉fp→s.heap.get? b=some o→h'.get? b=some o) (hf:∀ b∈fp,FpOk X pins H b) (hp:s.heap.objs.size≤a) (new:ObjOk X.prog X.w (upd H a o) h' a o) :
 Inv X pins σ (upd H a o) { s with heap:=h',toks:=t' }:=by
 have hn:H a=none:=I.hok.fresh hp
 have nit:∀ b u,H b=some u→b∉fp:=fun b u e z=>by rw[(hf b z).1]at e;cases e
 have ne:∀ b u,H b=some u→b≠a:=fun b u e=>ne_of_none e hn
 refine I.step (g':=s.gens) (d':=s.drawn) (ch:=fp) (fun b hb=>?_) (fun b o _ _ hc e _=>k b o hc e) (fun b o _ _ hc e _=>⟨o.slots,k b o hc e⟩) (fun b ob _ e n=>?_)
  (fun b o hc e=>⟨o,k b o hc e⟩) (fun b _ e=>by rw[upd_ne (ne b _ e)];exact e) (fun b _ _ e=>by rw[upd_ne (ne b _ e)];exact e) (fun b ps e=>⟨#[],by rw[upd_ne (ne b _ e),e];simp⟩) (fun m hm=>?_) (fun b u e=>?_) I.bare
 ·obtain⟨_,h1,_,h3,h4,h5⟩:=hf b hb
  exact⟨h3,h1,h4,h5⟩
 ·have:b≠a:=Nat.ne_of_lt (Nat.lt_of_lt_of_le (Heap.lt_size e) hp)
  rw[upd_ne this];exact n
 ·obtain⟨o,es,ep,ho,r⟩:=hm
  exact⟨o,es,ep,k _ o (fun z=>(hf _ z).2.1 rfl) ho,r⟩
 ·by_cases hb:b=a
  ·subst hb
   rw[upd_same]at e
   cases e
   exact new
  ·rw[upd_ne hb]at e
   refine(I.hok b u e).stay (fun c v hc q=>k c v ?_ q) (fun c q=>by rw[upd_ne (ne c _ q)];exact q) fun c _ q=>by rw[upd_ne (ne c _ q)];exact q
   rcases hc with z | z
   ·rw[z];exact nit b u e
   ·exact nit c _ z
end
noncomputable def Ite (K:PySem.W.Frag) (a:Addr):It :=
 ⟨fun i H=>∃ xs x,SqL K H a xs∧xs[i]?=some x,fun i H v H'=>∃ t x,v=.ref t∧H t=none∧(∀ xs,SqL K H a xs→xs[i]?=some x)∧H'=upd H t (.tup [.int i,x]),fun i H=>∃ xs,SqL K H a xs∧xs.length≤i⟩
theorem turn_enum {P:Program} {w:World} {K:PySem.W.Frag} {elts:List Expr} {x1} {pos:Pos} (a e it:Addr) (hne:e≠it):Turn P w K (.Tuple elts x1 pos) (Ite K a) [e,it] e (fun i h=>(∃ old,IsEnum h e it (i:Nat) old)∧h.IsListIter it a i) where
 mem:=by simp
 obj:=fun i h st b hb=>by
  obtain⟨⟨old,he⟩,o,ho,c,d⟩:=st
  rcases List.mem_cons.mp hb with z | z
  ·subst z;exact⟨_,he,fun v z=>by have z':Data.fields _=Data.cell v:=z;cases z'⟩
  ·have z:b=it:=by simpa using z
   subst z;exact⟨o,ho,fun v z=>by rw[d]at z;cases z⟩
 keep:=fun i h h' st k=>⟨let ⟨old,he⟩:=st.1;⟨old,k e (by simp) _ he⟩,st.2.at fun o e=>k it (by simp) o e⟩
 item:=by
  intro X hP hw hK hc i pins s σ H E I hf st hg
  subst hP hw hK
  obtain⟨xs,x,hq,hx⟩:=hg
  obtain⟨its,rv,p,hz⟩:=I.list hq
  obtain⟨u,hu,ru⟩:=rv.get hx
  obtain⟨⟨old,he⟩,hit⟩:=st
  have le:e<s.heap.objs.size:=Heap.lt_size he
  have li:it<s.heap.objs.size:=by obtain⟨_,z,_⟩:=hit;exact Heap.lt_size z
  refine wpAny_pyNext_enum_item he hit p.isList (x:=u) (by simpa using hu) hne fun h' e1 e2 e3 e4 kp=>?_
  refine⟨_,rfl,?_⟩
  have hn:H s.heap.objs.size=none:=I.hok.fresh (Nat.le_refl _)
  have k1:∀ b o,b∉[e,it]→s.heap.get? b=some o→h'.get? b=some o:=fun b o hb q=>kp b o (fun z=>hb (by simp[z])) (fun z=>hb (by simp[z])) q
  have tupOk:∀ h2:Heap,h2.get? s.heap.objs.size=some { cls:=.type "tuple",data:=.seq #[.int i s.toks,u] }→ObjOk X.prog X.w (upd H s.heap.objs.size (.tup [.int i,x])) h2 s.heap.objs.size (.tup [.int i,x]):=fun h2 q =>
   ⟨by show 2≤sizeLine;decide,[.int i s.toks,u],.cons ⟨_,rfl⟩ (.cons ru .nil),_,q,rfl,_,rfl⟩
  refine wpAny_letOwnedTupleGo_enum (i:=((i:Nat):Int)+1) e1 fun h2 f1 sb=>?_
  have k2:∀ b o,b∉[e,it]→s.heap.get? b=some o→h2.get? b=some o:=fun b o hb q=>sb.extBut b o (fun z=>hb (by simp[z])) (k1 b o hb q)
  have n1:s.heap.objs.size≠e:=Nat.ne_of_gt le
  refine⟨.ref s.heap.objs.size,_,I.turnLaid (t':=s.toks+1) (h':=h2) (o:=.tup [.int i,x]) k2 hf (Nat.le_refl _) (tupOk _ (sb.extBut _ _ n1 e3)),rfl,⟨_,x,rfl,hn,fun ys hy=>by rw[I.list_inj hy hq];exact hx,rfl⟩,⟨⟨u,?_⟩,?_⟩,fun b hb=>?_⟩
  ·have:(((i+1:Nat):Int))=(i:Int)+1:=by omega
   rw[this];exact f1
  ·exact e2.extBut sb.extBut (Ne.symm hne)
  ·have hb':b≠s.heap.objs.size:=by
    rcases List.mem_cons.mp hb with z | z
    ·subst z;exact Nat.ne_of_lt le
    ·have z:b=it:=by simpa using z
     subst z;exact Nat.ne_of_lt li
   rw[upd_ne hb'];exact(hf b hb).1
 done:=by
  intro X hP hw hK hc i pins s σ H E I hf st hg
  subst hP hw hK
  obtain⟨xs,hq,hx⟩:=hg
  obtain⟨its,rv,p,hz⟩:=I.list hq
  have hl:=rv.length
  obtain⟨⟨old,he⟩,hit⟩:=st
  exact wpAny_pyNext_enum_end (I.ok.hd hc) he hit p.isList (by simp;omega) fun h' eb=>⟨rfl,I.turnedF (fp:=[e,it]) (t':=s.toks) (fun b o hb e=>eb b o (fun z=>hb (by simp[z])) e) hf⟩
 self:=fun _ _ _ _ _ st h=>let ⟨_,he⟩:=st.1;wpAny_pyIter_enum he h
noncomputable def iEnum (K:PySem.W.Frag) (ta:TA):TI:=fun σ H R=>ta σ H fun vs H1=>∃ a xs,vs=[.ref a]∧SqL K H1 a xs∧R (Ite K a) H1
theorem pi_enum {X:Cx} {elts:List Expr} {x1} {tpos:Pos} {a:Expr} {ta:TA} {p pos:Pos} (hg:Gl X "enumerate") (hm:X.mg "enumerate"=none) (ha:PA X [a] ta) (hs:starEach [a] X.env=[(false,eval a X.env)]:=by rfl):PI X (.Tuple elts x1 tpos) (.Call (.Name "enumerate" p) [a] [] pos) (iEnum X.K ta):=by
 intro pins s σ H R I h
 refine Call_ (ld_blt I hg hm boot_enumerate (PyProof.Rows.callWith_type1 (thn (ha pos pins s σ H _ I h) fun us s1 ⟨vs,H1,I1,r1,q1⟩=>?_) hs rfl))
 obtain⟨a,xs,e,hq,q⟩:=q1
 subst e
 obtain⟨u,rfl,rx⟩:=vals1 r1
 cases rx
 obtain⟨its,rv,pl,hz⟩:=I1.list hq
 refine call_enumerate_list pl.isList fun h' g1 g2 g3 kp=>?_
 have I2:Inv X pins σ H1 { s1 with heap:=h' }:=I1.kept (t':=s1.toks) kp
 refine wpAny_pyIter_enum g1 ?_
 refine⟨s1.heap.objs.size+1,[s1.heap.objs.size+1,s1.heap.objs.size],_,_,H1,rfl,I2,turn_enum a _ _ (Nat.ne_of_gt (Nat.lt_succ_self _)),⟨⟨_,g1⟩,g2⟩,fun b hb=>?_,q⟩
 have e:s1.heap.objs.size≤b:=by
  rcases List.mem_cons.mp hb with z | z
  ·rw[z];exact Nat.le_succ _
  ·have z:b=s1.heap.objs.size:=by simpa using z
   rw[z];exact Nat.le_refl _
 exact I1.fpOk e (I1.hok.fresh e)
theorem for_enum {K:PySem.W.Frag} {a:Addr} {xs:List V} {g:TG} {tb:TS} {D:Ends} {σ:St} {H:Hp} (Pv:Nat→St→Hp→Prop) (h0:Pv 0 σ H) (hl:∀ i σ H,i≤xs.length→Pv i σ H→SqL K H a xs)
 (hs:∀ i x σ H t,xs[i]?=some x→Pv i σ H→H t=none→g (.ref t) σ (upd H t (.tup [.int i,x])) fun σ2 H2=>tb { D with nx:=Pv (i+1),ct:=Pv (i+1),bk:=D.nx } σ2 H2) (hd:∀ σ H,Pv xs.length σ H→D.nx σ H) :
 ∃ W:Nat→Nat→St→Hp→Prop,(∃ m,W 0 m σ H)∧∀ i m σ H,W i m σ H →
  ((Ite K a).stop i H∧D.nx σ H)∨((Ite K a).go i H∧∃ N:St→Hp→Prop,(∀ σ' H',N σ' H'→∃ m',m'<m∧W (i+1) m' σ' H')∧∀ x H',(Ite K a).yld i H x H'→g x σ H' fun σ2 H2=>tb { D with nx:=N,ct:=N,bk:=D.nx } σ2 H2):=by
 refine⟨fun i m σ H=>m=xs.length - i∧i≤xs.length∧Pv i σ H,⟨xs.length,by simp,Nat.zero_le _,h0⟩,?_⟩
 rintro i m σ H ⟨rfl,hi,p⟩
 have q:=hl i σ H hi p
 by_cases hlt:i<xs.length
 ·refine .inr ⟨⟨xs,xs[i],q,by simp[hlt]⟩,Pv (i+1),fun σ' H' p'=>⟨xs.length - (i+1),by omega,rfl,hlt,p'⟩,fun x H' y=>?_⟩
  obtain⟨t,x,rfl,hn,y,rfl⟩:=y
  exact hs i x σ _ t (y xs q) p hn
 ·have e:i=xs.length:=by omega
  subst e
  exact .inl ⟨⟨xs,q,Nat.le_refl _⟩,hd σ H p⟩
end L2
namespace CW
open PySem L2
theorem Prs.len {H:Hp} {us:List V} {ps:List (Int×Int)} (h:Prs H us ps):us.length=ps.length:=Paired.length h
noncomputable def szs (ps:List (Int×Int)):List Int:=ps.map (·.1)
structure Trn (ps:List (Int×Int)):Prop where
 pos:∀ p∈ps,1≤p.1
 few:(szs ps).sum≤60
theorem len_le_sum:∀ {ps:List (Int×Int)},(∀ p∈ps,1≤p.1)→(ps.length:Int)≤(szs ps).sum
 | [],_=>by simp[szs]
 | p :: r,h=>by
  have h1:=h p (List.mem_cons_self)
  have h2:=len_le_sum (ps:=r) fun q hq=>h q (List.mem_cons_of_mem _ hq)
  simp only[szs,List.map_cons,List.sum_cons,List.length_cons]at h2 ⊢
  omega
theorem Trn.len {ps:List (Int×Int)} (h:Trn ps):ps.length≤60:=by
 have h1:=len_le_sum h.pos
 have:=h.few
 omega
theorem paired_at {H:Hp} {us:List V} {ps:List (Int×Int)} (h:Prs H us ps) {i:Nat} {x:V} (e:us[i]?=some x):∃ p t,ps[i]?=some p∧x=.ref t∧H t=some (.tup [.int p.1,.int p.2]):=by
 obtain⟨p,hp,t,e1,e2⟩:=paired_get h e
 exact⟨p,t,hp,e1,e2⟩
theorem snoc_pairs {ps:List (Int×Int)} {i:Nat} {p:Int×Int} (f:Int×Int→Int) (h:ps[i]?=some p):((ps.take i).map f).map V.int++[V.int (f p)]=((ps.take (i+1)).map f).map V.int:=by
 rw[List.take_succ,h]
 simp
end CW
namespace L2
open PySem PySem.Spec PyProof.Rows
section
variable {X:Cx} {tg:Expr}
end
end L2
namespace L2
open PySem PySem.W PySem.Spec PyProof.Rows
section
variable {O:KeyOrd} {key:Nat→O.α} {n:Nat} {cmp:Nat→Nat→(Bool→Shared→Prop)→Shared→Prop} {s:Shared}
structure InR (n:Nat) (p:Array Nat):Prop where
 pos:0<n
 size:p.size=n
 mem:∀ x∈p,x<n
theorem InR.at {p:Array Nat} (h:InR n p) (i:Nat):p.getD i 0<n:=by
 unfold Array.getD
 split
 ·exact h.mem _ (Array.getElem_mem _)
 ·exact h.pos
theorem InR.perm {p q:Array Nat} (h:InR n p) (e:q.Perm p):InR n q:=⟨h.pos,e.size_eq.trans h.size,fun x hx=>h.mem x (e.mem_iff.mp hx)⟩
end
end L2
namespace CW
open PySem L2
noncomputable def rkP (p q:Int×Int):Prop:=p.2 - p.1≤q.2 - q.1∧p.2 - p.1+1≤q.1 - p.2 - 1
noncomputable def Rnk (ps:List (Int×Int)):Prop:=∀ (j:Nat) (p q:Int×Int),ps[j]?=some p→ps[j+1]?=some q→rkP p q
theorem Rnk.nil:Rnk (runsM []):=fun j p q h=>by simp[runsM]at h
theorem Rnk.snoc {ps:List (Int×Int)} {q:Int×Int} (h:Rnk ps) (hl:∀ p,ps.getLast?=some p→rkP p q):Rnk (ps++[q]):=by
 intro j a b ha hb
 have hj:j+1<(ps++[q]).length:=(List.getElem?_eq_some_iff.mp hb).1
 simp only[List.length_append,List.length_singleton]at hj
 by_cases hlt:j+1<ps.length
 ·rw[List.getElem?_append_left (by omega)]at ha
  rw[List.getElem?_append_left hlt]at hb
  exact h j a b ha hb
 ·have e:j+1=ps.length:=by omega
  rw[List.getElem?_append_left (by omega)]at ha
  rw[List.getElem?_append_right (by omega),e,Nat.sub_self]at hb
  have eb:q=b:=by simpa using hb
  subst eb
  refine hl a ?_
  rw[List.getLast?_eq_getElem?,show ps.length - 1=j by omega]
  exact ha
noncomputable def RowAt (H:Hp) (u:V):Prop:=∃ l row,u=.ref l∧H l=some (.lst (row.map V.int))∧Row row∧row.length≤60
noncomputable def RowsOk (H:Hp) (lr:Addr) (us:List V):Prop:=H lr=some (.lst us)∧(∃ x r,us=.ref x :: r)∧∀ u∈us,RowAt H u
theorem ints_ne {row:List Int} {x:Addr} {r:List V}:HO.lst (row.map V.int)≠HO.lst (.ref x :: r):=by
 intro z
 cases row with
 | nil=>cases z
 | cons a b=>cases z
theorem RowAt.set {H:Hp} {lr x:Addr} {r vs:List V} (h:H lr=some (.lst (.ref x :: r))) {u:V} (q:RowAt H u):RowAt (upd H lr (.lst vs)) u:=by
 obtain⟨l,row,e,q,z⟩:=q
 exact⟨l,row,e,by rw[upd_ne (ne_of q h ints_ne)];exact q,z⟩
theorem RowsOk.snoc {H:Hp} {lr:Addr} {us:List V} {u:V} (h:RowsOk H lr us) (hu:RowAt H u):RowsOk (upd H lr (.lst (us++[u]))) lr (us++[u]):=by
 obtain⟨e,⟨x,r,rfl⟩,q⟩:=h
 refine⟨upd_same,⟨x,r++[u],rfl⟩,fun v hv=>?_⟩
 rcases List.mem_append.mp hv with z | z
 ·exact(q v z).set e
 ·rw[List.mem_singleton.mp z];exact hu.set e
end CW
namespace CW
open PySem L2
end CW
namespace L2
open PySem PySem.W PySem.Spec PyProof.Rows
noncomputable def plt (a b:Int×Int):Bool:=decide (a.1<b.1) || (decide (a.1=b.1) && decide (a.2<b.2))
theorem plt_iff {a b:Int×Int}:plt a b=true↔a.1<b.1∨(a.1=b.1∧a.2<b.2):=by simp[plt]
theorem plt_not {a b:Int×Int}:plt a b=false↔¬ (a.1<b.1∨(a.1=b.1∧a.2<b.2)):=by rw[← plt_iff];simp
noncomputable def PairV (h:Heap) (v:Value) (p:Int×Int):Prop:=∃ t o n k1 k2,v=.ref t∧h.get? t=some o∧o.cls=.type "tuple"∧o.data=.seq #[.int p.1 k1,.int p.2 k2] n
section
variable {prog:Program} {w:World} {A:Around} {E:Value→Shared→Prop} {s:Shared}
end
noncomputable def ple (a b:Int×Int):Prop:=a.1<b.1∨(a.1=b.1∧a.2≤b.2)
section
variable {X:Cx}
end
end L2
namespace L2
open PySem PySem.Spec PyProof.Rows
section
variable {κ:Type} [DecidableEq κ]
noncomputable def valV (kvs:List (κ×V)) (k:κ):Option V:=(kvs.find? fun kv=>decide (kv.1=k)).map (·.2)
noncomputable def putK (kvs:List (κ×V)) (k:κ) (v:V):List (κ×V) :=
 if (kvs.any fun kv=>decide (kv.1=k))=true then kvs.map (fun kv=>if kv.1=k then (kv.1,v)else kv)else kvs++[(k,v)]
noncomputable def dropK (kvs:List (κ×V)) (k:κ):List (κ×V):=kvs.filter fun kv=>decide (kv.1≠k)
theorem valV_pos {p:κ×V} {r:List (κ×V)} {k:κ} (e:p.1=k):valV (p :: r) k=some p.2:=by simp[valV,List.find?_cons,e]
theorem valV_neg {p:κ×V} {r:List (κ×V)} {k:κ} (e:¬ p.1=k):valV (p :: r) k=valV r k:=by simp[valV,List.find?_cons,e]
theorem valV_any (k:κ):∀ kvs:List (κ×V),(kvs.any fun kv=>decide (kv.1=k))=(valV kvs k).isSome
 | []=>rfl
 | p :: r=>by
  rw[List.any_cons]
  by_cases e:p.1=k
  ·simp only[valV_pos e,decide_eq_true e,Bool.true_or,Option.isSome_some]
  ·rw[valV_neg e,decide_eq_false e,Bool.false_or];exact valV_any k r
theorem valV_map (k j:κ) (y:V):∀ kvs:List (κ×V),valV (kvs.map fun kv=>if kv.1=k then (kv.1,y)else kv) j=(valV kvs j).map fun x=>if j=k then y else x
 | []=>rfl
 | p :: r=>by
  have ih:=valV_map k j y r
  rw[List.map_cons]
  by_cases h:p.1=k
  ·rw[if_pos h]
   by_cases e:p.1=j
   ·rw[valV_pos (p:=(p.1,y)) e,valV_pos e,Option.map_some,if_pos (e.symm.trans h)]
   ·rw[valV_neg (p:=(p.1,y)) e,valV_neg e,ih]
  ·rw[if_neg h]
   by_cases e:p.1=j
   ·rw[valV_pos (p:=p) e,valV_pos e,Option.map_some,if_neg (fun z=>h (e.trans z))]
   ·rw[valV_neg (p:=p) e,valV_neg e,ih]
theorem valV_snoc (k j:κ) (y:V):∀ kvs:List (κ×V),valV kvs k=none→valV (kvs++[(k,y)]) j=if j=k then some y else valV kvs j
 | [],_=>by
  by_cases e:k=j
  ·rw[if_pos e.symm];exact valV_pos (p:=(k,y)) e
  ·rw[if_neg (fun z=>e z.symm)];exact valV_neg (p:=(k,y)) e
 | p :: r,hn=>by
  rw[List.cons_append]
  have hk:¬ p.1=k:=fun z=>by rw[valV_pos z]at hn;cases hn
  rw[valV_neg hk]at hn
  have ih:=valV_snoc k j y r hn
  by_cases e:p.1=j
  ·rw[valV_pos e,valV_pos e,if_neg (fun z=>hk (e.trans z))]
  ·rw[valV_neg e,valV_neg e,ih]
theorem valV_put (kvs:List (κ×V)) (k j:κ) (y:V):valV (putK kvs k y) j=if j=k then some y else valV kvs j:=by
 unfold putK
 by_cases a:(kvs.any fun kv=>decide (kv.1=k))=true
 ·rw[if_pos a,valV_map]
  rw[valV_any]at a
  by_cases e:j=k
  ·obtain⟨x,hx⟩:=Option.isSome_iff_exists.mp a
   rw[if_pos e,e,hx,Option.map_some,if_pos rfl]
  ·rw[if_neg e]
   cases valV kvs j with
   | none=>rfl
   | some x=>rw[Option.map_some,if_neg e]
 ·rw[if_neg a]
  refine valV_snoc k j y kvs ?_
  rw[valV_any]at a
  cases q:valV kvs k with
  | none=>rfl
  | some x=>rw[q]at a;exact(a rfl).elim
theorem length_putK (kvs:List (κ×V)) (k:κ) (v:V):(putK kvs k v).length≤kvs.length+1:=by
 unfold putK
 split
 ·rw[List.length_map];omega
 ·rw[List.length_append,List.length_cons,List.length_nil];omega
theorem putK_new {kvs:List (κ×V)} {k:κ} (v:V) (h:valV kvs k=none):putK kvs k v=kvs++[(k,v)]:=by
 unfold putK
 rw[valV_any,h]
 exact if_neg (by decide)
theorem RelO.isSome_eq {o:Option V} {u:Option Value} (r:RelO o u):o.isSome=u.isSome:=by
 cases o with
 | none=>cases u with
  | none=>rfl
  | some _=>exact(show False from r).elim
 | some _=>cases u with
  | none=>exact(show False from r).elim
  | some _=>rfl
theorem RelO.getD {o:Option V} {u:Option Value} {d:V} {d':Value} (r:RelO o u) (rd:RelV d d'):RelV (o.getD d) (u.getD d'):=by
 cases o with
 | none=>cases u with
  | none=>exact rd
  | some _=>exact(show False from r).elim
 | some _=>cases u with
  | none=>exact(show False from r).elim
  | some _=>exact r
theorem KV.val {kvs:List (κ×V)} {vs:List (κ×Value)} (r:KV kvs vs) (k:κ):RelO (valV kvs k) (valueAt vs k):=by
 unfold KV at r
 induction r with
 | nil=>exact True.intro
 | @cons p q ps qs h t ih =>
  obtain⟨h1,h2⟩:=h
  by_cases e:p.1=k
  ·have e':q.1=k:=h1.symm.trans e
   have b:valueAt (q :: qs) k=some q.2:=by simp[valueAt,List.find?_cons,e']
   rw[valV_pos e,b];exact h2
  ·have e':¬ q.1=k:=fun z=>e (h1.trans z)
   have b:valueAt (q :: qs) k=valueAt qs k:=by simp[valueAt,List.find?_cons,e']
   rw[valV_neg e,b];exact ih
theorem KV.any {kvs:List (κ×V)} {vs:List (κ×Value)} (r:KV kvs vs) (k:κ):(kvs.any fun kv=>decide (kv.1=k))=vs.any fun kv=>decide (kv.1=k):=by
 unfold KV at r
 induction r with
 | nil=>rfl
 | cons h t ih=>rw[List.any_cons,List.any_cons,ih,h.1]
theorem KV.repl {kvs:List (κ×V)} {vs:List (κ×Value)} (r:KV kvs vs) (k:κ) {y:V} {u:Value} (ry:RelV y u) :
 KV (kvs.map fun kv=>if kv.1=k then (kv.1,y)else kv) (vs.map fun kv=>if kv.1=k then (kv.1,u)else kv):=by
 unfold KV at r ⊢
 induction r with
 | nil=>exact .nil
 | @cons p q ps qs h t ih =>
  rw[List.map_cons,List.map_cons]
  refine .cons ?_ ih
  obtain⟨h1,h2⟩:=h
  by_cases e:p.1=k
  ·rw[if_pos e,if_pos (h1.symm.trans e)];exact⟨h1,ry⟩
  ·rw[if_neg e,if_neg (fun z=>e (h1.trans z))];exact⟨h1,h2⟩
theorem KV.put {kvs:List (κ×V)} {vs:List (κ×Value)} (r:KV kvs vs) (k:κ) {y:V} {u:Value} (ry:RelV y u):KV (putK kvs k y) (stored vs k u):=by
 unfold putK stored
 rw[r.any k]
 by_cases e:(vs.any fun kv=>decide (kv.1=k))=true
 ·rw[if_pos e,if_pos e];exact r.repl k ry
 ·rw[if_neg e,if_neg e];exact Paired.snoc r ⟨rfl,ry⟩
theorem KV.drop {kvs:List (κ×V)} {vs:List (κ×Value)} (r:KV kvs vs) (k:κ):KV (dropK kvs k) (without vs k):=by
 unfold KV at r ⊢
 unfold dropK without
 induction r with
 | nil=>exact .nil
 | @cons p q ps qs h t ih =>
  obtain⟨h1,h2⟩:=h
  rw[List.filter_cons,List.filter_cons]
  by_cases e:p.1=k
  ·have a:¬ decide (p.1≠k)=true:=by simp[e]
   have b:¬ decide (q.1≠k)=true:=by simp[h1.symm.trans e]
   rw[if_neg a,if_neg b];exact ih
  ·have e':¬ q.1=k:=fun z=>e (h1.trans z)
   have a:decide (p.1≠k)=true:=by simp[e]
   have b:decide (q.1≠k)=true:=by simp[e']
   rw[if_pos a,if_pos b];exact .cons ⟨h1,h2⟩ ih
theorem KV.length {kvs:List (κ×V)} {vs:List (κ×Value)} (r:KV kvs vs):kvs.length=vs.length:=Paired.length r
theorem dropK_le (kvs:List (κ×V)) (k:κ):(dropK kvs k).length≤kvs.length:=List.length_filter_le _ _
end
theorem kV_is {P:Program} {w:World} {k:Key} {u:Value} (r:RelV (kV k) u):(mixKind P w).is k u=true:=by
 cases k with
 | inl i=>obtain⟨t,e⟩:=(show ∃ t,u=Value.int i t from r);subst e;exact mixKind_int P w i t
 | inr x=>obtain⟨t,e⟩:=(show ∃ t,u=Value.str x t from r);subst e;exact mixKind_str P w x t
theorem items_are {P:Program} {w:World}:∀ {ks:List Key} {us:List Value},Vals (ks.map kV) us→ItemsAre (mixKind P w) ks us
 | [],_,r=>by rw[List.map_nil]at r;cases r;exact .nil
 | k :: ks,_,r=>by
  rw[List.map_cons]at r
  cases r with
  | cons h t=>exact .cons (kV_is h) (items_are t)
noncomputable abbrev KT (H:Hp):List (List Key×V)→List (List Key×Addr×Value)→Prop:=Paired fun p q=>p.1=q.1∧H q.2.1=some (.tup (p.1.map kV))∧RelV p.2 q.2.2
theorem KT.val {H:Hp} {kvs:List (List Key×V)} {xs:List (List Key×Addr×Value)} (r:KT H kvs xs) (k:List Key):RelO (valV kvs k) ((atKey xs k).map (·.2)):=by
 induction r with
 | nil=>exact True.intro
 | @cons p q ps qs h t ih =>
  obtain⟨h1,_,h2⟩:=h
  by_cases e:p.1=k
  ·have e':q.1=k:=h1.symm.trans e
   have b:atKey (q :: qs) k=some q.2:=by simp[atKey,List.find?_cons,e']
   rw[valV_pos e,b];exact h2
  ·have e':¬ q.1=k:=fun z=>e (h1.trans z)
   have b:atKey (q :: qs) k=atKey qs k:=by simp[atKey,List.find?_cons,e']
   rw[valV_neg e,b];exact ih
theorem KT.repl {H:Hp} {kvs:List (List Key×V)} {xs:List (List Key×Addr×Value)} (r:KT H kvs xs) (k:List Key) {y:V} {u:Value} (ry:RelV y u) :
 KT H (kvs.map fun kv=>if kv.1=k then (kv.1,y)else kv) (xs.map (putAt k u)):=by
 induction r with
 | nil=>exact .nil
 | @cons p q ps qs h t ih =>
  rw[List.map_cons,List.map_cons]
  refine .cons ?_ ih
  obtain⟨h1,h2,h3⟩:=h
  unfold putAt
  by_cases e:p.1=k
  ·rw[if_pos e,if_pos (h1.symm.trans e)];exact⟨h1,h2,ry⟩
  ·rw[if_neg e,if_neg (fun z=>e (h1.trans z))];exact⟨h1,h2,h3⟩
theorem KT.put {H:Hp} {kvs:List (List Key×V)} {xs:List (List Key×Addr×Value)} (r:KT H kvs xs) (k:List Key) {b:Addr} {y:V} {u:Value} (hb:H b=some (.tup (k.map kV))) (ry:RelV y u) :
 KT H (putK kvs k y) (storedH xs k b u):=by
 have e:(kvs.any fun kv=>decide (kv.1=k))=(atKey xs k).isSome:=by
  rw[valV_any,(r.val k).isSome_eq,Option.isSome_map]
 unfold putK storedH
 rw[e]
 by_cases q:(atKey xs k).isSome=true
 ·rw[if_pos q,if_pos q];exact r.repl k ry
 ·rw[if_neg q,if_neg q];exact Paired.snoc r ⟨rfl,hb,ry⟩
theorem KT.keeps {H H':Hp} {kvs:List (List Key×V)} {xs:List (List Key×Addr×Value)} (r:KT H kvs xs) (ht:∀ b ys,H b=some (.tup ys)→H' b=some (.tup ys)):KT H' kvs xs :=
 Paired.mapP r fun _ _ z=>⟨z.1,ht _ _ z.2.1,z.2.2⟩
section
variable {P:Program} {w:World} {H:Hp} {h:Heap} {a:Addr}
theorem rd_of {u:HO} (ok:HOk P w H h) (e:Rd H a u):ObjOk P w H h a u:=e.ok ok
theorem dk_rd {kvs:List (Key×V)} (ok:HOk P w H h) (e:Rd H a (.dK kvs)):kvs.length≤sizeLine∧(a == sysModules)=false∧∃ vs,KV kvs vs∧h.DictOf (mixKind P w) a vs :=
 show ObjOk P w H h a (.dK kvs) from rd_of ok e
theorem dk_of {kvs:List (Key×V)} (ok:HOk P w H h) (e:H a=some (.dK kvs)):kvs.length≤sizeLine∧(a == sysModules)=false∧∃ vs,KV kvs vs∧h.DictOf (mixKind P w) a vs:=dk_rd ok (.inl e)
theorem key_of {ks:List Key} (ok:HOk P w H h) (e:H a=some (.tup (ks.map kV))):(tupleKind (mixKind P w)).is h ks a:=by
 obtain⟨_,its,r,o,h1,h2,n,h3⟩:=(show ObjOk P w H h a (.tup (ks.map kV)) from ok a _ e)
 exact⟨o,its.toArray,n,h1,h2,h3,by simpa using items_are r⟩
theorem dt_rd {kvs:List (List Key×V)} (ok:HOk P w H h) (e:Rd H a (.dT kvs)):kvs.length≤sizeLine∧(a == sysModules)=false ∧
 ∃ xs,KT H kvs xs∧h.DictOfH (tupleKind (mixKind P w)) a xs:=by
 obtain⟨z,y,xs,r,o,es,ep,h1,h2,h3,h4,h5⟩:=(show ObjOk P w H h a (.dT kvs) from rd_of ok e)
 refine⟨z,y,xs,r,o,es,ep,h1,h2,h3,h4,fun x hx=>?_,h5⟩
 have all:∀ {l:List (List Key×V)} {m:List (List Key×Addr×Value)},KT H l m→∀ x∈m,(tupleKind (mixKind P w)).is h x.1 x.2.1:=by
  intro l m q
  induction q with
  | nil=>intro x hx;exact nomatch hx
  | @cons p q ps qs hq t ih =>
   intro x hx
   rcases List.mem_cons.mp hx with e | hx
   ·subst e
    exact key_of ok (by rw[← hq.1];exact hq.2.1)
   ·exact ih x hx
 exact all r x hx
theorem dt_of {kvs:List (List Key×V)} (ok:HOk P w H h) (e:H a=some (.dT kvs)):kvs.length≤sizeLine∧(a == sysModules)=false ∧
 ∃ xs,KT H kvs xs∧h.DictOfH (tupleKind (mixKind P w)) a xs:=dt_rd ok (.inl e)
end
noncomputable def DGet (H:Hp) (a:Addr) (y:V) (r:Option V):Prop :=
 (∃ kvs k,Rd H a (.dK kvs)∧y=kV k∧r=valV kvs k)∨∃ kvs k b,Rd H a (.dT kvs)∧y=.ref b∧H b=some (.tup (k.map kV))∧r=valV kvs k
noncomputable def DPut (H:Hp) (a:Addr) (y v:V) (H':Hp):Prop :=
 (∃ kvs k,H a=some (.dK kvs)∧y=kV k∧kvs.length<sizeLine∧H'=upd H a (.dK (putK kvs k v))) ∨
 ∃ kvs k b,H a=some (.dT kvs)∧y=.ref b∧H b=some (.tup (k.map kV))∧kvs.length<sizeLine∧H'=upd H a (.dT (putK kvs k v))
theorem DGet.k {H:Hp} {a:Addr} {kvs:List (Key×V)} {k:Key} (e:H a=some (.dK kvs)):DGet H a (kV k) (valV kvs k):=.inl ⟨kvs,k,.inl e,rfl,rfl⟩
theorem DPut.k {H:Hp} {a:Addr} {kvs:List (Key×V)} {k:Key} {v:V} (e:H a=some (.dK kvs)) (hl:kvs.length<sizeLine):DPut H a (kV k) v (upd H a (.dK (putK kvs k v))):=.inl ⟨kvs,k,e,rfl,hl,rfl⟩
section
variable {X:Cx} {pins:List (Addr×Obj)} {σ:St} {H:Hp} {s:Shared} {a:Addr} {y v:V} {u r:Value} {o:Option V} {A:Around} {E:Value→Shared→Prop}
theorem Inv.big (I:Inv X pins σ H s):sysModules<s.heap.objs.size:=by
 have h:mainGlobals<s.heap.objs.size:=(I.mod.glob.keeps I.bk).lt
 exact Nat.lt_trans (by decide) h
theorem d_getItem {Q:Value→Shared→Prop} (hu:A.units+1<cLine) (I:Inv X pins σ H s) (g:DGet H a y (some v)) (ry:RelV y u) (h:∀ w' s',Inv X pins σ H s'→RelV v w'→Q w' s') :
 wpAny (model X.prog X.w) A (getItem (.ref a) u) Q E s:=by
 rcases g with ⟨kvs,k,e,ey,l⟩ | ⟨kvs,k,b,e,ey,eb,l⟩
 ·subst ey
  obtain⟨z,hd,vs,rel,dd⟩:=dk_rd I.hok e
  obtain⟨w',hw,rw'⟩:=RelO.some_of (v:=v) (o:=valueAt vs k) (by rw[l];exact rel.val k)
  exact wpAny_getItem_of (kV_is ry) dd.mapOf hw (h w' _ (I.tok _) rw')
 ·subst ey
  cases (show u=Value.ref b from ry)
  obtain⟨z,hd,xs,rel,dd⟩:=dt_rd I.hok e
  obtain⟨w',hw,rw'⟩:=RelO.some_of (v:=v) (o:=(atKey xs k).map (·.2)) (by rw[l];exact rel.val k)
  obtain⟨p,hp,hp2⟩:=Option.map_eq_some_iff.mp hw
  refine wpAny_getItem_heap (tupleKind_room_in1 hu) (key_of I.hok eb) dd hp ?_
  rw[hp2]
  exact h w' _ (I.tok _) rw'
theorem d_write {h':Heap} {t':Nat} {ob:HO} (I:Inv X pins σ H s) (mu:Mut (H a)) (hs:Heap.SameBut a s.heap h') (he:∃ q,h'.get? a=some q) (new:ObjOk X.prog X.w (upd H a ob) h' a ob) :
 Inv X pins σ (upd H a ob) { s with heap:=h',toks:=t' } :=
 I.write (x:=a) (e:=a) mu (.inl rfl) (fun b q hb z=>(hs.2 b hb).trans z) he new
theorem dk_new {P:Program} {w:World} {H':Hp} {h':Heap} {kvs:List (Key×V)} {vs:List (Key×Value)} (z:kvs.length≤sizeLine) (hd:(a == sysModules)=false) (rel:KV kvs vs) (dd:h'.DictOf (mixKind P w) a vs) :
 ObjOk P w H' h' a (.dK kvs):=⟨z,hd,vs,rel,dd⟩
theorem d_setItem {H':Hp} {Q:Unit→Shared→Prop} (hu:A.units+1<cLine) (I:Inv X pins σ H s) (g:DPut H a y v H') (ry:RelV y u) (rv:RelV v r) (h:∀ s',Inv X pins σ H' s'→Q () s') :
 wpAny (model X.prog X.w) A (setItem (.ref a) u r) Q E s:=by
 rcases g with ⟨kvs,k,e,ey,l,eH⟩ | ⟨kvs,k,b,e,ey,eb,l,eH⟩
 ·subst ey eH
  obtain⟨z,hd,vs,rel,dd⟩:=dk_of I.hok e
  have hz:vs.length≤sizeLine:=by rw[← rel.length];exact z
  have hl:(putK kvs k v).length≤sizeLine:=by have:=length_putK kvs k v;omega
  refine wpAny_setItem_pairs (hsz:=hz) (kV_is ry) dd fun h' dd' hs=>h _ ?_
  have he:∃ q,h'.get? a=some q:=let ⟨q,_,_,hq,_⟩:=dd';⟨q,hq⟩
  exact d_write I (by rw[e];exact True.intro) hs he (dk_new hl hd (rel.put k rv) dd')
 ·subst ey eH
  cases (show u=Value.ref b from ry)
  obtain⟨z,hd,xs,rel,dd⟩:=dt_of I.hok e
  have hz:xs.length≤sizeLine:=by rw[← Paired.length rel];exact z
  have hl:(putK kvs k v).length≤sizeLine:=by have:=length_putK kvs k v;omega
  refine wpAny_setItem_heap (hsz:=hz) (tupleKind_room_in1 hu) (key_of I.hok eb) dd fun h' dd' hs=>h _ ?_
  obtain⟨q,es,ep,hq,h2,h3,h4,_,h5⟩:=dd'
  refine d_write I (by rw[e];exact True.intro) hs ⟨q,hq⟩ ⟨hl,hd,_,(rel.put k eb rv).keeps fun c ys ec=>?_,q,es,ep,hq,h2,h3,h4,h5⟩
  rw[upd_ne (ne_of ec e (fun z=>nomatch z))]
  exact ec
end
section
variable {X:Cx} {pins:List (Addr×Obj)} {σ:St} {H:Hp} {s:Shared} {a:Addr} {kvs:List (Key×V)} {k:Key} {u:Value} {A:Around} {E:Value→Shared→Prop}
theorem d_delItem {Q:Unit→Shared→Prop} (I:Inv X pins σ H s) (e:H a=some (.dK kvs)) (ry:RelV (kV k) u) (l:(valV kvs k).isSome=true) (h:∀ s',Inv X pins σ (upd H a (.dK (dropK kvs k))) s'→Q () s') :
 wpAny (model X.prog X.w) A (delItem (.ref a) u) Q E s:=by
 obtain⟨z,hd,vs,rel,dd⟩:=dk_of I.hok e
 refine wpAny_delItem_slot dd.typeIs (by decide) PySem.F.slot_dict_delitem
  (call_meetsIn PySem.F.slot_dict_delitem dd.typeIs PySem.F.entry_dict_delitem (PySem.F.args_dict_delitem_2 _ _) (meets_dict_delitem_pairs (mixKind X.prog X.w) a (kV_is ry)) ⟨vs,dd,by rw[← rel.length];exact z,by rw[← (rel.val k).isSome_eq];exact l,fun h' dd' hs=>h _ ?_⟩)
 have he:∃ q,h'.get? a=some q:=let ⟨q,_,_,hq,_⟩:=dd';⟨q,hq⟩
 exact d_write I (by rw[e];exact True.intro) hs he (dk_new (Nat.le_trans (dropK_le kvs k) z) hd (rel.drop k) dd')
end
noncomputable def NoSl (i:Expr):Prop:=∀ ov iv,subscripted i false ov iv=operate [ov,iv] (getItem ov iv)
theorem subD_of {prog:Program} {w:World} {A:Around} {E:Value→Shared→Prop} {s:Shared} {env:Env} {value slice:Expr} {pos:Pos} {T id:String} {Q:Value→Shared→Prop}
 (hl:typeLookup (.type T) "__getitem__"=pure (some (.builtin id))) (hs:NoSl slice)
 (h:wpAny (model prog w) A (eval value env) (fun o s₁=>wpAny (model prog w) A (eval slice env) (fun i s₂=>s₂.TypeIs o T∧wpAny (model prog w) A (getItem o i) Q E s₂) E s₁) E s) :
 wpAny (model prog w) A (eval (.Subscript value slice pos) env) Q E s:=by
 refine Subscript_ (wpAny_mono h (fun o s₁ h₁=>wpAny_mono h₁ (fun i s₂ h₂=>?_) fun _ _ x=>x) fun _ _ x=>x)
 obtain⟨hT,h₂⟩:=h₂
 unfold subscriptTail
 refine wpAny_bind ?_
 rw[getitemInPython_of_ne hT.not_modules]
 refine wpAny_bind (wpAny_specialOf hT hl ?_)
 have fin:wpAny (model prog w) A (subscripted slice false o i) (fun r s₃=>wpAny (model prog w) A (letTemporaryGo value o r >>= fun _=>pure r) Q E s₃) E s₂:=by
  rw[hs o i]
  exact wpAny_operating (wpAny_mono h₂ (fun r s₃ h₃=>wpAny_bind (wpAny_letTemporaryGo (wpAny_pure h₃))) fun _ _ x=>x)
 first
  | exact wpAny_pure (wpAny_bind fin)
  | exact wpAny_bind (wpAny_pure (wpAny_bind fin))
  | exact wpAny_bind fin
theorem dict_typeIs {X:Cx} {pins:List (Addr×Obj)} {σ:St} {H:Hp} {s:Shared} {a:Addr} {y:V} {o:Option V} (I:Inv X pins σ H s) (g:DGet H a y o):s.TypeIs (.ref a) "dict":=by
 rcases g with ⟨kvs,k,e,_,_⟩ | ⟨kvs,k,b,e,_,_,_⟩
 ·obtain⟨_,_,vs,_,dd⟩:=dk_rd I.hok e
  exact dd.typeIs
 ·obtain⟨_,_,xs,_,dd⟩:=dt_rd I.hok e
  exact dd.typeIs
noncomputable def tDGet (td ty:TE):TE:=fun σ H Q=>td σ H fun x H1=>ty σ H1 fun y H2=>∃ a v,x=.ref a∧DGet H2 a y (some v)∧Q v H2
noncomputable def sDPut (td ty tv:TE):TS:=fun D σ H=>tv σ H fun v H1=>td σ H1 fun x H2=>ty σ H2 fun y H3=>∃ a H4,x=.ref a∧DPut H3 a y v H4∧D.nx σ H4
noncomputable def sDDel (td ty:TE):TS:=fun D σ H=>td σ H fun x H1=>ty σ H1 fun y H2=>∃ a kvs k,x=.ref a∧H2 a=some (.dK kvs)∧y=kV k∧(valV kvs k).isSome=true∧D.nx σ (upd H2 a (.dK (dropK kvs k)))
section
variable {X:Cx} {o i e value:Expr} {pos pos' tpos:Pos} {td ty tv:TE}
theorem pe_dget (hu:X.A.units+1<cLine) (ho:PE X o td) (hi:PE X i ty) (hs:NoSl i):PE X (.Subscript o i pos) (tDGet td ty):=by
 intro pins s σ H Q I h
 refine subD_of PySem.F.slot_dict_getitem.lookup hs (thn (ho pins s σ H _ I h) fun u s1 ⟨x,H1,I1,rx,q1⟩=>thn (hi pins s1 σ H1 _ I1 q1) fun iv s2 ⟨y,H2,I2,ry,a,v,ex,g,q2⟩=>?_)
 subst ex
 obtain rfl:u=Value.ref a:=rx
 exact⟨dict_typeIs I2 g,d_getItem hu I2 g ry fun w' s3 I3 rw'=>⟨v,H2,I3,rw',q2⟩⟩
theorem ps_dput (hu:X.A.units+1<cLine) (ho:PE X o td) (hi:PE X i ty) (hv:PE X value tv) (hs:swapsWith value (some (.Subscript o i pos')) pos.line X.env=pure false) :
 PS X (.Assign [.Subscript o i pos'] value pos) (sDPut td ty tv):=by
 intro pins s σ H D I h
 refine wpAny_Assign_Subscript (thn (hv pins s σ H _ I h) fun r s1 ⟨v,H1,I1,rv,q1⟩=>thn (ho pins s1 σ H1 _ I1 q1) fun u s2 ⟨x,H2,I2,rx,q2⟩=>thn (hi pins s2 σ H2 _ I2 q2) fun iv s3 ⟨y,H3,I3,ry,a,H4,ex,g,q3⟩=>?_) hs
 subst ex
 obtain rfl:u=Value.ref a:=rx
 exact d_setItem hu I3 g ry rv fun s4 I4=>⟨σ,H4,I4,q3⟩
theorem ps_ddel (ho:PE X o td) (hi:PE X i ty):PS X (.Delete [.Subscript o i tpos] pos) (sDDel td ty):=by
 intro pins s σ H D I h
 refine wpAny_Delete (wpAny_deleteEach_cons (wpAny_delete_Subscript (thn (ho pins s σ H _ I h) fun u s1 ⟨x,H1,I1,rx,q1⟩=>thn (hi pins s1 σ H1 _ I1 q1) fun iv s2 ⟨y,H2,I2,ry,a,kvs,k,ex,e,ey,l,q2⟩=>?_)))
 subst ex ey
 obtain rfl:u=Value.ref a:=rx
 exact d_delItem I2 e ry l fun s3 I3=>wpAny_deleteEach_nil ⟨σ,_,I3,q2⟩
end
theorem dk_empty {P:Program} {w:World} {H:Hp} (h:Heap) (hb:sysModules<h.objs.size):ObjOk P w H (h.push { cls:=.type "dict",data:=.dict #[] }) h.objs.size (.dK []) :=
 ⟨Nat.zero_le _,beq_eq_false_iff_ne.mpr (Ne.symm (Nat.ne_of_lt hb)),[],.nil,Heap.DictOf.new h⟩
noncomputable def tDNewK:TE:=fun _ H Q=>∀ p,H p=none→Q (.ref p) (upd H p (.dK []))
section
variable {X:Cx} {pos:Pos}
theorem pe_dnewK:PE X (.Dict [] [] pos) tDNewK:=fun pins s σ H Q I h =>
 wpAny_Dict_empty ⟨.ref s.heap.objs.size,_,I.laid (a:=s.heap.objs.size) (o:=.dK []) (t':=s.toks) (fun _ _ q=>Heap.get?_push_of_some _ q) (Nat.le_refl _) (dk_empty s.heap I.big),rfl,h _ (I.hok.fresh (Nat.le_refl _))⟩
end
structure M1 (X:Cx) (o:Expr) (m:Str) (apos:Pos) (e:Expr) (cpos:Pos):Prop where
 base:attributeBase o m X.env (eval o X.env)=eval o X.env
 few:((backTo cpos (starEach [e] X.env)).all (fun x=>!x.1) && (backToKw cpos (keywordEach [] X.env)).all (fun x=>x.1.isSome)
  && decide (([e]:List Expr).length+([]:List Keyword).length+(if ([]:List Keyword).isEmpty then 0 else 1)<30))=true
 line:(apos.endLine == cpos.line)=true
 trees:backTo cpos (starEach [e] X.env)=[(false,eval e X.env)]
structure M2 (X:Cx) (o:Expr) (m:Str) (apos:Pos) (e f:Expr) (cpos:Pos):Prop where
 base:attributeBase o m X.env (eval o X.env)=eval o X.env
 few:((backTo cpos (starEach [e,f] X.env)).all (fun x=>!x.1) && (backToKw cpos (keywordEach [] X.env)).all (fun x=>x.1.isSome)
  && decide (([e,f]:List Expr).length+([]:List Keyword).length+(if ([]:List Keyword).isEmpty then 0 else 1)<30))=true
 line:(apos.endLine == cpos.line)=true
 trees:backTo cpos (starEach [e,f] X.env)=[(false,eval e X.env),(false,eval f X.env)]
noncomputable def IsD (H:Hp) (a:Addr):Prop:=(∃ kvs,Rd H a (.dK kvs))∨∃ kvs,Rd H a (.dT kvs)
theorem isD_at {X:Cx} {pins:List (Addr×Obj)} {σ:St} {H:Hp} {s:Shared} {a:Addr} (I:Inv X pins σ H s) (d:IsD H a) :
 s.TypeIs (.ref a) "dict"∧(∀ b,Value.ref a=.ref b→∃ ob,s.heap.get? b=some ob∧ob.dict=none)∧(a == sysModules)=false:=by
 rcases d with ⟨kvs,e⟩ | ⟨kvs,e⟩
 ·obtain⟨_,hd,vs,_,dd⟩:=dk_rd I.hok e
  refine⟨dd.typeIs,fun b q=>?_,hd⟩
  cases q
  obtain⟨ob,_,_,h1,h2,_⟩:=dd
  exact⟨ob,h1,h2.2.1⟩
 ·obtain⟨_,hd,xs,_,dd⟩:=dt_rd I.hok e
  refine⟨dd.typeIs,fun b q=>?_,hd⟩
  cases q
  obtain⟨ob,_,_,h1,h2,_⟩:=dd
  exact⟨ob,h1,h2.2.1⟩
section
variable {X:Cx} {pins:List (Addr×Obj)} {σ:St} {H:Hp} {s:Shared} {a:Addr} {y d:V} {u r:Value} {o:Option V} {A:Around} {E:Value→Shared→Prop}
end
section
variable {X:Cx} {o e f:Expr} {apos cpos:Pos} {td ty tx:TE}
end
section
variable {X:Cx} {pins:List (Addr×Obj)} {σ:St} {H:Hp} {s:Shared} {a:Addr} {kvs:List (Key×V)} {A:Around} {E:Value→Shared→Prop}
end
section
variable {X:Cx} {pins:List (Addr×Obj)} {σ:St} {H:Hp} {s:Shared} {a:Addr} {y:V} {u:Value} {A:Around} {E:Value→Shared→Prop}
end
end L2
namespace L2
open PySem PySem.Spec PyProof.Rows
section
variable {X:Cx} {pins:List (Addr×Obj)} {σ:St} {H:Hp} {s:Shared} {d:Addr} {kvs:List (Key×V)}
theorem Inv.freezeD (I:Inv X pins σ H s) (e:H d=some (.dK kvs)):∃ od,s.heap.get? d=some od∧Inv X pins σ (upd H d (.frz od (.dK kvs))) s:=by
 obtain⟨z,hd,vs,rel,dd⟩:=dk_of I.hok e
 obtain⟨ep,hat⟩:=dd.dictAt
 obtain⟨od,es,ho,_⟩:=id hat
 refine⟨od,ho,?_⟩
 have ne:∀ b u,H b=some u→(∀ ks,u≠.dK ks)→b≠d:=fun b u q n z=>by rw[z,e]at q;cases q;exact n _ rfl
 have nb:∀ b,H b=none→b≠d:=fun b q z=>by rw[z,e]at q;cases q
 have up:∀ b u,H b=some u→(∀ ks,u≠.dK ks)→upd H d (.frz od (.dK kvs)) b=some u:=fun b u q n=>by rw[upd_ne (ne b u q n)];exact q
 have un:Un X.fs [] H (upd H d (.frz od (.dK kvs))) s.heap s.heap:=⟨fun _ _ q _ _ _=>q,fun _ o q _ _ _=>⟨o.slots,q⟩,fun b _ _ n _=>by rw[upd_ne (nb b n)];exact n,fun _ o q _=>⟨o,q⟩,
  fun b xs q=>up b _ q (fun _ z=>by cases z),fun b o u q=>up b _ q (fun _ z=>by cases z),fun b ps q=>⟨#[],by rw[up b _ q (fun _ z=>by cases z)];simp⟩⟩
 exact I.un (t':=s.toks) un fun b u q=>by
  by_cases hb:b=d
  ·subst hb
   rw[upd_same]at q
   cases q
   exact⟨ho,z,hd,vs,rel,dd⟩
  ·rw[upd_ne hb]at q
   exact(I.hok b u q).stay (fun _ _ _ z=>z) (fun c z=>up c _ z fun _ z=>by cases z) fun c xs z=>up c _ z fun _ z=>by cases z
end
noncomputable def Itd (d:Addr) (od:Obj) (kvs:List (Key×V)):It :=
 ⟨fun i H=>H d=some (.frz od (.dK kvs))∧i<kvs.length,fun i H v H'=>∃ t k x,v=.ref t∧H t=none∧kvs[i]?=some (k,x)∧H'=upd H t (.tup [kV k,x]),fun i H=>H d=some (.frz od (.dK kvs))∧kvs.length≤i⟩
theorem kv_at {kvs:List (Key×V)} {vs:List (Key×Value)} (r:KV kvs vs) {i:Nat} {k:Key} {x:V} (e:kvs[i]?=some (k,x)):∃ u,vs[i]?=some (k,u)∧RelV x u:=by
 induction r generalizing i with
 | nil=>simp at e
 | cons h _ ih =>
  cases i with
  | zero =>
   rename_i p q _ _ _
   obtain⟨p1,p2⟩:=p
   obtain⟨q1,q2⟩:=q
   simp only[List.getElem?_cons_zero,Option.some.injEq,Prod.mk.injEq]at e
   obtain⟨rfl,rfl⟩:=e
   obtain⟨h1,h2⟩:=h
   simp only at h1 h2
   subst h1
   exact⟨_,rfl,h2⟩
  | succ i=>exact ih e
theorem kV_rel {P:Program} {w:World} {k:Key} {u:Value} (h:(mixKind P w).is k u=true):RelV (kV k) u:=by
 rw[mixKind_is]at h
 rcases keyIs_shape h with ⟨i,t,rfl,rfl⟩ | ⟨x,t,rfl,rfl⟩
 ·exact⟨_,rfl⟩
 ·exact⟨_,rfl⟩
theorem turn_items {P:Program} {w:World} {K:PySem.W.Frag} {elts:List Expr} {x1} {pos:Pos} (d it:Addr) (od:Obj) (kvs:List (Key×V)) (vs:List (Key×Value)) (ep:Nat) (rel:KV kvs vs) (hat:∀ h:Heap,h.get? d=some od→h.DictAt (mixKind P w) d vs ep) (hne:d≠it) :
 Turn P w K (.Tuple elts x1 pos) (Itd d od kvs) [it] it (fun i h=>∃ ok ov,IsItemIter h it d i vs.length ep ok ov) where
 mem:=by simp
 obj:=fun i h st b hb=>by
  obtain⟨ok,ov,he⟩:=st
  have z:b=it:=by simpa using hb
  subst z
  exact⟨_,he,fun v z=>by have z':Data.fields _=Data.cell v:=z;cases z'⟩
 keep:=fun i h h' st k=>let ⟨ok,ov,he⟩:=st;⟨ok,ov,k it (by simp) _ he⟩
 item:=by
  intro X hP hw hK hc i pins s σ H E I hf st hg
  subst hP hw hK
  obtain⟨hd,hi⟩:=hg
  obtain⟨⟨k,x⟩,hx⟩:∃ p,kvs[i]?=some p:=⟨kvs[i],by simp[hi]⟩
  obtain⟨u,hu,ru⟩:=kv_at rel hx
  obtain⟨ok,ov,he⟩:=st
  have hod:s.heap.get? d=some od:=(I.hok d _ hd).1
  have li:it<s.heap.objs.size:=Heap.lt_size he
  refine wpAny_pyNext_items_item he (hat _ hod) hu fun key h' hkey ho hT hsz kp=>?_
  refine⟨_,rfl,?_⟩
  have hn:H s.heap.objs.size=none:=I.hok.fresh (Nat.le_refl _)
  have tupOk:∀ h2:Heap,h2.get? s.heap.objs.size=some { cls:=.type "tuple",data:=.seq #[key,u] }→ObjOk X.prog X.w (upd H s.heap.objs.size (.tup [kV k,x])) h2 s.heap.objs.size (.tup [kV k,x]):=fun h2 q =>
   ⟨by show 2≤sizeLine;decide,[key,u],.cons (kV_rel hkey) (.cons ru .nil),_,q,rfl,_,rfl⟩
  refine wpAny_letOwnedTupleGo_items ho fun h2 f1 sb=>?_
  have k2:∀ b o,b∉[it]→s.heap.get? b=some o→h2.get? b=some o:=fun b o hb q=>sb.extBut b o (fun z=>hb (by simp[z])) (kp b o (fun z=>hb (by simp[z])) q)
  have n1:s.heap.objs.size≠it:=Nat.ne_of_gt li
  refine⟨.ref s.heap.objs.size,_,I.turnLaid (t':=s.toks) (h':=h2) (o:=.tup [kV k,x]) k2 hf (Nat.le_refl _) (tupOk _ (sb.extBut _ _ n1 hT)),rfl,⟨_,k,x,rfl,hn,hx,rfl⟩,⟨_,_,f1⟩,fun b hb=>?_⟩
  have hb':b≠s.heap.objs.size:=by
   have z:b=it:=by simpa using hb
   subst z;exact Nat.ne_of_lt li
  rw[upd_ne hb'];exact(hf b hb).1
 done:=by
  intro X hP hw hK hc i pins s σ H E I hf st hg
  subst hP hw hK
  obtain⟨hd,hi⟩:=hg
  obtain⟨ok,ov,he⟩:=st
  have hod:s.heap.get? d=some od:=(I.hok d _ hd).1
  have hl:=rel.length
  exact wpAny_pyNext_items_end (I.ok.hd hc) he (hat _ hod) (by simp;omega) fun h' eb=>⟨rfl,I.turnedF (fp:=[it]) (t':=s.toks) (fun b o hb e=>eb b o (fun z=>hb (by simp[z])) e) hf⟩
 self:=fun _ _ _ _ _ st h=>let ⟨_,_,he⟩:=st;PySem.W.kcp_self he h
noncomputable def iItems (td:TE):TI:=fun σ H R=>td σ H fun x H1=>∃ d kvs,x=.ref d∧H1 d=some (.dK kvs)∧∀ od,R (Itd d od kvs) (upd H1 d (.frz od (.dK kvs)))
theorem pi_items {X:Cx} {elts:List Expr} {x1} {tpos:Pos} {o:Expr} {td:TE} {apos pos:Pos} (ho:PE X o td) (hbase:attributeBase o "items" X.env (eval o X.env)=eval o X.env:=by rfl) (hline:(apos.endLine == pos.line)=true:=by rfl) :
 PI X (.Tuple elts x1 tpos) (.Call (.Attribute o "items" apos) [] [] pos) (iItems td):=by
 intro pins s σ H R I h
 refine wpAny_Call_method0_late hbase hline (thn (ho pins s σ H _ I h) fun u s1 ⟨x,H1,I1,rx,d,kvs,ex,hd,q⟩=>?_)
 subst ex
 obtain rfl:u=Value.ref d:=rx
 obtain⟨z,hsys,vs,rel,dd⟩:=dk_of I1.hok hd
 obtain⟨ep,hat⟩:=id dd.dictAt
 obtain⟨od,hod,I2⟩:=I1.freezeD hd
 obtain⟨t1,t2,_⟩:=isD_at I1 (.inl ⟨kvs,.inl hd⟩)
 refine⟨"dict","dict.items",PySem.F.plainAttrs_dict,PySem.F.slot_dict_items,PySem.F.type_dict_items,t1,t2,Calls.callWith_builtin rfl (PySem.evalArgs_none ?_)⟩
 refine call_meetsIn PySem.F.slot_dict_items dd.typeIs PySem.F.entry_dict_items (PySem.F.args_dict_items_1 _) (meets_dict_items (mixKind X.prog X.w) d hsys) ⟨⟨vs,dd⟩,?_⟩
 have hv:(s1.heap.push { cls:=.type "dict_items",data:=.fields #[.ref d] }).IsItemsView s1.heap.objs.size d:=⟨_,Heap.get?_push_size _ rfl,rfl,rfl⟩
 have h1:(s1.heap.push { cls:=.type "dict_items",data:=.fields #[.ref d] }).get? d=some od:=Heap.get?_push_of_some _ hod
 have hat':∀ h:Heap,h.get? d=some od→h.DictAt (mixKind X.prog X.w) d vs ep:=fun h e=>hat.at fun o q=>by rw[hod]at q;cases q;exact e
 refine wpAny_pyIter_items hv (hat' _ h1) ?_
 generalize hob:({ cls:=.type "dict_itemiterator",data:=.fields #[.none,.bool false,.ref d,.int 0 0,.int vs.length 0,.int ep 0,.none,.none] }:Obj)=ob
 have kp:∀ b o,s1.heap.get? b=some o→((s1.heap.push { cls:=.type "dict_items",data:=.fields #[.ref d] }).push ob).get? b=some o:=fun b o e=>Heap.get?_push_of_some _ (Heap.get?_push_of_some _ e)
 have hsz:(s1.heap.push { cls:=.type "dict_items",data:=.fields #[.ref d] }).objs.size=s1.heap.objs.size+1:=Heap.size_push ..
 have I3:=I2.kept (t':=s1.toks) kp
 have hge:s1.heap.objs.size≤(s1.heap.push { cls:=.type "dict_items",data:=.fields #[.ref d] }).objs.size:=by rw[hsz];exact Nat.le_succ _
 have hne:d≠(s1.heap.push { cls:=.type "dict_items",data:=.fields #[.ref d] }).objs.size:=fun z=>by
  have:=Heap.lt_size hod
  rw[z]at this
  exact absurd this (Nat.not_lt.mpr hge)
 refine⟨_,[_],_,_,_,rfl,I3,turn_items d _ od kvs vs ep rel hat' hne,⟨.none,.none,?_⟩,fun b hb=>?_,q od⟩
 ·rw[← hob]
  exact Heap.get?_push_size _ rfl
 ·have z:b=(s1.heap.push { cls:=.type "dict_items",data:=.fields #[.ref d] }).objs.size:=by simpa using hb
  rw[z]
  exact I2.fpOk hge (I2.hok.fresh hge)
theorem comp_items {d:Addr} {od:Obj} {kvs:List (Key×V)} {σ0:St} {g:TG} {tt:TT} {te:TE} {H:Hp} {Q:VK} (Pv:Nat→List V→Hp→Prop) (h0:Pv 0 [] H) (hl:∀ i ys H,i≤kvs.length→Pv i ys H→H d=some (.frz od (.dK kvs))∧ys.length<sizeLine)
 (hs:∀ i k x ys H t,kvs[i]?=some (k,x)→Pv i ys H→H t=none→g (.ref t) σ0 (upd H t (.tup [kV k,x])) fun σ2 H2=>tt σ2 H2 fun b H3=>if b=true then te σ2 H3 fun y H4=>Pv (i+1) (ys++[y]) H4 else Pv (i+1) ys H3) (hd:∀ ys H,Pv kvs.length ys H→∀ D,H D=none→Q (.ref D) (upd H D (.lst ys))) :
 CompR (Itd d od kvs) σ0 g tt te Q H:=by
 refine⟨fun i m ys H=>m=kvs.length - i∧i≤kvs.length∧Pv i ys H,⟨kvs.length,by simp,Nat.zero_le _,h0⟩,?_⟩
 rintro i m ys H ⟨rfl,hi,p⟩
 obtain⟨q,hz⟩:=hl i ys H hi p
 refine⟨hz,?_⟩
 by_cases hlt:i<kvs.length
 ·refine .inr ⟨⟨q,hlt⟩,Pv (i+1),fun ys' H' p'=>⟨kvs.length - (i+1),by omega,rfl,hlt,p'⟩,fun x H' y=>?_⟩
  obtain⟨t,k,v,rfl,hn,hx,rfl⟩:=y
  exact hs i k v ys _ t hx p hn
 ·have e:i=kvs.length:=by omega
  subst e
  exact .inl ⟨⟨q,Nat.le_refl _⟩,hd ys H p⟩
noncomputable def tDSet (td ty tx:TE):TE:=fun σ H Q=>td σ H fun x H1=>∃ a,x=.ref a∧IsD H1 a∧ty σ H1 fun y H2=>tx σ H2 fun z H3=>∃ kvs k,H3 a=some (.dK kvs)∧y=kV k∧kvs.length<sizeLine ∧
 (∀ v,valV kvs k=some v→Q v H3)∧(valV kvs k=none→Q z (upd H3 a (.dK (putK kvs k z))))
section
variable {X:Cx} {o e f:Expr} {apos cpos:Pos} {td ty tx:TE}
theorem pe_dset (ho:PE X o td) (he:PE X e ty) (hf:PE X f tx) (m:M2 X o "setdefault" apos e f cpos):PE X (.Call (.Attribute o "setdefault" apos) [e,f] [] cpos) (tDSet td ty tx):=by
 intro pins s σ H Q I h
 refine wpAny_Call_method m.base m.few m.line PySem.F.plainAttrs_dict PySem.F.slot_dict_setdefault PySem.F.type_dict_setdefault (thn (ho pins s σ H _ I h) fun u s1 ⟨x,H1,I1,rx,a,ex,d,q1⟩=>?_)
 subst ex
 obtain rfl:u=Value.ref a:=rx
 obtain⟨t1,t2,_⟩:=isD_at I1 d
 refine⟨t1,t2,?_⟩
 rw[m.trees]
 refine Calls.callWith_builtin rfl (Calls.evalArgs_plain (Calls.spliced_cons (thn (he pins s1 σ H1 _ I1 q1) fun iv s2 ⟨y,H2,I2,ry,q2⟩ =>
  Calls.spliced_cons (thn (hf pins s2 σ H2 _ I2 q2) fun fv s3 ⟨z,H3,I3,rz,kvs,k,ea,ey,hl,q3,q4⟩=>Calls.spliced_nil ?_))))
 subst ey
 obtain⟨hz,hsys,vs,rel,dd⟩:=dk_of I3.hok ea
 refine call_meetsIn PySem.F.slot_dict_setdefault dd.typeIs PySem.F.entry_dict_setdefault (PySem.F.args_dict_setdefault_3 _ _ _) (kt_meets_setdefault (mixKind X.prog X.w) a (kV_is ry) hsys fv) ⟨vs,dd,by rw[← rel.length];exact hz,fun v hv=>?_,fun hn h' hd' hs=>?_⟩
 ·have r:=rel.val k
  rw[hv]at r
  cases hq:valV kvs k with
  | none=>rw[hq]at r;exact r.elim
  | some v'=>rw[hq]at r;exact⟨v',H3,I3.tok _,r,q3 v' hq⟩
 ·have r:=rel.val k
  rw[hn]at r
  have hq:valV kvs k=none:=by
   cases hq:valV kvs k with
   | none=>rfl
   | some v'=>rw[hq]at r;exact r.elim
  refine⟨z,_,d_write (t':=_) I3 (by rw[ea];exact True.intro) hs ?_ (dk_new ?_ hsys (rel.put k rz) hd'),rz,q4 hq⟩
  ·obtain⟨_,hat⟩:=hd'.dictAt
   obtain⟨o,es,ho,_⟩:=id hat
   exact⟨o,ho⟩
  ·have:=length_putK kvs k z
   omega
end
end L2
namespace CW
open PySem L2
theorem nodup_inj {α β:Type} {f:α→β}:∀ {l:List α},(l.map f).Nodup→∀ {x y:α},x∈l→y∈l→f x=f y→x=y
 | [],_,_,_,hx,_,_=>by cases hx
 | z :: r,h,x,y,hx,hy,e=>by
  rw[List.map_cons,List.nodup_cons]at h
  rcases List.mem_cons.mp hx with ex | hx'
  ·rcases List.mem_cons.mp hy with ey | hy'
   ·rw[ex,ey]
   ·exact absurd (List.mem_map.mpr ⟨y,hy',by rw[← e,ex]⟩) h.1
  ·rcases List.mem_cons.mp hy with ey | hy'
   ·exact absurd (List.mem_map.mpr ⟨x,hx',by rw[e,ey]⟩) h.1
   ·exact nodup_inj h.2 hx' hy' e
noncomputable abbrev Grp:=Int×Addr×List Int
noncomputable def kvG (gs:List Grp):List (Key×V):=gs.map fun g=>((Sum.inl g.1:Key),V.ref g.2.1)
structure DG (H:Hp) (d:Addr) (gs:List Grp):Prop where
 at_:H d=some (.dK (kvG gs))
 lst:∀ g∈gs,H g.2.1=some (.lst (g.2.2.map V.int))
 adr:(gs.map (·.2.1)).Nodup
 key:(gs.map (·.1)).Nodup
noncomputable def SameD (d:Addr) (H H':Hp):Prop:=∀ b o,b≠d→H b=some o→H' b=some o
theorem SameD.trans {d:Addr} {H H1 H2:Hp} (a:SameD d H H1) (b:SameD d H1 H2):SameD d H H2:=fun c o n h=>b c o n (a c o n h)
noncomputable def wgt (f:Int→Int) (gs:List Grp):Int:=(gs.map fun g=>f g.1 * (g.2.2.length:Int)).sum
noncomputable def tot (f:Int→Int) (ps:List (Int×Int)):Int:=(ps.map fun p=>f p.1).sum
theorem valV_kvG (k:Int):∀ gs:List Grp,valV (kvG gs) (Sum.inl k:Key)=(gs.find? fun g=>decide (g.1=k)).map fun g=>V.ref g.2.1
 | []=>rfl
 | g :: r=>by
  by_cases h:g.1=k
  ·have:valV (kvG (g :: r)) (Sum.inl k:Key)=some (V.ref g.2.1):=valV_pos (p:=((Sum.inl g.1:Key),V.ref g.2.1)) (by rw[h])
   rw[this,List.find?_cons,decide_eq_true h]
   rfl
  ·have:valV (kvG (g :: r)) (Sum.inl k:Key)=valV (kvG r) (Sum.inl k:Key):=valV_neg (p:=((Sum.inl g.1:Key),V.ref g.2.1)) (fun z=>h (Sum.inl.inj z))
   rw[this,List.find?_cons,decide_eq_false h]
   exact valV_kvG k r
noncomputable def grow (k o:Int) (gs:List Grp):List Grp:=gs.map fun g=>if g.1=k then (g.1,g.2.1,g.2.2++[o])else g
theorem kvG_grow (k o:Int) (gs:List Grp):kvG (grow k o gs)=kvG gs:=by
 unfold kvG grow
 rw[List.map_map]
 refine List.map_congr_left fun g _=>?_
 simp only[Function.comp]
 split <;> rfl
theorem adr_grow (k o:Int) (gs:List Grp):(grow k o gs).map (·.2.1)=gs.map (·.2.1):=by
 unfold grow
 rw[List.map_map]
 refine List.map_congr_left fun g _=>?_
 simp only[Function.comp]
 split <;> rfl
theorem key_grow (k o:Int) (gs:List Grp):(grow k o gs).map (·.1)=gs.map (·.1):=by
 unfold grow
 rw[List.map_map]
 refine List.map_congr_left fun g _=>?_
 simp only[Function.comp]
 split <;> rfl
theorem grow_none {k o:Int}:∀ {gs:List Grp},(∀ g∈gs,g.1≠k)→grow k o gs=gs
 | [],_=>rfl
 | g :: r,h=>by
  have h1:=h g List.mem_cons_self
  unfold grow
  rw[List.map_cons,if_neg h1]
  congr 1
  exact grow_none fun x hx=>h x (List.mem_cons_of_mem _ hx)
noncomputable def lesJ (j k:Int):Int:=if k<j then k else j
section
variable {P:Program} {w:World} {K:PySem.W.Frag} {mg:Str→Option Value} {base:Heap}
end
end CW
namespace L2
open PySem PySem.Spec PyProof.Rows
theorem Inv.thaw {X:Cx} {pins:List (Addr×Obj)} {σ:St} {H:Hp} {s:Shared} {d:Addr} {od:Obj} {kvs:List (Key×V)} (I:Inv X pins σ H s) (e:H d=some (.frz od (.dK kvs))) (h0:∀ o u,X.H₀ d≠some (.frz o u)):Inv X pins σ (upd H d (.dK kvs)) s:=by
 obtain⟨ho,hok⟩:=I.hok d _ e
 have ne:∀ b u,H b=some u→(∀ o v,u≠.frz o v)→b≠d:=fun b u q n z=>by rw[z,e]at q;cases q;exact n _ _ rfl
 have nb:∀ b,H b=none→b≠d:=fun b q z=>by rw[z,e]at q;cases q
 have up:∀ b u,H b=some u→(∀ o v,u≠.frz o v)→upd H d (.dK kvs) b=some u:=fun b u q n=>by rw[upd_ne (ne b u q n)];exact q
 refine⟨I.ok,I.os,I.bare,⟨I.base.keep,I.base.slot,fun b o q n x=>?_,I.base.there,fun b xs q=>up b _ (I.base.tups b xs q) (fun _ _ z=>by cases z),fun b o u q=>?_,fun b ps q=>?_⟩,I.loc,I.cell,?_,fun x c q=>?_,fun p q=>?_,fun b u q=>?_,I.len⟩
 ·rw[upd_ne (nb b (I.base.free b o q n x))]
  exact I.base.free b o q n x
 ·have hb:b≠d:=fun z=>by rw[z]at q;exact h0 _ _ q
  rw[upd_ne hb]
  exact I.base.frzs b o u q
 ·obtain⟨more,e'⟩:=I.base.tbls b ps q
  exact⟨more,up b _ e' (fun _ _ z=>by cases z)⟩
 ·rw[upd_ne (nb _ I.free)]
  exact I.free
 ·rw[upd_ne (nb _ (I.freeC x c q))]
  exact I.freeC x c q
 ·obtain⟨e',n,ne',nf,dd⟩:=I.pin p q
  exact⟨e',by rw[upd_ne (nb _ n)];exact n,ne',nf,dd⟩
 ·by_cases hb:b=d
  ·subst hb
   rw[upd_same]at q
   cases q
   exact hok
  ·rw[upd_ne hb]at q
   exact(I.hok b u q).stay (fun _ _ _ z=>z) (fun c z=>up c _ z fun _ _ z=>by cases z) fun c xs z=>up c _ z fun _ _ z=>by cases z
noncomputable def tThaw (t:TE):TE:=fun σ H Q=>∃ d kvs,H d=some (.dK kvs)∧t σ H fun v H'=>∃ od,H' d=some (.frz od (.dK kvs))∧Q v (upd H' d (.dK kvs))
theorem pe_thaw {X:Cx} {e:Expr} {t:TE} (h:PE X e t):PE X e (tThaw t):=by
 intro pins s σ H Q I q
 obtain⟨d,kvs,hd,q⟩:=q
 have h0:∀ o u,X.H₀ d≠some (.frz o u):=fun o u z=>by
  have:=I.base.frzs d o u z
  rw[hd]at this
  cases this
 exact thn (h pins s σ H _ I q) fun u s1 ⟨v,H1,I1,rv,od,hf,q1⟩=>⟨v,_,I1.thaw hf h0,rv,q1⟩
end L2
namespace L2
open PySem PySem.W PySem.Spec PyProof.Rows
theorem ints_of_keys {P:Program} {w:World} {ks:List Int} {vs:List Value} (hl:vs.length=ks.length) (h:∀ (j:Nat) (v:Value),vs[j]?=some v→∃ k,ks[j]?=some k∧(mixKind P w).is (Sum.inl k) v=true):IntsAre vs ks:=by
 induction vs generalizing ks with
 | nil=>cases ks with
  | nil=>exact .nil
  | cons _ _=>cases hl
 | cons v r ih=>cases ks with
  | nil=>cases hl
  | cons k ks =>
   obtain⟨k',h1,h2⟩:=h 0 v rfl
   cases h1
   rw[mixKind_is]at h2
   rcases keyIs_shape h2 with ⟨i,t,e1,e2⟩ | ⟨x,t,e1,e2⟩
   ·cases e1
    subst e2
    exact .cons _ _ (ih (by simpa using hl) fun j v e=>h (j+1) v e)
   ·cases e1
noncomputable def KeysI (kvs:List (Key×V)) (ks:List Int):Prop:=kvs.map Prod.fst=ks.map Sum.inl
section
variable {X:Cx}
theorem call_sortedD (hc:X.calm=true):CallR X (.builtin "sorted") (fun xs H Q=>∃ (a:Addr) (kvs:List (Key×V)) (ks:List Int),xs=[.ref a]∧H a=some (.dK kvs)∧KeysI kvs ks∧ks.length<64 ∧
 ∀ (l:Addr) (ms:List Int),H l=none→ms.Perm ks→ms.Pairwise (·≤·)→Q (.ref l) (upd H l (.lst (ms.map V.int)))):=by
 intro pins s σ H xs us Q I r h
 obtain⟨a,kvs,ks,rfl,ha,hk,h64,q⟩:=h
 obtain⟨u,rfl,rx⟩:=vals1 r
 cases rx
 obtain⟨z,hsys,vs,rel,dd⟩:=dk_of I.hok ha
 obtain⟨ep,hat⟩:=id dd.dictAt
 have hlen:vs.length=ks.length:=by
  have e1:=rel.length
  have e2:=congrArg List.length hk
  simp at e2
  omega
 have hbig:vs.length≤sizeLine:=Nat.le_trans (show vs.length≤64 by omega) (by decide)
 refine Calls.call_function_entry kind_sorted plain_sorted entry_sorted (args_sorted1 _) ?_
 unfold Builtin.«sorted»
 refine wpAny_bind (m:=checkCount "sorted" 1 1 _) (wpAny_pure ?_)
 refine wpAny_bind (kdu_collect (A:=X.A.in1) (kdl_dict (knd:=mixKind X.prog X.w) (kvs:=vs) (ep:=ep) hsys) (I.ok.hd hc) hat hbig fun h' tk acc hk' hacc=>?_)
 have hl:acc.toList.length=vs.length:=by rw[Array.length_toList];exact hacc.1
 have hI:IntsAre acc.toList ks:=ints_of_keys (P:=X.prog) (w:=X.w) (by omega) fun j v e=>by
  obtain⟨k,x,h1,h2⟩:=hacc.2 j v (by rw[← Array.getElem?_toList];exact e)
  have hj:j<vs.length:=(List.getElem?_eq_some_iff.mp h1).1
  have h3:(kvs.map Prod.fst)[j]?=some k:=by
   have hj':j<kvs.length:=by rw[rel.length];exact hj
   obtain⟨u,e1,e2⟩:=kv_at rel (i:=j) (k:=(kvs[j]).1) (x:=(kvs[j]).2) (List.getElem?_eq_getElem hj')
   rw[h1]at e1
   cases e1
   simp[hj']
  rw[hk,List.getElem?_map]at h3
  obtain⟨n,h4,h5⟩:=Option.map_eq_some_iff.mp h3
  subst h5
  exact⟨n,h4,h2⟩
 refine wpAny_bind (wpAny_newList ?_ (by omega))
 have e0:(h'.push (seqObj "list" acc.toList.toArray 0)).get? h'.objs.size=some (seqObj "list" acc.toList.toArray 0):=Heap.get?_push_size _ rfl
 have kp:∀ b o,h'.get? b=some o→(h'.push (seqObj "list" acc.toList.toArray 0)).get? b=some o:=fun b o e=>Heap.get?_push_of_some _ e
 have I':=I.kept (t':=tk) hk'
 have hlt2:h'.objs.size<(h'.push (seqObj "list" acc.toList.toArray 0)).objs.size:=by rw[size_push'];exact Nat.lt_succ_self _
 have hsz2:(h'.push (seqObj "list" acc.toList.toArray 0)).objs.size=h'.objs.size+1:=size_push' ..
 show wpAny _ _ _ _ _ { s with heap:=h'.push (seqObj "list" acc.toList.toArray 0),toks:=tk }
 generalize h'.push (seqObj "list" acc.toList.toArray 0)=h2 at e0 kp hlt2 hsz2
 refine wpAny_bind (wpAny_holding (wpAny_call_entry slot_list_sort ⟨_,e0,rfl⟩ entry_list_sort (list_sort_tree (s:={ s with heap:=h2,toks:=tk }) e0 hI (by omega) fun out ns' hI' hp hs=>⟨_,rfl,?_⟩) (args_list_sort _)))
 obtain⟨n0,at0⟩:=sortedHeap_at (out:=out) e0
 have hn:H h'.objs.size=none:=I'.hok.fresh (Nat.le_refl _)
 refine wpAny_pure ⟨_,rfl,.ref h'.objs.size,_,I'.laid (t':=tk) (o:=.lst (ns'.map V.int)) (fun b o e=>?_) (Nat.le_refl _) ⟨?_,out.toList,n0,vals_ints hI',at0⟩,rfl,q _ ns' hn hp hs⟩
 ·have hb:=Heap.lt_size e
  have hb':b<h'.objs.size:=hb
  exact(sortedHeap_old (Nat.ne_of_lt hb') (by show b<h2.objs.size;rw[hsz2];exact Nat.lt_succ_of_lt hb')).trans (kp b o e)
 ·rw[List.length_map,hp.length_eq]
  exact Nat.le_trans (show ks.length≤64 by omega) (by decide)
end
end L2
namespace L2
open PySem PySem.Spec PyProof.Rows
noncomputable def Itw (d:Addr) (od:Obj) (kvs:List (Key×V)):It :=
 ⟨fun i H=>H d=some (.frz od (.dK kvs))∧i<kvs.length,fun i H v H'=>H'=H∧∃ k,kvs[i]?=some (k,v),fun i H=>H d=some (.frz od (.dK kvs))∧kvs.length≤i⟩
theorem turn_values {P:Program} {w:World} {K:PySem.W.Frag} {tg:Expr} (d it:Addr) (od:Obj) (kvs:List (Key×V)) (vs:List (Key×Value)) (ep:Nat) (rel:KV kvs vs) (hat:∀ h:Heap,h.get? d=some od→h.DictAt (mixKind P w) d vs ep) (hne:d≠it) :
 Turn P w K tg (Itw d od kvs) [it] it (fun i h=>h.IsValIter it d i vs.length ep) where
 mem:=by simp
 obj:=fun i h st b hb=>by
  obtain⟨o,he,hc,hd⟩:=st
  have z:b=it:=by simpa using hb
  subst z
  exact⟨o,he,fun v z=>by rw[hd]at z;cases z⟩
 keep:=fun i h h' st k=>let ⟨o,he,r⟩:=st;⟨o,k it (by simp) _ he,r⟩
 item:=by
  intro X hP hw hK hc i pins s σ H E I hf st hg
  subst hP hw hK
  obtain⟨hd,hi⟩:=hg
  obtain⟨⟨k,x⟩,hx⟩:∃ p,kvs[i]?=some p:=⟨kvs[i],by simp[hi]⟩
  obtain⟨u,hu,ru⟩:=kv_at rel hx
  have hod:s.heap.get? d=some od:=(I.hok d _ hd).1
  refine wpAny_pyNext_values_item st (hat _ hod) hu fun h' st' sb=>?_
  obtain⟨o,e,c,dd⟩:=id st'
  exact⟨u,rfl,go_of (s:={ s with heap:=h' }) e c dd (by decide) ⟨x,H,I.turnedF (fp:=[it]) (t':=s.toks) (fun b o hb e=>sb.extBut b o (fun z=>hb (by simp[z])) e) hf,ru,⟨rfl,k,hx⟩,st',fun b hb=>(hf b hb).1⟩⟩
 done:=by
  intro X hP hw hK hc i pins s σ H E I hf st hg
  subst hP hw hK
  obtain⟨hd,hi⟩:=hg
  have hod:s.heap.get? d=some od:=(I.hok d _ hd).1
  have hl:=rel.length
  exact wpAny_pyNext_values_end (I.ok.hd hc) st (hat _ hod) (by simp;omega) fun h' eb=>⟨rfl,I.turnedF (fp:=[it]) (t':=s.toks) (fun b o hb e=>eb b o (fun z=>hb (by simp[z])) e) hf⟩
 self:=fun _ _ _ _ _ st h=>wpAny_pyIter_valiter st h
noncomputable def iValues (td:TE):TI:=fun σ H R=>td σ H fun x H1=>∃ d kvs,x=.ref d∧H1 d=some (.dK kvs)∧∀ od,R (Itw d od kvs) (upd H1 d (.frz od (.dK kvs)))
theorem pi_values {X:Cx} {tg:Expr} {o:Expr} {td:TE} {apos pos:Pos} (ho:PE X o td) (hbase:attributeBase o "values" X.env (eval o X.env)=eval o X.env:=by rfl) (hline:(apos.endLine == pos.line)=true:=by rfl) :
 PI X tg (.Call (.Attribute o "values" apos) [] [] pos) (iValues td):=by
 intro pins s σ H R I h
 refine wpAny_Call_method0_late hbase hline (thn (ho pins s σ H _ I h) fun u s1 ⟨x,H1,I1,rx,d,kvs,ex,hd,q⟩=>?_)
 subst ex
 obtain rfl:u=Value.ref d:=rx
 obtain⟨z,hsys,vs,rel,dd⟩:=dk_of I1.hok hd
 obtain⟨ep,hat⟩:=id dd.dictAt
 obtain⟨od,hod,I2⟩:=I1.freezeD hd
 obtain⟨t1,t2,_⟩:=isD_at I1 (.inl ⟨kvs,.inl hd⟩)
 refine⟨"dict","dict.values",PySem.F.plainAttrs_dict,PySem.F.slot_dict_values,PySem.F.type_dict_values,t1,t2,Calls.callWith_builtin rfl (PySem.evalArgs_none ?_)⟩
 refine call_meetsIn PySem.F.slot_dict_values dd.typeIs PySem.F.entry_dict_values (PySem.F.args_dict_values_1 _) (meets_dict_values (mixKind X.prog X.w) d hsys) ⟨⟨vs,dd⟩,?_⟩
 have hv:(s1.heap.push { cls:=.type "dict_values",data:=.fields #[.ref d] }).IsValuesView s1.heap.objs.size d:=⟨_,Heap.get?_push_size _ rfl,rfl,rfl⟩
 have h1:(s1.heap.push { cls:=.type "dict_values",data:=.fields #[.ref d] }).get? d=some od:=Heap.get?_push_of_some _ hod
 have hat':∀ h:Heap,h.get? d=some od→h.DictAt (mixKind X.prog X.w) d vs ep:=fun h e=>hat.at fun o q=>by rw[hod]at q;cases q;exact e
 refine wpAny_pyIter_values hv (hat' _ h1) ?_
 generalize hob:({ cls:=.type "dict_valueiterator",data:=.fields #[.ref d,.int 0 0,.int vs.length 0,.int ep 0] }:Obj)=ob
 have kp:∀ b o,s1.heap.get? b=some o→((s1.heap.push { cls:=.type "dict_values",data:=.fields #[.ref d] }).push ob).get? b=some o:=fun b o e=>Heap.get?_push_of_some _ (Heap.get?_push_of_some _ e)
 have hsz:(s1.heap.push { cls:=.type "dict_values",data:=.fields #[.ref d] }).objs.size=s1.heap.objs.size+1:=Heap.size_push ..
 have I3:=I2.kept (t':=s1.toks) kp
 have hge:s1.heap.objs.size≤(s1.heap.push { cls:=.type "dict_values",data:=.fields #[.ref d] }).objs.size:=by rw[hsz];exact Nat.le_succ _
 have hne:d≠(s1.heap.push { cls:=.type "dict_values",data:=.fields #[.ref d] }).objs.size:=fun z=>by
  have:=Heap.lt_size hod
  rw[z]at this
  exact absurd this (Nat.not_lt.mpr hge)
 refine⟨_,[_],_,_,_,rfl,I3,turn_values d _ od kvs vs ep rel hat' hne,?_,fun b hb=>?_,q od⟩
 ·rw[← hob]
  exact⟨_,Heap.get?_push_size _ rfl,rfl,rfl⟩
 ·have z:b=(s1.heap.push { cls:=.type "dict_values",data:=.fields #[.ref d] }).objs.size:=by simpa using hb
  rw[z]
  exact I2.fpOk hge (I2.hok.fresh hge)
theorem comp_values {d:Addr} {od:Obj} {kvs:List (Key×V)} {σ0:St} {g:TG} {tt:TT} {te:TE} {H:Hp} {Q:VK} (Pv:Nat→List V→Hp→Prop) (h0:Pv 0 [] H) (hl:∀ i ys H,i≤kvs.length→Pv i ys H→H d=some (.frz od (.dK kvs))∧ys.length<sizeLine)
 (hs:∀ i k x ys H,kvs[i]?=some (k,x)→Pv i ys H→g x σ0 H fun σ2 H2=>tt σ2 H2 fun b H3=>if b=true then te σ2 H3 fun y H4=>Pv (i+1) (ys++[y]) H4 else Pv (i+1) ys H3) (hd:∀ ys H,Pv kvs.length ys H→∀ D,H D=none→Q (.ref D) (upd H D (.lst ys))) :
 CompR (Itw d od kvs) σ0 g tt te Q H:=by
 refine⟨fun i m ys H=>m=kvs.length - i∧i≤kvs.length∧Pv i ys H,⟨kvs.length,by simp,Nat.zero_le _,h0⟩,?_⟩
 rintro i m ys H ⟨rfl,hi,p⟩
 obtain⟨q,hz⟩:=hl i ys H hi p
 refine⟨hz,?_⟩
 by_cases hlt:i<kvs.length
 ·refine .inr ⟨⟨q,hlt⟩,Pv (i+1),fun ys' H' p'=>⟨kvs.length - (i+1),by omega,rfl,hlt,p'⟩,fun x H' y=>?_⟩
  obtain⟨rfl,k,hx⟩:=y
  exact hs i k x ys _ hx p
 ·have e:i=kvs.length:=by omega
  subst e
  exact .inl ⟨⟨q,Nat.le_refl _⟩,hd ys H p⟩
end L2
namespace L2
open PySem PySem.Spec PyProof.Rows
section
open PySem.SeqAt
open PySem.AutoSeq1 (wpAny_loadPart')
open PySem.MeetsSeq PySem.MeetsSeq2 PySem.MeetsSeq3
end
section
variable {prog:Program} {w:World} {A:Around} {E:Value→Shared→Prop} {s:Shared}
end
noncomputable def Top (ps:List (Int×Int)) (i:Nat) (j:Nat):Prop:=j<i∧∀ k,k<i→plt (ps.getD j (0,0)) (ps.getD k (0,0))=false
theorem Top.keep {ps:List (Int×Int)} {i j:Nat} (h:Top ps i j) (g:plt (ps.getD j (0,0)) (ps.getD i (0,0))=false):Top ps (i+1) j:=⟨Nat.lt_succ_of_lt h.1,fun k hk=>by
 by_cases e:k=i
 ·rw[e];exact g
 ·exact h.2 k (by omega)⟩
theorem Top.take {ps:List (Int×Int)} {i j:Nat} (h:Top ps i j) (g:plt (ps.getD j (0,0)) (ps.getD i (0,0))=true):Top ps (i+1) i:=⟨Nat.lt_succ_self i,fun k hk=>by
 by_cases e:k=i
 ·rw[e,plt_not];omega
 ·have h1:=h.2 k (by omega)
  rw[plt_not]at h1 ⊢
  rw[plt_iff]at g
  omega⟩
section
variable {prog:Program} {w:World} {A:Around} {R:Result→Shared→Prop} {l it S:Addr} {its:List Value} {ps:List (Int×Int)}
theorem PairV.at {h h':Heap} {v:Value} {p:Int×Int} (x:PairV h v p) (k:∀ t o,v=.ref t→h.get? t=some o→o.cls=.type "tuple"→h'.get? t=some o):PairV h' v p:=by
 obtain⟨t,o,n,k1,k2,e,ho,hc,hd⟩:=x
 exact⟨t,o,n,k1,k2,e,k t o e ho hc,hc,hd⟩
end
end L2
namespace L2
open PySem PySem.Spec PyProof.Rows
section
variable {X:Cx} {pins:List (Addr×Obj)} {σ:St} {H:Hp} {s:Shared}
end
end L2
namespace L2
open PySem PySem.Spec PyProof.Rows
end L2
namespace CW
open PySem L2
noncomputable def StayG (d:Addr) (gs:List Grp) (H H':Hp):Prop:=∀ b o,b≠d→(∀ g∈gs,b≠g.2.1)→H b=some o→H' b=some o
noncomputable def pops (k:Int) (gs:List Grp):List Grp:=gs.map fun g=>if g.1=k then (g.1,g.2.1,g.2.2.dropLast)else g
noncomputable def outs (k:Int) (gs:List Grp):List Grp:=gs.filter fun g=>decide (g.1≠k)
theorem kvG_pops (k:Int) (gs:List Grp):kvG (pops k gs)=kvG gs:=by
 unfold kvG pops
 rw[List.map_map]
 refine List.map_congr_left fun g _=>?_
 simp only[Function.comp]
 split <;> rfl
theorem adr_pops (k:Int) (gs:List Grp):(pops k gs).map (·.2.1)=gs.map (·.2.1):=by
 unfold pops
 rw[List.map_map]
 refine List.map_congr_left fun g _=>?_
 simp only[Function.comp]
 split <;> rfl
theorem key_pops (k:Int) (gs:List Grp):(pops k gs).map (·.1)=gs.map (·.1):=by
 unfold pops
 rw[List.map_map]
 refine List.map_congr_left fun g _=>?_
 simp only[Function.comp]
 split <;> rfl
theorem mem_pops {k:Int} {gs:List Grp} {g':Grp} (h:g'∈pops k gs):∃ g∈gs,g'.2.1=g.2.1∧g'.1=g.1∧g'.2.2=if g.1=k then g.2.2.dropLast else g.2.2:=by
 obtain⟨g,hg,rfl⟩:=List.mem_map.mp h
 refine⟨g,hg,?_⟩
 by_cases hk:g.1=k
 ·rw[if_pos hk,if_pos hk];exact⟨rfl,rfl,rfl⟩
 ·rw[if_neg hk,if_neg hk];exact⟨rfl,rfl,rfl⟩
theorem DG.pops {H:Hp} {d:Addr} {gs:List Grp} (dg:DG H d gs) {g:Grp} (hg:g∈gs):DG (upd H g.2.1 (.lst (g.2.2.dropLast.map V.int))) d (pops g.1 gs):=by
 have hnd:d≠g.2.1:=ne_of dg.at_ (dg.lst g hg) (by intro z;cases z)
 refine⟨by rw[kvG_pops,upd_ne hnd];exact dg.at_,fun g' hg'=>?_,by rw[adr_pops];exact dg.adr,by rw[key_pops];exact dg.key⟩
 obtain⟨g0,h0,e1,e2,e3⟩:=mem_pops hg'
 rw[e1,e3]
 by_cases ha:g0.2.1=g.2.1
 ·have:g0=g:=nodup_inj (f:=fun g:Grp=>g.2.1) dg.adr h0 hg ha
  subst this
  rw[upd_same,if_pos rfl]
 ·have hk:g0.1≠g.1:=fun e=>ha (by rw[nodup_inj (f:=fun g:Grp=>g.1) dg.key h0 hg e])
  rw[upd_ne ha,if_neg hk]
  exact dg.lst g0 h0
theorem kvG_outs (k:Int):∀ gs:List Grp,dropK (kvG gs) (Sum.inl k:Key)=kvG (outs k gs):=by
 intro gs
 unfold dropK kvG outs
 rw[List.filter_map]
 congr 1
 refine List.filter_congr fun g _=>?_
 simp only[Function.comp,ne_eq,Sum.inl.injEq]
theorem DG.outs {H:Hp} {d:Addr} {gs:List Grp} (dg:DG H d gs) (k:Int):DG (upd H d (.dK (dropK (kvG gs) (Sum.inl k:Key)))) d (outs k gs):=by
 refine⟨by rw[upd_same,kvG_outs],fun g hg=>?_,?_,?_⟩
 ·have hm:=(List.mem_filter.mp hg).1
  rw[upd_ne (ne_of (dg.lst g hm) dg.at_ (by intro z;cases z))]
  exact dg.lst g hm
 ·exact dg.adr.sublist (List.filter_sublist.map _)
 ·exact dg.key.sublist (List.filter_sublist.map _)
theorem find_key {gs:List Grp} {g:Grp} (hk:(gs.map (·.1)).Nodup) (hg:g∈gs):gs.find? (fun x=>decide (x.1=g.1))=some g:=by
 cases h:gs.find? (fun x=>decide (x.1=g.1))with
 | none=>exact absurd (List.find?_eq_none.mp h g hg) (by simp)
 | some x =>
  have h1:=List.mem_of_find?_eq_some h
  have h2:x.1=g.1:=by simpa using List.find?_some h
  rw[nodup_inj (f:=fun g:Grp=>g.1) hk h1 hg h2]
theorem DG.get {H:Hp} {d:Addr} {gs:List Grp} (dg:DG H d gs) {g:Grp} (hg:g∈gs):DGet H d (.int g.1) (some (.ref g.2.1)):=by
 have h:=DGet.k (k:=(Sum.inl g.1:Key)) dg.at_
 rw[valV_kvG,find_key dg.key hg]at h
 exact h
noncomputable def shr (k:Int) (gs:List Grp):List Grp:=if (pops k gs).any (fun g=>decide (g.1=k) && g.2.2.isEmpty)then outs k (pops k gs)else pops k gs
section
variable {P:Program} {w:World} {K:PySem.W.Frag} {mg:Str→Option Value} {base:Heap}
inductive spCrowdS (vs:List V) (H:Hp) (Q:VK) (E_:XK):Prop
 | mk (d:Addr) (gs:List Grp) (j:Int) (h0_:vs=[.ref d,.int j]) (h1_:DG H d gs) (h2_:gs.length≤60) (h3_:(∀ g∈gs,g.2.2.length≤60)) (h4_:∀ H',Same H H'→Q (.int (2 * wgt (lesJ j) gs)) H'):spCrowdS vs H Q E_
inductive spDropLast (vs:List V) (H:Hp) (Q:VK) (E_:XK):Prop
 | mk (d:Addr) (gs:List Grp) (g:Grp) (h0_:vs=[.ref d,.int g.1]) (h1_:DG H d gs) (h2_:g∈gs) (h3_:g.2.2≠[]) (h4_:∀ H',StayG d gs H H'→DG H' d (shr g.1 gs)→Q .non H'):spDropLast vs H Q E_
end
end CW
namespace CW
open PySem L2
noncomputable def GoodG (gs:List Grp):Prop:=∀ g∈gs,1≤g.1∧g.2.2≠[]
noncomputable def sto (gs:List Grp):Int:=wgt (fun k=>k) gs
theorem wgt_cons (f:Int→Int) (g:Grp) (r:List Grp):wgt f (g :: r)=f g.1 * (g.2.2.length:Int)+wgt f r:=by simp[wgt]
theorem GoodG.tail {g:Grp} {r:List Grp} (h:GoodG (g :: r)):GoodG r:=fun x hx=>h x (List.mem_cons_of_mem _ hx)
theorem GoodG.one {g:Grp} {r:List Grp} (h:GoodG (g :: r)):(g.2.2.length:Int)≤g.1 * (g.2.2.length:Int)∧1≤(g.2.2.length:Int):=by
 obtain⟨h1,h2⟩:=h g List.mem_cons_self
 have h3:0<g.2.2.length:=List.length_pos_iff.mpr h2
 refine⟨?_,by omega⟩
 have:=Int.mul_le_mul_of_nonneg_right h1 (show (0:Int)≤(g.2.2.length:Int)by omega)
 omega
theorem GoodG.bound:∀ {gs:List Grp},GoodG gs→(gs.length:Int)≤sto gs∧∀ g∈gs,(g.2.2.length:Int)≤sto gs
 | [],_=>⟨Int.le_refl _,fun g hg=>(nomatch hg)⟩
 | g :: r,h=>by
  obtain⟨a,b⟩:=GoodG.bound h.tail
  obtain⟨c,d⟩:=h.one
  unfold sto at a b ⊢
  rw[wgt_cons]
  refine⟨by simp only[List.length_cons];omega,fun x hx=>?_⟩
  rcases List.mem_cons.mp hx with e | hx
  ·rw[e];omega
  ·have:=b x hx;omega
theorem pops_none {k:Int}:∀ {gs:List Grp},(∀ g∈gs,g.1≠k)→pops k gs=gs
 | [],_=>rfl
 | g :: r,h=>by
  have h1:=h g List.mem_cons_self
  show (if g.1=k then (g.1,g.2.1,g.2.2.dropLast)else g) :: pops k r=g :: r
  rw[if_neg h1,pops_none fun x hx=>h x (List.mem_cons_of_mem _ hx)]
theorem wgt_pops (f:Int→Int):∀ {gs:List Grp},(gs.map (·.1)).Nodup→∀ {g:Grp},g∈gs→g.2.2≠[]→wgt f (pops g.1 gs)=wgt f gs - f g.1
 | [],_,g,hg,_=>by cases hg
 | x :: r,hn,g,hg,hne=>by
  have hn':=List.nodup_cons.mp hn
  have e0:pops g.1 (x :: r)=(if x.1=g.1 then (x.1,x.2.1,x.2.2.dropLast)else x) :: pops g.1 r:=rfl
  rw[e0]
  by_cases h:x.1=g.1
  ·have hx:x=g:=nodup_inj (f:=fun g:Grp=>g.1) hn List.mem_cons_self hg h
   subst hx
   rw[if_pos rfl,pops_none fun y hy e=>hn'.1 (List.mem_map.mpr ⟨y,hy,e⟩),wgt_cons,wgt_cons]
   have h3:0<x.2.2.length:=List.length_pos_iff.mpr hne
   have h4:((x.2.2.dropLast.length:Nat):Int)=(x.2.2.length:Int) - 1:=by rw[List.length_dropLast];omega
   simp only[h4,Int.mul_sub,Int.mul_one]
   omega
  ·have hg':g∈r:=by
    rcases List.mem_cons.mp hg with e | e
    ·exact absurd (by rw[e]) h
    ·exact e
   rw[if_neg h,wgt_cons,wgt_cons,wgt_pops f hn'.2 hg' hne]
   omega
theorem wgt_outs (f:Int→Int) {k:Int}:∀ {gs:List Grp},(∀ g∈gs,g.1=k→g.2.2=[])→wgt f (outs k gs)=wgt f gs
 | [],_=>rfl
 | g :: r,h=>by
  have ih:=wgt_outs f (k:=k) (gs:=r) fun x hx=>h x (List.mem_cons_of_mem _ hx)
  unfold outs at ih ⊢
  rw[List.filter_cons,wgt_cons]
  by_cases e:g.1=k
  ·have:=h g List.mem_cons_self e
   rw[if_neg (by simp[e]),ih,this]
   simp
  ·rw[if_pos (by simp[e]),wgt_cons,ih]
theorem wgt_shr (f:Int→Int) {gs:List Grp} (hn:(gs.map (·.1)).Nodup) {g:Grp} (hg:g∈gs) (hne:g.2.2≠[]):wgt f (shr g.1 gs)=wgt f gs - f g.1:=by
 unfold shr
 split
 ·next h =>
  obtain⟨x,hx,hp⟩:=List.any_eq_true.mp h
  simp only[Bool.and_eq_true,decide_eq_true_eq,List.isEmpty_iff]at hp
  rw[wgt_outs f fun y hy e=>?_,wgt_pops f hn hg hne]
  have:y=x:=nodup_inj (f:=fun g:Grp=>g.1) (by rw[key_pops];exact hn) hy hx (e.trans hp.1.symm)
  rw[this];exact hp.2
 ·exact wgt_pops f hn hg hne
theorem GoodG.shr {gs:List Grp} (h:GoodG gs) (k:Int):GoodG (shr k gs):=by
 have hp:∀ x∈pops k gs,1≤x.1∧(x.1≠k→x.2.2≠[]):=fun x hx=>by
  obtain⟨g,hg,e1,e2,e3⟩:=mem_pops hx
  obtain⟨h1,h2⟩:=h g hg
  refine⟨by rw[e2];exact h1,fun n=>?_⟩
  rw[e3,if_neg (by rw[← e2];exact n)]
  exact h2
 intro x hx
 unfold CW.shr at hx
 split at hx
 ·obtain⟨h1,h2⟩:=List.mem_filter.mp hx
  exact⟨(hp x h1).1,(hp x h1).2 (by simpa using h2)⟩
 ·next hn =>
  refine⟨(hp x hx).1,fun e=>?_⟩
  by_cases hk:x.1=k
  ·exact hn (List.any_eq_true.mpr ⟨x,hx,by simp[hk,e]⟩)
  ·exact(hp x hx).2 hk e
theorem shr_adr {gs:List Grp} {k:Int} {x:Grp} (hx:x∈shr k gs):∃ g∈gs,x.2.1=g.2.1:=by
 unfold shr at hx
 have hp:x∈pops k gs:=by
  split at hx
  ·exact(List.mem_filter.mp hx).1
  ·exact hx
 obtain⟨g,hg,e1,_⟩:=mem_pops hp
 exact⟨g,hg,e1⟩
noncomputable def Puts (H:Hp) (k o:Int) (gs gs':List Grp):Prop:=(∃ g∈gs,g.1=k)∧gs'=grow k o gs∨(∀ g∈gs,g.1≠k)∧∃ z,H z=none∧gs'=gs++[(k,z,[o])]
theorem GoodG.puts {H:Hp} {k o:Int} {gs gs':List Grp} (g:GoodG gs) (hk:1≤k) (h:Puts H k o gs gs'):GoodG gs':=by
 rcases h with ⟨hg,rfl⟩ | ⟨_,z,_,rfl⟩
 ·intro x hx
  obtain⟨g0,h0,rfl⟩:=List.mem_map.mp hx
  obtain⟨h1,h2⟩:=g g0 h0
  by_cases e:g0.1=k
  ·rw[if_pos e];exact⟨h1,by simp⟩
  ·rw[if_neg e];exact⟨h1,h2⟩
 ·intro x hx
  rcases List.mem_append.mp hx with hx | hx
  ·exact g x hx
  ·rw[List.mem_singleton.mp hx];exact⟨hk,by simp⟩
theorem puts_adr {H:Hp} {k o:Int} {gs gs':List Grp} (h:Puts H k o gs gs') {x:Grp} (hx:x∈gs'):(∃ g∈gs,x.2.1=g.2.1)∨H x.2.1=none:=by
 rcases h with ⟨hg,rfl⟩ | ⟨_,z,hz,rfl⟩
 ·obtain⟨g0,h0,rfl⟩:=List.mem_map.mp hx
  refine .inl ⟨g0,h0,?_⟩
  split <;> rfl
 ·rcases List.mem_append.mp hx with hx | hx
  ·exact .inl ⟨x,hx,rfl⟩
  ·rw[List.mem_singleton.mp hx];exact .inr hz
end CW
namespace CW
open PySem L2
section
variable {P:Program} {w:World} {K:PySem.W.Frag} {mg:Str→Option Value} {base:Heap}
end
end CW
namespace CW
open PySem L2
end CW
namespace CW
noncomputable abbrev Trs:=List (Int×Int)
noncomputable def les (ps:Trs) (j:Int):Int:=(ps.map fun q=>min j q.1).sum
theorem les_cons (q:Int×Int) (ps:Trs) (j:Int):les (q :: ps) j=min j q.1+les ps j:=by simp[les]
theorem les_perm {ps qs:Trs} (h:ps.Perm qs) (j:Int):les ps j=les qs j:=by
 unfold les
 induction h with
 | nil=>rfl
 | cons x _ ih=>simp only[List.map_cons,List.sum_cons];omega
 | swap x y l=>simp only[List.map_cons,List.sum_cons];omega
 | trans _ _ h1 h2=>exact h1.trans h2
noncomputable def Bd (ps:Trs) (n:Int):Prop:=∀ q∈ps,1≤q.1∧q.2+2 * les ps q.1≤n
theorem Bd.perm {ps qs:Trs} {n:Int} (h:Bd ps n) (e:ps.Perm qs):Bd qs n:=fun q hq=>by
 have:=h q (e.mem_iff.mpr hq)
 rw[les_perm e]at this
 exact this
theorem Bd.mono {ps:Trs} {n m:Int} (h:Bd ps n) (e:n≤m):Bd ps m:=fun q hq=>⟨(h q hq).1,Int.le_trans (h q hq).2 e⟩
noncomputable def Add (ps:Trs) (p:Int) (qs:Trs):Prop:=∃ (s:Int) (rest:Trs),0≤s∧(s=0∧ps.Perm rest∨1≤s∧ps.Perm ((s,p - 1 - 2 * les ps s) :: rest))∧(∀ q∈ps,s<q.1→q.2+2 * les ps q.1≠p - 1)∧qs.Perm ((s+1,p - 2 * les rest (s+1) - 2 * (s+1)) :: rest)
theorem Add.perm {ps ps' qs qs':Trs} {p:Int} (h:Add ps p qs) (e:ps.Perm ps') (f:qs.Perm qs'):Add ps' p qs':=by
 obtain⟨s,rest,h0,h1,h2,h3⟩:=h
 refine⟨s,rest,h0,?_,fun q hq hs=>?_,f.symm.trans h3⟩
 ·rcases h1 with ⟨a,b⟩ | ⟨a,b⟩
  ·exact .inl ⟨a,e.symm.trans b⟩
  ·refine .inr ⟨a,?_⟩
   rw[← les_perm e]
   exact e.symm.trans b
 ·rw[← les_perm e]
  exact h2 q (e.mem_iff.mpr hq) hs
theorem Add.uniq {ps qs qs':Trs} {p:Int} (h:Add ps p qs) (h':Add ps p qs'):qs.Perm qs':=by
 obtain⟨s,rest,h0,h1,h2,h3⟩:=h
 obtain⟨s',rest',h0',h1',h2',h3'⟩:=h'
 have hs:s=s':=by
  rcases h1 with ⟨a,b⟩ | ⟨a,b⟩ <;> rcases h1' with ⟨a',b'⟩ | ⟨a',b'⟩
  ·omega
  ·exact absurd (show (p - 1 - 2 * les ps s')+2 * les ps s'=p - 1 by omega) (h2 _ (b'.mem_iff.mpr List.mem_cons_self) (show s<s' by omega))
  ·exact absurd (show (p - 1 - 2 * les ps s)+2 * les ps s=p - 1 by omega) (h2' _ (b.mem_iff.mpr List.mem_cons_self) (show s'<s by omega))
  ·rcases Int.lt_trichotomy s s' with l | l | l
   ·exact absurd (show (p - 1 - 2 * les ps s')+2 * les ps s'=p - 1 by omega) (h2 _ (b'.mem_iff.mpr List.mem_cons_self) l)
   ·exact l
   ·exact absurd (show (p - 1 - 2 * les ps s)+2 * les ps s=p - 1 by omega) (h2' _ (b.mem_iff.mpr List.mem_cons_self) l)
 subst hs
 have hr:rest.Perm rest':=by
  rcases h1 with ⟨a,b⟩ | ⟨a,b⟩ <;> rcases h1' with ⟨a',b'⟩ | ⟨a',b'⟩
  ·exact b.symm.trans b'
  ·omega
  ·omega
  ·exact List.Perm.cons_inv (b.symm.trans b')
 refine h3.trans (List.Perm.trans ?_ h3'.symm)
 rw[les_perm hr]
 exact hr.cons _
theorem Add.bd {ps qs:Trs} {p:Int} (h:Add ps p qs) (b:Bd ps (p - 1)):Bd qs p:=by
 obtain⟨s,rest,h0,h1,h2,h3⟩:=h
 have hl:∀ j,1≤j→les qs j=les ps j+if s<j then 1 else 0:=fun j hj=>by
  rw[les_perm h3,les_cons]
  rcases h1 with ⟨a,b⟩ | ⟨a,b⟩
  ·rw[les_perm b]
   simp only
   split <;> omega
  ·rw[les_perm b,les_cons]
   simp only
   split <;> omega
 intro q hq
 rcases List.mem_cons.mp (h3.mem_iff.mp hq)with rfl | hq
 ·refine⟨show 1≤s+1 by omega,?_⟩
  have:les qs (s+1)=s+1+les rest (s+1):=by
   rw[les_perm h3,les_cons]
   simp only
   omega
  show (p - 2 * les rest (s+1) - 2 * (s+1))+2 * les qs (s+1)≤p
  omega
 ·have hm:q∈ps:=by
   rcases h1 with ⟨_,e⟩ | ⟨_,e⟩
   ·exact e.mem_iff.mpr hq
   ·exact e.mem_iff.mpr (List.mem_cons_of_mem _ hq)
  obtain⟨b1,b2⟩:=b q hm
  refine⟨b1,?_⟩
  have:=h2 q hm
  rw[hl q.1 b1]
  split <;> omega
noncomputable def Tak (ps:Trs) (p:Int) (qs:Trs):Prop:=∃ (s:Int) (rest:Trs),1≤s∧ps.Perm ((s,p - 2 * les ps s) :: rest)∧(∀ q∈ps,q.2+2 * les ps q.1≤p)∧(∀ q∈ps,q.1<s→q.2+2 * les ps q.1<p) ∧
 (s=1∧qs.Perm rest∨2≤s∧qs.Perm ((s - 1,p - 1 - 2 * les rest (s - 1) - 2 * (s - 1)) :: rest))
theorem Tak.add {ps qs:Trs} {p:Int} (h:Tak ps p qs) (hp:∀ q∈ps,1≤q.1):Bd qs (p - 1)∧Add qs p ps:=by
 obtain⟨s,rest,h0,h1,h2,h3,h4⟩:=h
 have hl:∀ j,0≤j→les ps j=les qs j+if s≤j then 1 else 0:=fun j hj=>by
  rw[les_perm h1,les_cons]
  rcases h4 with ⟨a,b⟩ | ⟨a,b⟩
  ·rw[les_perm b];simp only;split <;> omega
  ·rw[les_perm b,les_cons];simp only;split <;> omega
 have hold:∀ q∈rest,1≤q.1∧q.2+2 * les qs q.1≤p - 1∧(s≤q.1→q.2+2 * les qs q.1≤p - 2):=fun q hq=>by
  have hm:q∈ps:=h1.mem_iff.mpr (List.mem_cons_of_mem _ hq)
  have a1:=hp q hm
  have a2:=h2 q hm
  have a3:=h3 q hm
  have a4:=hl q.1 (by omega)
  refine⟨a1,?_,fun hs=>?_⟩
  ·by_cases hs:s≤q.1
   ·rw[if_pos hs]at a4;omega
   ·rw[if_neg hs]at a4;have:=a3 (by omega);omega
  ·rw[if_pos hs]at a4;omega
 have hnew:2≤s→les qs (s - 1)=(s - 1)+les rest (s - 1):=fun h=>by
  rcases h4 with ⟨a,b⟩ | ⟨a,b⟩
  ·omega
  ·rw[les_perm b,les_cons];simp only;omega
 refine⟨fun q hq=>?_,s - 1,rest,by omega,?_,fun q hq hs=>?_,?_⟩
 ·rcases h4 with ⟨a,b⟩ | ⟨a,b⟩
  ·have:=hold q (b.mem_iff.mp hq);exact⟨this.1,this.2.1⟩
  ·rcases List.mem_cons.mp (b.mem_iff.mp hq)with rfl | hq
   ·refine⟨show 1≤s - 1 by omega,?_⟩
    have:=hnew a
    show (p - 1 - 2 * les rest (s - 1) - 2 * (s - 1))+2 * les qs (s - 1)≤p - 1
    omega
   ·have:=hold q hq;exact⟨this.1,this.2.1⟩
 ·rcases h4 with ⟨a,b⟩ | ⟨a,b⟩
  ·exact .inl ⟨by omega,b⟩
  ·refine .inr ⟨by omega,?_⟩
   have e:p - 1 - 2 * les qs (s - 1)=p - 1 - 2 * les rest (s - 1) - 2 * (s - 1):=by have:=hnew a;omega
   rw[e]
   exact b
 ·have hq':q∈rest:=by
   rcases h4 with ⟨a,b⟩ | ⟨a,b⟩
   ·exact b.mem_iff.mp hq
   ·rcases List.mem_cons.mp (b.mem_iff.mp hq)with rfl | hq
    ·exact absurd hs (by show ¬ (s - 1<s - 1);omega)
    ·exact hq
  have:=(hold q hq').2.2 (by omega)
  omega
 ·have e:s - 1+1=s:=by omega
  rw[e]
  have e2:p - 2 * les rest s - 2 * s=p - 2 * les ps s:=by rw[les_perm h1,les_cons];simp only;omega
  rw[e2]
  exact h1
theorem Add.tak {ps qs:Trs} {p:Int} (h:Add ps p qs) (b:Bd ps (p - 1)):Tak qs p ps:=by
 have hb:=h.bd b
 obtain⟨s,rest,h0,h1,h2,h3⟩:=h
 have hl:∀ j,0≤j→les qs j=les ps j+if s<j then 1 else 0:=fun j hj=>by
  rw[les_perm h3,les_cons]
  rcases h1 with ⟨a,b⟩ | ⟨a,b⟩
  ·rw[les_perm b];simp only;split <;> omega
  ·rw[les_perm b,les_cons];simp only;split <;> omega
 have e2:p - 2 * les qs (s+1)=p - 2 * les rest (s+1) - 2 * (s+1):=by rw[les_perm h3,les_cons];simp only;omega
 refine⟨s+1,rest,by omega,by rw[e2];exact h3,fun q hq=>(hb q hq).2,fun q hq hs=>?_,?_⟩
 ·rcases List.mem_cons.mp (h3.mem_iff.mp hq)with rfl | hq
  ·exact absurd hs (by show ¬ (s+1<s+1);omega)
  ·have hm:q∈ps:=by
    rcases h1 with ⟨_,e⟩ | ⟨_,e⟩
    ·exact e.mem_iff.mpr hq
    ·exact e.mem_iff.mpr (List.mem_cons_of_mem _ hq)
   obtain⟨b1,b2⟩:=b q hm
   have:=hl q.1 (by omega)
   rw[if_neg (by omega)]at this
   omega
 ·rcases h1 with ⟨a,e⟩ | ⟨a,e⟩
  ·exact .inl ⟨by omega,e⟩
  ·refine .inr ⟨by omega,?_⟩
   have e3:s+1 - 1=s:=by omega
   rw[e3]
   have e4:p - 1 - 2 * les rest s - 2 * s=p - 1 - 2 * les ps s:=by rw[les_perm e,les_cons];simp only;omega
   rw[e4]
   exact e
theorem Tak.uniq {ps ps' qs qs':Trs} {p p':Int} (h:Tak ps p qs) (h':Tak ps' p' qs') (e:ps.Perm ps'):p=p'∧qs.Perm qs':=by
 obtain⟨s,rest,h0,h1,h2,h3,h4⟩:=h
 obtain⟨s',rest',h0',h1',h2',h3',h4'⟩:=h'
 have m1:(s,p - 2 * les ps s)∈ps:=h1.mem_iff.mpr List.mem_cons_self
 have m2:(s',p' - 2 * les ps' s')∈ps':=h1'.mem_iff.mpr List.mem_cons_self
 have a1:=h2' _ (e.mem_iff.mp m1)
 have a2:=h2 _ (e.mem_iff.mpr m2)
 have l1:=les_perm e s
 have l2:=les_perm e s'
 simp only at a1 a2
 have hp:p=p':=by omega
 subst hp
 have b1:=h3' _ (e.mem_iff.mp m1)
 have b2:=h3 _ (e.mem_iff.mpr m2)
 simp only at b1 b2
 have hs:s=s':=by
  rcases Int.lt_trichotomy s s' with l | l | l
  ·have:=b1 l;omega
  ·exact l
  ·have:=b2 l;omega
 subst hs
 rw[← l1]at h1'
 have hr:rest.Perm rest':=List.Perm.cons_inv ((h1.symm.trans e).trans h1')
 refine⟨rfl,?_⟩
 rcases h4 with ⟨a,b⟩ | ⟨a,b⟩ <;> rcases h4' with ⟨a',b'⟩ | ⟨a',b'⟩
 ·exact b.trans (hr.trans b'.symm)
 ·omega
 ·omega
 ·refine b.trans (List.Perm.trans ?_ b'.symm)
  rw[les_perm hr]
  exact hr.cons _
inductive Lst:List Int→Trs→Prop
 | nil:Lst [] []
 | snoc {r:List Int} {ps:Trs} {p:Int} {qs:Trs}:Lst r ps→(∀ x∈r,x<p)→Add ps p qs→Lst (r++[p]) qs
theorem Add.ne {ps qs:Trs} {p:Int} (h:Add ps p qs):qs≠[]:=by
 obtain⟨s,rest,_,_,_,h3⟩:=h
 intro e
 rw[e]at h3
 exact absurd h3.symm.eq_nil (by simp)
theorem Lst.perm {r:List Int} {ps qs:Trs} (h:Lst r ps) (e:ps.Perm qs):Lst r qs:=by
 cases h with
 | nil=>rw[e.symm.eq_nil];exact .nil
 | snoc a b c=>exact .snoc a b (c.perm (.refl _) e)
theorem Lst.inv {r:List Int} {p:Int} {qs:Trs} (h:Lst (r++[p]) qs):∃ ps,Lst r ps∧(∀ x∈r,x<p)∧Add ps p qs:=by
 generalize e:r++[p]=t at h
 cases h with
 | nil=>simp at e
 | snoc a b c =>
  obtain⟨rfl,e2⟩:=List.append_inj' e rfl
  obtain rfl:p=_:=by simpa using e2
  exact⟨_,a,b,c⟩
theorem Lst.nilr {qs:Trs} (h:Lst [] qs):qs=[]:=by
 generalize e:([]:List Int)=t at h
 cases h with
 | nil=>rfl
 | snoc a b c=>simp at e
theorem Lst.bd {r:List Int} {ps:Trs} (h:Lst r ps) {n:Int}:(∀ x∈r,x≤n)→Bd ps n:=by
 induction h generalizing n with
 | nil=>intro _ q hq;cases hq
 | snoc a b c ih =>
  intro hn
  rename_i r ps p qs
  have hp:p≤n:=hn p (by simp)
  have:=ih (n:=p - 1) fun x hx=>by have:=b x hx;omega
  exact(c.bd this).mono hp
theorem Lst.uniq {r:List Int} {ps qs:Trs} (h:Lst r ps) (h':Lst r qs):ps.Perm qs:=by
 induction h generalizing qs with
 | nil=>rw[h'.nilr]
 | snoc a b c ih =>
  obtain⟨ps',a',b',c'⟩:=h'.inv
  exact(c.perm (ih a') (.refl _)).uniq c'
theorem Lst.row {r:List Int} {ps:Trs} (h:Lst r ps) {r':List Int} {qs:Trs} (h':Lst r' qs) (e:ps.Perm qs):r=r':=by
 induction h generalizing r' qs with
 | nil =>
  cases h' with
  | nil=>rfl
  | snoc a b c=>exact absurd e.symm.eq_nil c.ne
 | snoc a b c ih =>
  cases h' with
  | nil=>exact absurd e.eq_nil c.ne
  | snoc a' b' c' =>
   rename_i r ps p qs r' ps' p'
   have bd:=a.bd (n:=p - 1) fun x hx=>by have:=b x hx;omega
   have bd':=a'.bd (n:=p' - 1) fun x hx=>by have:=b' x hx;omega
   obtain⟨rfl,e2⟩:=(c.tak bd).uniq (c'.tak bd') e
   rw[ih a' e2]
theorem Lst.tak {r:List Int} {ps qs:Trs} {p:Int} (h:Lst r qs) (t:Tak ps p qs) (hp:∀ q∈ps,1≤q.1) (hr:∀ x∈r,x<p):Lst (r++[p]) ps:=.snoc h hr (t.add hp).2
noncomputable def siz (ps:Trs):Int:=(ps.map (·.1)).sum
theorem siz_perm {ps qs:Trs} (h:ps.Perm qs):siz ps=siz qs:=by
 unfold siz
 induction h with
 | nil=>rfl
 | cons x _ ih=>simp only[List.map_cons,List.sum_cons];omega
 | swap x y l=>simp only[List.map_cons,List.sum_cons];omega
 | trans _ _ h1 h2=>exact h1.trans h2
theorem siz_cons (q:Int×Int) (ps:Trs):siz (q :: ps)=q.1+siz ps:=by simp[siz]
theorem Add.sizx {ps qs:Trs} {p:Int} (h:Add ps p qs):siz qs=siz ps+1:=by
 obtain⟨s,rest,h0,h1,h2,h3⟩:=h
 rw[siz_perm h3,siz_cons]
 rcases h1 with ⟨a,b⟩ | ⟨a,b⟩
 ·rw[siz_perm b];simp only;omega
 ·rw[siz_perm b,siz_cons];simp only;omega
theorem Lst.sizx {r:List Int} {ps:Trs} (h:Lst r ps):siz ps=(r.length:Int):=by
 induction h with
 | nil=>rfl
 | snoc a b c ih=>rw[c.sizx,ih];simp
theorem Lst.pos {r:List Int} {ps:Trs} (h:Lst r ps):∀ q∈ps,1≤q.1:=by
 obtain⟨n,hn⟩:∃ n:Int,∀ x∈r,x≤n:=by
  clear h
  induction r with
  | nil=>exact⟨0,fun x hx=>(nomatch hx)⟩
  | cons a r ih =>
   obtain⟨n,hn⟩:=ih
   refine⟨max a n,fun x hx=>?_⟩
   rcases List.mem_cons.mp hx with rfl | hx
   ·omega
   ·have:=hn x hx;omega
 exact fun q hq=>(h.bd hn q hq).1
end CW
namespace CW
open PySem L2
noncomputable def flat (gs:List Grp):Trs:=gs.flatMap fun g=>g.2.2.map fun o=>(g.1,o)
theorem flat_cons (g:Grp) (r:List Grp):flat (g :: r)=g.2.2.map (fun o=>(g.1,o))++flat r:=rfl
theorem flat_append (a b:List Grp):flat (a++b)=flat a++flat b:=by simp[flat]
theorem mem_flat {gs:List Grp} {q:Int×Int}:q∈flat gs↔∃ g∈gs,g.1=q.1∧q.2∈g.2.2:=by
 unfold flat
 rw[List.mem_flatMap]
 constructor
 ·rintro ⟨g,hg,h⟩
  obtain⟨o,ho,rfl⟩:=List.mem_map.mp h
  exact⟨g,hg,rfl,ho⟩
 ·rintro ⟨g,hg,h1,h2⟩
  exact⟨g,hg,List.mem_map.mpr ⟨q.2,h2,by rw[h1]⟩⟩
theorem tot_append (f:Int→Int) (a b:Trs):tot f (a++b)=tot f a+tot f b:=by simp[tot]
theorem wgt_flat (f:Int→Int):∀ gs:List Grp,wgt f gs=tot f (flat gs)
 | []=>rfl
 | g :: r=>by
  rw[wgt_cons,flat_cons,tot_append,wgt_flat f r]
  congr 1
  generalize g.2.2=l
  induction l with
  | nil=>simp[tot]
  | cons x l ih =>
   have:tot f ((x :: l).map fun o=>(g.1,o))=f g.1+tot f (l.map fun o=>(g.1,o)):=by simp[tot]
   rw[this,← ih,List.length_cons,show ((l.length+1:Nat):Int)=(l.length:Int)+1 by omega,Int.mul_add,Int.mul_one]
   omega
theorem lesJ_min (j k:Int):lesJ j k=min j k:=by unfold lesJ;split <;> omega
theorem tot_lesJ (ps:Trs) (j:Int):tot (lesJ j) ps=les ps j:=by
 unfold tot les
 congr 1
 exact List.map_congr_left fun q _=>lesJ_min j q.1
theorem wgt_les (gs:List Grp) (j:Int):wgt (lesJ j) gs=les (flat gs) j:=by rw[wgt_flat,tot_lesJ]
theorem sto_siz (gs:List Grp):sto gs=siz (flat gs):=wgt_flat _ gs
theorem flat_grow {k o:Int}:∀ {gs:List Grp},(gs.map (·.1)).Nodup→(∃ g∈gs,g.1=k)→(flat (grow k o gs)).Perm ((k,o) :: flat gs)
 | [],_,⟨g,h,_⟩=>by cases h
 | g :: r,hn,hex=>by
  have hn':=List.nodup_cons.mp hn
  by_cases h:g.1=k
  ·have hr:grow k o r=r:=grow_none fun x hx e=>hn'.1 (List.mem_map.mpr ⟨x,hx,e.trans h.symm⟩)
   have:grow k o (g :: r)=(g.1,g.2.1,g.2.2++[o]) :: r:=by
    show (if g.1=k then (g.1,g.2.1,g.2.2++[o])else g) :: grow k o r=_
    rw[if_pos h,hr]
   rw[this,flat_cons,flat_cons]
   simp only[List.map_append,List.map_cons,List.map_nil,List.append_assoc,h]
   exact List.perm_middle
  ·have hex':∃ g∈r,g.1=k:=by
    obtain⟨x,hx,e⟩:=hex
    rcases List.mem_cons.mp hx with rfl | hx
    ·exact absurd e h
    ·exact⟨x,hx,e⟩
   have ih:=flat_grow (o:=o) hn'.2 hex'
   have:grow k o (g :: r)=g :: grow k o r:=by
    show (if g.1=k then (g.1,g.2.1,g.2.2++[o])else g) :: grow k o r=_
    rw[if_neg h]
   rw[this,flat_cons,flat_cons]
   exact(ih.append_left _).trans List.perm_middle
theorem flat_puts {H:Hp} {k o:Int} {gs gs':List Grp} (hn:(gs.map (·.1)).Nodup) (h:Puts H k o gs gs'):(flat gs').Perm ((k,o) :: flat gs):=by
 rcases h with ⟨hg,rfl⟩ | ⟨_,z,_,rfl⟩
 ·exact flat_grow hn hg
 ·rw[flat_append]
  exact List.perm_append_comm
theorem flat_pops:∀ {gs:List Grp},(gs.map (·.1)).Nodup→∀ {g:Grp} (_:g∈gs) (hne:g.2.2≠[]),(flat gs).Perm ((g.1,g.2.2.getLast hne) :: flat (pops g.1 gs))
 | [],_,g,hg,_=>by cases hg
 | x :: r,hn,g,hg,hne=>by
  have hn':=List.nodup_cons.mp hn
  have e0:pops g.1 (x :: r)=(if x.1=g.1 then (x.1,x.2.1,x.2.2.dropLast)else x) :: pops g.1 r:=rfl
  rw[e0]
  by_cases h:x.1=g.1
  ·have hx:x=g:=nodup_inj (f:=fun g:Grp=>g.1) hn List.mem_cons_self hg h
   subst hx
   rw[if_pos rfl,pops_none fun y hy e=>hn'.1 (List.mem_map.mpr ⟨y,hy,e⟩),flat_cons,flat_cons]
   have e1:x.2.2.map (fun o=>(x.1,o))=x.2.2.dropLast.map (fun o=>(x.1,o))++[(x.1,x.2.2.getLast hne)]:=by
    conv=>lhs;rw[← List.dropLast_concat_getLast hne]
    rw[List.map_append]
    rfl
   rw[e1,List.append_assoc]
   exact List.perm_middle
  ·have hg':g∈r:=by
    rcases List.mem_cons.mp hg with e | e
    ·exact absurd (by rw[e]) h
    ·exact e
   rw[if_neg h,flat_cons,flat_cons]
   exact((flat_pops hn'.2 hg' hne).append_left _).trans List.perm_middle
theorem flat_outs {k:Int}:∀ {gs:List Grp},(∀ g∈gs,g.1=k→g.2.2=[])→flat (outs k gs)=flat gs
 | [],_=>rfl
 | g :: r,h=>by
  have ih:=flat_outs (k:=k) (gs:=r) fun x hx=>h x (List.mem_cons_of_mem _ hx)
  unfold outs at ih ⊢
  rw[List.filter_cons,flat_cons]
  by_cases e:g.1=k
  ·have:=h g List.mem_cons_self e
   rw[if_neg (by simp[e]),ih,this]
   rfl
  ·rw[if_pos (by simp[e]),flat_cons,ih]
theorem flat_shr {gs:List Grp} (hn:(gs.map (·.1)).Nodup) {g:Grp} (hg:g∈gs) (hne:g.2.2≠[]):(flat gs).Perm ((g.1,g.2.2.getLast hne) :: flat (shr g.1 gs)):=by
 unfold shr
 split
 ·next h =>
  obtain⟨x,hx,hp⟩:=List.any_eq_true.mp h
  simp only[Bool.and_eq_true,decide_eq_true_eq,List.isEmpty_iff]at hp
  rw[flat_outs fun y hy e=>?_]
  ·exact flat_pops hn hg hne
  have:y=x:=nodup_inj (f:=fun g:Grp=>g.1) (by rw[key_pops];exact hn) hy hx (e.trans hp.1.symm)
  rw[this];exact hp.2
 ·exact flat_pops hn hg hne
noncomputable def Asc (gs:List Grp):Prop:=∀ g∈gs,g.2.2.Pairwise (·≤·)
theorem Asc.last {gs:List Grp} (h:Asc gs) {g:Grp} (hg:g∈gs) (hne:g.2.2≠[]) {o:Int} (ho:o∈g.2.2):o≤g.2.2.getLast hne:=by
 have hp:=h g hg
 rw[← List.dropLast_concat_getLast hne]at ho hp
 rcases List.mem_append.mp ho with h1 | h1
 ·exact(List.pairwise_append.mp hp).2.2 o h1 _ (by simp)
 ·rw[List.mem_singleton.mp h1];exact Int.le_refl _
theorem Asc.shr {gs:List Grp} (h:Asc gs) (k:Int):Asc (shr k gs):=by
 have hp:Asc (pops k gs):=fun x hx=>by
  obtain⟨g,hg,e1,e2,e3⟩:=mem_pops hx
  rw[e3]
  split
  ·exact(h g hg).sublist (List.dropLast_sublist _)
  ·exact h g hg
 intro x hx
 unfold CW.shr at hx
 split at hx
 ·exact hp x (List.mem_filter.mp hx).1
 ·exact hp x hx
theorem Asc.puts {H:Hp} {k o:Int} {gs gs':List Grp} (h:Asc gs) (hp:Puts H k o gs gs') (hle:∀ q∈flat gs,q.1=k→q.2≤o):Asc gs':=by
 rcases hp with ⟨hg,rfl⟩ | ⟨_,z,_,rfl⟩
 ·intro x hx
  obtain⟨g0,h0,rfl⟩:=List.mem_map.mp hx
  by_cases e:g0.1=k
  ·rw[if_pos e]
   refine List.pairwise_append.mpr ⟨h g0 h0,by simp,fun a ha b hb=>?_⟩
   rw[List.mem_singleton.mp hb]
   exact hle (g0.1,a) (mem_flat.mpr ⟨g0,h0,rfl,ha⟩) e
  ·rw[if_neg e];exact h g0 h0
 ·intro x hx
  rcases List.mem_append.mp hx with hx | hx
  ·exact h x hx
  ·rw[List.mem_singleton.mp hx];simp
theorem shr_key {gs:List Grp} (k:Int) (h:(gs.map (·.1)).Nodup):((shr k gs).map (·.1)).Nodup:=by
 unfold shr
 split
 ·exact(show ((pops k gs).map (·.1)).Nodup by rw[key_pops];exact h).sublist (List.filter_sublist.map _)
 ·rw[key_pops];exact h
theorem add_groups {H:Hp} {gs gs':List Grp} {p s:Int} (hn:(gs.map (·.1)).Nodup) (gd:GoodG gs) (ac:Asc gs) (bd:Bd (flat gs) (p - 1)) {gs1:List Grp}
 (hs:s=0∧gs1=gs∨1≤s∧∃ g∈gs,∃ hne:g.2.2≠[],g.1=s∧g.2.2.getLast hne=p - 1 - 2 * les (flat gs) s∧gs1=shr s gs)
 (htop:∀ g∈gs,∀ hne:g.2.2≠[],s<g.1→g.2.2.getLast hne≠p - 1 - 2 * les (flat gs) g.1)
 (hp:Puts H (s+1) (p - 2 * les (flat gs1) (s+1) - 2 * (s+1)) gs1 gs'):Add (flat gs) p (flat gs')∧Asc gs'∧GoodG gs':=by
 have ha:Add (flat gs) p (flat gs'):=by
  refine⟨s,flat gs1,?_,?_,fun q hq hlt e=>?_,?_⟩
  ·rcases hs with h | h <;> omega
  ·rcases hs with ⟨h,rfl⟩ | ⟨h,g,hg,hne,e1,e2,rfl⟩
   ·exact .inl ⟨h,.refl _⟩
   ·refine .inr ⟨h,?_⟩
    have:=flat_shr hn hg hne
    rw[e1,e2]at this
    exact this
  ·obtain⟨g,hg,e1,e2⟩:=mem_flat.mp hq
   have hne:=(gd g hg).2
   have h1:=ac.last hg hne e2
   have h2:=(bd (g.1,g.2.2.getLast hne) (mem_flat.mpr ⟨g,hg,rfl,List.getLast_mem hne⟩)).2
   simp only at h2
   rw[← e1]at e hlt
   exact htop g hg hne hlt (by omega)
  ·have hn1:(gs1.map (·.1)).Nodup:=by
    rcases hs with ⟨h,rfl⟩ | ⟨h,g,hg,hne,e1,e2,rfl⟩
    ·exact hn
    ·exact shr_key s hn
   exact flat_puts hn1 hp
 have hb:=ha.bd bd
 have hn1:(gs1.map (·.1)).Nodup∧Asc gs1∧GoodG gs1:=by
  rcases hs with ⟨h,rfl⟩ | ⟨h,g,hg,hne,e1,e2,rfl⟩
  ·exact⟨hn,ac,gd⟩
  ·exact⟨shr_key s hn,ac.shr s,gd.shr s⟩
 have hfp:=flat_puts hn1.1 hp
 refine⟨ha,hn1.2.1.puts hp fun q hq e=>?_,hn1.2.2.puts (by rcases hs with h | h <;> omega) hp⟩
 have h1:=(hb q (hfp.mem_iff.mpr (List.mem_cons_of_mem _ hq))).2
 rw[les_perm hfp,les_cons,e]at h1
 simp only at h1
 omega
noncomputable def lng (b:Int) (gs:List Grp):Int:=wgt (fun k=>if b<k then 1 else 0) gs
theorem wgt_add (f h:Int→Int):∀ gs:List Grp,wgt (fun k=>f k+h k) gs=wgt f gs+wgt h gs
 | []=>rfl
 | g :: r=>by
  rw[wgt_cons,wgt_cons,wgt_cons,wgt_add f h r]
  have:(f g.1+h g.1) * (g.2.2.length:Int)=f g.1 * (g.2.2.length:Int)+h g.1 * (g.2.2.length:Int):=Int.add_mul ..
  omega
theorem wgt_mul (c:Int) (f:Int→Int):∀ gs:List Grp,wgt (fun k=>c * f k) gs=c * wgt f gs
 | []=>by simp[wgt]
 | g :: r=>by rw[wgt_cons,wgt_cons,wgt_mul c f r,Int.mul_add,Int.mul_assoc]
theorem wgt_congr {f h:Int→Int} {gs:List Grp} (e:∀ g∈gs,f g.1=h g.1):wgt f gs=wgt h gs:=by
 unfold wgt
 congr 1
 exact List.map_congr_left fun g hg=>by rw[e g hg]
theorem wgt_zero:∀ gs:List Grp,wgt (fun _=>0) gs=0
 | []=>rfl
 | g :: r=>by rw[wgt_cons,wgt_zero r];simp
theorem crowd_step {gs:List Grp} {b m:Int} (hbm:b≤m) (h:∀ g∈gs,b<g.1→m≤g.1):wgt (lesJ m) gs=wgt (lesJ b) gs+(m - b) * lng b gs:=by
 unfold lng
 rw[← wgt_mul,← wgt_add]
 refine wgt_congr fun g hg=>?_
 rw[lesJ_min,lesJ_min]
 have:=h g hg
 split
 ·have:=this (by assumption);omega
 ·omega
theorem lng_step {gs:List Grp} {b m:Int} (hbm:b<m) (h:∀ g∈gs,b<g.1→m≤g.1) (hn:(gs.map (·.1)).Nodup) {g:Grp} (hg:g∈gs) (hm:g.1=m):lng m gs=lng b gs - (g.2.2.length:Int):=by
 have h1:lng b gs=lng m gs+wgt (fun k=>if k=m then 1 else 0) gs:=by
  unfold lng
  rw[← wgt_add]
  refine wgt_congr fun x hx=>?_
  have:=h x hx
  by_cases c:b<x.1
  ·have:=this c
   rw[if_pos c]
   by_cases d:x.1=m
   ·rw[if_neg (by omega),if_pos d];omega
   ·rw[if_pos (by omega),if_neg d];omega
  ·rw[if_neg c,if_neg (by omega),if_neg (by omega)];omega
 have h2:wgt (fun k=>if k=m then 1 else 0) gs=(g.2.2.length:Int):=by
  clear h1 h
  induction gs with
  | nil=>cases hg
  | cons x r ih =>
   have hn':=List.nodup_cons.mp hn
   rw[wgt_cons]
   rcases List.mem_cons.mp hg with e | e
   ·subst e
    have:wgt (fun k=>if k=m then 1 else 0) r=0:=by
     have:wgt (fun k=>if k=m then 1 else 0) r=wgt (fun _=>0) r:=wgt_congr fun y hy=>if_neg fun z=>hn'.1 (List.mem_map.mpr ⟨y,hy,by show y.1=g.1;omega⟩)
     rw[this]
     exact wgt_zero r
    rw[this,if_pos hm];omega
   ·have hx:x.1≠m:=fun z=>hn'.1 (List.mem_map.mpr ⟨g,e,by show g.1=x.1;omega⟩)
    rw[if_neg hx,ih hn'.2 e];omega
 omega
theorem lng_zero {gs:List Grp} (gd:GoodG gs):lng 0 gs=(gs.map (fun g:Grp=>(g.2.2.length:Int))).sum:=by
 unfold lng wgt
 congr 1
 exact List.map_congr_left fun g hg=>by show (if 0<g.1 then (1:Int)else 0) * _=_;rw[if_pos (by have:=(gd g hg).1;omega)];omega
theorem les_zero {gs:List Grp} (gd:GoodG gs):wgt (lesJ 0) gs=0:=by
 have:wgt (lesJ 0) gs=wgt (fun _=>0) gs:=wgt_congr fun g hg=>by rw[lesJ_min];have:=(gd g hg).1;omega
 rw[this]
 exact wgt_zero gs
end CW
namespace L2
open PySem PySem.Spec PyProof.Rows
noncomputable def CompG (J:It) (σ0:St) (g:TG) (tt:TT) (te:TE) (ys0:List V) (N:List V→Hp→Prop) (H1:Hp):Prop:=∃ W:Nat→Nat→List V→Hp→Prop,(∃ m,W 0 m ys0 H1)∧∀ i m ys H,W i m ys H →
 ys.length<sizeLine∧((J.stop i H∧N ys H) ∨
  (J.go i H∧∃ N':List V→Hp→Prop,(∀ ys' H',N' ys' H'→∃ m',m'<m∧W (i+1) m' ys' H')∧∀ x H',J.yld i H x H'→g x σ0 H' fun σ2 H2=>tt σ2 H2 fun b H3 =>
   if b=true then te σ2 H3 fun y H4=>N' (ys++[y]) H4 else N' ys H3))
noncomputable def CompR2 (J:It) (σ0:St) (g:TG) (tt:TT) (wi:TI) (g2:TG) (tt2:TT) (te:TE) (Q:VK) (H1:Hp):Prop:=∃ W:Nat→Nat→List V→Hp→Prop,(∃ m,W 0 m [] H1)∧∀ i m ys H,W i m ys H →
 ys.length<sizeLine∧((J.stop i H∧∀ D,H D=none→Q (.ref D) (upd H D (.lst ys))) ∨
  (J.go i H∧∃ N:List V→Hp→Prop,(∀ ys' H',N ys' H'→∃ m',m'<m∧W (i+1) m' ys' H')∧∀ x H',J.yld i H x H'→g x σ0 H' fun σ2 H2=>tt σ2 H2 fun b H3 =>
   if b=true then wi σ2 H3 fun J2 H4=>CompG J2 σ2 g2 tt2 te ys N H4 else N ys H3))
noncomputable def tComp2 (wi:TI) (nt:Nat) (js:List Nat) (g:TG) (tt:TT) (wi2:TI) (g2:TG) (tt2:TT) (te:TE):TE:=fun σ H Q=>wi σ H fun J H1=>CompR2 J (sIn nt js σ) g tt wi2 g2 tt2 te Q H1
noncomputable def GR (lo hi:Nat) (g:TG):Prop:=∀ v σ H Q,g v σ H Q→g v σ H fun σ' H'=>((∀ i,(i<lo∨hi≤i)→σ'[i]?=σ[i]?)∧σ'.length=σ.length)∧Q σ' H'
theorem gr_name {lo hi i:Nat} (h:lo≤i) (h2:i<hi):GR lo hi (gName i):=fun v σ H Q q=>⟨⟨fun j hj=>by rw[List.getElem?_set_ne (by omega)],by simp⟩,q⟩
theorem compTurn_list2a (elt t1 i1 t2 i2:Expr) (f1 f2:List Expr) (scope:Scope) (pos:Pos) (it acc:Value) (env:Env) :
 compTurn (.ListComp elt [⟨t1,i1,f1,0⟩,⟨t2,i2,f2,0⟩] scope pos) 0 it acc env=(do
  standAt i1.pos
  match ← pyNext it with
  | none=>pure (.done .next)
  | some v =>
   letOwnedTupleGo t1 it v
   assign t1 env v
   let mut ok:=true
   for c in f1 do
    if ok then ok ← isTrue c env (eval c env)
   if ok then
    let x ← eval i2 env
    standAt i2.pos
    let x ← foldedSetIterable i2 env x
    let _ ← runOwn (.compStart (.ListComp elt [⟨t1,i1,f1,0⟩,⟨t2,i2,f2,0⟩] scope pos) 1 (← holding [x] (pyIter x)) acc env) env
   again (.compLoop (.ListComp elt [⟨t1,i1,f1,0⟩,⟨t2,i2,f2,0⟩] scope pos) 0 it acc env)):=by rfl
theorem compTurn_list2b (elt t1 i1 t2 i2:Expr) (f1 f2:List Expr) (scope:Scope) (pos:Pos) (it acc:Value) (env:Env) :
 compTurn (.ListComp elt [⟨t1,i1,f1,0⟩,⟨t2,i2,f2,0⟩] scope pos) 1 it acc env=(do
  standAt i2.pos
  match ← pyNext it with
  | none=>pure (.done .next)
  | some v =>
   letOwnedTupleGo t2 it v
   assign t2 env v
   let mut ok:=true
   for c in f2 do
    if ok then ok ← isTrue c env (eval c env)
   if ok then
    (do let _ ← call (.builtin "list.append") [acc,← eval elt env])
   again (.compLoop (.ListComp elt [⟨t1,i1,f1,0⟩,⟨t2,i2,f2,0⟩] scope pos) 1 it acc env)):=by rfl
theorem codeAny_compStart_list2 {prog:Program} {w:World} {A:Around} {R:Result→Shared→Prop} {s:Shared} {elt g1 target iter ifs rest scope pos it acc env}
 (h0:codeAny (model prog w) A (.compLoop (.ListComp elt (g1 :: ⟨target,iter,ifs,0⟩ :: rest) scope pos) 1 it acc env) R s)
 (h:wpAny (model prog w) A (pyIter it) (fun it' s'=>codeAny (model prog w) A (.compLoop (.ListComp elt (g1 :: ⟨target,iter,ifs,0⟩ :: rest) scope pos) 1 it' acc env) R s')
  (notedBy (model prog w) A env fun x s'=>R (.error x) s') s) :
 codeAny (model prog w) A (.compStart (.ListComp elt (g1 :: ⟨target,iter,ifs,0⟩ :: rest) scope pos) 1 it acc env) R s:=by
 refine codeAny_of_tree ?_
 show wpAny _ _ ((compStart (.ListComp elt (g1 :: ⟨target,iter,ifs,0⟩ :: rest) scope pos) 1 it acc env).onRaise (fun x=>do noteFrame x env;standAt theWindowsPlace)) _ _ s
 refine wpAny_notedAt ?_
 unfold compStart
 show wpAny _ _ (ask >>= _) _ _ s
 refine wpAny_bind (wpAny_askSetting (wpAny_ite ?_))
 split
 ·first
   | exact wpAny_bind (wpAny_pure (wpAny_pure (And.intro rfl h0)))
   | exact wpAny_pure (And.intro rfl h0)
 ·first
   | exact wpAny_bind (wpAny_rule (wpAny_bind (wpAny_standAt (wpAny_bind (wpAny_mono h (fun it' s' h'=>wpAny_pure (And.intro rfl h')) fun _ _ x=>x)))))
   | (refine wpAny_bind (wpAny_rule ?_);show wpAny _ _ (standAt iter.pos >>= _) _ _ s;exact wpAny_bind (wpAny_standAt (wpAny_bind (wpAny_mono h (fun it' s' h'=>wpAny_pure (And.intro rfl h')) fun _ _ x=>x))))
theorem inner_core {X:Cx} {pl:List (Addr×Obj)} {σ:St} {elt t1 i1 tg iter:Expr} {f1 ifs:List Expr} {inn:Scope} {pos:Pos} {g:TG} {tt:TT} {te:TE} {lo hi:Nat} {J:It} {fp:List Addr} {it:Addr} {tn:Nat→Heap→Prop} {H2:Hp} {s2:Shared} {ys0:List V} {N:List V→Hp→Prop} {RR:Result→Shared→Prop} {D:Addr}
 (hcalm:X.calm=true) (hxe:X.xe=fun _ _=>False) (DX:D∈X.ex) (Dl:D≠X.env.locals) (hpl:∀ p∈X.pn++pl,p.1≠D) (hDf:D∉fp)
 (hgX:PG X tg g) (hk:GR lo hi g) (htX:PIf X ifs tt) (heX:PE X elt te) (hσ:∀ i v,lo≤i→i<hi→σ[i]?≠some (some v))
 (I2:Inv X pl σ H2 s2) (T:Turn X.prog X.w X.K tg J fp it tn) (st2:tn 0 s2.heap) (f2:∀ b∈fp,FpOk X pl H2 b) (fD2:H2 D=none) {its0:List Value} {c0:Nat} (rv0:Vals ys0 its0) (eD0:s2.heap.get? D=some { cls:=.type "list",data:=.seq its0.toArray c0 })
 (R:CompG J σ g tt te ys0 N H2)
 (hRR:∀ s' H' ys its c,Inv X pl σ H' s'→Vals ys its→s'.heap.get? D=some { cls:=.type "list",data:=.seq its.toArray c }→H' D=none→N ys H'→RR (.ok .next) s') :
 codeAny (model X.prog X.w) X.A (.compStart (.ListComp elt [⟨t1,i1,f1,0⟩,⟨tg,iter,ifs,0⟩] inn pos) 1 (.ref it) (.ref D) X.env) RR s2:=by
 have okX:=I2.ok
 obtain⟨W,⟨m0,w0⟩,turn⟩:=R
 have stat:∀ {H':Hp} {ql:List (Addr×Obj)},(∀ b∈fp,H' b=none)→(∀ p∈ql,p.1=D)→∀ b∈fp,FpOk X (pl++ql) H' b:=fun {H' ql} hn hql b hb=>by
  obtain⟨_,a1,a2,a3,a4,a5⟩:=f2 b hb
  refine⟨hn b hb,a1,a2,a3,a4,fun p hp=>?_⟩
  rw[← List.append_assoc]at hp
  rcases List.mem_append.mp hp with hp | hp
  ·exact a5 p hp
  ·rw[hql p hp];intro e;exact hDf (e ▸ hb)
 have loop:codeAny (model X.prog X.w) X.A (.compLoop (.ListComp elt [⟨t1,i1,f1,0⟩,⟨tg,iter,ifs,0⟩] inn pos) 1 (.ref it) (.ref D) X.env) RR s2:=by
  refine codeAny_loop rfl (fun n s'=>∃ i ys H',Inv X pl σ H' s'∧tn i s'.heap∧(∀ b∈fp,H' b=none)∧H' D=none∧(∃ (its:List Value) (c:Nat),Vals ys its∧s'.heap.get? D=some { cls:=.type "list",data:=.seq its.toArray c })∧W i n ys H') ?_ m0
   ⟨0,ys0,H2,I2,st2,fun b hb=>(f2 b hb).1,fD2,⟨its0,c0,rv0,eD0⟩,w0⟩
  rintro n s5 ⟨i,ys,H5,I5,st5,fr5,fD5,⟨its,c,rv,eD⟩,w5⟩
  show wpAny _ X.A ((compTurn (.ListComp elt [⟨t1,i1,f1,0⟩,⟨tg,iter,ifs,0⟩] inn pos) 1 (.ref it) (.ref D) X.env).onRaise (fun x=>do noteFrame x X.env;theTreesLotGoes x)) _ _ s5
  refine wpAny_noted ?_
  rw[compTurn_list2b]
  refine wpAny_bind (wpAny_standAt (wpAny_bind ?_))
  have pinD:Inv X (pl++pinsAt [D] s5.heap) σ H5 s5:=by
   refine I5.pinned (fp:=[D]) (fun b hb=>?_) (fun b hb=>?_)
   ·have e:b=D:=by simpa using hb
    subst e
    exact⟨fD5,Dl,fun z=>okX.exfs b DX z,.inl DX,(okX.exf b DX).2,hpl⟩
   ·have e:b=D:=by simpa using hb
    subst e
    exact⟨_,eD,fun v z=>by cases z⟩
  have plD:∀ p∈pinsAt [D] s5.heap,p.1=D:=fun p hp=>by simpa using (of_pinsAt hp).1
  have memD:(D,({ cls:=.type "list",data:=.seq its.toArray c }:Obj))∈pinsAt [D] s5.heap:=mem_pinsAt (by simp) eD
  obtain⟨hz,tn5⟩:=turn i n ys H5 w5
  rcases tn5 with ⟨stop,fin⟩ | ⟨go,N',hN,step⟩
  ·have q:=T.done X rfl rfl rfl hcalm i _ s5 _ H5 (notedBy (model X.prog X.w) X.A X.env fun e s'=>RR (.error e) s') pinD (stat fr5 plD) st5 stop
   refine wpAny_mono q (fun r s6 ⟨hr,I6⟩=>?_) fun _ _ z=>z
   subst hr
   refine wpAny_pure ?_
   have eD6:=(I6.pin (D,_) (List.mem_append_right _ (List.mem_append_right _ memD))).1
   exact hRR s6 H5 ys its c (I6.pins_of fun p hp=>I6.pin p (List.mem_append_right _ (List.mem_append_left _ hp))) rv eD6 fD5 fin
  ·have q:=T.item X rfl rfl rfl hcalm i _ s5 _ H5 (notedBy (model X.prog X.w) X.A X.env fun e s'=>RR (.error e) s') pinD (stat fr5 plD) st5 go
   refine wpAny_mono q (fun r s6 ⟨u,hr,h6⟩=>?_) fun _ _ z=>z
   subst hr
   refine wpAny_bind (wpAny_mono h6 (fun _ s7 ⟨x,H7,I7,r7,y7,st7,fr7⟩=>?_) fun _ _ z=>z)
   have I7':=I7.pinned (fp:=fp) (fun b hb=>stat fr7 plD b hb) (T.obj _ _ st7)
   have q8:=hgX _ s7 _ H7 x u _ I7' r7 (hk x _ H7 _ (step x H7 y7))
   rw[hxe]at q8
   refine wpAny_bind (wpAny_mono q8 (fun _ s8 ⟨σ8,H8,I8,⟨k8,l8⟩,q8⟩=>?_) fun _ _ z=>z.elim)
   have q9:=htX _ s8 σ8 H8 _ I8 q8
   rw[hxe]at q9
   refine wpAny_bind (wpAny_mono q9 (fun ok s9 ⟨H9,I9,q9⟩=>?_) fun _ _ z=>z.elim)
   have keepσ:∀ (j:Nat) v,σ[j]?=some (some v)→σ8[j]?=some (some v):=fun j v e=>by
    by_cases hj:j<lo∨hi≤j
    ·rw[k8 j hj];exact e
    ·exact absurd e (hσ j v (by omega) (by omega))
   have ends:∀ {H9:Hp} {s9:Shared} {ys':List V},Inv X ((pl++pinsAt [D] s5.heap)++pinsAt fp s7.heap) σ8 H9 s9→∀ {h':Heap} {its':List Value} {c':Nat},(∀ b o,b≠D→s9.heap.get? b=some o→h'.get? b=some o)→Vals ys' its'→h'.get? D=some { cls:=.type "list",data:=.seq its'.toArray c' }→N' ys' H9 →
    ∀ tk,∃ m,m<n∧∃ i ys H',Inv X pl σ H' { s9 with heap:=h',toks:=tk }∧tn i h'∧(∀ b∈fp,H' b=none)∧H' D=none∧(∃ (its:List Value) (c:Nat),Vals ys its∧h'.get? D=some { cls:=.type "list",data:=.seq its.toArray c })∧W i m ys H':=fun {H9 s9 ys'} I9 {h' its' c'} kp rv' eD' n9 tk=>by
    obtain⟨m',hm,w9⟩:=hN ys' H9 n9
    have fD9:H9 D=none:=(I9.pin (D,_) (List.mem_append_right _ (List.mem_append_left _ (List.mem_append_right _ memD)))).2.1
    have fr9:∀ b∈fp,H9 b=none:=fun b hb=>by
     obtain⟨o,e,d⟩:=T.obj _ _ st7 b hb
     exact(I9.pin (b,o) (List.mem_append_right _ (List.mem_append_right _ (mem_pinsAt hb e)))).2.1
    have I10:Inv X pl σ8 H9 s9:=I9.pins_of fun p hp=>I9.pin p (List.mem_append_right _ (List.mem_append_left _ (List.mem_append_left _ hp)))
    have I11:Inv X pl σ8 H9 { s9 with heap:=h',toks:=tk }:=I10.turned (it:=D) kp fD9 Dl (.inl DX) (okX.exf D DX).2 hpl
    refine⟨m',hm,i+1,ys',H9,I11.weak l8.symm keepσ,T.keep _ _ _ st7 fun b hb o e=>kp b o (fun z=>hDf (z ▸ hb)) (I9.pin (b,o) (List.mem_append_right _ (List.mem_append_right _ (mem_pinsAt hb e)))).1,fr9,fD9,⟨its',c',rv',eD'⟩,w9⟩
   cases ok with
   | false =>
    rw[if_neg Bool.false_ne_true]at q9
    have eD9:=(I9.pin (D,_) (List.mem_append_right _ (List.mem_append_left _ (List.mem_append_right _ memD)))).1
    exact wpAny_pure ⟨rfl,ends I9 (h':=s9.heap) (fun _ _ _ e=>e) rv eD9 q9 s9.toks⟩
   | true =>
    rw[if_pos rfl]at q9
    have q10:=heX _ s9 σ8 H9 _ I9 q9
    rw[hxe]at q10
    refine wpAny_bind (wpAny_bind (wpAny_mono q10 (fun v s10 ⟨y,H10,I10,r10,q10⟩=>?_) fun _ _ z=>z.elim))
    have eD10:=(I10.pin (D,_) (List.mem_append_right _ (List.mem_append_left _ (List.mem_append_right _ memD)))).1
    have hlen:=rv.length
    refine wpAny_bind (wpAny_list_append_plain (items:=its.toArray) ⟨c,eD10⟩ (fun h' hl hs=>wpAny_pure (wpAny_pure ⟨rfl,?_⟩)) (by rw[List.size_toArray];omega))
    obtain⟨c',e'⟩:=hl
    have e'':h'.get? D=some { cls:=.type "list",data:=.seq (its++[v]).toArray c' }:=by rw[e'];simp
    exact ends I10 (h':=h') (fun b o hb e=>hs.extBut b o hb e) (rv.append (.cons r10 .nil)) e'' q10 s10.toks
 refine codeAny_compStart_list2 loop ?_
 exact T.self X.A 0 _ _ _ st2 loop
end L2
namespace L2
open PySem PySem.Spec PyProof.Rows
section
variable {X:Cx} {pins:List (Addr×Obj)} {σ:St} {inn:Scope} {js:List Nat} {cs ts:List Str} {nt lo:Nat} {elt tg iter t2 i2:Expr} {ifs f2:List Expr} {pos:Pos} {g g2:TG} {tt tt2:TT} {te:TE} {wi wi2:TI}
theorem comp_core2 {J:It} {fp:List Addr} {it:Addr} {tn:Nat→Heap→Prop} {H2:Hp} {s2:Shared} {E:Value→Shared→Prop} {Q:VK} {RR:Value→Addr→Result→Shared→Prop}
 (hcalm:X.calm=true) (O:CompOk X.env.scope inn X.N js cs) (hts:ts.length=nt)
 (hlo:lo≤nt) (hg:∀ s₀ H₀ ex,PG (cxIn X inn (ts++cs) s₀ H₀ ex) tg g) (hk:GK lo g) (hi2:∀ s₀ H₀ ex,PI (cxIn X inn (ts++cs) s₀ H₀ ex) t2 i2 wi2) (hg2:∀ s₀ H₀ ex,PG (cxIn X inn (ts++cs) s₀ H₀ ex) t2 g2) (hk2:GR lo nt g2) (ht2:∀ s₀ H₀ ex,PIf (cxIn X inn (ts++cs) s₀ H₀ ex) f2 tt2) (hs2:∀ env x,foldedSetIterable i2 env x=pure x) (ht:∀ s₀ H₀ ex,PIf (cxIn X inn (ts++cs) s₀ H₀ ex) ifs tt) (he:∀ s₀ H₀ ex,PE (cxIn X inn (ts++cs) s₀ H₀ ex) elt te)
 (I2:Inv X pins σ H2 s2) (T:Turn X.prog X.w X.K tg J fp it tn) (st2:tn 0 s2.heap) (fo:∀ b∈fp,FpOk X pins H2 b)
 (R:CompR2 J (sIn nt js σ) g tt wi2 g2 tt2 te Q H2)
 (hRR:∀ D C s' H',Inv X pins σ H' s'→(∃ m,s'.heap.Ns C m)→H' C=none→C≠X.env.locals→X.s₀.heap.objs.size≤C→(∀ x c,X.env.cells.lookup x=some c→c≠C)→(∀ p∈X.pn++pins,p.1≠C)→Q (.ref D) H'→RR (.ref D) C (.ok .next) s') :
 wpAny (model X.prog X.w) X.A (newList []) (fun acc s₃=>wpAny (model X.prog X.w) X.A (newFunctionEnv inn X.env.globals (closL inn X.env) [] X.env.qual none .none (some X.env)) (fun cenv s₄ =>
  codeAny (model X.prog X.w) X.A (.compStart (.ListComp elt [⟨tg,iter,ifs,0⟩,⟨t2,i2,f2,0⟩] inn pos) 0 (.ref it) acc { cenv with scope:=relabel inn X.env }) (RR acc cenv.locals) s₄) E s₃) E s2:=by
 refine wpAny_newObj_type (wpAny_newFunctionEnv O.nocell (by intro y hy;simp at hy) (fun h₁ hns₁ hsb₁=>?_) O.kind)
 dsimp only at hns₁ hsb₁ ⊢
 generalize hD:s2.heap.objs.size=D
 have I3:Inv X pins σ H2 { s2 with heap:=s2.heap.push { cls:=.type "list",dict:=none,data:=.seq ([]:List Value).toArray } }:=I2.kept (t':=s2.toks) fun b o e=>Heap.get?_push_of_some _ e
 generalize hs3:({ s2 with heap:=s2.heap.push { cls:=.type "list",dict:=none,data:=.seq ([]:List Value).toArray } }:Shared)=s3 at I3
 have e3:s3.heap=s2.heap.push { cls:=.type "list",dict:=none,data:=.seq ([]:List Value).toArray }:=by rw[← hs3]
 have hD3:s3.heap.get? D=some { cls:=.type "list",dict:=none,data:=.seq ([]:List Value).toArray }:=by rw[e3,← hD];exact Heap.get?_push_size _ rfl
 have hsz3:s3.heap.objs.size=D+1:=by rw[e3,Heap.size_push,hD]
 have e3':(s2.heap.push { cls:=.type "list",dict:=none,data:=.seq ([]:List Value).toArray })=s3.heap:=e3.symm
 rw[e3']at hns₁ hsb₁ ⊢
 have fH2D:H2 D=none:=I2.hok.fresh (by rw[hD];exact Nat.le_refl _)
 have up:∀ b o,s3.heap.get? b=some o→h₁.get? b=some o:=fun b o e=>hsb₁.extBut b o (Nat.ne_of_lt (Heap.lt_size e)) (Heap.get?_push_of_some _ e)
 have fpo:∀ b∈fp,b<s3.heap.objs.size∧b≠D:=fun b hb=>by
  obtain⟨o,eo,_⟩:=T.obj 0 _ st2 b hb
  have h1:=Heap.lt_size eo
  rw[hD]at h1
  exact⟨by rw[hsz3];exact Nat.lt_succ_of_lt h1,Nat.ne_of_lt h1⟩
 have nb:∀ b,X.s₀.heap.objs.size≤b→∀ o,X.base.get? b≠some o:=fun b hb o e=>absurd (Nat.lt_of_lt_of_le (Heap.lt_size e) (Nat.le_trans I2.ok.bsz hb)) (Nat.lt_irrefl _)
 have dge:s2.heap.objs.size≤D:=by rw[hD];exact Nat.le_refl _
 have fD:FpOk X pins H2 D:=I2.fpOk dge fH2D
 have hex:∀ b∈D :: fp,b<s3.heap.objs.size∧b≠X.env.locals∧b∉X.fs∧(∀ x c,X.env.cells.lookup x=some c→c≠b)∧∀ o,X.base.get? b≠some o:=fun b hb=>by
  rcases List.mem_cons.mp hb with rfl | hb
  ·exact⟨by rw[hsz3];exact Nat.lt_succ_self _,fD.2.1,fD.2.2.1,fD.2.2.2.2.1,nb _ (Nat.le_trans I2.sz dge)⟩
  ·obtain⟨f0,f1,f2',f3,f4,f5⟩:=fo b hb
   refine⟨(fpo b hb).1,f1,f2',f4,fun o e=>?_⟩
   rcases f3 with z | z
   ·exact I2.ok.noex b o e z
   ·exact nb b z o e
 have hC:s3.heap.objs.size=s3.heap.objs.size:=rfl
 generalize hXi:cxIn X inn (ts++cs) s3 H2 (D :: fp)=Xi
 have I4:Inv Xi [] (sIn nt js σ) H2 { s3 with heap:=h₁,toks:=s3.toks }:=by
  rw[← hXi];exact in_inv hts I3 O hex ⟨_,hns₁⟩ up
 have xp:Xi.prog=X.prog:=by rw[← hXi];rfl
 have xw:Xi.w=X.w:=by rw[← hXi];rfl
 have xK:Xi.K=X.K:=by rw[← hXi];rfl
 have xA:Xi.A=X.A:=by rw[← hXi];rfl
 have xc:Xi.calm=true:=by rw[← hXi];exact hcalm
 have xe:Xi.env=compEnvC inn (closL inn X.env) s3.heap.objs.size X.env:=by rw[← hXi];rfl
 have xx:Xi.xe=fun _ _=>False:=by rw[← hXi];rfl
 have xex:Xi.ex=D :: fp:=by rw[← hXi];rfl
 have xpn:Xi.pn=[]:=by rw[← hXi];rfl
 have xs0:Xi.s₀=s3:=by rw[← hXi];rfl
 have xH0:Xi.H₀=H2:=by rw[← hXi];rfl
 have xfs:Xi.fs=frs X.stack:=by rw[← hXi];rfl
 have hgX:PG Xi tg g:=by rw[← hXi];exact hg _ _ _
 have htX:PIf Xi ifs tt:=by rw[← hXi];exact ht _ _ _
 have heX:PE Xi elt te:=by rw[← hXi];exact he _ _ _
 have hi2X:PI Xi t2 i2 wi2:=by rw[← hXi];exact hi2 _ _ _
 have hg2X:PG Xi t2 g2:=by rw[← hXi];exact hg2 _ _ _
 have ht2X:PIf Xi f2 tt2:=by rw[← hXi];exact ht2 _ _ _
 have okX:=I4.ok
 have xl:Xi.env.locals=s3.heap.objs.size:=by rw[xe];rfl
 have Dl:D≠Xi.env.locals:=by rw[xl,hsz3];exact Nat.ne_of_lt (Nat.lt_succ_self _)
 have stat:∀ {H':Hp} {pl:List (Addr×Obj)},(∀ b∈fp,H' b=none)→(∀ p∈pl,p.1=D)→∀ b∈fp,FpOk Xi pl H' b:=fun {H' pl} hn hpl b hb=>by
  have hbx:b∈Xi.ex:=by rw[xex];exact List.mem_cons_of_mem _ hb
  refine⟨hn b hb,(okX.exf b hbx).1,fun z=>okX.exfs b hbx z,.inl hbx,(okX.exf b hbx).2,fun p hp=>?_⟩
  rw[xpn,List.nil_append]at hp
  rw[hpl p hp]
  exact Ne.symm (fpo b hb).2
 have DX:D∈Xi.ex:=by rw[xex];exact List.mem_cons_self
 obtain⟨W,⟨m0,w0⟩,turn⟩:=R
 have loop:codeAny (model X.prog X.w) X.A (.compLoop (.ListComp elt [⟨tg,iter,ifs,0⟩,⟨t2,i2,f2,0⟩] inn pos) 0 (.ref it) (.ref D) Xi.env) (RR (.ref D) s3.heap.objs.size) { s3 with heap:=h₁,toks:=s3.toks }:=by
  refine codeAny_loop rfl (fun n s'=>∃ i ys H',Inv Xi [] (sIn nt js σ) H' s'∧tn i s'.heap∧(∀ b∈fp,H' b=none)∧H' D=none∧(∃ (its:List Value) (c:Nat),Vals ys its∧s'.heap.get? D=some { cls:=.type "list",data:=.seq its.toArray c })∧W i n ys H') ?_ m0
   ⟨0,[],H2,I4,?_,fun b hb=>(fo b hb).1,fH2D,⟨[],0,.nil,up D _ hD3⟩,w0⟩
  ·rintro n s5 ⟨i,ys,H5,I5,st5,fr5,fD5,⟨its,c,rv,eD⟩,w5⟩
   show wpAny _ X.A ((compTurn (.ListComp elt [⟨tg,iter,ifs,0⟩,⟨t2,i2,f2,0⟩] inn pos) 0 (.ref it) (.ref D) Xi.env).onRaise (fun x=>do noteFrame x Xi.env;theTreesLotGoes x)) _ _ s5
   refine wpAny_noted ?_
   rw[compTurn_list2a]
   refine wpAny_bind (wpAny_standAt (wpAny_bind ?_))
   have pinD:Inv Xi (pinsAt [D] s5.heap) (sIn nt js σ) H5 s5:=by
    have q:=I5.pinned (fp:=[D]) (fun b hb=>?_) (fun b hb=>?_)
    ·simpa using q
    ·have e:b=D:=by simpa using hb
     subst e
     refine⟨fD5,Dl,fun z=>okX.exfs b DX z,.inl DX,(okX.exf b DX).2,fun p hp=>?_⟩
     rw[xpn,List.nil_append]at hp;cases hp
    ·have e:b=D:=by simpa using hb
     subst e
     exact⟨_,eD,fun v z=>by cases z⟩
   have plD:∀ p∈pinsAt [D] s5.heap,p.1=D:=fun p hp=>by simpa using (of_pinsAt hp).1
   have memD:(D,({ cls:=.type "list",data:=.seq its.toArray c }:Obj))∈pinsAt [D] s5.heap:=mem_pinsAt (by simp) eD
   obtain⟨hz,tn5⟩:=turn i n ys H5 w5
   rcases tn5 with ⟨stop,fin⟩ | ⟨go,N,hN,step⟩
   ·have q:=T.done Xi xp xw xK xc i _ s5 _ H5 (notedBy (model X.prog X.w) X.A Xi.env fun e s'=>RR (.ref D) s3.heap.objs.size (.error e) s') pinD (stat fr5 plD) st5 stop
    rw[xA]at q
    refine wpAny_mono q (fun r s6 ⟨hr,I6⟩=>?_) fun _ _ z=>z
    subst hr
    refine wpAny_pure ?_
    have eD6:=(I6.pin (D,_) (List.mem_append_right _ memD)).1
    have un:Un (frs X.stack) (D :: fp) H2 H5 s3.heap s6.heap:=by
     have z:=I6.base
     rw[xfs,xex,xH0,xs0]at z
     exact z
    have os6:s6.os=s3.os:=by have z:=I6.os;rw[xs0]at z;exact z
    have hok6:HOk X.prog X.w H5 s6.heap:=by have z:=I6.hok;rw[xp,xw]at z;exact z
    have I7:Inv X pins σ H5 s6:=I3.call' os6 un hok6 I6.bare fun b hb=>by
     rcases List.mem_cons.mp hb with e | hb
     ·rw[e];exact⟨.inr (Nat.le_trans I2.sz dge),fD.2.1,fD.2.2.2.2.1,fD.2.2.2.2.2⟩
     ·obtain⟨f0,f1,f2',f3,f4,f5⟩:=fo b hb
      exact⟨f3,f1,f4,f5⟩
    have I8:Inv X pins σ (upd H5 D (.lst ys)) s6:=I7.track fD5 (Nat.le_trans I2.sz dge) fD.2.1 fD.2.2.2.2.1 fD.2.2.2.2.2 ⟨Nat.le_of_lt hz,its,c,rv,eD6⟩
    have Cge:s3.heap.objs.size≤s3.heap.objs.size:=Nat.le_refl _
    have fC:FpOk X pins (upd H5 D (.lst ys)) s3.heap.objs.size:=I3.fpOk Cge (by
     rw[upd_ne (by rw[← xl];exact Ne.symm Dl)]
     have z:=I6.free
     rw[xl]at z;exact z)
    obtain⟨mm,hmm,_⟩:=I6.loc
    rw[xl]at hmm
    exact hRR D _ s6 _ I8 ⟨mm,hmm⟩ fC.1 fC.2.1 (Nat.le_trans I3.sz Cge) fC.2.2.2.2.1 fC.2.2.2.2.2 (fin D fD5)
   ·have q:=T.item Xi xp xw xK xc i _ s5 _ H5 (notedBy (model X.prog X.w) X.A Xi.env fun e s'=>RR (.ref D) s3.heap.objs.size (.error e) s') pinD (stat fr5 plD) st5 go
    rw[xA]at q
    refine wpAny_mono q (fun r s6 ⟨u,hr,h6⟩=>?_) fun _ _ z=>z
    subst hr
    refine wpAny_bind (wpAny_mono h6 (fun _ s7 ⟨x,H7,I7,r7,y7,st7,fr7⟩=>?_) fun _ _ z=>z)
    have I7':=I7.pinned (fp:=fp) (fun b hb=>stat fr7 plD b hb) (T.obj _ _ st7)
    have q8:=hgX _ s7 _ H7 x u _ I7' r7 (hk x _ H7 _ (step x H7 y7))
    rw[xp,xw,xA,xx]at q8
    refine wpAny_bind (wpAny_mono q8 (fun _ s8 ⟨σ8,H8,I8,⟨k8,l8⟩,q8⟩=>?_) fun _ _ z=>z.elim)
    have q9:=htX _ s8 σ8 H8 _ I8 q8
    rw[xp,xw,xA,xx]at q9
    refine wpAny_bind (wpAny_mono q9 (fun ok s9 ⟨H9,I9,q9⟩=>?_) fun _ _ z=>z.elim)
    have keepσ:∀ (j:Nat) v,(sIn nt js σ)[j]?=some (some v)→σ8[j]?=some (some v):=fun j v e=>by
     have hj:=(sIn_get e).1
     rw[k8 j (Nat.le_trans hlo hj)];exact e
    have ends:∀ {H9:Hp} {s9:Shared} {ys':List V},Inv Xi (pinsAt [D] s5.heap++pinsAt fp s7.heap) σ8 H9 s9→∀ {h':Heap} {its':List Value} {c':Nat},(∀ b o,b≠D→s9.heap.get? b=some o→h'.get? b=some o)→Vals ys' its'→h'.get? D=some { cls:=.type "list",data:=.seq its'.toArray c' }→N ys' H9 →
     ∀ tk,∃ m,m<n∧∃ i ys H',Inv Xi [] (sIn nt js σ) H' { s9 with heap:=h',toks:=tk }∧tn i h'∧(∀ b∈fp,H' b=none)∧H' D=none∧(∃ (its:List Value) (c:Nat),Vals ys its∧h'.get? D=some { cls:=.type "list",data:=.seq its.toArray c })∧W i m ys H':=fun {H9 s9 ys'} I9 {h' its' c'} kp rv' eD' n9 tk=>by
     obtain⟨m',hm,w9⟩:=hN ys' H9 n9
     have fD9:H9 D=none:=(I9.pin (D,_) (List.mem_append_right _ (List.mem_append_left _ memD))).2.1
     have fr9:∀ b∈fp,H9 b=none:=fun b hb=>by
      obtain⟨o,e,d⟩:=T.obj _ _ st7 b hb
      exact(I9.pin (b,o) (List.mem_append_right _ (List.mem_append_right _ (mem_pinsAt hb e)))).2.1
     have I10:Inv Xi [] σ8 H9 s9:=I9.pins_of fun p hp=>by cases hp
     have I11:Inv Xi [] σ8 H9 { s9 with heap:=h',toks:=tk }:=I10.turned (it:=D) kp fD9 Dl (.inl DX) (okX.exf D DX).2 (fun p hp=>by rw[xpn]at hp;cases hp)
     refine⟨m',hm,i+1,ys',H9,I11.weak l8.symm keepσ,T.keep _ _ _ st7 fun b hb o e=>kp b o (fpo b hb).2 (I9.pin (b,o) (List.mem_append_right _ (List.mem_append_right _ (mem_pinsAt hb e)))).1,fr9,fD9,⟨its',c',rv',eD'⟩,w9⟩
    cases ok with
    | false =>
     rw[if_neg Bool.false_ne_true]at q9
     have eD9:=(I9.pin (D,_) (List.mem_append_right _ (List.mem_append_left _ memD))).1
     exact wpAny_pure ⟨rfl,ends I9 (h':=s9.heap) (fun _ _ _ e=>e) rv eD9 q9 s9.toks⟩
    | true =>
     rw[if_pos rfl]at q9
     have q10:=hi2X _ s9 σ8 H9 _ I9 q9
     rw[xp,xw,xA,xx]at q10
     refine wpAny_bind (wpAny_mono q10 (fun v s10 q11=>?_) fun _ _ z=>z.elim)
     refine wpAny_bind (wpAny_standAt (wpAny_bind (wpAny_of_eq (hs2 _ v) (wpAny_bind (wpAny_holding (wpAny_mono q11 (fun itv s11 q12=>?_) fun _ _ z=>z.elim))))))
     obtain⟨it2,fp2,tn2,J2,H11,ei,I11,T2,st11,f11,R11⟩:=q12
     subst ei
     have pm:(D,({ cls:=.type "list",data:=.seq its.toArray c }:Obj))∈Xi.pn++(pinsAt [D] s5.heap++pinsAt fp s7.heap):=List.mem_append_right _ (List.mem_append_left _ memD)
     have eD11:=(I11.pin (D,_) pm).1
     have fD11:H11 D=none:=(I11.pin (D,_) pm).2.1
     have hpl:∀ p∈Xi.pn++pinsAt fp s7.heap,p.1≠D:=fun p hp=>by
      rw[xpn,List.nil_append]at hp
      exact(fpo p.1 (of_pinsAt hp).1).2
     have xcc:Xi.calm=true:=xc
     refine wpAny_bind (wpAny_runOwn ?_)
     have core:=inner_core (X:=Xi) (pl:=pinsAt fp s7.heap) (σ:=σ8) (elt:=elt) (t1:=tg) (i1:=iter) (tg:=t2) (iter:=i2) (f1:=ifs) (ifs:=f2) (inn:=inn) (pos:=pos) (lo:=lo) (hi:=nt) (D:=D) (N:=N)
      (RR:=fun r s'=>match r with | .ok f=>wpAny (model Xi.prog Xi.w) Xi.A (again (.compLoop (.ListComp elt [⟨tg,iter,ifs,0⟩,⟨t2,i2,f2,0⟩] inn pos) 0 (.ref it) (.ref D) Xi.env)) (fun f s'=>f=Fin.again (.compLoop (.ListComp elt [⟨tg,iter,ifs,0⟩,⟨t2,i2,f2,0⟩] inn pos) 0 (.ref it) (.ref D) Xi.env)∧∃ m,m<n∧∃ i ys H',Inv Xi [] (sIn nt js σ) H' s'∧tn i s'.heap∧(∀ b∈fp,H' b=none)∧H' D=none∧(∃ (its:List Value) (c:Nat),Vals ys its∧s'.heap.get? D=some { cls:=.type "list",data:=.seq its.toArray c })∧W i m ys H') (fun _ _=>False) s' | .error e=>False)
      xc xx DX Dl hpl (fun hb=>(f11 D hb).2.2.2.2.2 _ pm rfl) hg2X hk2 ht2X heX (fun j v h1 h2 e=>?_) (I11.pins_of fun p hp=>I11.pin p (List.mem_append_right _ (List.mem_append_right _ hp))) T2 st11
      (fun b hb=>let ⟨a0,a1,a2,a3,a4,a5⟩:=f11 b hb;⟨a0,a1,a2,a3,a4,fun p hp=>a5 p ((List.mem_append.mp hp).elim (List.mem_append_left _) fun z=>List.mem_append_right _ (List.mem_append_right _ z))⟩) fD11 rv eD11 R11 ?_
     ·rw[xp,xw,xA]at core
      refine codeAny_mono core fun r s' hr=>?_
      cases r with
      | ok f=>exact wpAny_mono hr (fun _ _ z=>by obtain⟨rfl,z⟩:=z;exact⟨rfl,z⟩) fun _ _ z=>z.elim
      | error e=>exact hr.elim
     ·have e':=(k8 j h1).symm.trans e
      exact absurd (sIn_get e').1 (by omega)
     ·intro s' H' ys' its' c' I' rv' eD' fD' n'
      obtain⟨m',hm,w9⟩:=hN ys' H' n'
      have fr':∀ b∈fp,H' b=none:=fun b hb=>by
       obtain⟨o,e,d⟩:=T.obj _ _ st7 b hb
       exact(I'.pin (b,o) (List.mem_append_right _ (mem_pinsAt hb e))).2.1
      refine wpAny_pure ⟨rfl,m',hm,i+1,ys',H',(I'.pins_of fun p hp=>by cases hp).weak l8.symm keepσ,T.keep _ _ _ st7 fun b hb o e=>(I'.pin (b,o) (List.mem_append_right _ (mem_pinsAt hb e))).1,fr',fD',⟨its',c',rv',eD'⟩,w9⟩
  ·exact T.keep 0 _ _ st2 fun b hb o e=>up b o (by rw[e3];exact Heap.get?_push_of_some _ e)
 have e4:({ s2 with heap:=h₁,toks:=s2.toks+([]:List (Str×Value)).length }:Shared)={ s3 with heap:=h₁,toks:=s3.toks }:=by rw[← hs3];rfl
 rw[e4]
 show codeAny _ _ (.compStart (.ListComp elt [⟨tg,iter,ifs,0⟩,⟨t2,i2,f2,0⟩] inn pos) 0 (.ref it) (.ref D) (compEnvC inn (closL inn X.env) s3.heap.objs.size X.env)) (RR (.ref D) s3.heap.objs.size) _
 rw[← xe]
 refine codeAny_compStart_list loop ?_
 refine T.self X.A 0 _ _ _ ?_ loop
 exact T.keep 0 _ _ st2 fun b hb o e=>up b o (by rw[e3];exact Heap.get?_push_of_some _ e)
theorem pe_comp2 (ts1 ts2 cs:List Str) (js:List Nat) (hcalm:X.calm=true) (O:CompOk X.env.scope inn X.N js cs) (hi:PI X tg iter wi)
 (hg:∀ s₀ H₀ ex,PG (cxIn X inn ((ts1++ts2)++cs) s₀ H₀ ex) tg g) (hk:GK ts1.length g) (ht:∀ s₀ H₀ ex,PIf (cxIn X inn ((ts1++ts2)++cs) s₀ H₀ ex) ifs tt)
 (hi2:∀ s₀ H₀ ex,PI (cxIn X inn ((ts1++ts2)++cs) s₀ H₀ ex) t2 i2 wi2) (hg2:∀ s₀ H₀ ex,PG (cxIn X inn ((ts1++ts2)++cs) s₀ H₀ ex) t2 g2) (hk2:GR ts1.length (ts1++ts2).length g2) (ht2:∀ s₀ H₀ ex,PIf (cxIn X inn ((ts1++ts2)++cs) s₀ H₀ ex) f2 tt2) (he:∀ s₀ H₀ ex,PE (cxIn X inn ((ts1++ts2)++cs) s₀ H₀ ex) elt te)
 (hs:∀ x,foldedSetIterable iter X.env x=pure x:=by intro _;rfl) (hs2:∀ env x,foldedSetIterable i2 env x=pure x:=by intro _ _;rfl):PE X (.ListComp elt [⟨tg,iter,ifs,0⟩,⟨t2,i2,f2,0⟩] inn pos) (tComp2 wi (ts1++ts2).length js g tt wi2 g2 tt2 te):=by
 intro pins s σ H Q I h
 rw[eval_ListComp]
 refine wpAny_comprehension_free (use:=none) rfl hs (closFor fun y hy e=>I.ok.has y.1 (O.frees y hy e)) O.kind O.names (thn (hi pins s σ H _ I h) fun xv s1 h1=>thn h1 fun itv s2 h2=>?_)
 obtain⟨it,fp,tn,J,H2,e,I2,T,st2,f2,R⟩:=h2
 subst e
 refine comp_core2 (Q:=Q) (RR:=fun acc C=>compPost (model X.prog X.w) X.A X.xe none (EP X pins σ Q) acc C) hcalm O rfl (lo:=ts1.length) (by simp) hg hk hi2 hg2 hk2 ht2 hs2 ht he I2 T st2 f2 R ?_
 intro D C s' H' I' ⟨m,hm⟩ c1 c2 c3 c4 c5 q
 refine⟨m,hm,fun h' hsb=>?_⟩
 exact⟨.ref D,H',I'.turned (it:=C) (t':=s'.toks) (fun b o hb e=>hsb.extBut b o hb e) c1 c2 (.inr c3) c4 c5,rfl,q⟩
end
end L2
namespace L2
open PySem PySem.Spec PyProof.Rows
theorem pi_listK {X:Cx} {tg:Expr} (K:PySem.W.Frag) (h:X.K=K) {l:Expr} {tl:TE} (hl:PE X l tl):PI X tg l (iList K tl):=h ▸ pi_list hl
theorem comp2_list {K:PySem.W.Frag} {a:Addr} {xs:List V} {σ0:St} {g g2:TG} {tt tt2:TT} {wi:TI} {te:TE} {H:Hp} {Q:VK} (Pv:Nat→List V→Hp→Prop) (h0:Pv 0 [] H) (hl:∀ i ys H,i≤xs.length→Pv i ys H→SqL K H a xs∧ys.length<sizeLine)
 (hs:∀ i x ys H,xs[i]?=some x→Pv i ys H→g x σ0 H fun σ2 H2=>tt σ2 H2 fun b H3=>if b=true then wi σ2 H3 fun J2 H4=>CompG J2 σ2 g2 tt2 te ys (Pv (i+1)) H4 else Pv (i+1) ys H3) (hd:∀ ys H,Pv xs.length ys H→∀ D,H D=none→Q (.ref D) (upd H D (.lst ys))) :
 CompR2 (Itl K a) σ0 g tt wi g2 tt2 te Q H:=by
 refine⟨fun i m ys H=>m=xs.length - i∧i≤xs.length∧Pv i ys H,⟨xs.length,by simp,Nat.zero_le _,h0⟩,?_⟩
 rintro i m ys H ⟨rfl,hi,p⟩
 obtain⟨q,hz⟩:=hl i ys H hi p
 refine⟨hz,?_⟩
 by_cases hlt:i<xs.length
 ·refine .inr ⟨⟨xs,xs[i],q,by simp[hlt]⟩,Pv (i+1),fun ys' H' p'=>⟨xs.length - (i+1),by omega,rfl,hlt,p'⟩,fun x H' y=>?_⟩
  obtain⟨e,y⟩:=y
  subst e
  exact hs i x ys _ (y xs q) p
 ·have e:i=xs.length:=by omega
  subst e
  exact .inl ⟨⟨xs,q,Nat.le_refl _⟩,hd ys H p⟩
theorem inner_list {K:PySem.W.Frag} {a:Addr} {xs:List V} {σ0:St} {g:TG} {tt:TT} {te:TE} {H:Hp} {N:List V→Hp→Prop} {ys0:List V} (Pv:Nat→List V→Hp→Prop) (h0:Pv 0 ys0 H) (hl:∀ i ys H,i≤xs.length→Pv i ys H→SqL K H a xs∧ys.length<sizeLine)
 (hs:∀ i x ys H,xs[i]?=some x→Pv i ys H→g x σ0 H fun σ2 H2=>tt σ2 H2 fun b H3=>if b=true then te σ2 H3 fun y H4=>Pv (i+1) (ys++[y]) H4 else Pv (i+1) ys H3) (hd:∀ ys H,Pv xs.length ys H→N ys H) :
 CompG (Itl K a) σ0 g tt te ys0 N H:=by
 refine⟨fun i m ys H=>m=xs.length - i∧i≤xs.length∧Pv i ys H,⟨xs.length,by simp,Nat.zero_le _,h0⟩,?_⟩
 rintro i m ys H ⟨rfl,hi,p⟩
 obtain⟨q,hz⟩:=hl i ys H hi p
 refine⟨hz,?_⟩
 by_cases hlt:i<xs.length
 ·refine .inr ⟨⟨xs,xs[i],q,by simp[hlt]⟩,Pv (i+1),fun ys' H' p'=>⟨xs.length - (i+1),by omega,rfl,hlt,p'⟩,fun x H' y=>?_⟩
  obtain⟨e,y⟩:=y
  subst e
  exact hs i x ys _ (y xs q) p
 ·have e:i=xs.length:=by omega
  subst e
  exact .inl ⟨⟨xs,q,Nat.le_refl _⟩,hd ys H p⟩
noncomputable def tSeqO (t u:TS):TS:=fun D σ H=>∀ M:St→Hp→Prop,(∀ σ' H',u D σ' H'→M σ' H')→t { D with nx:=M } σ H
theorem pss_consO {X:Cx} {st:Stmt} {rest:List Stmt} {t u:TS} (h1:PS X st t) (h2:PSs X rest u):PSs X (st :: rest) (tSeqO t u):=fun pins s σ H D I h=>pss_cons h1 h2 pins s σ H D I (h (u D) fun _ _ z=>z)
end L2
namespace L2
open PySem
end L2
namespace L2
open PySem PySem.Spec PyProof.Rows PySem.SeqAt PySem.MeetsSeq
open PySem.AutoSeq1 (wpAny_loadPart')
theorem PairV.inj {h:Heap} {v:Value} {p q:Int×Int} (a:PairV h v p) (b:PairV h v q):p=q:=by
 obtain⟨t,o,n,k1,k2,rfl,ho,_,hd⟩:=a
 obtain⟨t',o',n',k1',k2',e,ho',_,hd'⟩:=b
 cases e
 rw[ho]at ho'
 cases ho'
 rw[hd]at hd'
 obtain⟨p1,p2⟩:=p
 obtain⟨q1,q2⟩:=q
 simp only[Data.seq.injEq,Array.mk.injEq,List.cons.injEq,Value.int.injEq,and_true]at hd'
 obtain⟨⟨⟨rfl,_⟩,rfl,_⟩,_⟩:=hd'
 rfl
section
variable {X:Cx}
noncomputable def tThawS (t:TS):TS:=fun D σ H=>∃ d kvs,H d=some (.dK kvs)∧t { D with nx:=fun σ' H'=>∃ od,H' d=some (.frz od (.dK kvs))∧D.nx σ' (upd H' d (.dK kvs)) } σ H
theorem ps_thaw {st:Stmt} {t:TS} (h:PS X st t):PS X st (tThawS t):=by
 intro pins s σ H D I q
 obtain⟨d,kvs,hd,q⟩:=q
 have h0:∀ o u,X.H₀ d≠some (.frz o u):=fun o u z=>by
  have:=I.base.frzs d o u z
  rw[hd]at this
  cases this
 refine thn (h pins s σ H _ I q) fun f s1 q1=>?_
 cases f with
 | next =>
  obtain⟨σ',H',I',od,hf,q1⟩:=q1
  exact⟨σ',_,I'.thaw hf h0,q1⟩
 | ret v=>exact q1
 | brk=>exact q1
 | cont=>exact q1
end
end L2
namespace CW
open PySem L2
theorem lng_le {b:Int}:∀ {gs:List Grp},(∀ g∈gs,g.2.2.length≤60)→0≤lng b gs∧lng b gs≤60 * (gs.length:Int)
 | [],_=>⟨Int.le_refl _,Int.le_refl _⟩
 | g :: r,h=>by
  obtain⟨h1,h2⟩:=lng_le (b:=b) (gs:=r) fun x hx=>h x (List.mem_cons_of_mem _ hx)
  have h3:=h g List.mem_cons_self
  unfold lng at h1 h2 ⊢
  rw[wgt_cons,List.length_cons]
  by_cases c:b<g.1
  ·rw[if_pos c];omega
  ·rw[if_neg c];omega
theorem ple_uniq:∀ {a b:Trs},a.Perm b→a.Pairwise ple→b.Pairwise ple→a=b:=fun {a b} h ha hb =>
 List.Perm.eq_of_pairwise (le:=ple) (fun x y _ _ h1 h2=>by
  obtain⟨x1,x2⟩:=x
  obtain⟨y1,y2⟩:=y
  unfold ple at h1 h2
  simp only at h1 h2
  have e1:x1=y1:=by omega
  have e2:x2=y2:=by omega
  rw[e1,e2]) ha hb h
noncomputable def laid (ms:List Int) (gs:List Grp):Trs:=ms.flatMap fun m=>match gs.find? (fun g=>decide (g.1=m))with | some g=>g.2.2.map fun o=>(m,o) | none=>[]
theorem laid_cons (m:Int) (ms:List Int) (gs:List Grp):laid (m :: ms) gs=(match gs.find? (fun g=>decide (g.1=m))with | some g=>g.2.2.map (fun o=>(m,o)) | none=>[])++laid ms gs:=rfl
theorem laid_append (a b:List Int) (gs:List Grp):laid (a++b) gs=laid a gs++laid b gs:=by simp[laid]
theorem laid_one {gs:List Grp} (hn:(gs.map (·.1)).Nodup) {g:Grp} (hg:g∈gs):laid [g.1] gs=g.2.2.map fun o=>(g.1,o):=by
 rw[laid_cons,find_key hn hg]
 exact List.append_nil _
theorem laid_perm {ms ks:List Int} (gs:List Grp) (h:ms.Perm ks):(laid ms gs).Perm (laid ks gs):=h.flatMap_right _
theorem laid_keys:∀ {gs:List Grp},(gs.map (·.1)).Nodup→laid (gs.map (·.1)) gs=flat gs:=by
 intro gs hn
 have go:∀ us:List Grp,(∀ g∈us,g∈gs)→laid (us.map (·.1)) gs=flat us:=by
  intro us
  induction us with
  | nil=>intro _;rfl
  | cons g r ih =>
   intro h
   rw[List.map_cons,laid_cons,find_key hn (h g List.mem_cons_self),flat_cons,ih fun x hx=>h x (List.mem_cons_of_mem _ hx)]
 exact go gs fun _ h=>h
theorem mem_laid {ms:List Int} {gs:List Grp} {q:Int×Int} (h:q∈laid ms gs):q.1∈ms:=by
 unfold laid at h
 obtain⟨m,hm,hq⟩:=List.mem_flatMap.mp h
 split at hq
 ·obtain⟨o,_,rfl⟩:=List.mem_map.mp hq
  exact hm
 ·cases hq
theorem laid_sorted {gs:List Grp} (ac:Asc gs):∀ {ms:List Int},ms.Pairwise (·<·)→(laid ms gs).Pairwise ple
 | [],_=>List.Pairwise.nil
 | m :: ms,h=>by
  obtain⟨h1,h2⟩:=List.pairwise_cons.mp h
  rw[laid_cons]
  refine List.pairwise_append.mpr ⟨?_,laid_sorted ac h2,fun a ha b hb=>?_⟩
  ·split
   ·next g hg =>
    rw[List.pairwise_map]
    exact(ac g (List.mem_of_find?_eq_some hg)).imp fun {x y} hxy=>.inr ⟨rfl,hxy⟩
   ·exact List.Pairwise.nil
  ·have hb1:=h1 _ (mem_laid hb)
   split at ha
   ·obtain⟨o,_,rfl⟩:=List.mem_map.mp ha
    exact .inl hb1
   ·cases ha
theorem strict_of {ms ks:List Int} (hp:ms.Perm ks) (hs:ms.Pairwise (·≤·)) (hn:ks.Nodup):ms.Pairwise (·<·):=by
 have h:=hp.nodup_iff.mpr hn
 exact(List.pairwise_and_iff.mpr ⟨hs,h⟩).imp fun {x y} ⟨a,b⟩=>by omega
section
variable {P:Program} {w:World} {K:PySem.W.Frag} {mg:Str→Option Value} {base:Heap}
inductive spCrowdsV (vs:List V) (H:Hp) (Q:VK) (E_:XK):Prop
 | mk (d:Addr) (gs:List Grp) (h0_:vs=[.ref d]) (h1_:DG H d gs) (h2_:GoodG gs) (h3_:gs.length≤60) (h4_:(∀ g∈gs,g.2.2.length≤60)) (h5_:∀ (e:Addr) (kvs:List (Key×V)) (H':Hp),H e=none→Same H H'→H' e=some (.dK kvs)→(∀ g∈gs,valV kvs (Sum.inl g.1:Key)=some (.int (2 * les (flat gs) g.1)))→Q (.ref e) H'):spCrowdsV vs H Q E_
inductive spAddTrainV (vs:List V) (H:Hp) (Q:VK) (E_:XK):Prop
 | mk (d:Addr) (gs:List Grp) (k p:Int) (h0_:vs=[.ref d,.int k,.int p]) (h1_:DG H d gs) (h2_:gs.length≤60) (h3_:(∀ g∈gs,g.2.2.length≤60)) (h4_:∀ (gs':List Grp) (H':Hp),StayG d gs H H'→DG H' d gs'→Puts H k (p - 2 * wgt (lesJ k) gs - 2 * k) gs gs'→Q .non H'):spAddTrainV vs H Q E_
inductive spAddStone (vs:List V) (H:Hp) (Q:VK) (E_:XK):Prop
 | mk (d:Addr) (gs:List Grp) (p:Int) (H0:Hp) (h0_:vs=[.ref d,.int p]) (h1_:DG H d gs) (h2_:GoodG gs) (h3_:Asc gs) (h4_:sto gs≤59) (h5_:Bd (flat gs) (p - 1)) (h6_:Same H0 H) (h7_:H0 d=none) (h8_:(∀ g∈gs,H0 g.2.1=none)) (h9_:∀ (gs':List Grp) (H':Hp),Same H0 H'→DG H' d gs'→GoodG gs'→Asc gs'→Add (flat gs) p (flat gs')→(∀ g∈gs',H0 g.2.1=none)→Q .non H'):spAddStone vs H Q E_
inductive spListOf (vs:List V) (H:Hp) (Q:VK) (E_:XK):Prop
 | mk (a:Addr) (row:List Int) (h0_:vs=[.ref a]) (h1_:H a=some (.lst (row.map V.int))) (h2_:Row row) (h3_:row.length≤60) (h4_:∀ qs:Trs,Lst row qs→qs.Pairwise ple→RetP H Q qs):spListOf vs H Q E_
end
end CW
namespace CW
open PySem L2
theorem last_at {l:List Int} (h:l≠[]):atI (l.map V.int) (-1)=some (V.int (l.getLast h)):=by
 have e:l.map V.int=l.dropLast.map V.int++[V.int (l.getLast h)]:=by
  rw[← List.map_singleton (f:=V.int),← List.map_append,List.dropLast_concat_getLast h]
 rw[e]
 exact atI_last _ _
theorem foldl_max_spec:∀ (r:List Int) (n:Int),(r.foldl max n=n∨r.foldl max n∈r)∧n≤r.foldl max n∧∀ x∈r,x≤r.foldl max n
 | [],n=>⟨.inl rfl,Int.le_refl _,fun x hx=>(nomatch hx)⟩
 | a :: r,n=>by
  obtain⟨h1,h2,h3⟩:=foldl_max_spec r (max n a)
  rw[List.foldl_cons]
  refine⟨?_,by omega,fun x hx=>?_⟩
  ·rcases h1 with h1 | h1
   ·rcases Int.le_total n a with c | c
    ·right;rw[h1];rw[show max n a=a by omega];exact List.mem_cons_self
    ·left;rw[h1];omega
   ·exact .inr (List.mem_cons_of_mem _ h1)
  ·rcases List.mem_cons.mp hx with rfl | hx
   ·omega
   ·exact h3 x hx
theorem ready_top {gs:List Grp} {p:Int} (gd:GoodG gs) {ns:List Int} (h1:∀ n∈ns,∃ g∈gs,∃ hne:g.2.2≠[],n=g.1∧g.2.2.getLast hne=p - 1 - 2 * les (flat gs) g.1)
 (h2:∀ g∈gs,∀ hne:g.2.2≠[],g.2.2.getLast hne=p - 1 - 2 * les (flat gs) g.1→g.1∈ns) :
 ∃ s:Int,mxD ns (.int 0)=.int s∧0≤s∧(s=0∨1≤s∧∃ g∈gs,∃ hne:g.2.2≠[],g.1=s∧g.2.2.getLast hne=p - 1 - 2 * les (flat gs) s)∧(∀ g∈gs,∀ hne:g.2.2≠[],s<g.1→g.2.2.getLast hne≠p - 1 - 2 * les (flat gs) g.1):=by
 cases ns with
 | nil=>exact⟨0,rfl,Int.le_refl _,.inl rfl,fun g hg hne _ e=>(nomatch (h2 g hg hne e))⟩
 | cons n r =>
  obtain⟨a1,a2,a3⟩:=foldl_max_spec r n
  have hm:r.foldl max n∈n :: r:=by
   rcases a1 with h | h
   ·rw[h];exact List.mem_cons_self
   ·exact List.mem_cons_of_mem _ h
  obtain⟨g,hg,hne,e1,e2⟩:=h1 _ hm
  have hg1:=(gd g hg).1
  refine⟨r.foldl max n,rfl,by omega,.inr ⟨by omega,g,hg,hne,e1.symm,by rw[e1];exact e2⟩,fun x hx hnx hlt e=>?_⟩
  have:=h2 x hx hnx e
  rcases List.mem_cons.mp this with z | z
  ·omega
  ·have:=a3 _ z;omega
end CW
namespace CW
open PySem L2
end CW
namespace CW
open PySem L2
theorem Lst.few {row:List Int} {qs:Trs} (h:Lst row qs) (hl:row.length≤60):qs.length≤60:=by
 have h3:=len_le_sum h.pos
 have h4:(szs qs).sum=siz qs:=rfl
 have h5:=h.sizx
 omega
end CW
namespace L2
open PySem PySem.Spec PyProof.Rows
section
variable {prog:Program} {w:World} {A:Around} {R:Result→Shared→Prop} {l it S:Addr} {its:List Value} {ns:List Int}
end
section
variable {X:Cx}
end
end L2
namespace CW
open PySem L2
theorem Lst.rowp {r:List Int} {ps:Trs} (h:Lst r ps):Row r:=by
 induction h with
 | nil=>exact List.Pairwise.nil
 | snoc a b c ih=>exact row_snoc ih b
theorem Tak.pos {ps qs:Trs} {p:Int} (h:Tak ps p qs) (hp:∀ q∈ps,1≤q.1):∀ q∈qs,1≤q.1:=fun q hq=>((h.add hp).1 q hq).1
section
variable {P:Program} {w:World} {K:PySem.W.Frag} {mg:Str→Option Value} {base:Heap}
end
end CW
namespace CW
open PySem L2
end CW
namespace CW
open PySem L2
end CW
namespace CW
noncomputable def tr (s o:Int) (rest:Trs):Trs:=if s=0 then rest else (s,o) :: rest
theorem les_tr {s o:Int} {rest:Trs} {j:Int} (hs:0≤s) (hj:0≤j):les (tr s o rest) j=min j s+les rest j:=by
 unfold tr
 split
 ·omega
 ·rw[les_cons]
theorem mem_tr {s o:Int} {rest:Trs} {q:Int×Int} (h:q∈tr s o rest):q=(s,o)∧s≠0∨q∈rest:=by
 unfold tr at h
 split at h
 ·exact .inr h
 ·rcases List.mem_cons.mp h with h | h
  ·exact .inl ⟨h,by assumption⟩
  ·exact .inr h
theorem tr_mem {s o:Int} {rest:Trs} {q:Int×Int} (h:q∈rest):q∈tr s o rest:=by
 unfold tr
 split
 ·exact h
 ·exact List.mem_cons_of_mem _ h
theorem tr_perm {s o:Int} {a b:Trs} (h:a.Perm b):(tr s o a).Perm (tr s o b):=by
 unfold tr
 split
 ·exact h
 ·exact h.cons _
theorem add_tr {ps qs:Trs} {p s:Int} {rest:Trs} (h0:0≤s) (h1:ps.Perm (tr s (p - 1 - 2 * les ps s) rest)) (h2:∀ q∈ps,s<q.1→q.2+2 * les ps q.1≠p - 1) (h3:qs.Perm ((s+1,p - 2 * les rest (s+1) - 2 * (s+1)) :: rest)):Add ps p qs:=by
 refine⟨s,rest,h0,?_,h2,h3⟩
 unfold tr at h1
 split at h1
 ·exact .inl ⟨by assumption,h1⟩
 ·exact .inr ⟨by omega,h1⟩
theorem Add.tr' {ps qs:Trs} {p:Int} (h:Add ps p qs):∃ (s:Int) (rest:Trs),0≤s∧ps.Perm (tr s (p - 1 - 2 * les ps s) rest)∧(∀ q∈ps,s<q.1→q.2+2 * les ps q.1≠p - 1)∧qs.Perm ((s+1,p - 2 * les rest (s+1) - 2 * (s+1)) :: rest):=by
 obtain⟨s,rest,h0,h1,h2,h3⟩:=h
 refine⟨s,rest,h0,?_,h2,h3⟩
 unfold tr
 rcases h1 with ⟨a,b⟩ | ⟨a,b⟩
 ·rw[if_pos a];exact b
 ·rw[if_neg (by omega)];exact b
theorem Tak.tr' {ps qs:Trs} {p:Int} (h:Tak ps p qs):∃ (s:Int) (rest:Trs),1≤s∧ps.Perm ((s,p - 2 * les ps s) :: rest)∧(∀ q∈ps,q.2+2 * les ps q.1≤p)∧(∀ q∈ps,q.1<s→q.2+2 * les ps q.1<p)∧qs.Perm (tr (s - 1) (p - 1 - 2 * les rest (s - 1) - 2 * (s - 1)) rest):=by
 obtain⟨s,rest,h0,h1,h2,h3,h4⟩:=h
 refine⟨s,rest,h0,h1,h2,h3,?_⟩
 unfold tr
 rcases h4 with ⟨a,b⟩ | ⟨a,b⟩
 ·rw[if_pos (by omega)];exact b
 ·rw[if_neg (by omega)];exact b
noncomputable def rnn (p:Int) (k:Nat):List Int:=(List.range k).map fun(j:Nat)=>p+(j:Int)
theorem rnn_succ (p:Int) (k:Nat):rnn p (k+1)=rnn p k++[p+(k:Int)]:=by unfold rnn;rw[List.range_succ,List.map_append];rfl
theorem rnn_zero (p:Int):rnn p 0=[]:=rfl
theorem mem_rnn {p:Int} {k:Nat} {x:Int} (h:x∈rnn p k):p≤x∧x≤p+(k:Int) - 1:=by
 unfold rnn at h
 obtain⟨j,hj,rfl⟩:=List.mem_map.mp h
 have:=List.mem_range.mp hj
 omega
theorem rnn_le {fs:List Int} {p:Int} {k:Nat} (hf:∀ x∈fs,x<p):∀ x∈fs++rnn p k,x≤p+(k:Int) - 1:=fun x hx=>by
 rcases List.mem_append.mp hx with h | h
 ·have:=hf x h;omega
 ·have:=mem_rnn h;omega
theorem rnn_out {fs:List Int} {p:Int} {k:Nat} {Y:Trs} (h:Lst (fs++rnn p (k+1)) Y):∃ Y',Lst (fs++rnn p k) Y'∧Tak Y (p+(k:Int)) Y':=by
 rw[rnn_succ,← List.append_assoc]at h
 obtain⟨Y',h1,h2,h3⟩:=h.inv
 exact⟨Y',h1,h3.tak (h1.bd fun x hx=>by have:=h2 x hx;omega)⟩
theorem rnn_in {fs:List Int} {p:Int} {k:Nat} {X X':Trs} (hf:∀ x∈fs,x<p) (h:Lst (fs++rnn p k) X') (a:Add X' (p+(k:Int)) X):Lst (fs++rnn p (k+1)) X:=by
 rw[rnn_succ,← List.append_assoc]
 exact .snoc h (fun x hx=>by have:=rnn_le hf x hx;omega) a
theorem phase2 {fs:List Int} {p:Int} (hf:∀ x∈fs,x<p):∀ (k:Nat) (Y rest X:Trs),Lst (fs++rnn p k) Y→(∀ q∈Y,q.1≤(k:Int)→q.2+2 * les Y q.1≤p - 1+q.1) →
 Y.Perm (tr (k:Int) (p - 1+(k:Int) - 2 * les Y (k:Int)) rest)→X.Perm (tr (k:Int) (p+(k:Int) - 2 * les Y (k:Int)) rest)→Lst (fs++rnn (p+1) k) X:=by
 intro k
 induction k with
 | zero =>
  intro Y rest X hY hC hp hx
  have e:∀ o,tr ((0:Nat):Int) o rest=rest:=fun o=>rfl
  rw[e]at hp hx
  exact hY.perm (hp.trans hx.symm)
 | succ k ih =>
  intro Y rest X hY hC hp hx
  obtain⟨Y',hY',hT⟩:=rnn_out hY
  obtain⟨t,rT,ht1,hTp,hTm,hTs,hT'⟩:=hT.tr'
  have hk0:((k+1:Nat):Int)≠0:=by omega
  have hmem:(((k+1:Nat):Int),p - 1+((k+1:Nat):Int) - 2 * les Y ((k+1:Nat):Int))∈Y:=hp.mem_iff.mpr (by unfold tr;rw[if_neg hk0];exact List.mem_cons_self)
  have htm:(t,p+(k:Int) - 2 * les Y t)∈Y:=hTp.mem_iff.mpr List.mem_cons_self
  have a1:=hTs _ hmem
  have a2:=hC _ htm
  simp only at a1 a2
  have htk:t=((k+1:Nat):Int):=by
   rcases Int.lt_trichotomy t ((k+1:Nat):Int)with c | c | c
   ·have:=a2 (by omega);omega
   ·exact c
   ·have:=a1 c;omega
  subst htk
  have hrr:rT.Perm rest:=by
   have h5:=hTp.symm.trans hp
   unfold tr at h5
   rw[if_neg hk0,show p - 1+((k+1:Nat):Int) - 2 * les Y ((k+1:Nat):Int)=p+(k:Int) - 2 * les Y ((k+1:Nat):Int)by omega]at h5
   exact List.Perm.cons_inv h5
  have e1:((k+1:Nat):Int) - 1=(k:Int):=by omega
  rw[e1]at hT'
  have hlY:∀ j,0≤j→les Y j=min j ((k+1:Nat):Int)+les rest j:=fun j hj=>by
   rw[les_perm hTp,les_cons,les_perm hrr]
  have hlY':∀ j,0≤j→les Y' j=min j (k:Int)+les rest j:=fun j hj=>by
   rw[les_perm hT',les_tr (by omega) hj,les_perm hrr]
  have hbd:=hY.bd (rnn_le hf)
  have hpos:=hY.pos
  have hrY:∀ q∈rest,q∈Y:=fun q hq=>hp.mem_iff.mpr (tr_mem hq)
  have hX':=ih Y' rest (tr (k:Int) (p+(k:Int) - 2 * les Y' (k:Int)) rest) hY' (fun q hq hle=>by
   rcases mem_tr (hT'.mem_iff.mp hq)with ⟨e,hne⟩ | h
   ·rw[e]
    simp only
    have h6:=hlY' (k:Int) (by omega)
    have h7:=les_perm hrr (k:Int)
    omega
   ·have hq':=hrY q (hrr.mem_iff.mp h)
    have h5:=hC q hq' (by omega)
    have h6:=hpos q hq'
    have h7:=hlY q.1 (by omega)
    have h8:=hlY' q.1 (by omega)
    omega) (hT'.trans (by
     have h6:=hlY' (k:Int) (by omega)
     have h7:=les_perm hrr (k:Int)
     rw[show p+(k:Int) - 1 - 2 * les rT (k:Int) - 2 * (k:Int)=p - 1+(k:Int) - 2 * les Y' (k:Int)by omega]
     exact tr_perm hrr)) (.refl _)
  refine rnn_in (fun x hx=>by have:=hf x hx;omega) hX' (add_tr (s:=(k:Int)) (rest:=rest) (by omega) ?_ ?_ ?_)
  ·have hlX:les (tr (k:Int) (p+(k:Int) - 2 * les Y' (k:Int)) rest) (k:Int)=les Y' (k:Int):=by rw[les_tr (by omega) (by omega),hlY' _ (by omega)]
   rw[hlX,show p+1+(k:Int) - 1 - 2 * les Y' (k:Int)=p+(k:Int) - 2 * les Y' (k:Int)by omega]
  ·intro q hq hgt
   rcases mem_tr hq with ⟨e,hne⟩ | h
   ·rw[e]at hgt;exact absurd hgt (by simp)
   ·have hq':=hrY q h
    have h5:=(hbd q hq').2
    have h6:=hpos q hq'
    have h7:=hlY q.1 (by omega)
    rw[les_tr (by omega) (by omega)]
    omega
  ·have h8:=hlY ((k+1:Nat):Int) (by omega)
   have e3:(k:Int)+1=((k+1:Nat):Int):=by omega
   refine hx.trans ?_
   unfold tr
   rw[if_neg hk0,e3]
   rw[show p+((k+1:Nat):Int) - 2 * les Y ((k+1:Nat):Int)=p+1+(k:Int) - 2 * les rest ((k+1:Nat):Int) - 2 * ((k+1:Nat):Int)by omega]
theorem phase1 {fs:List Int} {p:Int} (hf:∀ x∈fs,x<p) (s:Nat):∀ (d:Nat) (Y rest X:Trs),Lst (fs++rnn p (s+d)) Y→(∀ q∈Y,(q.1≤(s:Int)→q.2+2 * les Y q.1≤p - 1+q.1)∧((s:Int)<q.1→q.2+2 * les Y q.1≤p - 1+q.1 - 1)) →
 Y.Perm (tr (s:Int) (p - 1+(s:Int) - 2 * les Y (s:Int)) rest)→X.Perm (((s:Int)+1,p+1+(s:Int) - 2 * les rest ((s:Int)+1) - 2 * ((s:Int)+1)) :: rest)→Lst (fs++rnn (p+1) (s+d+1)) X:=by
 intro d
 induction d with
 | zero =>
  intro Y rest X hY hC hp hx
  rw[Nat.add_zero]at hY ⊢
  have hlY:∀ j,0≤j→les Y j=min j (s:Int)+les rest j:=fun j hj=>by rw[les_perm hp,les_tr (by omega) hj]
  have hX':=phase2 hf s Y rest (tr (s:Int) (p+(s:Int) - 2 * les Y (s:Int)) rest) hY (fun q hq hle=>(hC q hq).1 hle) hp (.refl _)
  have hbd:=hY.bd (rnn_le hf)
  refine rnn_in (fun x hx=>by have:=hf x hx;omega) hX' (add_tr (s:=(s:Int)) (rest:=rest) (by omega) ?_ ?_ ?_)
  ·have hlX:les (tr (s:Int) (p+(s:Int) - 2 * les Y (s:Int)) rest) (s:Int)=les Y (s:Int):=by rw[les_tr (by omega) (by omega),hlY _ (by omega)]
   rw[hlX,show p+1+(s:Int) - 1 - 2 * les Y (s:Int)=p+(s:Int) - 2 * les Y (s:Int)by omega]
  ·intro q hq hgt
   rcases mem_tr hq with ⟨e,hne⟩ | h
   ·rw[e]at hgt;exact absurd hgt (by simp)
   ·have hq':=hp.mem_iff.mpr (tr_mem h)
    have h5:=(hbd q hq').2
    have h7:=hlY q.1 (by omega)
    rw[les_tr (by omega) (by omega)]
    omega
  ·exact hx
 | succ d ih =>
  intro Y rest X hY hC hp hx
  have e0:s+(d+1)=(s+d)+1:=by omega
  rw[e0]at hY ⊢
  obtain⟨Y',hY',hT⟩:=rnn_out hY
  obtain⟨t,rT,ht1,hTp,hTm,hTs,hT'⟩:=hT.tr'
  have htm:(t,p+((s+d:Nat):Int) - 2 * les Y t)∈Y:=hTp.mem_iff.mpr List.mem_cons_self
  have hc:=hC _ htm
  simp only at hc
  have hts:(s:Int)+2≤t:=by
   rcases Int.lt_or_le (s:Int) t with c | c
   ·have:=hc.2 c;omega
   ·have:=hc.1 c;omega
  have hpos:=hY.pos
  have htr:(t,p+((s+d:Nat):Int) - 2 * les Y t)∈rest:=by
   rcases mem_tr (hp.mem_iff.mp htm)with ⟨e,_⟩ | h
   ·have:=congrArg Prod.fst e
    simp only at this
    omega
   ·exact h
  obtain⟨r2,hr2⟩:∃ r2:Trs,rest.Perm ((t,p+((s+d:Nat):Int) - 2 * les Y t) :: r2):=⟨rest.erase _,List.perm_cons_erase htr⟩
  have hlY:∀ j,0≤j→les Y j=min j (s:Int)+(min j t+les r2 j):=fun j hj=>by rw[les_perm hp,les_tr (by omega) hj,les_perm hr2,les_cons]
  have hrT:rT.Perm (tr (s:Int) (p - 1+(s:Int) - 2 * les Y (s:Int)) r2):=by
   refine List.Perm.cons_inv (a:=(t,p+((s+d:Nat):Int) - 2 * les Y t)) (hTp.symm.trans (hp.trans ?_))
   unfold tr
   split
   ·exact hr2
   ·exact(hr2.cons _).trans (List.Perm.swap _ _ _)
  have hlrT:∀ j,0≤j→les rT j=min j (s:Int)+les r2 j:=fun j hj=>by rw[les_perm hrT,les_tr (by omega) hj]
  have ht0:t - 1≠0:=by omega
  obtain⟨rest',hrest'⟩:∃ rest':Trs,rest'=(t - 1,p+((s+d:Nat):Int) - 1 - 2 * les rT (t - 1) - 2 * (t - 1)) :: r2:=⟨_,rfl⟩
  have hY'p:Y'.Perm (tr (s:Int) (p - 1+(s:Int) - 2 * les Y (s:Int)) rest'):=by
   refine hT'.trans ?_
   rw[hrest']
   unfold tr at hrT ⊢
   rw[if_neg ht0]
   split at hrT
   ·rw[if_pos (by assumption)];exact hrT.cons _
   ·rw[if_neg (by assumption)];exact(hrT.cons _).trans (List.Perm.swap _ _ _)
  have hlY':∀ j,0≤j→les Y' j=min j (s:Int)+(min j (t - 1)+les r2 j):=fun j hj=>by rw[les_perm hY'p,les_tr (by omega) hj,hrest',les_cons]
  have hles:les Y' (s:Int)=les Y (s:Int):=by rw[hlY' _ (by omega),hlY _ (by omega)];omega
  rw[← hles]at hY'p
  have hX':=ih Y' rest' (((s:Int)+1,p+1+(s:Int) - 2 * les rest' ((s:Int)+1) - 2 * ((s:Int)+1)) :: rest') hY' (fun q hq=>by
   have hq2:=hY'p.mem_iff.mp hq
   rw[hrest']at hq2
   rcases mem_tr hq2 with ⟨e,hne⟩ | h
   ·rw[e];simp only;omega
   ·rcases List.mem_cons.mp h with e | h
    ·rw[e]
     simp only
     have h6:=hlY' (t - 1) (by omega)
     have h7:=hlrT (t - 1) (by omega)
     omega
    ·have hq':q∈Y:=hp.mem_iff.mpr (tr_mem (hr2.mem_iff.mpr (List.mem_cons_of_mem _ h)))
     have h5:=hC q hq'
     have h6:=hpos q hq'
     have h7:=hlY q.1 (by omega)
     have h8:=hlY' q.1 (by omega)
     omega) hY'p (.refl _)
  have hlX':∀ j,0≤j→les (((s:Int)+1,p+1+(s:Int) - 2 * les rest' ((s:Int)+1) - 2 * ((s:Int)+1)) :: rest') j=min j ((s:Int)+1)+(min j (t - 1)+les r2 j):=fun j hj=>by
   have h1:les rest' j=min j (t - 1)+les r2 j:=by rw[hrest',les_cons]
   rw[les_cons,h1]
  have hrl:les rest' ((s:Int)+1)=((s:Int)+1)+les r2 ((s:Int)+1):=by rw[hrest',les_cons];simp only;omega
  have hrl2:les rest ((s:Int)+1)=((s:Int)+1)+les r2 ((s:Int)+1):=by rw[les_perm hr2,les_cons];simp only;omega
  refine rnn_in (fun x hx=>by have:=hf x hx;omega) hX' (add_tr (s:=t - 1) (rest:=((s:Int)+1,p+1+(s:Int) - 2 * les rest' ((s:Int)+1) - 2 * ((s:Int)+1)) :: r2) (by omega) ?_ ?_ ?_)
  ·unfold tr
   rw[if_neg ht0]
   have h9:=hlX' (t - 1) (by omega)
   have h7:=hlrT (t - 1) (by omega)
   generalize les (((s:Int)+1,p+1+(s:Int) - 2 * les rest' ((s:Int)+1) - 2 * ((s:Int)+1)) :: rest') (t - 1)=L at h9 ⊢
   refine(List.Perm.cons _ ?_).trans (List.Perm.swap _ _ _)
   rw[hrest',show p+((s+d:Nat):Int) - 1 - 2 * les rT (t - 1) - 2 * (t - 1)=p+1+((s+d+1:Nat):Int) - 1 - 2 * L by omega]
  ·intro q hq hgt
   have hq2:q∈r2:=by
    rcases List.mem_cons.mp hq with e | h
    ·rw[e]at hgt;simp only at hgt;omega
    ·rw[hrest']at h
     rcases List.mem_cons.mp h with e | h
     ·rw[e]at hgt;exact absurd hgt (by simp)
     ·exact h
   have hq':q∈Y:=hp.mem_iff.mpr (tr_mem (hr2.mem_iff.mpr (List.mem_cons_of_mem _ hq2)))
   have h5:=hTm q hq'
   have h6:=hpos q hq'
   have h7:=hlY q.1 (by omega)
   rw[hlX' q.1 (by omega)]
   omega
  ·have e4:t - 1+1=t:=by omega
   rw[e4]
   have h9:les (((s:Int)+1,p+1+(s:Int) - 2 * les rest' ((s:Int)+1) - 2 * ((s:Int)+1)) :: r2) t=((s:Int)+1)+les r2 t:=by rw[les_cons];simp only;omega
   have h10:=hlY t (by omega)
   rw[h9,hrl]
   refine hx.trans ?_
   rw[hrl2]
   refine(hr2.cons _).trans ?_
   rw[show p+((s+d:Nat):Int) - 2 * les Y t=p+1+((s+d+1:Nat):Int) - 2 * ((s:Int)+1+les r2 t) - 2 * t by omega]
   exact List.Perm.swap _ _ _
end CW
namespace CW
theorem rnn_cons (n:Int) (k:Nat):rnn n (k+1)=n :: rnn (n+1) k:=range_map_succ k n
theorem goM_gapn {c:Int} {r:List Int}:∀ (k h:Nat) (m:Int),(∀ x∈r,m+(k:Int)≤x)→goM c r h m=rnn m (min h k)++goM c r (h - min h k) (m+(k:Int))
 | 0,h,m,_=>by simp[rnn]
 | k+1,0,m,hr=>by
  simp only[Nat.zero_min,Nat.zero_sub,rnn_zero,List.nil_append]
  exact goM_zero
 | k+1,h+1,m,hr=>by
  have e1:min (h+1) (k+1)=min h k+1:=by omega
  have e2:h+1 - (min h k+1)=h - min h k:=by omega
  have ih:=goM_gapn (c:=c) (r:=r) k h (m+1) fun x hx=>by have:=hr x hx;omega
  have e3:goM c r (h+1) m=m :: goM c r h (m+1):=by
   cases r with
   | nil=>exact goM_nil_succ c h m
   | cons p r'=>exact goM_gap (by have:=hr p List.mem_cons_self;omega)
  rw[e3,ih,e1,e2,rnn_cons,show m+((k+1:Nat):Int)=m+1+(k:Int)by omega]
  rfl
theorem carry {c:Int} (hc:1≤c):∀ (r0:List Int) (h:Nat) (m n:Int),RowP r0→(∀ x∈r0,x<n∧(m≤x∨h=0))→(m≤n∨h=0)→(h:Int)≤c →
 ∃ (fs:List Int) (ld:Nat),(∀ x∈fs,x<n)∧(ld:Int)≤c∧∀ r,(∀ x∈r,n≤x)→goM c (r0++r) h m=fs++goM c r ld n
 | [],h,m,n,_,_,hmn,hh=>by
  rcases Nat.eq_zero_or_pos h with e | e
  ·subst e
   exact⟨[],0,fun x hx=>(nomatch hx),by omega,fun r _=>by rw[List.nil_append,List.nil_append];exact goM_zero⟩
  ·have hmn':m≤n:=by omega
   refine⟨rnn m (min h (n - m).toNat),h - min h (n - m).toNat,fun x hx=>by have:=mem_rnn hx;omega,by omega,fun r hr=>?_⟩
   have:=goM_gapn (c:=c) (r:=r) (n - m).toNat h m fun x hx=>by have:=hr x hx;omega
   rw[List.nil_append,this,show m+((n - m).toNat:Int)=n by omega]
 | p :: r0,h,m,n,hrow,hx,hmn,hh=>by
  obtain⟨h1,h2⟩:=List.pairwise_cons.mp hrow
  have hp:=hx p List.mem_cons_self
  have hm:min h (p - m).toNat≤h:=Nat.min_le_left _ _
  have key:∀ r,goM c ((p :: r0)++r) h m=rnn m (min h (p - m).toNat)++(if ((h - min h (p - m).toNat:Nat):Int)<c then goM c (r0++r) (h - min h (p - m).toNat+1) (p+1)else p :: goM c (r0++r) (h - min h (p - m).toNat) (p+1)):=fun r=>rfl
  have hrnn:∀ x∈rnn m (min h (p - m).toNat),x<n:=fun x hx=>by
   have:=mem_rnn hx
   rcases hp.2 with q | q
   ·omega
   ·rw[q]at hx;simp[rnn]at hx
  have hr0:∀ x∈r0,x<n∧p+1≤x:=fun x hx'=>⟨(hx x (List.mem_cons_of_mem _ hx')).1,by have:=h1 x hx';omega⟩
  by_cases hlt:((h - min h (p - m).toNat:Nat):Int)<c
  ·obtain⟨fs,ld,a1,a2,a3⟩:=carry hc r0 (h - min h (p - m).toNat+1) (p+1) n h2 (fun x hx=>⟨(hr0 x hx).1,.inl (hr0 x hx).2⟩) (.inl (by omega)) (by omega)
   refine⟨rnn m (min h (p - m).toNat)++fs,ld,fun x hx=>?_,a2,fun r hr=>by rw[key,if_pos hlt,a3 r hr,List.append_assoc]⟩
   rcases List.mem_append.mp hx with q | q
   ·exact hrnn x q
   ·exact a1 x q
  ·obtain⟨fs,ld,a1,a2,a3⟩:=carry hc r0 (h - min h (p - m).toNat) (p+1) n h2 (fun x hx=>⟨(hr0 x hx).1,.inl (hr0 x hx).2⟩) (.inl (by omega)) (by omega)
   refine⟨rnn m (min h (p - m).toNat)++p :: fs,ld,fun x hx=>?_,a2,fun r hr=>by rw[key,if_neg hlt,a3 r hr,List.append_assoc];rfl⟩
   rcases List.mem_append.mp hx with q | q
   ·exact hrnn x q
   ·rcases List.mem_cons.mp q with e | q
    ·rw[e];exact hp.1
    ·exact a1 x q
noncomputable def shf (l:Int) (ps:Trs):Trs:=ps.map fun q=>(q.1,q.2+min l q.1)
theorem les_shf (l:Int) (ps:Trs) (j:Int):les (shf l ps) j=les ps j:=by
 unfold les shf
 rw[List.map_map]
 rfl
theorem shf_perm {l:Int} {a b:Trs} (h:a.Perm b):(shf l a).Perm (shf l b):=h.map _
theorem shf_tr {l s o:Int} {rest:Trs}:shf l (tr s o rest)=tr s (o+min l s) (shf l rest):=by
 unfold tr
 split <;> rfl
theorem mem_shf {l:Int} {ps:Trs} {q:Int×Int} (h:q∈shf l ps):∃ q'∈ps,q=(q'.1,q'.2+min l q'.1):=by
 obtain⟨q',h1,h2⟩:=List.mem_map.mp h
 exact⟨q',h1,h2.symm⟩
theorem shift_step {l p:Int} (hl:1≤l) {ps0 ps:Trs} (hb:Bd ps0 (p - 1)) (ha:Add ps0 p ps) {fs:List Int} {ld:Nat} (hf:∀ x∈fs,x<p) (hld:(ld:Int)≤l) (hY:Lst (fs++rnn p ld) (shf l ps0)) :
 Lst (if (ld:Int)<l then fs++rnn (p+1) (ld+1)else fs++rnn p (ld+1)) (shf l ps)∧∃ s rest,0≤s∧ps0.Perm (tr s (p - 1 - 2 * les ps0 s) rest)∧ps.Perm ((s+1,p - 2 * les rest (s+1) - 2 * (s+1)) :: rest)∧((ld:Int)<l↔s<l):=by
 obtain⟨s,rest,h0,h1,h2,h3⟩:=ha.tr'
 have hsm:s≠0→(s,p - 1 - 2 * les ps0 s)∈ps0:=fun h=>h1.mem_iff.mpr (by unfold tr;rw[if_neg h];exact List.mem_cons_self)
 by_cases hc:(ld:Int)<l
 ·rw[if_pos hc]
  have hbd:=hY.bd (rnn_le hf)
  have hs:s≤(ld:Int):=by
   by_cases hs0:s=0
   ·omega
   ·have:=(hbd (s,p - 1 - 2 * les ps0 s+min l s) (List.mem_map.mpr ⟨_,hsm hs0,rfl⟩)).2
    simp only[les_shf]at this
    omega
  obtain⟨sn,rfl⟩:∃ sn:Nat,s=(sn:Int):=⟨s.toNat,by omega⟩
  obtain⟨d,hd⟩:∃ d:Nat,ld=sn+d:=⟨ld - sn,by omega⟩
  subst hd
  refine⟨phase1 hf sn d (shf l ps0) (shf l rest) (shf l ps) hY (fun q hq=>?_) ?_ ?_,(sn:Int),rest,h0,h1,h3,by constructor <;> intro _ <;> omega⟩
  ·obtain⟨q',hq',rfl⟩:=mem_shf hq
   have h5:=hb q' hq'
   have h6:=h2 q' hq'
   simp only[les_shf]
   refine⟨fun _=>by omega,fun h=>?_⟩
   have:=h6 h
   omega
  ·rw[les_shf]
   refine(shf_perm h1).trans ?_
   rw[shf_tr,show p - 1 - 2 * les ps0 (sn:Int)+min l (sn:Int)=p - 1+(sn:Int) - 2 * les ps0 (sn:Int)by omega]
  ·rw[les_shf]
   refine(shf_perm h3).trans ?_
   unfold shf
   rw[List.map_cons]
   simp only
   rw[show p - 2 * les rest ((sn:Int)+1) - 2 * ((sn:Int)+1)+min l ((sn:Int)+1)=p+1+(sn:Int) - 2 * les rest ((sn:Int)+1) - 2 * ((sn:Int)+1)by omega]
 ·rw[if_neg hc]
  have hll:(ld:Int)=l:=by omega
  obtain⟨k,hk⟩:∃ k,ld=k+1:=⟨ld - 1,by omega⟩
  have hY2:=hY
  rw[hk]at hY2
  obtain⟨Y',_,hT⟩:=rnn_out hY2
  obtain⟨t,rT,ht1,hTp,_⟩:=hT
  obtain⟨q',hq',e⟩:=mem_shf (hTp.mem_iff.mpr List.mem_cons_self)
  have e1:=congrArg Prod.fst e
  have e2:=congrArg Prod.snd e
  simp only[les_shf]at e1 e2
  have h5:=(hb q' hq').2
  have h6:=h2 q' hq'
  rw[e1]at e2
  have hs:l≤s:=by
   rcases Int.lt_or_le s q'.1 with c | c
   ·have:=h6 c;omega
   ·omega
  refine⟨rnn_in hf hY (add_tr (s:=s) (rest:=shf l rest) h0 ?_ ?_ ?_),s,rest,h0,h1,h3,by constructor <;> intro _ <;> omega⟩
  ·rw[les_shf]
   refine(shf_perm h1).trans ?_
   rw[shf_tr,show p - 1 - 2 * les ps0 s+min l s=p+(ld:Int) - 1 - 2 * les ps0 s by omega]
  ·intro q hq hgt
   obtain⟨q2,hq2,rfl⟩:=mem_shf hq
   have:=h2 q2 hq2
   simp only[les_shf]at hgt ⊢
   have:=this hgt
   omega
  ·rw[les_shf]
   refine(shf_perm h3).trans ?_
   unfold shf
   rw[List.map_cons]
   simp only
   rw[show p - 2 * les rest (s+1) - 2 * (s+1)+min l (s+1)=p+(ld:Int) - 2 * les rest (s+1) - 2 * (s+1)by omega]
theorem Lst.rowP {r:List Int} {ps:Trs} (h:Lst r ps):RowP r:=by
 induction h with
 | nil=>exact List.Pairwise.nil
 | snoc a b c ih=>exact List.pairwise_append.mpr ⟨ih,by simp,fun x hx y hy=>by rw[List.mem_singleton.mp hy];exact b x hx⟩
theorem walk_snoc {l:Int} (hl:1≤l) {r:List Int} {p:Int} (hr:RowP r) (hp:∀ x∈r,x<p):∃ (fs:List Int) (ld:Nat),(∀ x∈fs,x<p)∧(ld:Int)≤l∧walkM r l=fs++rnn p ld∧walkM (r++[p]) l=if (ld:Int)<l then fs++rnn (p+1) (ld+1)else fs++rnn p (ld+1):=by
 obtain⟨fs,ld,a1,a2,a3⟩:=carry hl r 0 0 p hr (fun x hx=>⟨hp x hx,.inr rfl⟩) (.inr rfl) (by omega)
 refine⟨fs,ld,a1,a2,?_,?_⟩
 ·have:=a3 [] fun x hx=>(nomatch hx)
  rw[List.append_nil]at this
  exact this
 ·have:=a3 [p] fun x hx=>by rw[List.mem_singleton.mp hx];exact Int.le_refl _
  unfold walkM
  rw[this,goM_hit (.inr (Int.le_refl _))]
  split
  ·rfl
  ·rw[rnn_cons];rfl
theorem Lst.walk {l:Int} (hl:1≤l) {r:List Int} {ps:Trs} (h:Lst r ps):Lst (walkM r l) (shf l ps):=by
 induction h with
 | nil=>exact .nil
 | snoc a b c ih =>
  rename_i r ps0 p ps
  obtain⟨fs,ld,a1,a2,a3,a4⟩:=walk_snoc hl a.rowP b
  rw[a3]at ih
  rw[a4]
  exact(shift_step hl (a.bd fun x hx=>by have:=b x hx;omega) c a1 a2 ih).1
end CW
namespace L2
open PySem PySem.Spec PyProof.Rows
end L2
namespace CW
open PySem L2
theorem Lst.trn {r:List Int} {ps:Trs} (h:Lst r ps) (hl:r.length≤60):Trn ps:=⟨h.pos,by have:=h.sizx;unfold siz at this;unfold szs;omega⟩
section
variable {P:Program} {w:World} {K:PySem.W.Frag} {mg:Str→Option Value} {base:Heap}
end
end CW
namespace CW
open PySem L2
theorem goM_hi {c B:Int}:∀ (r:List Int) (h:Nat) (n:Int),(∀ x∈r,x≤B)→n≤B+1→∀ y∈goM c r h n,y≤B+(h:Int)+(r.length:Int)
 | [],h,n,_,hn,y,hy=>by
  obtain⟨k,hk,rfl⟩:=List.mem_map.mp hy
  have:=List.mem_range.mp hk
  simp only[List.length_nil]
  omega
 | p :: r,h,n,hx,hn,y,hy=>by
  have hp:=hx p List.mem_cons_self
  have hr:∀ x∈r,x≤B:=fun x hx'=>hx x (List.mem_cons_of_mem _ hx')
  rw[goM]at hy
  rw[List.length_cons]
  rcases List.mem_append.mp hy with hy | hy
  ·obtain⟨k,hk,rfl⟩:=List.mem_map.mp hy
   have:=List.mem_range.mp hk
   omega
  ·split at hy
   ·have:=goM_hi r _ (p+1) hr (by omega) y hy;omega
   ·rcases List.mem_cons.mp hy with rfl | hy
    ·omega
    ·have:=goM_hi r _ (p+1) hr (by omega) y hy;omega
theorem goM_lo {c L:Int}:∀ (r:List Int) (h:Nat) (n:Int),(∀ x∈r,L≤x)→(L≤n∨h=0)→∀ y∈goM c r h n,L≤y
 | [],h,n,_,hn,y,hy=>by
  obtain⟨k,hk,rfl⟩:=List.mem_map.mp hy
  have:=List.mem_range.mp hk
  omega
 | p :: r,h,n,hx,hn,y,hy=>by
  have hp:=hx p List.mem_cons_self
  have hr:∀ x∈r,L≤x:=fun x hx'=>hx x (List.mem_cons_of_mem _ hx')
  rw[goM]at hy
  rcases List.mem_append.mp hy with hy | hy
  ·obtain⟨k,hk,rfl⟩:=List.mem_map.mp hy
   have:=List.mem_range.mp hk
   omega
  ·split at hy
   ·exact goM_lo r _ (p+1) hr (.inl (by omega)) y hy
   ·rcases List.mem_cons.mp hy with rfl | hy
    ·omega
    ·exact goM_lo r _ (p+1) hr (.inl (by omega)) y hy
noncomputable def Near (b:Int) (r:List Int):Prop:=∀ x∈r,-b≤x∧x≤b
theorem Near.walk {b c:Int} {r:List Int} (h:Near b r) (hb:0≤b):Near (b+(r.length:Int)) (walkM r c):=fun y hy=>by
 have h1:=goM_hi (c:=c) (B:=b) r 0 0 (fun x hx=>(h x hx).2) (by omega) y hy
 have h2:=goM_lo (c:=c) (L:=-b) r 0 0 (fun x hx=>(h x hx).1) (.inr rfl) y hy
 omega
section
variable {P:Program} {w:World} {K:PySem.W.Frag} {mg:Str→Option Value} {base:Heap}
end
end CW
namespace CW
open PySem L2
end CW
namespace CW
open PySem L2
theorem les_trI (s o l:Int) (rest:Trs) (h0:0≤s) (hl:1≤l):les (tr s o rest) l=min l s+les rest l:=by
 unfold tr
 split
 ·rename_i e
  rw[e]
  have:min l 0=0:=by omega
  omega
 ·rw[les_cons]
noncomputable def ldG (c:Nat):List Int→Nat→Int→Nat
 | [],_,_=>0
 | p :: r,h,n=>if h - min h (p - n).toNat<c then 1+ldG c r (h - min h (p - n).toNat+1) (p+1)else ldG c r (h - min h (p - n).toNat) (p+1)
noncomputable def peelG (a:Int):List Int→List Int
 | []=>[]
 | [_]=>[]
 | x :: y :: r=>if y=x+1 then (x - 2 * a) :: peelG a (y :: r)else peelG (a+1) (y :: r)
theorem ldG_gap (c:Nat) {r:List Int} {h:Nat} {n:Int} (d:Nat) (hr:∀ x∈r,n+(d:Int)≤x):ldG c r h n=ldG c r (h - min h d) (n+(d:Int)):=by
 cases r with
 | nil=>rfl
 | cons p r =>
  have hp:=hr p List.mem_cons_self
  show (if h - min h (p - n).toNat<c then _ else _)=if h - min h d - min (h - min h d) (p - (n+(d:Int))).toNat<c then _ else _
  have e:h - min h d - min (h - min h d) (p - (n+(d:Int))).toNat=h - min h (p - n).toNat:=by omega
  rw[e]
end CW
namespace CW
open PySem L2
noncomputable def endsG:List Int→List Int
 | []=>[]
 | [x]=>[x]
 | x :: y :: r=>if y=x+1 then endsG (y :: r)else x :: endsG (y :: r)
theorem ldG_zero (c:Nat) {r:List Int} {n m:Int}:ldG c r 0 n=ldG c r 0 m:=by
 cases r with
 | nil=>rfl
 | cons p r =>
  show (if 0 - min 0 (p - n).toNat<c then _ else _)=if 0 - min 0 (p - m).toNat<c then _ else _
  simp
theorem carry2 {c:Nat} (hc:1≤c):∀ (r0:List Int) (h:Nat) (m n:Int),RowP r0→(∀ x∈r0,x<n∧(m≤x∨h=0))→(m≤n∨h=0)→h≤c →
 ∃ (fs:List Int) (ld k:Nat),(∀ x∈fs,x<n)∧ld≤c∧∀ r,(∀ x∈r,n≤x)→goM c (r0++r) h m=fs++goM c r ld n∧ldG c (r0++r) h m=k+ldG c r ld n
 | [],h,m,n,_,_,hmn,hh=>by
  rcases Nat.eq_zero_or_pos h with e | e
  ·subst e
   exact⟨[],0,0,fun x hx=>(nomatch hx),by omega,fun r _=>⟨by rw[List.nil_append,List.nil_append];exact goM_zero,by rw[List.nil_append,Nat.zero_add];exact ldG_zero c⟩⟩
  ·have hmn':m≤n:=by omega
   refine⟨rnn m (min h (n - m).toNat),h - min h (n - m).toNat,0,fun x hx=>by have:=mem_rnn hx;omega,by omega,fun r hr=>⟨?_,?_⟩⟩
   ·have:=goM_gapn (c:=c) (r:=r) (n - m).toNat h m fun x hx=>by have:=hr x hx;omega
    rw[List.nil_append,this,show m+((n - m).toNat:Int)=n by omega]
   ·have:=ldG_gap c (r:=r) (h:=h) (n:=m) (n - m).toNat fun x hx=>by have:=hr x hx;omega
    rw[List.nil_append,this,show m+((n - m).toNat:Int)=n by omega]
    omega
 | p :: r0,h,m,n,hrow,hx,hmn,hh=>by
  obtain⟨h1,h2⟩:=List.pairwise_cons.mp hrow
  have hp:=hx p List.mem_cons_self
  have hm:min h (p - m).toNat≤h:=Nat.min_le_left _ _
  have key:∀ r,goM c ((p :: r0)++r) h m=rnn m (min h (p - m).toNat)++(if ((h - min h (p - m).toNat:Nat):Int)<(c:Int)then goM c (r0++r) (h - min h (p - m).toNat+1) (p+1)else p :: goM c (r0++r) (h - min h (p - m).toNat) (p+1)):=fun r=>rfl
  have key2:∀ r,ldG c ((p :: r0)++r) h m=if h - min h (p - m).toNat<c then 1+ldG c (r0++r) (h - min h (p - m).toNat+1) (p+1)else ldG c (r0++r) (h - min h (p - m).toNat) (p+1):=fun r=>rfl
  have hrnn:∀ x∈rnn m (min h (p - m).toNat),x<n:=fun x hx=>by
   have:=mem_rnn hx
   rcases hp.2 with q | q
   ·omega
   ·rw[q]at hx;simp[rnn]at hx
  have hr0:∀ x∈r0,x<n∧p+1≤x:=fun x hx'=>⟨(hx x (List.mem_cons_of_mem _ hx')).1,by have:=h1 x hx';omega⟩
  by_cases hlt:h - min h (p - m).toNat<c
  ·obtain⟨fs,ld,k,a1,a2,a3⟩:=carry2 hc r0 (h - min h (p - m).toNat+1) (p+1) n h2 (fun x hx=>⟨(hr0 x hx).1,.inl (hr0 x hx).2⟩) (.inl (by omega)) (by omega)
   refine⟨rnn m (min h (p - m).toNat)++fs,ld,k+1,fun x hx=>?_,a2,fun r hr=>⟨by rw[key,if_pos (by omega),(a3 r hr).1,List.append_assoc],by rw[key2,if_pos hlt,(a3 r hr).2];omega⟩⟩
   rcases List.mem_append.mp hx with q | q
   ·exact hrnn x q
   ·exact a1 x q
  ·obtain⟨fs,ld,k,a1,a2,a3⟩:=carry2 hc r0 (h - min h (p - m).toNat) (p+1) n h2 (fun x hx=>⟨(hr0 x hx).1,.inl (hr0 x hx).2⟩) (.inl (by omega)) (by omega)
   refine⟨rnn m (min h (p - m).toNat)++p :: fs,ld,k,fun x hx=>?_,a2,fun r hr=>⟨by rw[key,if_neg (by omega),(a3 r hr).1,List.append_assoc];rfl,by rw[key2,if_neg hlt,(a3 r hr).2]⟩⟩
   rcases List.mem_append.mp hx with q | q
   ·exact hrnn x q
   ·rcases List.mem_cons.mp q with e | q
    ·rw[e];exact hp.1
    ·exact a1 x q
theorem Lst.load {c:Nat} (hc:1≤c) {r:List Int} {ps:Trs} (h:Lst r ps):(ldG c r 0 0:Int)=les ps c:=by
 induction h with
 | nil=>rfl
 | snoc a b d ih =>
  rename_i r ps0 p ps
  obtain⟨fs,ld,k,a1,a2,a3⟩:=carry2 hc r 0 0 p a.rowP (fun x hx=>⟨b x hx,.inr rfl⟩) (.inr rfl) (by omega)
  have o:=a3 [] fun x hx=>(nomatch hx)
  have w:=a3 [p] fun x hx=>by rw[List.mem_singleton.mp hx];exact Int.le_refl _
  rw[List.append_nil]at o
  have ow:walkM r c=fs++rnn p ld:=o.1
  have ol:ldG c r 0 0=k:=o.2
  have nl:ldG c (r++[p]) 0 0=k+(if ld<c then 1 else 0):=by
   rw[w.2]
   congr 1
   show (if ld - min ld (p - p).toNat<c then 1+0 else 0)=_
   rw[show ld - min ld (p - p).toNat=ld by omega]
  have hw:=a.walk (l:=c) (by omega)
  rw[ow]at hw
  obtain⟨_,s,rest,s0,s1,s2,s3⟩:=shift_step (l:=c) (by omega) (a.bd fun x hx=>by have:=b x hx;omega) d a1 (by omega) hw
  rw[les_perm s1,les_trI s _ c rest s0 (by omega),ol]at ih
  rw[les_perm s2,les_cons,nl]
  simp only
  by_cases hl:ld<c
  ·have:=s3.mp (by omega)
   rw[if_pos hl]
   omega
  ·have:=mt s3.mpr (by omega)
   rw[if_neg hl]
   omega
end CW
namespace CW
open PySem L2
end CW
namespace CW
open PySem L2
end CW
namespace L2
open PySem PySem.Spec PyProof.Rows
section
variable {K:PySem.W.Frag} {x qual:Str} {st:Stmt} {f:Addr} {fd:FuncData} {p1 p2 p3 p4:Str}
theorem Fun.binds1 (F:Fun K x qual st f fd) (h:∀ (kV doc pm:Value) (an:Option Addr) (cdv ct u:Value),bindArgs (PySem.W.fnOf x qual (defArgs st) (defBody st) (defScope st) .none kV doc pm an cdv ct) ⟨[u],[]⟩=pure [(p1,u)]):Binds K fd [p1] [] :=
 F.binds fun a b c d e g us hl=>match us,hl with | [u],_=>h a b c d e g u
theorem Fun.binds2 (F:Fun K x qual st f fd) (h:∀ (kV doc pm:Value) (an:Option Addr) (cdv ct u v:Value),bindArgs (PySem.W.fnOf x qual (defArgs st) (defBody st) (defScope st) .none kV doc pm an cdv ct) ⟨[u,v],[]⟩=pure [(p1,u),(p2,v)]):Binds K fd [p1,p2] [] :=
 F.binds fun a b c d e g us hl=>match us,hl with | [u,v],_=>h a b c d e g u v
theorem Fun.binds3 (F:Fun K x qual st f fd) (h:∀ (kV doc pm:Value) (an:Option Addr) (cdv ct u v w:Value),bindArgs (PySem.W.fnOf x qual (defArgs st) (defBody st) (defScope st) .none kV doc pm an cdv ct) ⟨[u,v,w],[]⟩=pure [(p1,u),(p2,v),(p3,w)]):Binds K fd [p1,p2,p3] [] :=
 F.binds fun a b c d e g us hl=>match us,hl with | [u,v,w],_=>h a b c d e g u v w
end
end L2
namespace L2
open PySem PySem.Spec PyProof.Rows
structure CompOkC (sc inn:Scope) (N:List Str) (js:List Nat) (cs:List Str):Prop where
 kind:inn.kind=.function
 names:∀ y∈inn.names,y.2=.local→inn.names.lookup y.1=some .local
 cells:∀ y∈inn.names,y.2=.cell→inn.names.lookup y.1=some .cell
 frees:∀ y∈inn.names,y.2=.free→sc.names.lookup y.1=some .cell∨sc.names.lookup y.1=some .free
 slots:(js.map fun j=>N[j]?)=cs.map some
 caps:∀ x∈cs,inn.names.lookup x=some .free
noncomputable def compOkC (sc inn:Scope) (N:List Str) (js:List Nat) (cs:List Str):Bool :=
 (inn.kind == .function) && inn.names.all (fun y=>(y.2 != .cell || inn.names.lookup y.1 == some .cell) && (y.2 != .local || inn.names.lookup y.1 == some .local) && (y.2 != .free || (sc.names.lookup y.1 == some .cell || sc.names.lookup y.1 == some .free))) &&
 (js.map fun j=>N[j]?) == cs.map some && cs.all (fun x=>inn.names.lookup x == some .free)
theorem CompOkC.of {sc inn:Scope} {N:List Str} {js:List Nat} {cs:List Str} (h:compOkC sc inn N js cs=true):CompOkC sc inn N js cs:=by
 unfold compOkC at h
 simp only[Bool.and_eq_true]at h
 obtain⟨⟨⟨h1,h2⟩,h3⟩,h4⟩:=h
 rw[List.all_eq_true]at h2 h4
 refine⟨by simpa using h1,fun y hy e=>?_,fun y hy e=>?_,fun y hy e=>?_,by simpa using h3,fun x hx=>by simpa using h4 x hx⟩
 ·have:=h2 y hy
  simp only[Bool.and_eq_true,e]at this
  simpa using this.1.2
 ·have:=h2 y hy
  simp only[Bool.and_eq_true,e]at this
  simpa using this.1.1
 ·have:=h2 y hy
  simp only[Bool.and_eq_true,e]at this
  simpa using this.2
noncomputable def isCel (inn:Scope) (x:Str):Bool:=match inn.names.lookup x with | some .cell=>true | _=>false
theorem isCel_iff {inn:Scope} {x:Str} (h:isCel inn x=true):inn.names.lookup x=some .cell:=by
 unfold isCel at h
 split at h
 ·assumption
 ·cases h
noncomputable def cxInC (X:Cx) (inn:Scope) (N':List Str) (s₀:Shared) (H₀:Hp) (ex:List Addr):Cx :=
 { cxIn X inn N' s₀ H₀ ex with env:=compEnvC inn (cellsFrom (s₀.heap.objs.size+1) inn.names (closL inn X.env)) s₀.heap.objs.size X.env,fn:=fun x=>isCel inn x }
theorem cells_app:∀ (names:List (Str×NameKind)) (n:Nat) (acc:List (Str×Addr)),cellsFrom n names acc=cellsFrom n names []++acc
 | [],_,_=>rfl
 | (x,k) :: r,n,acc=>by
  unfold cellsFrom
  split
  ·rw[cells_app r (n+1) ((x,n) :: acc),cells_app r (n+1) [(x,n)],List.append_assoc]
   rfl
  ·exact cells_app r n acc
theorem cells_mem {x:Str} {c:Addr}:∀ (names:List (Str×NameKind)) (n:Nat) (acc:List (Str×Addr)),(x,c)∈cellsFrom n names acc→(x,NameKind.cell)∈names∨(x,c)∈acc
 | [],_,_,h=>.inr h
 | (y,k) :: r,n,acc,h=>by
  unfold cellsFrom at h
  split at h
  ·rename_i hk
   rcases cells_mem r _ _ h with q | q
   ·exact .inl (List.mem_cons_of_mem _ q)
   ·rcases List.mem_cons.mp q with e | q
    ·cases e
     have:k=.cell:=by simpa using hk
     rw[this]
     exact .inl List.mem_cons_self
    ·exact .inr q
  ·rcases cells_mem r _ _ h with q | q
   ·exact .inl (List.mem_cons_of_mem _ q)
   ·exact .inr q
theorem own_ok {inn:Scope} (h:Heap):(∀ x c,(x,c)∈cellsFrom (h.objs.size+1) inn.names []→(pushCells (h.push { cls:=.type "dict",data:=.dict #[] }) inn.names).IsCell c none)∧(∀ x c,(x,c)∈cellsFrom (h.objs.size+1) inn.names []→h.objs.size<c)∧(cellsFrom (h.objs.size+1) inn.names []).Pairwise fun x y=>x.2≠y.2:=by
 have ok:=cellsFrom_ok inn.names (h.push { cls:=.type "dict",data:=.dict #[] }) (h.objs.size+1) [] ⟨fun _ _ hm=>(nomatch hm),List.Pairwise.nil⟩ (by rw[Heap.size_push];exact Nat.le_refl _)
 rw[Heap.size_push]at ok
 exact⟨fun x c hm=>(ok.empty x c hm).1,fun x c hm=>(ok.empty x c hm).2,ok.apart⟩
theorem lookup_app {x:Str}:∀ (a b:List (Str×Addr)),(a++b).lookup x=(a.lookup x).or (b.lookup x)
 | [],_=>rfl
 | (y,c) :: a,b=>by
  rw[List.cons_append,List.lookup_cons,List.lookup_cons]
  cases x == y with
  | true=>rfl
  | false=>exact lookup_app a b
theorem cl_cases {inn:Scope} {n:Nat} {cl:List (Str×Addr)} {x:Str} {c:Addr} (h:(cellsFrom n inn.names cl).lookup x=some c):(x,c)∈cellsFrom n inn.names []∨cl.lookup x=some c:=by
 rw[cells_app,lookup_app]at h
 cases e:(cellsFrom n inn.names []).lookup x with
 | none=>rw[e]at h;exact .inr h
 | some d =>
  rw[e]at h
  cases h
  exact .inl (PySem.mem_of_lookup e)
theorem cl_free {inn:Scope} {n:Nat} {cl:List (Str×Addr)} {x:Str} {c:Addr} (hc:∀ y∈inn.names,y.2=.cell→inn.names.lookup y.1=some .cell) (hx:inn.names.lookup x=some .free) (h:cl.lookup x=some c):(cellsFrom n inn.names cl).lookup x=some c:=by
 rw[cells_app,lookup_app]
 cases e:(cellsFrom n inn.names []).lookup x with
 | none=>exact h
 | some d =>
  rcases cells_mem inn.names _ _ (PySem.mem_of_lookup e)with q | q
  ·have:=hc _ q rfl
   rw[hx]at this
   cases this
  ·cases q
theorem relabel_mem {env:Env}:∀ {names:List (Str×NameKind)} {x:Str},((names.map fun(n,k)=>if (k == NameKind.free && env.scope.kind == .function && env.kindOf n == some .cell)then (n,NameKind.cell)else (n,k)).lookup x=some .cell ∨
 (names.map fun(n,k)=>if (k == NameKind.free && env.scope.kind == .function && env.kindOf n == some .cell)then (n,NameKind.cell)else (n,k)).lookup x=some .free)→names.lookup x=some .cell∨names.lookup x=some .free
 | [],_,h=>by simp at h
 | (n,k) :: r,x,h=>by
  have ih:=@relabel_mem env r x
  rw[List.map_cons]at h
  cases hx:x == n with
  | true =>
   simp only[List.lookup_cons,hx]
   by_cases hc:(k == NameKind.free && env.scope.kind == .function && env.kindOf n == some .cell)=true
   ·have:k=.free:=by simp only[Bool.and_eq_true]at hc;simpa using hc.1.1
    subst this
    exact .inr rfl
   ·simp only[if_neg hc,List.lookup_cons,hx]at h
    exact h
  | false =>
   simp only[List.lookup_cons,hx]
   refine ih ?_
   by_cases hc:(k == NameKind.free && env.scope.kind == .function && env.kindOf n == some .cell)=true
   ·simp only[if_pos hc,List.lookup_cons,hx]at h;exact h
   ·simp only[if_neg hc,List.lookup_cons,hx]at h;exact h
section
variable {M:Model} {A:Around} {E:Value→Shared→Prop} {s:Shared}
theorem newEnvC {scope:Scope} {globals:Addr} {cl:List (Str×Addr)} {qual:Str} {func:Option Addr} {code:Value} {around:Env} {builtins:Addr} {Q:Env→Shared→Prop}
 (hQ:Q { scope:=scope,locals:=s.heap.objs.size,globals:=globals,cells:=cellsFrom (s.heap.objs.size+1) scope.names cl,qual:=qual,func:=func,code:=around.code,frame:=around.frame,builtins:=around.builtins } { s with heap:=pushCells (s.heap.push { cls:=.type "dict",data:=.dict #[] }) scope.names }) :
 wpAny M A (newFunctionEnv scope globals cl [] qual func code (some around) builtins) Q E s:=by
 simp only[newFunctionEnv,Option.isSome_some,if_true]
 refine wpAny_bind (wpAny_alloc ?_)
 refine wpAny_bind (wpAny_layCells _ (fun name kind cells=>by cases hkc:kind == NameKind.cell <;> simp[hkc]) _ _ _ _ ?_)
 rw[show ({ s with heap:=s.heap.push { cls:=.type "dict",data:=.dict #[] } }:Shared).heap.objs.size=s.heap.objs.size+1 from Heap.size_push ..]
 refine wpAny_bind ?_
 rw[List.forIn_nil]
 exact wpAny_pure (wpAny_pure hQ)
end
section
variable {X:Cx} {pins:List (Addr×Obj)} {σ:St} {H H':Hp} {s:Shared} {inn:Scope} {js:List Nat} {cs ts:List Str} {nt:Nat}
theorem cl_sub (I:Inv X pins σ H s) {x:Str} {c:Addr} (e:(cellsFrom (s.heap.objs.size+1) inn.names (closL inn X.env)).lookup x=some c):((x,c)∈cellsFrom (s.heap.objs.size+1) inn.names []∧s.heap.objs.size<c)∨(X.env.cells.lookup x=some c∧c<s.heap.objs.size):=by
 rcases cl_cases e with q | q
 ·exact .inl ⟨q,(own_ok s.heap).2.1 x c q⟩
 ·obtain⟨v,o,ho,_⟩:=I.cell x c (closL_sub q)
  exact .inr ⟨closL_sub q,Heap.lt_size ho⟩
theorem in_okC {ex:List Addr} (I:Inv X pins σ H s) (O:CompOkC X.env.scope inn X.N js cs) (hex:∀ b∈ex,b<s.heap.objs.size∧b≠X.env.locals∧b∉X.fs∧(∀ x c,X.env.cells.lookup x=some c→c≠b)∧∀ o,X.base.get? b≠some o) :
 (cxInC X inn (ts++cs) s H ex).Ok where
 mod:=I.ok.mod
 kind:=O.kind
 glob:=I.ok.glob
 blt:=I.ok.blt
 above:=Nat.le_refl _
 inj:=fun x y c h1 h2=>by
  rcases cl_sub I h1 with ⟨a,la⟩ | ⟨a,la⟩ <;> rcases cl_sub I h2 with ⟨b,lb⟩ | ⟨b,lb⟩
  ·exact name_of_addr (own_ok s.heap).2.2 a b
  ·exact absurd (Nat.lt_trans la lb) (Nat.lt_irrefl _)
  ·exact absurd (Nat.lt_trans la lb) (Nat.lt_irrefl _)
  ·exact I.ok.inj x y c a b
 has:=fun x hx=>by
  show ∃ c,(cellsFrom (s.heap.objs.size+1) inn.names (closL inn X.env)).lookup x=some c
  rcases relabel_mem (env:=X.env) hx with q | q
  ·obtain⟨c,ec⟩:=cell_has (n:=s.heap.objs.size+1) q
   exact⟨c,by rw[cells_app,lookup_app,ec];rfl⟩
  ·obtain⟨c,ec⟩:=closL_has (env:=X.env) (fun y hy e=>I.ok.has y.1 (O.frees y hy e)) (PySem.mem_of_lookup q)
   exact⟨c,cl_free O.cells q ec⟩
 cab:=fun x c h e=>by
  have e':(cellsFrom (s.heap.objs.size+1) inn.names (closL inn X.env)).lookup x=some c:=e
  obtain⟨d,ed⟩:=cell_has (n:=s.heap.objs.size+1) (isCel_iff h)
  rw[cells_app,lookup_app,ed]at e'
  cases e'
  exact Nat.le_of_lt ((own_ok s.heap).2.1 x _ (PySem.mem_of_lookup ed))
 hd:=I.ok.hd
 frames:=I.ok.frames
 stk:=.inl rfl
 exf:=fun b hb=>⟨Nat.ne_of_lt (hex b hb).1,fun x c e=>by
  rcases cl_sub I e with ⟨_,l⟩ | ⟨q,_⟩
  ·exact Nat.ne_of_gt (Nat.lt_trans (hex b hb).1 l)
  ·exact(hex b hb).2.2.2.1 x c q⟩
 bs:=I.bs
 bsz:=Nat.le_trans I.ok.bsz I.sz
 noex:=fun b o e hb=>(hex b hb).2.2.2.2 o e
 exfs:=fun b hb hs=>by
  rcases List.mem_cons.mp (I.stkSub b hs)with e | e
  ·exact(hex b hb).2.1 e
  ·exact(hex b hb).2.2.1 e
 funs:=I.stack
 frf:=I.stkFree
theorem in_invC {ex:List Addr} {h':Heap} {tk:Nat} (hts:ts.length=nt) (I:Inv X pins σ H s) (O:CompOkC X.env.scope inn X.N js cs) (hex:∀ b∈ex,b<s.heap.objs.size∧b≠X.env.locals∧b∉X.fs∧(∀ x c,X.env.cells.lookup x=some c→c≠b)∧∀ o,X.base.get? b≠some o)
 (hn:∃ m,h'.Ns s.heap.objs.size m) (hk:∀ b o,s.heap.get? b=some o→h'.get? b=some o) (hcel:∀ x c,(x,c)∈cellsFrom (s.heap.objs.size+1) inn.names []→h'.IsCell c none) :
 Inv (cxInC X inn (ts++cs) s H ex) [] (sIn nt js σ) H { s with heap:=h',toks:=tk }:=by
 have ok:(cxInC X inn (ts++cs) s H ex).Ok:=in_okC I O hex
 obtain⟨m,hn⟩:=hn
 have cellK:∀ c v,s.heap.IsCell c v→h'.IsCell c v:=fun c v ⟨o,ho,hd⟩=>⟨o,hk c o ho,hd⟩
 have hlen:js.length=cs.length:=by have:=congrArg List.length O.slots;simpa using this
 refine⟨ok,rfl,I.bare,Un.kept hk,⟨m,hn,fun i x v e1 e2 e3=>?_⟩,fun x c e=>?_,I.hok.fresh (Nat.le_refl _),fun x c e=>?_,fun p hp=>?_,I.hok.kept hk,?_⟩
 ·obtain⟨hi,j,hj,hv⟩:=sIn_get e2
  have e1':(ts++cs)[i]?=some x:=e1
  rw[List.getElem?_append_right (by omega),hts]at e1'
  have hN:X.N[j]?=some x:=by
   have q:(js.map fun j=>X.N[j]?)[i - nt]?=(cs.map some)[i - nt]?:=by rw[O.slots]
   rw[List.getElem?_map,List.getElem?_map,hj,e1']at q
   exact Option.some.inj q
  have hcap:=O.caps x (List.mem_of_getElem? e1')
  have hmem:(x,NameKind.free)∈inn.names:=PySem.mem_of_lookup hcap
  have hout:=O.frees _ hmem rfl
  obtain⟨mo,hno,hl⟩:=I.loc
  obtain⟨u,r,l⟩:=hl j x v hN hv (.inr hout)
  refine⟨u,r,.inr ?_⟩
  rcases l with ⟨l1,_⟩ | ⟨k,c,ec,z⟩
  ·have l1':X.env.scope.names.lookup x=some .local:=l1
   rcases hout with q | q <;> (rw[q]at l1';cases l1')
  ·refine⟨?_,?_⟩
   ·exact lookup_relabel_free (env:=X.env) hcap
   ·obtain⟨c',ec'⟩:=closL_has (env:=X.env) (fun y hy e=>I.ok.has y.1 (O.frees y hy e)) hmem
    have:=closL_sub ec'
    rw[ec]at this;cases this
    exact⟨c,cl_free O.cells hcap ec',cellK _ _ z⟩
 ·rcases cl_sub I e with ⟨q,_⟩ | ⟨q,_⟩
  ·exact⟨none,hcel x c q⟩
  ·obtain⟨v,z⟩:=I.cell x c q
   exact⟨v,cellK _ _ z⟩
 ·rcases cl_sub I e with ⟨_,l⟩ | ⟨q,_⟩
  ·exact I.hok.fresh (Nat.le_of_lt l)
  ·exact I.freeC x c q
 ·exact absurd (show p∈([]:List (Addr×Obj)) from hp) (by simp)
 ·show (sIn nt js σ).length=(ts++cs).length
  unfold sIn
  simp[hts,hlen]
end
section
variable {X:Cx} {pins:List (Addr×Obj)} {σ:St} {inn:Scope} {js:List Nat} {cs ts:List Str} {nt:Nat} {elt tg iter:Expr} {ifs:List Expr} {pos:Pos} {g:TG} {tt:TT} {te:TE}
theorem comp_coreC {J:It} {fp:List Addr} {it:Addr} {tn:Nat→Heap→Prop} {H2:Hp} {s2:Shared} {E:Value→Shared→Prop} {Q:VK} {RR:Value→Addr→Result→Shared→Prop}
 (hcalm:X.calm=true) (O:CompOkC X.env.scope inn X.N js cs) (hts:ts.length=nt)
 (hg:∀ s₀ H₀ ex,PG (cxInC X inn (ts++cs) s₀ H₀ ex) tg g) (hk:GK nt g) (ht:∀ s₀ H₀ ex,PIf (cxInC X inn (ts++cs) s₀ H₀ ex) ifs tt) (he:∀ s₀ H₀ ex,PE (cxInC X inn (ts++cs) s₀ H₀ ex) elt te)
 (I2:Inv X pins σ H2 s2) (T:Turn X.prog X.w X.K tg J fp it tn) (st2:tn 0 s2.heap) (f2:∀ b∈fp,FpOk X pins H2 b)
 (R:CompR J (sIn nt js σ) g tt te Q H2)
 (hRR:∀ D C s' H',Inv X pins σ H' s'→(∃ m,s'.heap.Ns C m)→H' C=none→C≠X.env.locals→X.s₀.heap.objs.size≤C→(∀ x c,X.env.cells.lookup x=some c→c≠C)→(∀ p∈X.pn++pins,p.1≠C)→Q (.ref D) H'→RR (.ref D) C (.ok .next) s') :
 wpAny (model X.prog X.w) X.A (newList []) (fun acc s₃=>wpAny (model X.prog X.w) X.A (newFunctionEnv inn X.env.globals (closL inn X.env) [] X.env.qual none .none (some X.env)) (fun cenv s₄ =>
  codeAny (model X.prog X.w) X.A (.compStart (.ListComp elt [⟨tg,iter,ifs,0⟩] inn pos) 0 (.ref it) acc { cenv with scope:=relabel inn X.env }) (RR acc cenv.locals) s₄) E s₃) E s2:=by
 refine wpAny_newObj_type (newEnvC ?_)
 dsimp only
 have hns₁:(pushCells ((s2.heap.push { cls:=.type "list",dict:=none,data:=.seq ([]:List Value).toArray }).push { cls:=.type "dict",data:=.dict #[] }) inn.names).Ns (s2.heap.push { cls:=.type "list",dict:=none,data:=.seq ([]:List Value).toArray }).objs.size (fun _=>none):=(Heap.Ns.new _ (.type "dict")).keeps (pushCells_keeps _ _)
 have up₁:∀ b o,(s2.heap.push { cls:=.type "list",dict:=none,data:=.seq ([]:List Value).toArray }).get? b=some o→(pushCells ((s2.heap.push { cls:=.type "list",dict:=none,data:=.seq ([]:List Value).toArray }).push { cls:=.type "dict",data:=.dict #[] }) inn.names).get? b=some o:=fun b o e=>pushCells_keeps _ _ b o (Heap.get?_push_of_some _ e)
 have cel₁:∀ x c,(x,c)∈cellsFrom ((s2.heap.push { cls:=.type "list",dict:=none,data:=.seq ([]:List Value).toArray }).objs.size+1) inn.names []→(pushCells ((s2.heap.push { cls:=.type "list",dict:=none,data:=.seq ([]:List Value).toArray }).push { cls:=.type "dict",data:=.dict #[] }) inn.names).IsCell c none:=fun x c hm=>(own_ok (inn:=inn) (s2.heap.push { cls:=.type "list",dict:=none,data:=.seq ([]:List Value).toArray })).1 x c hm
 generalize pushCells ((s2.heap.push { cls:=.type "list",dict:=none,data:=.seq ([]:List Value).toArray }).push { cls:=.type "dict",data:=.dict #[] }) inn.names=h₁ at hns₁ up₁ cel₁ ⊢
 generalize hD:s2.heap.objs.size=D
 have I3:Inv X pins σ H2 { s2 with heap:=s2.heap.push { cls:=.type "list",dict:=none,data:=.seq ([]:List Value).toArray } }:=I2.kept (t':=s2.toks) fun b o e=>Heap.get?_push_of_some _ e
 generalize hs3:({ s2 with heap:=s2.heap.push { cls:=.type "list",dict:=none,data:=.seq ([]:List Value).toArray } }:Shared)=s3 at I3
 have e3:s3.heap=s2.heap.push { cls:=.type "list",dict:=none,data:=.seq ([]:List Value).toArray }:=by rw[← hs3]
 have hD3:s3.heap.get? D=some { cls:=.type "list",dict:=none,data:=.seq ([]:List Value).toArray }:=by rw[e3,← hD];exact Heap.get?_push_size _ rfl
 have hsz3:s3.heap.objs.size=D+1:=by rw[e3,Heap.size_push,hD]
 have e3':(s2.heap.push { cls:=.type "list",dict:=none,data:=.seq ([]:List Value).toArray })=s3.heap:=e3.symm
 rw[e3']at hns₁ up₁ cel₁ ⊢
 have fH2D:H2 D=none:=I2.hok.fresh (by rw[hD];exact Nat.le_refl _)
 have up:=up₁
 have fpo:∀ b∈fp,b<s3.heap.objs.size∧b≠D:=fun b hb=>by
  obtain⟨o,eo,_⟩:=T.obj 0 _ st2 b hb
  have h1:=Heap.lt_size eo
  rw[hD]at h1
  exact⟨by rw[hsz3];exact Nat.lt_succ_of_lt h1,Nat.ne_of_lt h1⟩
 have nb:∀ b,X.s₀.heap.objs.size≤b→∀ o,X.base.get? b≠some o:=fun b hb o e=>absurd (Nat.lt_of_lt_of_le (Heap.lt_size e) (Nat.le_trans I2.ok.bsz hb)) (Nat.lt_irrefl _)
 have dge:s2.heap.objs.size≤D:=by rw[hD];exact Nat.le_refl _
 have fD:FpOk X pins H2 D:=I2.fpOk dge fH2D
 have hex:∀ b∈D :: fp,b<s3.heap.objs.size∧b≠X.env.locals∧b∉X.fs∧(∀ x c,X.env.cells.lookup x=some c→c≠b)∧∀ o,X.base.get? b≠some o:=fun b hb=>by
  rcases List.mem_cons.mp hb with rfl | hb
  ·exact⟨by rw[hsz3];exact Nat.lt_succ_self _,fD.2.1,fD.2.2.1,fD.2.2.2.2.1,nb _ (Nat.le_trans I2.sz dge)⟩
  ·obtain⟨f0,f1,f2',f3,f4,f5⟩:=f2 b hb
   refine⟨(fpo b hb).1,f1,f2',f4,fun o e=>?_⟩
   rcases f3 with z | z
   ·exact I2.ok.noex b o e z
   ·exact nb b z o e
 have hC:s3.heap.objs.size=s3.heap.objs.size:=rfl
 generalize hXi:cxInC X inn (ts++cs) s3 H2 (D :: fp)=Xi
 have I4:Inv Xi [] (sIn nt js σ) H2 { s3 with heap:=h₁,toks:=s3.toks }:=by
  rw[← hXi];exact in_invC hts I3 O hex ⟨_,hns₁⟩ up cel₁
 have xp:Xi.prog=X.prog:=by rw[← hXi];rfl
 have xw:Xi.w=X.w:=by rw[← hXi];rfl
 have xK:Xi.K=X.K:=by rw[← hXi];rfl
 have xA:Xi.A=X.A:=by rw[← hXi];rfl
 have xc:Xi.calm=true:=by rw[← hXi];exact hcalm
 have xe:Xi.env=compEnvC inn (cellsFrom (s3.heap.objs.size+1) inn.names (closL inn X.env)) s3.heap.objs.size X.env:=by rw[← hXi];rfl
 have xx:Xi.xe=fun _ _=>False:=by rw[← hXi];rfl
 have xex:Xi.ex=D :: fp:=by rw[← hXi];rfl
 have xpn:Xi.pn=[]:=by rw[← hXi];rfl
 have xs0:Xi.s₀=s3:=by rw[← hXi];rfl
 have xH0:Xi.H₀=H2:=by rw[← hXi];rfl
 have xfs:Xi.fs=frs X.stack:=by rw[← hXi];rfl
 have hgX:PG Xi tg g:=by rw[← hXi];exact hg _ _ _
 have htX:PIf Xi ifs tt:=by rw[← hXi];exact ht _ _ _
 have heX:PE Xi elt te:=by rw[← hXi];exact he _ _ _
 have okX:=I4.ok
 have xl:Xi.env.locals=s3.heap.objs.size:=by rw[xe];rfl
 have Dl:D≠Xi.env.locals:=by rw[xl,hsz3];exact Nat.ne_of_lt (Nat.lt_succ_self _)
 have stat:∀ {H':Hp} {pl:List (Addr×Obj)},(∀ b∈fp,H' b=none)→(∀ p∈pl,p.1=D)→∀ b∈fp,FpOk Xi pl H' b:=fun {H' pl} hn hpl b hb=>by
  have hbx:b∈Xi.ex:=by rw[xex];exact List.mem_cons_of_mem _ hb
  refine⟨hn b hb,(okX.exf b hbx).1,fun z=>okX.exfs b hbx z,.inl hbx,(okX.exf b hbx).2,fun p hp=>?_⟩
  rw[xpn,List.nil_append]at hp
  rw[hpl p hp]
  exact Ne.symm (fpo b hb).2
 have DX:D∈Xi.ex:=by rw[xex];exact List.mem_cons_self
 obtain⟨W,⟨m0,w0⟩,turn⟩:=R
 have loop:codeAny (model X.prog X.w) X.A (.compLoop (.ListComp elt [⟨tg,iter,ifs,0⟩] inn pos) 0 (.ref it) (.ref D) Xi.env) (RR (.ref D) s3.heap.objs.size) { s3 with heap:=h₁,toks:=s3.toks }:=by
  refine codeAny_loop rfl (fun n s'=>∃ i ys H',Inv Xi [] (sIn nt js σ) H' s'∧tn i s'.heap∧(∀ b∈fp,H' b=none)∧H' D=none∧(∃ (its:List Value) (c:Nat),Vals ys its∧s'.heap.get? D=some { cls:=.type "list",data:=.seq its.toArray c })∧W i n ys H') ?_ m0
   ⟨0,[],H2,I4,?_,fun b hb=>(f2 b hb).1,fH2D,⟨[],0,.nil,up D _ hD3⟩,w0⟩
  ·rintro n s5 ⟨i,ys,H5,I5,st5,fr5,fD5,⟨its,c,rv,eD⟩,w5⟩
   show wpAny _ X.A ((compTurn (.ListComp elt [⟨tg,iter,ifs,0⟩] inn pos) 0 (.ref it) (.ref D) Xi.env).onRaise (fun x=>do noteFrame x Xi.env;theTreesLotGoes x)) _ _ s5
   refine wpAny_noted ?_
   rw[compTurn_list]
   refine wpAny_bind (wpAny_standAt (wpAny_bind ?_))
   have pinD:Inv Xi (pinsAt [D] s5.heap) (sIn nt js σ) H5 s5:=by
    have q:=I5.pinned (fp:=[D]) (fun b hb=>?_) (fun b hb=>?_)
    ·simpa using q
    ·have e:b=D:=by simpa using hb
     subst e
     refine⟨fD5,Dl,fun z=>okX.exfs b DX z,.inl DX,(okX.exf b DX).2,fun p hp=>?_⟩
     rw[xpn,List.nil_append]at hp;cases hp
    ·have e:b=D:=by simpa using hb
     subst e
     exact⟨_,eD,fun v z=>by cases z⟩
   have plD:∀ p∈pinsAt [D] s5.heap,p.1=D:=fun p hp=>by simpa using (of_pinsAt hp).1
   have memD:(D,({ cls:=.type "list",data:=.seq its.toArray c }:Obj))∈pinsAt [D] s5.heap:=mem_pinsAt (by simp) eD
   obtain⟨hz,tn5⟩:=turn i n ys H5 w5
   rcases tn5 with ⟨stop,fin⟩ | ⟨go,N,hN,step⟩
   ·have q:=T.done Xi xp xw xK xc i _ s5 _ H5 (notedBy (model X.prog X.w) X.A Xi.env fun e s'=>RR (.ref D) s3.heap.objs.size (.error e) s') pinD (stat fr5 plD) st5 stop
    rw[xA]at q
    refine wpAny_mono q (fun r s6 ⟨hr,I6⟩=>?_) fun _ _ z=>z
    subst hr
    refine wpAny_pure ?_
    have eD6:=(I6.pin (D,_) (List.mem_append_right _ memD)).1
    have un:Un (frs X.stack) (D :: fp) H2 H5 s3.heap s6.heap:=by
     have z:=I6.base
     rw[xfs,xex,xH0,xs0]at z
     exact z
    have os6:s6.os=s3.os:=by have z:=I6.os;rw[xs0]at z;exact z
    have hok6:HOk X.prog X.w H5 s6.heap:=by have z:=I6.hok;rw[xp,xw]at z;exact z
    have I7:Inv X pins σ H5 s6:=I3.call' os6 un hok6 I6.bare fun b hb=>by
     rcases List.mem_cons.mp hb with e | hb
     ·rw[e];exact⟨.inr (Nat.le_trans I2.sz dge),fD.2.1,fD.2.2.2.2.1,fD.2.2.2.2.2⟩
     ·obtain⟨f0,f1,f2',f3,f4,f5⟩:=f2 b hb
      exact⟨f3,f1,f4,f5⟩
    have I8:Inv X pins σ (upd H5 D (.lst ys)) s6:=I7.track fD5 (Nat.le_trans I2.sz dge) fD.2.1 fD.2.2.2.2.1 fD.2.2.2.2.2 ⟨Nat.le_of_lt hz,its,c,rv,eD6⟩
    have Cge:s3.heap.objs.size≤s3.heap.objs.size:=Nat.le_refl _
    have fC:FpOk X pins (upd H5 D (.lst ys)) s3.heap.objs.size:=I3.fpOk Cge (by
     rw[upd_ne (by rw[← xl];exact Ne.symm Dl)]
     have z:=I6.free
     rw[xl]at z;exact z)
    obtain⟨mm,hmm,_⟩:=I6.loc
    rw[xl]at hmm
    exact hRR D _ s6 _ I8 ⟨mm,hmm⟩ fC.1 fC.2.1 (Nat.le_trans I3.sz Cge) fC.2.2.2.2.1 fC.2.2.2.2.2 (fin D fD5)
   ·have q:=T.item Xi xp xw xK xc i _ s5 _ H5 (notedBy (model X.prog X.w) X.A Xi.env fun e s'=>RR (.ref D) s3.heap.objs.size (.error e) s') pinD (stat fr5 plD) st5 go
    rw[xA]at q
    refine wpAny_mono q (fun r s6 ⟨u,hr,h6⟩=>?_) fun _ _ z=>z
    subst hr
    refine wpAny_bind (wpAny_mono h6 (fun _ s7 ⟨x,H7,I7,r7,y7,st7,fr7⟩=>?_) fun _ _ z=>z)
    have I7':=I7.pinned (fp:=fp) (fun b hb=>stat fr7 plD b hb) (T.obj _ _ st7)
    have q8:=hgX _ s7 _ H7 x u _ I7' r7 (hk x _ H7 _ (step x H7 y7))
    rw[xp,xw,xA,xx]at q8
    refine wpAny_bind (wpAny_mono q8 (fun _ s8 ⟨σ8,H8,I8,⟨k8,l8⟩,q8⟩=>?_) fun _ _ z=>z.elim)
    have q9:=htX _ s8 σ8 H8 _ I8 q8
    rw[xp,xw,xA,xx]at q9
    refine wpAny_bind (wpAny_mono q9 (fun ok s9 ⟨H9,I9,q9⟩=>?_) fun _ _ z=>z.elim)
    have keepσ:∀ (j:Nat) v,(sIn nt js σ)[j]?=some (some v)→σ8[j]?=some (some v):=fun j v e=>by
     have hj:=(sIn_get e).1
     rw[k8 j hj];exact e
    have ends:∀ {H9:Hp} {s9:Shared} {ys':List V},Inv Xi (pinsAt [D] s5.heap++pinsAt fp s7.heap) σ8 H9 s9→∀ {h':Heap} {its':List Value} {c':Nat},(∀ b o,b≠D→s9.heap.get? b=some o→h'.get? b=some o)→Vals ys' its'→h'.get? D=some { cls:=.type "list",data:=.seq its'.toArray c' }→N ys' H9 →
     ∀ tk,∃ m,m<n∧∃ i ys H',Inv Xi [] (sIn nt js σ) H' { s9 with heap:=h',toks:=tk }∧tn i h'∧(∀ b∈fp,H' b=none)∧H' D=none∧(∃ (its:List Value) (c:Nat),Vals ys its∧h'.get? D=some { cls:=.type "list",data:=.seq its.toArray c })∧W i m ys H':=fun {H9 s9 ys'} I9 {h' its' c'} kp rv' eD' n9 tk=>by
     obtain⟨m',hm,w9⟩:=hN ys' H9 n9
     have fD9:H9 D=none:=(I9.pin (D,_) (List.mem_append_right _ (List.mem_append_left _ memD))).2.1
     have fr9:∀ b∈fp,H9 b=none:=fun b hb=>by
      obtain⟨o,e,d⟩:=T.obj _ _ st7 b hb
      exact(I9.pin (b,o) (List.mem_append_right _ (List.mem_append_right _ (mem_pinsAt hb e)))).2.1
     have I10:Inv Xi [] σ8 H9 s9:=I9.pins_of fun p hp=>by cases hp
     have I11:Inv Xi [] σ8 H9 { s9 with heap:=h',toks:=tk }:=I10.turned (it:=D) kp fD9 Dl (.inl DX) (okX.exf D DX).2 (fun p hp=>by rw[xpn]at hp;cases hp)
     refine⟨m',hm,i+1,ys',H9,I11.weak l8.symm keepσ,T.keep _ _ _ st7 fun b hb o e=>kp b o (fpo b hb).2 (I9.pin (b,o) (List.mem_append_right _ (List.mem_append_right _ (mem_pinsAt hb e)))).1,fr9,fD9,⟨its',c',rv',eD'⟩,w9⟩
    cases ok with
    | false =>
     rw[if_neg Bool.false_ne_true]at q9
     have eD9:=(I9.pin (D,_) (List.mem_append_right _ (List.mem_append_left _ memD))).1
     exact wpAny_pure ⟨rfl,ends I9 (h':=s9.heap) (fun _ _ _ e=>e) rv eD9 q9 s9.toks⟩
    | true =>
     rw[if_pos rfl]at q9
     have q10:=heX _ s9 σ8 H9 _ I9 q9
     rw[xp,xw,xA,xx]at q10
     refine wpAny_bind (wpAny_bind (wpAny_mono q10 (fun v s10 ⟨y,H10,I10,r10,q10⟩=>?_) fun _ _ z=>z.elim))
     have eD10:=(I10.pin (D,_) (List.mem_append_right _ (List.mem_append_left _ memD))).1
     have hlen:=rv.length
     refine wpAny_bind (wpAny_list_append_plain (items:=its.toArray) ⟨c,eD10⟩ (fun h' hl hs=>wpAny_pure (wpAny_pure ⟨rfl,?_⟩)) (by rw[List.size_toArray];omega))
     obtain⟨c',e'⟩:=hl
     have e'':h'.get? D=some { cls:=.type "list",data:=.seq (its++[v]).toArray c' }:=by rw[e'];simp
     exact ends I10 (h':=h') (fun b o hb e=>hs.extBut b o hb e) (rv.append (.cons r10 .nil)) e'' q10 s10.toks
  ·exact T.keep 0 _ _ st2 fun b hb o e=>up b o (by rw[e3];exact Heap.get?_push_of_some _ e)
 have e4:({ s2 with heap:=h₁ }:Shared)={ s3 with heap:=h₁,toks:=s3.toks }:=by rw[← hs3]
 rw[e4]
 show codeAny _ _ (.compStart (.ListComp elt [⟨tg,iter,ifs,0⟩] inn pos) 0 (.ref it) (.ref D) (compEnvC inn (cellsFrom (s3.heap.objs.size+1) inn.names (closL inn X.env)) s3.heap.objs.size X.env)) (RR (.ref D) s3.heap.objs.size) _
 rw[← xe]
 refine codeAny_compStart_list loop ?_
 refine T.self X.A 0 _ _ _ ?_ loop
 exact T.keep 0 _ _ st2 fun b hb o e=>up b o (by rw[e3];exact Heap.get?_push_of_some _ e)
end
section
variable {X:Cx} {inn:Scope} {js:List Nat} {cs ts:List Str} {nt:Nat} {elt tg iter:Expr} {ifs:List Expr} {pos:Pos} {g:TG} {tt:TT} {te:TE} {wi:TI}
theorem pe_compC (ts cs:List Str) (js:List Nat) (hcalm:X.calm=true) (O:CompOkC X.env.scope inn X.N js cs) (hi:PI X tg iter wi)
 (hg:∀ s₀ H₀ ex,PG (cxInC X inn (ts++cs) s₀ H₀ ex) tg g) (hk:GK ts.length g) (ht:∀ s₀ H₀ ex,PIf (cxInC X inn (ts++cs) s₀ H₀ ex) ifs tt) (he:∀ s₀ H₀ ex,PE (cxInC X inn (ts++cs) s₀ H₀ ex) elt te)
 (hs:∀ x,foldedSetIterable iter X.env x=pure x:=by intro _;rfl):PE X (.ListComp elt [⟨tg,iter,ifs,0⟩] inn pos) (tComp wi ts.length js g tt te):=by
 intro pins s σ H Q I h
 rw[eval_ListComp]
 refine wpAny_comprehension_free (use:=none) rfl hs (closFor fun y hy e=>I.ok.has y.1 (O.frees y hy e)) O.kind O.names (thn (hi pins s σ H _ I h) fun xv s1 h1=>thn h1 fun itv s2 h2=>?_)
 obtain⟨it,fp,tn,J,H2,e,I2,T,st2,f2,R⟩:=h2
 subst e
 refine comp_coreC (Q:=Q) (RR:=fun acc C=>compPost (model X.prog X.w) X.A X.xe none (EP X pins σ Q) acc C) hcalm O rfl hg hk ht he I2 T st2 f2 R ?_
 intro D C s' H' I' ⟨m,hm⟩ c1 c2 c3 c4 c5 q
 refine⟨m,hm,fun h' hsb=>?_⟩
 exact⟨.ref D,H',I'.turned (it:=C) (t':=s'.toks) (fun b o hb e=>hsb.extBut b o hb e) c1 c2 (.inr c3) c4 c5,rfl,q⟩
end
end L2
namespace CW
open PySem L2
inductive PlI (row:List Int) (i:Nat) (stays:List Int):Prop
 | mk (ah:Nat) (h1_:(endsG row).drop ah=endsG (row.drop i)) (h2_:stays++peelG ah (row.drop i)=peelG 0 row) (h3_:∀ z∈(endsG row).take ah,∀ y∈row.drop i,z<y):PlI row i stays
theorem PlI.init (row:List Int):PlI row 0 []:=⟨0,rfl,rfl,fun z hz=>by simp at hz⟩
theorem PlI.done {row stays:List Int} {i:Nat} (hi:row.length≤i) (h:PlI row i stays):stays=peelG 0 row:=by
 obtain⟨ah,h1,h2,_⟩:=h
 rw[List.drop_eq_nil_of_le hi]at h2
 rw[← h2]
 exact(List.append_nil _).symm
end CW
namespace CW
open PySem L2
theorem sorted_unique:∀ {a b:List Int},a.Perm b→a.Pairwise (·≤·)→b.Pairwise (·≤·)→a=b
 | [],b,h,_,_=>by rw[h.symm.eq_nil]
 | x :: a,[],h,_,_=>by have:=h.eq_nil;cases this
 | x :: a,y :: b,h,ha,hb=>by
  have ha':=List.pairwise_cons.mp ha
  have hb':=List.pairwise_cons.mp hb
  have hx:x∈y :: b:=h.mem_iff.mp List.mem_cons_self
  have hy:y∈x :: a:=h.mem_iff.mpr List.mem_cons_self
  have e:x=y:=by
   rcases List.mem_cons.mp hx with q | q
   ·exact q
   ·rcases List.mem_cons.mp hy with r | r
    ·exact r.symm
    ·have h1:=ha'.1 y r
     have h2:=hb'.1 x q
     omega
  subst e
  rw[sorted_unique (List.perm_cons x |>.mp h) ha'.2 hb'.2]
end CW
namespace L2
open PySem PySem.Spec PyProof.Rows
noncomputable def UpA (xs:Array Nat):Prop:=xs.toList.Pairwise (·<·)
theorem UpA.lt {xs:Array Nat} (h:UpA xs) {i j a b:Nat} (hij:i<j) (hi:xs[i]?=some a) (hj:xs[j]?=some b):a<b:=by
 rw[← Array.getElem?_toList]at hi hj
 obtain⟨h1,e1⟩:=List.getElem?_eq_some_iff.mp hi
 obtain⟨h2,e2⟩:=List.getElem?_eq_some_iff.mp hj
 have:=(List.pairwise_iff_getElem.mp h) i j h1 h2 hij
 rw[e1,e2]at this;exact this
theorem below_go {xs:Array Nat} (j:Nat) (U:UpA xs):∀ (fuel lo hi:Nat),hi≤xs.size→lo≤hi→hi - lo≤fuel→(∀ k a,k<lo→xs[k]?=some a→a<j)→(∀ k a,hi≤k→xs[k]?=some a→j≤a) →
 SetTable.below.go xs j fuel lo hi≤xs.size∧(∀ k a,k<SetTable.below.go xs j fuel lo hi→xs[k]?=some a→a<j)∧(∀ k a,SetTable.below.go xs j fuel lo hi≤k→xs[k]?=some a→j≤a)
 | 0,lo,hi,h1,h2,h3,h4,h5=>by
  have e:hi=lo:=by omega
  subst e
  exact⟨h1,h4,h5⟩
 | fuel+1,lo,hi,h1,h2,h3,h4,h5=>by
  unfold SetTable.below.go
  by_cases q:lo<hi
  ·rw[if_pos q]
   have hm:(lo+hi) / 2<xs.size:=by omega
   have hg:xs.getD ((lo+hi) / 2) j=xs[(lo+hi) / 2]:=by rw[Array.getD,dif_pos hm];rfl
   have hs:xs[(lo+hi) / 2]?=some xs[(lo+hi) / 2]:=Array.getElem?_eq_getElem hm
   dsimp only
   rw[hg]
   by_cases z:xs[(lo+hi) / 2]<j
   ·rw[if_pos z]
    refine below_go j U fuel _ _ h1 (by omega) (by omega) (fun k a hk ha=>?_) h5
    rcases Nat.lt_or_ge k ((lo+hi) / 2)with y | y
    ·exact Nat.lt_trans (U.lt y ha hs) z
    ·have:k=(lo+hi) / 2:=by omega
     subst this
     rw[hs]at ha;cases ha;exact z
   ·rw[if_neg z]
    refine below_go j U fuel _ _ (by omega) (by omega) (by omega) h4 (fun k a hk ha=>?_)
    rcases Nat.lt_or_ge ((lo+hi) / 2) k with y | y
    ·have:=U.lt y hs ha;omega
    ·have:k=(lo+hi) / 2:=by omega
     subst this
     rw[hs]at ha;cases ha;omega
  ·rw[if_neg q]
   have e:hi=lo:=by omega
   subst e
   exact⟨h1,h4,h5⟩
theorem below_at {xs:Array Nat} (j:Nat) (U:UpA xs):SetTable.below xs j≤xs.size∧(∀ k a,k<SetTable.below xs j→xs[k]?=some a→a<j)∧(∀ k a,SetTable.below xs j≤k→xs[k]?=some a→j≤a) :=
 below_go j U xs.size 0 xs.size (Nat.le_refl _) (Nat.zero_le _) (by omega) (fun k a hk=>absurd hk (by omega)) (fun k a hk ha=>by
  have:=(Array.getElem?_eq_some_iff.mp ha).1;omega)
theorem below_eq {xs:Array Nat} {j p:Nat} (U:UpA xs) (hp:p≤xs.size) (h1:∀ k a,k<p→xs[k]?=some a→a<j) (h2:∀ k a,p≤k→xs[k]?=some a→j≤a):SetTable.below xs j=p:=by
 obtain⟨b0,b1,b2⟩:=below_at j U
 rcases Nat.lt_trichotomy (SetTable.below xs j) p with q | q | q
 ·have hs:xs[SetTable.below xs j]?=some xs[SetTable.below xs j]:=Array.getElem?_eq_getElem (by omega)
  have:=b2 _ _ (Nat.le_refl _) hs;have:=h1 _ _ q hs;omega
 ·exact q
 ·have hs:xs[p]?=some xs[p]:=Array.getElem?_eq_getElem (by omega)
  have:=h2 _ _ (Nat.le_refl _) hs;have:=b1 _ _ q hs;omega
theorem slot_or {t:SetTable} (hd:t.dummies=#[]) (j:Nat):t.slot j=.empty∨∃ i,t.slot j=.live i:=by
 unfold SetTable.slot
 rw[hd]
 dsimp only
 split
 ·exact .inr ⟨_,rfl⟩
 ·left
  rw[if_neg (by unfold SetTable.has;simp)]
theorem slot_free {t:SetTable} (hd:t.dummies=#[]) {j:Nat} (h:j∉t.place.toList):t.slot j=.empty:=by
 unfold SetTable.slot
 rw[hd]
 dsimp only
 rw[if_neg,if_neg (by unfold SetTable.has;simp)]
 intro e
 rw[beq_iff_eq]at e
 rw[← Array.getElem?_toList]at e
 exact h (List.mem_of_getElem? e)
theorem slot_not {t:SetTable} {j:Nat} (e:t.slot j=.empty):t.place[SetTable.below t.place j]?≠some j:=by
 intro h
 unfold SetTable.slot at e
 dsimp only at e
 rw[if_pos (by rw[h];simp)]at e
 cases e
theorem put_up {t:SetTable} (U:UpA t.place) {j:Nat} (e:t.slot j=.empty):UpA (t.put j).1.place:=by
 obtain⟨b0,b1,b2⟩:=below_at j U
 have hn:=slot_not e
 show (SetTable.insertAt t.place (SetTable.below t.place j) j).toList.Pairwise (·<·)
 rw[SetTable.toList_insertAt]
 have U':t.place.toList.Pairwise (·<·):=U
 rw[List.pairwise_append]
 refine⟨U'.sublist (List.take_sublist ..),?_,?_⟩
 ·rw[List.pairwise_cons]
  refine⟨fun a ha=>?_,U'.sublist (List.drop_sublist ..)⟩
  obtain⟨k,hk⟩:=List.mem_iff_getElem?.mp ha
  rw[List.getElem?_drop,Array.getElem?_toList]at hk
  have h1:=b2 _ _ (Nat.le_add_right _ k) hk
  rcases Nat.eq_zero_or_pos k with z | z
  ·subst z
   have:j≠a:=fun q=>hn (by rw[q]at hk ⊢;simpa using hk)
   omega
  ·have hb:SetTable.below t.place j<t.place.size:=by
    have:=(Array.getElem?_eq_some_iff.mp hk).1;omega
   have hs:t.place[SetTable.below t.place j]?=some t.place[SetTable.below t.place j]:=Array.getElem?_eq_getElem hb
   have h2:=b2 _ _ (Nat.le_refl _) hs
   have h3:=U.lt (by omega) hs hk
   omega
 ·intro a ha b hb
  obtain⟨k,hk⟩:=List.mem_iff_getElem?.mp ha
  have hlt:a<j:=by
   rw[List.getElem?_take]at hk
   split at hk
   ·rename_i q
    rw[Array.getElem?_toList]at hk
    exact b1 _ _ q hk
   ·cases hk
  rcases List.mem_cons.mp hb with q | q
  ·rw[q];exact hlt
  ·obtain⟨k2,hk2⟩:=List.mem_iff_getElem?.mp q
   rw[List.getElem?_drop,Array.getElem?_toList]at hk2
   have:=b2 _ _ (Nat.le_add_right _ k2) hk2
   omega
noncomputable def stepL (m i:Nat):Nat:=(i * 5+1) % (m+1)
noncomputable def distL (m:Nat):Nat→Nat→Nat→Nat
 | 0,_,_=>0
 | f+1,i,j=>if i=j then 0 else distL m f (stepL m i) j+1
noncomputable def FullL (m:Nat):Prop:=∀ i j:Fin (m+1),i.val≠j.val→distL m (m+1) i j=distL m (m+1) (stepL m i) j+1
noncomputable instance (m:Nat):Decidable (FullL m):=by unfold FullL;infer_instance
theorem full7:FullL 7:=by decide +kernel
theorem full31:FullL 31:=by decide +kernel
theorem dist_le (m:Nat):∀ f i j,distL m f i j≤f
 | 0,_,_=>Nat.le_refl _
 | f+1,i,j=>by unfold distL;split;omega;have:=dist_le m f (stepL m i) j;omega
theorem dist_zero {m i j:Nat} (h:distL m (m+1) i j=0):i=j:=by
 unfold distL at h;split at h;assumption;omega
section
variable {t:SetTable} {h:Int}
noncomputable def baseP (m i perturb:Nat):SetTable.Probe:={ j:=i,more:=SetTable.runEnd m i - i,i:=i,perturb:=perturb,dummy:=none }
noncomputable def FoundE (t:SetTable) (r:Option SetTable.Met):Prop:=∃ j,r=some (.empty j none)∧t.slot j=.empty
theorem run_or (hd:t.dummies=#[]):∀ (more fuel j i perturb:Nat),more<fuel →
 FoundE t ((SetTable.probe.go t (fun _=>h+1) h) fuel { j:=j,more:=more,i:=i,perturb:=perturb,dummy:=none }) ∨
 (SetTable.probe.go t (fun _=>h+1) h) fuel { j:=j,more:=more,i:=i,perturb:=perturb,dummy:=none }=(SetTable.probe.go t (fun _=>h+1) h) (fuel - (more+1)) (baseP t.mask (SetTable.leap t.mask i perturb).1 (SetTable.leap t.mask i perturb).2)
 | more,0,j,i,perturb,hf=>absurd hf (by omega)
 | 0,fuel+1,j,i,perturb,hf=>by
  rw[SetTable.probe.go]
  rcases slot_or hd j with e | ⟨x,e⟩
  ·left;dsimp only;rw[e];exact⟨j,rfl,e⟩
  ·right
   dsimp only;rw[e]
   dsimp only
   rw[if_neg (by simp;omega)]
   rfl
 | more+1,fuel+1,j,i,perturb,hf=>by
  rw[SetTable.probe.go]
  rcases slot_or hd j with e | ⟨x,e⟩
  ·left;dsimp only;rw[e];exact⟨j,rfl,e⟩
  ·dsimp only;rw[e]
   dsimp only
   rw[if_neg (by simp;omega)]
   have ea:t.advance { j:=j,more:=more+1,i:=i,perturb:=perturb,dummy:=none }={ j:=j+1,more:=more,i:=i,perturb:=perturb,dummy:=none }:=by
    unfold SetTable.advance
    rw[if_pos (by simp)]
    simp
   rw[ea]
   have:=run_or hd more fuel (j+1) i perturb (by omega)
   rw[show fuel+1 - (more+1+1)=fuel - (more+1)by omega]
   exact this
theorem runEnd_le (m i:Nat):SetTable.runEnd m i - i≤9:=by unfold SetTable.runEnd;split <;> omega
theorem cyc (hd:t.dummies=#[]) (F:FullL t.mask) {j0:Nat} (hj:j0≤t.mask) (hs:t.slot j0=.empty):∀ (d fuel i:Nat),i≤t.mask→distL t.mask (t.mask+1) i j0=d→10 * d<fuel→FoundE t ((SetTable.probe.go t (fun _=>h+1) h) fuel (baseP t.mask i 0))
 | 0,0,i,hi,e,hf=>absurd hf (by omega)
 | 0,fuel+1,i,hi,e,hf=>by
  have q:=dist_zero e
  subst q
  rw[SetTable.probe.go,show t.slot (baseP t.mask i 0).j=.empty from hs]
  exact⟨i,rfl,hs⟩
 | d+1,fuel,i,hi,e,hf=>by
  have hr:=runEnd_le t.mask i
  rcases run_or (t:=t) (h:=h) hd (SetTable.runEnd t.mask i - i) fuel i i 0 (by omega)with q | q
  ·exact q
  ·show FoundE t ((SetTable.probe.go t (fun _=>h+1) h) fuel { j:=i,more:=SetTable.runEnd t.mask i - i,i:=i,perturb:=0,dummy:=none })
   rw[q]
   have el:SetTable.leap t.mask i 0=(stepL t.mask i,0):=rfl
   rw[el]
   have ne:i≠j0:=fun z=>by subst z;unfold distL at e;rw[if_pos rfl]at e;cases e
   have:=F ⟨i,by omega⟩ ⟨j0,by omega⟩ ne
   dsimp only at this
   have hl:stepL t.mask i≤t.mask:=by have:=Nat.mod_lt (i * 5+1) (show 0<t.mask+1 by omega);unfold stepL;omega
   exact cyc hd F hj hs d _ (stepL t.mask i) hl (by omega) (by omega)
theorem probe_lev (hd:t.dummies=#[]) (F:FullL t.mask) {j0:Nat} (hj:j0≤t.mask) (hs:t.slot j0=.empty):∀ (k fuel i perturb:Nat),i≤t.mask→perturb<32 ^ k→10 * (k+t.mask+1)<fuel→FoundE t ((SetTable.probe.go t (fun _=>h+1) h) fuel (baseP t.mask i perturb))
 | 0,fuel,i,perturb,hi,hp,hf=>by
  have:perturb=0:=by simp at hp;exact hp
  subst this
  exact cyc hd F hj hs _ fuel i hi rfl (by have:=dist_le t.mask (t.mask+1) i j0;omega)
 | k+1,fuel,i,perturb,hi,hp,hf=>by
  have hr:=runEnd_le t.mask i
  rcases run_or (t:=t) (h:=h) hd (SetTable.runEnd t.mask i - i) fuel i i perturb (by omega)with q | q
  ·exact q
  ·show FoundE t ((SetTable.probe.go t (fun _=>h+1) h) fuel { j:=i,more:=SetTable.runEnd t.mask i - i,i:=i,perturb:=perturb,dummy:=none })
   rw[q]
   have hpp:perturb / 32<32 ^ k:=by rw[Nat.div_lt_iff_lt_mul (by decide)];rw[Nat.pow_succ]at hp;exact hp
   exact probe_lev hd F hj hs k _ _ _ (by have:=Nat.mod_lt (i * 5+1+perturb / 32) (show 0<t.mask+1 by omega);show (i * 5+1+perturb / 32) % (t.mask+1)≤t.mask;omega) hpp (by omega)
theorem bits_lt (h:Int):SetTable.bits h<32 ^ 13:=by
 unfold SetTable.bits
 have h1:=Int.emod_lt_of_pos h (show (0:Int)<2 ^ 64 by decide)
 have h2:=Int.emod_nonneg h (show (2 ^ 64:Int)≠0 by decide)
 have:(32:Nat) ^ 13=36893488147419103232:=by decide
 rw[this]
 have e:(2:Int) ^ 64=18446744073709551616:=by decide
 rw[e]at h1 h2 ⊢
 omega
theorem spare {t:SetTable} (hn:t.place.size≤t.mask):∃ j,j≤t.mask∧j∉t.place.toList:=by
 apply Classical.byContradiction
 intro hc
 have hsub:List.range (t.mask+1) ⊆ t.place.toList:=fun j hj=>Classical.byContradiction fun q=>hc ⟨j,by have:=List.mem_range.mp hj;omega,q⟩
 have:=List.nodup_range.length_le_of_subset hsub
 rw[List.length_range,Array.length_toList]at this
 omega
theorem freeSlot_some (hd:t.dummies=#[]) (F:FullL t.mask) (hn:t.place.size≤t.mask):∃ j,t.freeSlot h=some (j,false)∧t.slot j=.empty:=by
 obtain⟨j0,hj,hm⟩:=spare hn
 have:=probe_lev (h:=h) hd F hj (slot_free hd hm) 13 (10 * SetTable.turns t.mask) (SetTable.bits h % (t.mask+1)) (SetTable.bits h) (by have:=Nat.mod_lt (SetTable.bits h) (show 0<t.mask+1 by omega);omega) (bits_lt h) (by unfold SetTable.turns;omega)
 obtain⟨j,e,hs⟩:=this
 refine⟨j,?_,hs⟩
 unfold SetTable.freeSlot
 have e2:t.probe (fun _=>h+1) h (t.probeStart h)=some (.empty j none):=e
 rw[e2]
 rfl
end
end L2
namespace L2
open PySem PySem.Spec PyProof.Rows
noncomputable def rkL (i:Nat):Nat:=if i=24 then 4 else if i=25 then 3 else if i=30∨i=31 then 2 else if 23≤i then 1 else 0
theorem rk_step:∀ i:Fin 32,22<i.val→rkL (stepL 31 i.val)<rkL i.val:=by decide +kernel
theorem rk_le (i:Nat):rkL i≤4:=by unfold rkL;(repeat' split) <;> omega
theorem drop_all {α:Type}:∀ (l:List (Option α)),(∀ x∈l,x.isSome=true)→(l.filterMap id).length=l.length
 | [],_=>rfl
 | none :: l,h=>by have:=h none List.mem_cons_self;cases this
 | some a :: l,h=>by
  rw[List.filterMap_cons_some (f:=id) (a:=some a) (b:=a) rfl,List.length_cons,List.length_cons,drop_all l fun x hx=>h x (List.mem_cons_of_mem _ hx)]
theorem run_free {owner:Array (Option Nat)} (hz:owner.size=32) (hc:(owner.toList.filterMap id).length<10) {i:Nat} (hi:i≤22) :
 ∃ k,(List.range 10).find? (fun k=>(owner.getD (i+k) (some 0)).isNone)=some k∧k<10∧owner[i+k]?=some none:=by
 cases hf:(List.range 10).find? (fun k=>(owner.getD (i+k) (some 0)).isNone)with
 | some k =>
  have h1:=List.find?_some hf
  have h2:=List.mem_of_find?_eq_some hf
  have hk:=List.mem_range.mp h2
  refine⟨k,rfl,hk,?_⟩
  have hb:i+k<owner.size:=by omega
  rw[Array.getElem?_eq_getElem hb]
  rw[Array.getD,dif_pos hb]at h1
  have h3:owner[i+k].isNone=true:=h1
  rw[Option.isNone_iff_eq_none.mp h3]
 | none =>
  exfalso
  have h1:=List.find?_eq_none.mp hf
  have hsub:((owner.toList.drop i).take 10).Sublist owner.toList:=(List.take_sublist ..).trans (List.drop_sublist ..)
  have hle:=(hsub.filterMap id).length_le
  have hlen:((owner.toList.drop i).take 10).length=10:=by
   rw[List.length_take,List.length_drop,Array.length_toList,hz];omega
  have:=drop_all ((owner.toList.drop i).take 10) fun x hx=>by
   obtain⟨k,hk⟩:=List.mem_iff_getElem?.mp hx
   have hk10:k<10:=by rw[← hlen];exact(List.getElem?_eq_some_iff.mp hk).1
   rw[List.getElem?_take,if_pos hk10,List.getElem?_drop,Array.getElem?_toList]at hk
   have hb:i+k<owner.size:=(Array.getElem?_eq_some_iff.mp hk).1
   have h2:=h1 k (List.mem_range.mpr hk10)
   rw[Array.getD,dif_pos hb]at h2
   have h3:¬ owner[i+k].isNone=true:=h2
   have h4:owner[i+k]=x:=(Array.getElem?_eq_some_iff.mp hk).2
   rw[h4]at h3
   cases x with
   | none=>exact absurd rfl h3
   | some _=>rfl
  omega
noncomputable def GotF (owner:Array (Option Nat)) (r:Option Nat):Prop:=∃ j,r=some j∧owner[j]?=some none
theorem free_hit {owner:Array (Option Nat)} (hz:owner.size=32) (hc:(owner.toList.filterMap id).length<10) {i:Nat} (hi:i≤22) (fuel perturb:Nat) :
 GotF owner (SetTable.layClean.free 31 owner (fuel+1) i perturb):=by
 obtain⟨k,e,_,h⟩:=run_free hz hc hi
 rw[SetTable.layClean.free]
 have er:SetTable.runEnd 31 i+1 - i=10:=by unfold SetTable.runEnd;rw[if_pos (by omega)];omega
 rw[er,e]
 exact⟨i+k,rfl,h⟩
theorem free_or {owner:Array (Option Nat)} (hz:owner.size=32) {i:Nat} (hi:22<i) (hi2:i<32) (fuel perturb:Nat) :
 GotF owner (SetTable.layClean.free 31 owner (fuel+1) i perturb) ∨
 SetTable.layClean.free 31 owner (fuel+1) i perturb=SetTable.layClean.free 31 owner fuel ((i * 5+1+perturb / 32) % 32) (perturb / 32):=by
 rw[SetTable.layClean.free]
 have er:SetTable.runEnd 31 i+1 - i=1:=by unfold SetTable.runEnd;rw[if_neg (by omega)];omega
 rw[er]
 cases hf:(List.range 1).find? (fun k=>(owner.getD (i+k) (some 0)).isNone)with
 | none=>right;rfl
 | some k =>
  left
  have h1:=List.find?_some hf
  have h2:=List.mem_of_find?_eq_some hf
  have hk:=List.mem_range.mp h2
  have hb:i+k<owner.size:=by omega
  refine⟨i+k,rfl,?_⟩
  rw[Array.getElem?_eq_getElem hb]
  rw[Array.getD,dif_pos hb]at h1
  have h3:owner[i+k].isNone=true:=h1
  rw[Option.isNone_iff_eq_none.mp h3]
theorem free_0 {owner:Array (Option Nat)} (hz:owner.size=32) (hc:(owner.toList.filterMap id).length<10):∀ (fuel i:Nat),i<32→rkL i<fuel→GotF owner (SetTable.layClean.free 31 owner fuel i 0)
 | 0,i,hi,h=>absurd h (by omega)
 | fuel+1,i,hi,h=>by
  rcases Nat.lt_or_ge 22 i with q | q
  ·rcases free_or hz q hi fuel 0 with z | z
   ·exact z
   ·rw[z]
    have:=rk_step ⟨i,hi⟩ q
    have e:(i * 5+1+0 / 32) % 32=stepL 31 i:=rfl
    rw[e]
    exact free_0 hz hc fuel _ (Nat.mod_lt _ (by decide)) (by dsimp only at this;omega)
  ·exact free_hit hz hc q fuel 0
theorem free_lev {owner:Array (Option Nat)} (hz:owner.size=32) (hc:(owner.toList.filterMap id).length<10):∀ (k fuel i perturb:Nat),i<32→perturb<32 ^ k→k+5≤fuel→GotF owner (SetTable.layClean.free 31 owner fuel i perturb)
 | 0,fuel,i,perturb,hi,hp,hf=>by
  have:perturb=0:=by simp at hp;exact hp
  subst this
  exact free_0 hz hc fuel i hi (by have:=rk_le i;omega)
 | k+1,0,i,perturb,hi,hp,hf=>absurd hf (by omega)
 | k+1,fuel+1,i,perturb,hi,hp,hf=>by
  rcases Nat.lt_or_ge 22 i with q | q
  ·rcases free_or hz q hi fuel perturb with z | z
   ·exact z
   ·rw[z]
    have hpp:perturb / 32<32 ^ k:=by rw[Nat.div_lt_iff_lt_mul (by decide)];rw[Nat.pow_succ]at hp;exact hp
    exact free_lev hz hc k fuel _ _ (Nat.mod_lt _ (by decide)) hpp (by omega)
  ·exact free_hit hz hc q fuel perturb
theorem set_perm {l:List (Option Nat)} {j k:Nat} (h:l[j]?=some none):((l.set j (some k)).filterMap id).Perm (l.filterMap id++[k]):=by
 obtain⟨hb,e⟩:=List.getElem?_eq_some_iff.mp h
 have e1:l=l.take j++none :: l.drop (j+1):=by
  rw[← e,List.getElem_cons_drop,List.take_append_drop]
 rw[List.set_eq_take_append_cons_drop,if_pos hb]
 conv=>rhs;rw[e1]
 rw[List.filterMap_append,List.filterMap_append,List.filterMap_cons_some (f:=id) (a:=some k) (b:=k) rfl,List.filterMap_cons_none (f:=id) (a:=(none:Option Nat)) rfl,List.append_assoc]
 exact List.Perm.append_left _ (List.perm_append_singleton k _).symm
noncomputable def layF (mask:Nat):Option (Array (Option Nat)×Nat)→Int→Option (Array (Option Nat)×Nat):=fun acc h=>do
 let (owner,k) ← acc
 let j ← SetTable.layClean.free mask owner (SetTable.turns mask) (SetTable.bits h % (mask+1)) (SetTable.bits h)
 pure (owner.setIfInBounds j (some k),k+1)
theorem lay_go:∀ (l:List Int) (owner:Array (Option Nat)) (k:Nat),owner.size=32→(owner.toList.filterMap id).Perm (List.range k)→k+l.length≤5 →
 ∃ owner',l.foldl (layF 31) (some (owner,k))=some (owner',k+l.length)∧owner'.size=32∧(owner'.toList.filterMap id).Perm (List.range (k+l.length))
 | [],owner,k,hz,hp,hk=>⟨owner,rfl,hz,hp⟩
 | h :: l,owner,k,hz,hp,hk=>by
  rw[List.length_cons]at hk
  obtain⟨j,e,hj⟩:=free_lev (owner:=owner) hz (by rw[hp.length_eq,List.length_range];omega) 13 (SetTable.turns 31) (SetTable.bits h % 32) (SetTable.bits h) (Nat.mod_lt _ (by decide)) (bits_lt h) (by decide)
  have e2:layF 31 (some (owner,k)) h=some (owner.setIfInBounds j (some k),k+1):=by
   unfold layF
   show (SetTable.layClean.free 31 owner (SetTable.turns 31) (SetTable.bits h % 32) (SetTable.bits h)).bind _=_
   rw[e];rfl
  rw[List.foldl_cons,e2]
  have:=lay_go l (owner.setIfInBounds j (some k)) (k+1) (by rw[Array.size_setIfInBounds];exact hz) (by
   rw[Array.toList_setIfInBounds]
   refine(set_perm (by rw[Array.getElem?_toList];exact hj)).trans ?_
   rw[List.range_succ]
   exact hp.append_right _) (by omega)
  rw[List.length_cons,show k+(l.length+1)=k+1+l.length by omega]
  exact this
theorem layClean_five {hs:Array Int} (hn:hs.size≤5):∃ owner,SetTable.layClean 31 hs=some owner∧owner.size=32∧(owner.toList.filterMap id).Perm (List.range hs.size):=by
 obtain⟨owner,e,hz,hp⟩:=lay_go hs.toList (Array.replicate 32 none) 0 (by simp) (by simp) (by simpa using hn)
 refine⟨owner,?_,hz,by simpa using hp⟩
 unfold SetTable.layClean
 have e2:hs.foldl (layF 31) (some (Array.replicate (31+1) none,0))=some (owner,0+hs.toList.length):=by rw[← Array.foldl_toList];exact e
 show Option.map (·.1) (hs.foldl (layF 31) (some (Array.replicate (31+1) none,0)))=some owner
 rw[e2];rfl
theorem getD_all {owner:Array (Option Nat)} {n:Nat} (hz:owner.size=n):(List.range n).filterMap (fun j=>owner.getD j none)=owner.toList.filterMap id:=by
 subst hz
 have e:owner.toList=(List.range owner.size).map fun j=>owner.getD j none:=by
  apply List.ext_getElem
  ·simp
  ·intro i h1 h2
   have hb:i<owner.size:=by simpa using h1
   rw[List.getElem_map,List.getElem_range,Array.getElem_toList,Array.getD,dif_pos hb]
   rfl
 conv=>rhs;rw[e]
 rw[List.filterMap_map]
 rfl
theorem laid_five {hs:Array Int} {f m:Nat} {led:Bool} (hn:hs.size≤5):∃ t' order,SetTable.laid 31 f m led true hs=some (t',order)∧t'.mask=31∧UpA t'.place∧t'.place.size=hs.size∧t'.dummies=#[]∧t'.led=led∧t'.plain=true ∧
 order.toList.Perm (List.range hs.size):=by
 obtain⟨owner,e,hz,hp⟩:=layClean_five hn
 refine⟨_,_,by unfold SetTable.laid;rw[e];rfl,rfl,?_,?_,rfl,rfl,rfl,?_⟩
 ·show ((List.range 32).filterMap fun j=>(owner.getD j none).map (j,·)).map (·.1) |>.toArray.toList.Pairwise (·<·)
  rw[List.map_filterMap]
  refine List.Pairwise.filterMap _ (R:=(·<·)) (fun a a' haa b hb b' hb'=>?_) List.pairwise_lt_range
  have g:∀ (x y:Nat),(Option.map (·.1) ((owner.getD x none).map fun k=>(x,k)))=some y→y=x:=fun x y q=>by
   cases ho:owner.getD x none with
   | none=>rw[ho]at q;cases q
   | some z=>rw[ho]at q;cases q;rfl
  rw[g _ _ hb,g _ _ hb'];exact haa
 ·show (((List.range 32).filterMap fun j=>(owner.getD j none).map (j,·)).map (·.1)).toArray.size=_
  have:=hp.length_eq
  rw[← getD_all hz,List.length_range]at this
  rw[List.size_toArray,List.length_map,← this]
  have g:∀ l:List Nat,(l.filterMap fun j=>(owner.getD j none).map fun k=>(j,k)).length=(l.filterMap fun j=>owner.getD j none).length:=by
   intro l
   induction l with
   | nil=>rfl
   | cons x l ih =>
    cases ho:owner.getD x none with
    | none=>rw[List.filterMap_cons_none (by rw[ho];rfl),List.filterMap_cons_none (f:=fun j=>owner.getD j none) (a:=x) ho,ih]
    | some z=>rw[List.filterMap_cons_some (b:=(x,z)) (by rw[ho];rfl),List.filterMap_cons_some (f:=fun j=>owner.getD j none) (a:=x) (b:=z) ho,List.length_cons,List.length_cons,ih]
  exact g _
 ·show (((List.range 32).filterMap fun j=>(owner.getD j none).map (j,·)).map (·.2)).toArray.toList.Perm _
  rw[List.map_filterMap]
  have g:(fun j=>Option.map (·.2) ((owner.getD j none).map fun k=>(j,k)))=fun j=>owner.getD j none:=by
   funext j
   cases owner.getD j none <;> rfl
  show (List.filterMap (fun j=>Option.map (·.2) ((owner.getD j none).map fun k=>(j,k))) (List.range 32)).Perm _
  rw[g,getD_all hz]
  exact hp
structure TabG (w:World) (t:SetTable) (n:Nat):Prop where
 plain:t.plain=true
 led:t.led=true∨w.params.followText "set-order"=true
 dum:t.dummies=#[]
 up:UpA t.place
 sz:t.place.size=n
 msk:(t.mask=7∧n≤4)∨(t.mask=31∧n≤18)
theorem TabG.fresh {w:World} {led:Bool} (h:led=true∨w.params.followText "set-order"=true):TabG w (.fresh 0 0 led) 0 :=
 ⟨rfl,h,rfl,.nil,rfl,.inl ⟨rfl,by decide⟩⟩
theorem TabG.full {w:World} {t:SetTable} {n:Nat} (T:TabG w t n):FullL t.mask:=by
 rcases T.msk with ⟨e,_⟩ | ⟨e,_⟩
 ·rw[e];exact full7
 ·rw[e];exact full31
theorem TabG.lay {w:World} {t:SetTable} {n:Nat} (T:TabG w t n) (es:Array (Int×Value)) (hn:es.size=n) (h:Int) (x:Value) :
 ∃ es' t',layNew t es h x=(es',t',false,false)∧t'.plain=true∧t'.led=t.led∧t'.dummies=#[]∧UpA t'.place∧t'.place.size=n+1∧t'.mask=t.mask:=by
 have hm:t.place.size≤t.mask:=by rw[T.sz];rcases T.msk with ⟨e,q⟩ | ⟨e,q⟩ <;> omega
 obtain⟨j,e,hs⟩:=freeSlot_some (h:=h) T.dum T.full hm
 have hz:(t.put j).1.place.size=n+1:=by
  show (SetTable.insertAt t.place (SetTable.below t.place j) j).size=n+1
  rw[← Array.length_toList,(SetTable.insertAt_perm ..).length_eq,Array.length_toList,Array.size_push,T.sz]
 have hd:(t.put j).1.dummies=#[]:=by
  show (if SetTable.has t.dummies j then _ else t.dummies)=#[]
  rw[T.dum,if_neg (by unfold SetTable.has;simp)]
 have hez:(SetTable.insertAt es (t.put j).2 (h,x)).size=n+1:=by
  rw[← Array.length_toList,(SetTable.insertAt_perm ..).length_eq,Array.length_toList,Array.size_push,hn]
 have hmk:(t.put j).1.mask=t.mask:=rfl
 have hf:(t.put j).1.fits (SetTable.insertAt es (t.put j).2 (h,x)).size=true:=by
  unfold SetTable.fits SetTable.fill
  rw[hez,hz,hd,hmk]
  rcases T.msk with ⟨e,q⟩ | ⟨e,q⟩
  ·rw[e];simp;omega
  ·rw[e];simp;omega
 refine⟨SetTable.insertAt es (t.put j).2 (h,x),(t.put j).1,?_,T.plain,rfl,hd,put_up T.up hs,hz,rfl⟩
 unfold layNew
 rw[e]
 dsimp only
 unfold SetTable.orStandIn
 rw[if_pos hf,hf]
 rfl
theorem relay_five {w:World} {t:SetTable} {es:Array (Int×Value)} (hz:es.size=5) (hp:t.plain=true) (hl:t.led=true∨w.params.followText "set-order"=true) :
 ∃ es' t',relayAll t es (SetTable.grown es.size)=(es',t',false)∧TabG w t' 5∧es'.size=5:=by
 have hh:(es.map (·.1)).size≤5:=by rw[Array.size_map,hz];decide
 obtain⟨t',order,e,a1,a2,a3,a4,a5,a6,a7⟩:=laid_five (f:=t.finger) (m:=t.movedTo 31) (led:=t.led) hh
 rw[Array.size_map,hz]at a3 a7
 have e2:t.relaid (es.map (·.1)) (SetTable.grown es.size)=some (t',order):=by
  unfold SetTable.relaid
  rw[hz,hp]
  exact e
 have hpm:=relayAll_perm t es (SetTable.grown es.size)
 have hcov:coversAll order es.size=true:=by unfold coversAll;rw[hz];exact List.isPerm_iff.mpr a7
 have hsz:(order.filterMap (es[·]?)).size=5:=by
  rw[← Array.length_toList,Array.toList_filterMap,(a7.filterMap _).length_eq,← hz,filterMap_getElem?_range,Array.length_toList]
 have hf:t'.fits (order.filterMap (es[·]?)).size=true:=by
  unfold SetTable.fits SetTable.fill
  rw[hsz,a3,a4,a1];rfl
 refine⟨order.filterMap (es[·]?),t',?_,⟨a6,by rw[a5];exact hl,a4,a2,a3,.inr ⟨a1,by decide⟩⟩,hsz⟩
 unfold relayAll
 rw[e2]
 dsimp only
 rw[hcov,hf]
 rfl
end L2
namespace L2
open PySem PySem.Spec PyProof.Rows
section
variable {prog:Program} {w:World} {A:Around} {E:Value→Shared→Prop} {s:Shared}
noncomputable def SetG (prog:Program) (w:World) (h:Heap) (a:Addr) (S:Int→Bool) (n:Nat):Prop :=
 ∃ o es ep t,h.get? a=some o∧o.ExactSet∧o.data=.set es ep t∧ElemsOf (intKind prog w) es.toList∧(∀ k,S k=true↔∃ e∈es.toList,(intKind prog w).is k e.2=true)∧es.size=n∧TabG w t n
theorem TabG.le {t:SetTable} {n:Nat} (T:TabG w t n):n≤18:=by rcases T.msk with ⟨_,q⟩ | ⟨_,q⟩ <;> omega
theorem TabG.fits {t:SetTable} {n:Nat} (T:TabG w t n):t.fits n=true:=by
 unfold SetTable.fits SetTable.fill
 rw[T.sz,T.dum]
 rcases T.msk with ⟨e,q⟩ | ⟨e,q⟩ <;> (rw[e];simp;omega)
theorem SetG.congr {h:Heap} {a:Addr} {S S':Int→Bool} {n n':Nat} (hS:SetG prog w h a S n) (e:∀ k,S k=S' k) (en:n=n'):SetG prog w h a S' n':=by
 have:S=S':=funext e
 subst this;subst en;exact hS
theorem SetG.at' {h h':Heap} {a:Addr} {S:Int→Bool} {n:Nat} (hS:SetG prog w h a S n) (k:∀ o,h.get? a=some o→h'.get? a=some o):SetG prog w h' a S n:=by
 obtain⟨o,es,ep,t,h1,r⟩:=hS
 exact⟨o,es,ep,t,k _ h1,r⟩
theorem storeG {h:Heap} {a:Addr} {o:Obj} {es:Array (Int×Value)} {ep:Nat} {t:SetTable} (ho:h.get? a=some o) (hd:o.data=.set es ep t) (es':Array (Int×Value)) (t':SetTable) :
 (h.update a (Obj.putSet es' t')).get? a=some { o with data:=.set es' (ep+1) t' }:=by
 have:=Heap.get?_update_self (Obj.putSet es' t') ho (by rw[putSet_of es' t' hd];rfl)
 rw[putSet_of es' t' hd]at this;exact this
theorem addG {a:Addr} {S:Int→Bool} {n:Nat} {k:Int} {tk:Tok} {Q:Bool→Shared→Prop} (hS:SetG prog w s.heap a S n) (hroom:S k=true∨n+1≤18)
 (h:∀ h',Heap.SameBut a s.heap h'→SetG prog w h' a (fun k'=>S k' || decide (k'=k)) (if S k then n else n+1)→Q (!S k) { s with heap:=h' }) :
 wpAny (model prog w) A (setAddHashed a (.int k tk) (hashInt k)) Q E s:=by
 obtain⟨o,es,ep,t,ho,hex,hd,hel,hmem,hn,T⟩:=hS
 have hkey:(intKind prog w).is k (.int k tk)=true:=intKind_is _ _ _ _
 have hf:t.fits es.size=true:=by rw[hn];exact T.fits
 have hsb:scanBound=4096:=rfl
 have h18:=T.le
 have hb:es.size<scanBound:=by omega
 show wpAny (model prog w) A (setAddHashed a (.int k tk) ((intKind prog w).hash k)) Q E s
 unfold setAddHashed setAddHashedIn
 refine wpAny_holding (wpAny_bind (wpAny_setState_of ho hd hf ?_))
 dsimp only
 rw[byScan_of (knd:=intKind prog w) rfl hb hel]
 simp only[↓reduceIte]
 unfold setAddByScan
 refine wpAny_bind ?_
 refine wpAny_bind (wpAny_rule ?_)
 refine wpAny_bind (wpAny_setScan_of hkey ho hd hf hel ?_)
 cases hr:List.findIdx? (fun e=>(intKind prog w).is k e.2) es.toList with
 | some j =>
  dsimp only
  obtain⟨hj,hpj,_⟩:=List.findIdx?_eq_some_iff_getElem.mp hr
  have hSk:S k=true:=(hmem k).mpr ⟨es.toList[j],List.getElem_mem hj,hpj⟩
  refine wpAny_pure (wpAny_pure ?_)
  have e:s={ s with heap:=s.heap }:=by cases s;rfl
  have:=h s.heap (Heap.SameBut.refl a s.heap) ⟨o,es,ep,t,ho,hex,hd,hel,fun k'=>by
   rw[Bool.or_eq_true,decide_eq_true_eq,← hmem k']
   exact⟨fun hk=>hk.elim id (fun e=>e ▸ hSk),.inl⟩,by rw[hSk];exact hn,by rw[hSk];exact T⟩
  rw[hSk]at this;rw[e];exact this
 | none =>
  dsimp only
  have hSk:S k=false:=by
   cases hk:S k with
   | false=>rfl
   | true=>obtain⟨e,he,hp⟩:=(hmem k).mp hk;have:=List.findIdx?_eq_none_iff.mp hr e he;rw[hp]at this;exact Bool.noConfusion this
  have hroom:n+1≤18:=hroom.resolve_left (by rw[hSk];exact Bool.false_ne_true)
  have hperm:=layNew_perm t es ((intKind prog w).hash k) (.int k tk)
  obtain⟨es1,t1,eL,p1,p2,p3,p4,p5,p6⟩:=T.lay es hn ((intKind prog w).hash k) (.int k tk)
  rw[eL]at hperm ⊢
  dsimp only at hperm ⊢
  rw[Array.toList_push]at hperm
  have hel1:ElemsOf (intKind prog w) es1.toList:=(hel.push hkey rfl).perm hperm
  have hmem1:∀ k',(S k' || decide (k'=k))=true↔∃ e∈es1.toList,(intKind prog w).is k' e.2=true:=mem_push_iff hkey hmem hperm
  have hsz1:es1.size=n+1:=by rw[← Array.length_toList,hperm.length_eq,List.length_append,Array.length_toList,hn];rfl
  have hl:t1.led=true∨w.params.followText "set-order"=true:=by rw[p2];exact T.led
  have hend:∀ h',Heap.SameBut a s.heap h'→SetG prog w h' a (fun k'=>S k' || decide (k'=k)) (n+1)→Q true { s with heap:=h' }:=by
   intro h' hsb hS';have:=h h' hsb;rw[hSk]at this;exact this hS'
  refine wpAny_bind (wpAny_pure ?_)
  rw[p1]
  simp only[↓reduceIte]
  rw[hashByValue_scannable 8 (x:=.int k tk) rfl]
  refine wpAny_bind (wpAny_pure ?_)
  have hpk:plainKind (.int k tk)=true:=rfl
  rw[hpk]
  simp only[↓reduceIte]
  refine wpAny_bind (wpAny_storeSet_of ho hd ?_ (fits_of_scanBound (by omega)))
  have ho1:=storeG ho hd es1 t1
  have hsb1:=Heap.SameBut.update s.heap a (Obj.putSet es1 t1)
  have hfill:t1.fill=n+1:=by unfold SetTable.fill;rw[p5,p3];rfl
  rcases Nat.lt_or_ge t1.mask 8 with q | q
  ·have hm7:t.mask=7:=by rcases T.msk with ⟨e,_⟩ | ⟨e,_⟩;exact e;omega
   have hn4:n≤4:=by rcases T.msk with ⟨e,q4⟩ | ⟨e,_⟩;exact q4;omega
   rcases Nat.lt_or_ge n 4 with z | z
   ·have htf:(!false && t1.tooFull)=false:=by
     unfold SetTable.tooFull;rw[hfill,p6,hm7];simp;omega
    rw[htf]
    simp only[Bool.false_eq_true,↓reduceIte]
    refine wpAny_pure (wpAny_pure ?_)
    exact hend _ hsb1 ⟨_,es1,ep+1,t1,ho1,hex,rfl,hel1,hmem1,hsz1,⟨p1,hl,p3,p4,p5,.inl ⟨by rw[p6,hm7],by omega⟩⟩⟩
   ·have hn4':n=4:=by omega
    subst hn4'
    have htf:(!false && t1.tooFull)=true:=by
     unfold SetTable.tooFull;rw[hfill,p6,hm7];rfl
    rw[htf]
    simp only[↓reduceIte]
    have hp:=relayAll_perm t1 es1 (SetTable.grown es1.size)
    obtain⟨es2,t2,eR,T2,hz2⟩:=relay_five (w:=w) hsz1 p1 hl
    rw[eR]at hp ⊢
    dsimp only at hp ⊢
    refine wpAny_bind (wpAny_pure ?_)
    refine wpAny_bind (wpAny_storeSet_of ho1 rfl ?_ (fits_of_scanBound (by omega)))
    have ho2:=storeG ho1 rfl es2 t2
    refine wpAny_pure (wpAny_pure ?_)
    exact hend _ (hsb1.trans (Heap.SameBut.update _ a _)) ⟨_,es2,ep+1+1,t2,ho2,hex,rfl,hel1.perm hp,
     fun k'=>(hmem1 k').trans ⟨fun⟨e,he,q⟩=>⟨e,hp.mem_iff.mpr he,q⟩,fun⟨e,he,q⟩=>⟨e,hp.mem_iff.mp he,q⟩⟩,hz2,T2⟩
  ·have hm31:t.mask=31:=by rcases T.msk with ⟨e,_⟩ | ⟨e,_⟩;omega;exact e
   have htf:(!false && t1.tooFull)=false:=by
    unfold SetTable.tooFull;rw[hfill,p6,hm31];simp;omega
   rw[htf]
   simp only[Bool.false_eq_true,↓reduceIte]
   refine wpAny_pure (wpAny_pure ?_)
   exact hend _ hsb1 ⟨_,es1,ep+1,t1,ho1,hex,rfl,hel1,hmem1,hsz1,⟨p1,hl,p3,p4,p5,.inr ⟨by rw[p6,hm31],hroom⟩⟩⟩
end
end L2
namespace L2
open PySem PySem.Spec PyProof.Rows
theorem firstMet_mono (val:Nat→Int) {i:Nat}:∀ {n:Nat},i≤n→(firstMet val i).length≤(firstMet val n).length
 | 0,h=>by have:i=0:=by omega
           rw[this];exact Nat.le_refl _
 | n+1,h=>by
  rcases Nat.lt_or_ge n i with q | q
  ·have:i=n+1:=by omega
   rw[this];exact Nat.le_refl _
  ·have:=firstMet_mono val q
   rw[firstMet_succ,step_length]
   split <;> omega
section
variable {prog:Program} {w:World} {A:Around} {R:Result→Shared→Prop} {I:Addr} {fp wr:List Addr} {G:Array GenState→Array GenState→Prop} {n:Nat} {P:Nat→Value→Prop} {St:Nat→Shared→Prop}
theorem set_loopG (W:WalksS prog w A.in1 I fp wr G n P St) (S:Addr) (hSf:S∉fp)
 (val:Nat→Int) (hval:∀ i v,P i v→∃ t,v=.int (val i) t) (hb:(firstMet val n).length≤18) :
 ∀ (k i:Nat) (s:Shared),n - i=k→i≤n→St i s →
  SetG prog w s.heap S (fun k'=>(firstMet val i).any (· == k')) (firstMet val i).length →
  (∀ s',Moved (S :: wr) G s s'→SetG prog w s'.heap S (fun k'=>(firstMet val n).any (· == k')) (firstMet val n).length→R (.ok (.ret .none)) s') →
  codeAny (model prog w) A (.builtin "set.update.loop" ⟨[.ref S,.ref I],[]⟩) R s:=by
 have hSw:S∉wr:=fun h=>hSf (W.sub _ h)
 have hsub:∀ b∈wr,b∈S :: wr:=fun b hb=>List.mem_cons_of_mem _ hb
 intro k
 induction k with
 | zero =>
  intro i s hk hi hst hS hR
  have hin:i=n:=by omega
  subst hin
  refine codeAny_builtin PyProof.Rows.F.entry_set_update_loop ?_
  rw[Around.under_plainId PyProof.Rows.F.plain_set_update_loop _]
  show wpAny _ A.in1 (pyNext (.ref I) >>= _) _ _ s
  refine wpAny_bind (W.done s _ _ hst fun s' hm=>?_)
  show wpAny _ A.in1 (ret Value.none) _ _ s'
  exact wpAny_pure (hR s' (hm.mono hsub) (hS.at' fun o e=>hm.heap S _ hSw e))
 | succ k ih =>
  intro i s hk hi hst hS hR
  have hlt:i<n:=by omega
  refine codeAny_builtin PyProof.Rows.F.entry_set_update_loop ?_
  rw[Around.under_plainId PyProof.Rows.F.plain_set_update_loop _]
  show wpAny _ A.in1 (pyNext (.ref I) >>= _) _ _ s
  refine wpAny_bind (W.item i s _ _ hlt hst fun v s' hP hst' hm=>?_)
  obtain⟨t,rfl⟩:=hval i v hP
  have hS':=hS.at' (h':=s'.heap) fun o e=>hm.heap S _ hSw e
  show wpAny _ A.in1 (holding [Value.int (val i) t] (setAdd S (.int (val i) t)) >>= _) _ _ s'
  refine wpAny_bind (wpAny_holding ?_)
  unfold setAdd
  refine wpAny_holding ?_
  refine wpAny_bind ((intKind prog w).pyHash (k:=val i) (intKind_is _ _ _ _) ?_)
  have hm1:=firstMet_mono val (show i+1≤n from hlt)
  have hroom:(firstMet val i).any (· == val i)=true∨(firstMet val i).length+1≤18:=by
   by_cases q:(firstMet val i).any (· == val i)=true
   ·exact .inl q
   ·right
    rw[firstMet_succ,step_length,if_neg q]at hm1
    omega
  refine addG (s:={ s' with toks:=s'.toks+1 }) hS' hroom fun h' hsb hS2=>?_
  have hSi:SetG prog w h' S (fun k'=>(firstMet val (i+1)).any (· == k')) (firstMet val (i+1)).length :=
   hS2.congr (fun k'=>by rw[firstMet_succ,step_any]) (by rw[firstMet_succ,step_length])
  refine wpAny_pure ⟨plainId_quiet PyProof.Rows.F.plain_set_update_loop _,ih (i+1) _ (by omega) hlt (W.frame _ s' _ _ hst' (Nat.le_succ _) fun b hb o e=>?_) hSi fun s'' hm'' hS''=>?_⟩
  ·rw[hsb.2 b (fun h:b=S=>hSf (by rw[← h];exact hb))];exact e
  ·refine hR s'' (Moved.trans W.gtrans ((hm.mono hsub).then_heap (Nat.le_succ _) fun b o hb e=>?_) hm'') hS''
   rw[hsb.2 b (fun h:b=S=>hb (by rw[h];exact List.mem_cons_self))];exact e
end
section
variable {prog:Program} {w:World} {A:Around} {E:Value→Shared→Prop} {s:Shared}
noncomputable def freshG (w:World):Obj:={ cls:=.type "set",dict:=none,data:=.set #[] 0 (.fresh 0 0 (!w.params.followText "set-order")) }
theorem set_newG (a:Value) {Q₁:Value→Shared→Prop}
 (h:Q₁ (.ref s.heap.objs.size) { s with heap:=s.heap.push (freshG w) }) :
 codeAny (model prog w) A (.call (.builtin "set.__new__") ⟨[.type "set",a],[]⟩) (wants Q₁ E) s:=by
 refine codeAny_of_tree ?_
 show wpAny _ A.in1 (do checkBuiltinCall "set.__new__" ⟨[.type "set",a],[]⟩;again (.builtin "set.__new__" ⟨[.type "set",a],[]⟩)) _ _ s
 refine wpAny_bind (wpAny_of_eq (PySem.F.newCall_set_1 a) (wpAny_pure ⟨plainId_quiet PySem.F.plain_set_new _,codeAny_builtin PySem.F.entry_set_new ?_⟩))
 rw[Around.under_plainId PySem.F.plain_set_new _]
 unfold Builtin.«set.__new__» Builtin.Frozenset.newClass
 have hsub:=sub_set_self
 obtain⟨hp,g,d,tk,os⟩:=s
 dsimp only
 wp_walk
 refine wpAny_askSetting (wpAny_pure ?_)
 dsimp only
 simp only[newObj]
 refine wpAny_bind (wpAny_alloc (wpAny_pure ?_))
 exact wpAny_pure h
theorem fresh_setG {h:Heap} {a:Addr} (e:h.get? a=some (freshG w)):SetG prog w h a (fun _=>false) 0 :=
 ⟨_,#[],0,_,e,⟨rfl,rfl,rfl⟩,rfl,fun e he=>by simp at he,fun k=>by simp,rfl,.fresh (by cases w.params.followText "set-order";exact .inl rfl;exact .inr rfl)⟩
theorem call_setG {l:Addr} {items:Array Value} {ns:List Int} {Q:Value→Shared→Prop}
 (hh:A.handled=none) (hl:s.heap.IsList l items) (hi:IntsAre items.toList ns) (hb:(firstMet (fun i=>ns.getD i 0) items.size).length≤18)
 (h:∀ (h':Heap) (tk:Nat),SetG prog w h' s.heap.objs.size (fun k'=>(firstMet (fun i=>ns.getD i 0) items.size).any (· == k')) (firstMet (fun i=>ns.getD i 0) items.size).length →
  (∀ b o,b<s.heap.objs.size→s.heap.get? b=some o→h'.get? b=some o)→Q (.ref s.heap.objs.size) { s with heap:=h',toks:=tk }) :
 wpAny (model prog w) A (call (.type "set") [.ref l]) Q E s:=by
 obtain⟨c,tl,hmro⟩:=PySem.F.called_set.mro
 have hmade:=PySem.F.called_set.made
 have hsub:=PySem.F.called_set.sub
 refine wpAny_call (codeAny_of_tree ?_)
 show wpAny _ _ (callAny (.type "set") _) _ _ _
 refine wpAny_pure ⟨Code.quiet_builtin _ (by decide +kernel),codeAny_builtin PySem.F.entry_type_call ?_⟩
 rw[Around.under_plain (weight_type_call_type "set" [.ref l] []) rfl]
 have h1:=PySem.F.called_set.notType
 have h2:=PySem.F.called_set.canCreate
 have hct:=PySem.F.typeCall_set_1 (.ref l)
 repeat (any_goals (first | assumption | wp_step))
 refine codeAny_mono (set_newG (.ref l) (E:=E) (Q₁:=fun obj s₁=>obj=.ref s.heap.objs.size∧s₁={ s with heap:=s.heap.push (freshG w) }) ⟨rfl,rfl⟩) fun r s₁ hr=>?_
 cases r with
 | error e=>exact hr
 | ok fl =>
  cases fl with
  | ret obj =>
   obtain⟨rfl,rfl⟩:=hr
   have hS:(s.heap.push (freshG w)).get? s.heap.objs.size=some (freshG w):=Heap.get?_push_size _ rfl
   have hT:Shared.TypeIs { s with heap:=s.heap.push (freshG w) } (.ref s.heap.objs.size) "set":=⟨_,hS,rfl⟩
   have hli:=PySem.F.called_set.init.lookup
   have hbi:=PySem.F.called_set.init.bind (.ref s.heap.objs.size)
   repeat (any_goals (first | assumption | wp_step))
   refine codeAny_mono (codeAny_call_builtin (R:=wants (fun r s₂=>r=.none∧∃ h' tk,s₂={ s with heap:=h',toks:=tk } ∧
    SetG prog w h' s.heap.objs.size (fun k'=>(firstMet (fun i=>ns.getD i 0) items.size).any (· == k')) (firstMet (fun i=>ns.getD i 0) items.size).length ∧
    (∀ b o,b<s.heap.objs.size→s.heap.get? b=some o→h'.get? b=some o)) E) PySem.F.called_set.init.plain PySem.F.entry_set_init (check_set_init_1 hT ?_)) fun r₂ s₂ hr₂=>?_
   ·obtain⟨ol,hol,hcl,nl,hdl⟩:=hl
    obtain⟨ocls,odict,odata,oslots⟩:=ol
    simp only at hcl hdl
    subst hcl;subst hdl
    have hol':(s.heap.push (freshG w)).get? l=some { cls:=.type "list",dict:=odict,data:=.seq items nl,slots:=oslots }:=Heap.get?_push_of_some _ hol
    have hsls:=PySem.F.sub_list_set
    have hslf:=PySem.F.sub_list_frozenset
    have hne:(Value.type "list" == Value.type "dict")=false:=by decide
    have hl1:(s.heap.push (freshG w)).IsList l items:=⟨_,hol',rfl,nl,rfl⟩
    unfold Builtin.«set.__init__» noKeywords Builtin.Frozenset.updateFrom
    generalize hPI:pyIter=PI
    wp_walk
    subst hPI
    refine wpAny_pyIter_list hl1 ?_
    refine wpAny_bind (wpAny_runValue ?_)
    have hlS:l<s.heap.objs.size:=Heap.lt_size hol
    have hh3:A.in1.in1.in1.handled=none:=by simp[hh]
    have hneI:l≠(s.heap.push (freshG w)).objs.size:=by
     rw[Heap.size_push];exact Nat.ne_of_lt (Nat.lt_succ_of_lt hlS)
    have hSf:s.heap.objs.size∉[(s.heap.push (freshG w)).objs.size,l]:=by
     rw[Heap.size_push];simp only[List.mem_cons,List.mem_singleton,List.not_mem_nil,or_false,not_or]
     exact⟨Nat.ne_of_lt (Nat.lt_succ_self _),Nat.ne_of_gt hlS⟩
    have hval:∀ (i:Nat) (v:Value),items[i]?=some v→∃ t,v=.int ((fun i=>ns.getD i 0) i) t:=fun i v hv =>
     PyProof.Rows.IntsAre.int_at hi i v (by rw[Array.getElem?_toList];exact hv)
    refine set_loopG ((Walks.list hh3 _ l hneI items).toS) s.heap.objs.size
     hSf (fun i=>ns.getD i 0) hval hb (items.size - 0) 0 _ (by omega) (Nat.zero_le _)
     ⟨⟨_,Heap.get?_push_size _ rfl,rfl,rfl⟩,(hl1.push _)⟩ ?hS0 ?hR
    case hS0 =>
     exact(fresh_setG (prog:=prog) (Heap.get?_push_of_some _ hS)).congr (fun _=>rfl) rfl
    case hR =>
     intro s' hm hS'
     obtain⟨h',g',d',tk',os'⟩:=s'
     have eg:g'=s.gens:=hm.gens
     have ed:d'=s.drawn:=hm.drawn
     have eo:os'=s.os:=hm.os
     subst eg;subst ed;subst eo
     show wpAny _ _ _ _ _ _
     refine wpAny_pure ?_
     show wpAny _ _ (ret Value.none) _ _ _
     refine wpAny_pure ⟨rfl,h',tk',rfl,hS',fun b o hb e=>?_⟩
     have hb1:b≠s.heap.objs.size:=Nat.ne_of_lt hb
     have hb2:b≠(s.heap.push (freshG w)).objs.size:=by
      rw[Heap.size_push];exact Nat.ne_of_lt (Nat.lt_succ_of_lt hb)
     exact hm.heap b o (by simp only[List.mem_cons,List.mem_singleton,List.not_mem_nil,or_false,not_or];exact⟨hb1,hb2⟩) (Heap.get?_push_of_some _ (Heap.get?_push_of_some _ e))
   ·cases r₂ with
    | error e=>exact hr₂
    | ok fl₂ =>
     cases fl₂ with
     | ret r =>
      obtain⟨rfl,h',tk,rfl,hS',hk'⟩:=hr₂
      repeat (any_goals (first | assumption | wp_step))
      exact h _ _ hS' hk'
     | _=>exact hr₂.elim
  | _=>exact hr.elim
end
end L2
namespace L2
open PySem PySem.Spec PyProof.Rows
theorem pick_go {α:Type} (next:Nat→Nat):∀ (fuel k:Nat) (left:List α) (out:Array α),left.length=fuel→(pickOrder.go next fuel k left out).toList.Perm (out.toList++left)
 | 0,k,left,out,h=>by
  have:left=[]:=List.eq_nil_of_length_eq_zero h
  subst this
  rw[pickOrder.go,List.append_nil]
 | fuel+1,k,left,out,h=>by
  rw[pickOrder.go]
  have hl:next k % left.length<left.length:=Nat.mod_lt _ (by omega)
  rw[List.getElem?_eq_getElem hl]
  dsimp only
  refine(pick_go next fuel (k+1) _ _ (by rw[List.length_eraseIdx,if_pos hl];omega)).trans ?_
  rw[Array.toList_push,List.append_assoc]
  refine List.Perm.append_left _ ?_
  rw[List.singleton_append]
  rw[List.eraseIdx_eq_take_drop_succ]
  refine List.perm_middle.symm.trans ?_
  rw[List.getElem_cons_drop,List.take_append_drop]
theorem pick_perm {α:Type} (next:Nat→Nat) (xs:Array α):(pickOrder next xs).toList.Perm xs.toList:=by
 unfold pickOrder
 have:=pick_go next xs.size 0 xs.toList #[] (by simp)
 simpa using this
theorem slot_seti_next:Slot "set_iterator" "__next__" "set_iterator.__next__" :=
 .of (owner:="set_iterator") (n:="__next__") (by rw[typeLookup_type,builtinLookup_eq_fast];kernel_rfl) (by decide +kernel) (by decide +kernel) (by decide +kernel)
  (by first | exact .inl (by decide +kernel) | exact .inr (by decide +kernel)) (by rw[isSubtype_type];kernel_rfl)
theorem slot_seti_iter:Slot "set_iterator" "__iter__" "set_iterator.__iter__" :=
 .of (owner:="set_iterator") (n:="__iter__") (by rw[typeLookup_type,builtinLookup_eq_fast];kernel_rfl) (by decide +kernel) (by decide +kernel) (by decide +kernel)
  (by first | exact .inl (by decide +kernel) | exact .inr (by decide +kernel)) (by rw[isSubtype_type];kernel_rfl)
theorem entry_seti_next:entryFor table "set_iterator.__next__"=some Builtin.«set_iterator.__next__»:=entryFor_of_tree (by kernel_rfl)
theorem entry_seti_iter:entryFor table "set_iterator.__iter__"=some Builtin.«dict_keyiterator.__iter__» :=
 entryFor_alias (id':="dict_keyiterator.__iter__") (by kernel_rfl) rfl (by decide +kernel) (by kernel_rfl)
theorem entry_set_iterG:entryFor table "set.__iter__"=some Builtin.«frozenset.__iter__» :=
 entryFor_alias (id':="frozenset.__iter__") (by kernel_rfl) rfl (by decide +kernel) (by kernel_rfl)
theorem owner_seti:Manifest.owners.lookup (String.ofList ['r','o','t','a','r','e','t','i','_','t','e','s'].reverse)=some Manifest.sig_set_iterator:=by kernel_rfl
theorem args_seti_next (a:Value):argsOk "set_iterator.__next__" ⟨[a],[]⟩:=by
 unfold argsOk;rw[signature?_of (id:="set_iterator.__next__") (n:=['_','_','t','x','e','n','_','_']) (o:=['r','o','t','a','r','e','t','i','_','t','e','s']) (by kernel_rfl) owner_seti];kernel_rfl
theorem args_seti_iter (a:Value):argsOk "set_iterator.__iter__" ⟨[a],[]⟩:=by
 unfold argsOk;rw[signature?_of (id:="set_iterator.__iter__") (n:=['_','_','r','e','t','i','_','_']) (o:=['r','o','t','a','r','e','t','i','_','t','e','s']) (by kernel_rfl) owner_seti];kernel_rfl
section
variable {prog:Program} {w:World} {A:Around} {E:Value→Shared→Prop} {s:Shared}
noncomputable def SetAt (w:World) (h:Heap) (d:Addr) (es:Array (Int×Value)) (ep:Nat) (t:SetTable):Prop :=
 ∃ o,h.get? d=some o∧o.ExactSet∧o.data=.set es ep t∧TabG w t es.size
noncomputable def IsSetIter (h:Heap) (it d:Addr) (slot i n ep:Nat):Prop :=
 ∃ o,h.get? it=some o∧o.cls=.type "set_iterator"∧o.data=.fields #[.int slot 0,.int i 0,.ref d,.int n 0,.int ep 0]
noncomputable def ordS (w:World) (d:Addr) (es:Array (Int×Value)) (ep:Nat):Array (Int×Value):=if w.params.followText "set-order"=true then pickOrder (w.params.setOrder d ep) es else es
theorem ordS_perm (w:World) (d:Addr) (es:Array (Int×Value)) (ep:Nat):(ordS w d es ep).toList.Perm es.toList:=by
 unfold ordS;split;exact pick_perm _ _;exact .rfl
noncomputable def SlotAt (w:World) (t:SetTable) (slot i:Nat):Prop:=w.params.followText "set-order"=true∨((∀ k a,k<i→t.place[k]?=some a→a<slot)∧(∀ k a,i≤k→t.place[k]?=some a→slot≤a))
theorem SetAt.typeIs {d:Addr} {es:Array (Int×Value)} {ep:Nat} {t:SetTable} (x:SetAt w s.heap d es ep t):s.TypeIs (.ref d) "set":=let ⟨o,ho,hx,_⟩:=x;⟨o,ho,hx.1⟩
theorem SetAt.at' {h h':Heap} {d:Addr} {es:Array (Int×Value)} {ep:Nat} {t:SetTable} (x:SetAt w h d es ep t) (k:∀ o,h.get? d=some o→h'.get? d=some o):SetAt w h' d es ep t:=let ⟨o,ho,r⟩:=x;⟨o,k _ ho,r⟩
theorem IsSetIter.typeIs {it d:Addr} {slot i n ep:Nat} (x:IsSetIter s.heap it d slot i n ep):s.TypeIs (.ref it) "set_iterator":=let ⟨o,ho,hc,_⟩:=x;⟨o,ho,hc⟩
theorem wpAny_byText {Q:Bool→Shared→Prop} (h:Q (w.params.followText "set-order") s):wpAny (model prog w) A setsByText Q E s:=by
 unfold setsByText
 exact wpAny_bind (wpAny_askSetting (wpAny_pure h))
theorem iter_set {d:Addr} {es:Array (Int×Value)} {ep:Nat} {t:SetTable} {Q:Value→Shared→Prop} (hs:SetAt w s.heap d es ep t)
 (hQ:Q (.ref s.heap.objs.size) { s with heap:=s.heap.push { cls:=.type "set_iterator",data:=.fields #[.int 0 0,.int 0 0,.ref d,.int es.size 0,.int ep 0] } }) :
 wpAny (model prog w) A (pyIter (.ref d)) Q E s:=by
 obtain⟨o,ho,hx,hd,T⟩:=id hs
 refine wpAny_pyIter_slot hs.typeIs PySem.F.slot_set_iter (wpAny_call_entry PySem.F.slot_set_iter hs.typeIs entry_set_iterG ?_ (PySem.F.args_set_iter_1 _))
 unfold Builtin.«frozenset.__iter__»
 refine wpAny_bind (wpAny_pure ?_)
 refine wpAny_bind ?_
 unfold Builtin.Frozenset.sizeOf
 refine wpAny_bind (wpAny_setEntries_of ho hd T.fits (wpAny_pure ?_))
 refine wpAny_bind ?_
 unfold setDrawn
 refine wpAny_bind (wpAny_setState_of ho hd T.fits ?_)
 refine wpAny_bind (wpAny_byText (wpAny_pure ?_))
 have e:(!w.params.followText "set-order" && (!t.plain && decide (es.size > 1)))=false:=by rw[T.plain];simp
 show wpAny _ _ (if (!w.params.followText "set-order" && (!t.plain && decide (es.size > 1)))=true then _ else _) _ _ s
 rw[e]
 simp only[Bool.false_eq_true,↓reduceIte]
 refine wpAny_bind (wpAny_pure ?_)
 refine wpAny_bind (wpAny_setEpoch_of ho hd T.fits ?_)
 refine wpAny_bind ?_
 refine wpAny_newObj_type (wpAny_pure ⟨_,rfl,"set_iterator",_,⟨_,Heap.get?_push_size _ rfl,rfl⟩,slot_seti_next.lookup,?_⟩)
 exact hQ
theorem iter_self {it d:Addr} {slot i n ep:Nat} {Q:Value→Shared→Prop} (hit:IsSetIter s.heap it d slot i n ep) (h:Q (.ref it) s):wpAny (model prog w) A (pyIter (.ref it)) Q E s:=by
 refine wpAny_pyIter_slot hit.typeIs slot_seti_iter (wpAny_call_entry slot_seti_iter hit.typeIs entry_seti_iter ?_ (args_seti_iter _))
 show wpAny _ _ (ret (.ref it)) _ _ s
 exact wpAny_pure ⟨_,rfl,"set_iterator",_,hit.typeIs,slot_seti_next.lookup,h⟩
theorem setNext_at {d:Addr} {es:Array (Int×Value)} {ep slot i:Nat} {t:SetTable} {Q:Option (Value×Nat)→Shared→Prop} (hs:SetAt w s.heap d es ep t) (hS:SlotAt w t slot i)
 (h:∀ slot',SlotAt w t slot' (i+1)→Q (((ordS w d es ep)[i]?).map fun e=>(e.2,slot')) s):wpAny (model prog w) A (setNext d slot i ep) Q E s:=by
 obtain⟨o,ho,hx,hd,T⟩:=id hs
 unfold setNext
 refine wpAny_bind (wpAny_setState_of ho hd T.fits ?_)
 refine wpAny_bind (wpAny_byText ?_)
 dsimp only
 by_cases q:w.params.followText "set-order"=true
 ·rw[if_pos q]
  rw[if_neg (by simp)]
  refine wpAny_bind ?_
  unfold setWalk
  refine wpAny_bind (wpAny_setState_of ho hd T.fits ?_)
  refine wpAny_bind (wpAny_byText ?_)
  rw[if_pos q]
  refine wpAny_bind (wpAny_askSetting (wpAny_pure (wpAny_pure ?_)))
  have:=h slot (.inl q)
  unfold ordS at this
  rw[if_pos q]at this
  exact this
 ·rw[if_neg q]
  have e:(!t.plain && decide (es.size > 1))=false:=by rw[T.plain];rfl
  show wpAny _ _ (if (!t.plain && decide (es.size > 1))=true then _ else _) _ _ s
  rw[e]
  simp only[Bool.false_eq_true,↓reduceIte]
  have hl:t.led=true:=T.led.resolve_right q
  refine wpAny_bind ?_
  show wpAny _ _ (if (!t.led && !es.isEmpty)=true then _ else _) _ _ s
  rw[hl]
  simp only[Bool.not_true,Bool.false_and,Bool.false_eq_true,↓reduceIte]
  refine wpAny_pure ?_
  obtain⟨hS1,hS2⟩:=hS.resolve_left q
  have hz:=T.sz
  have hord:ordS w d es ep=es:=by unfold ordS;rw[if_neg q]
  rcases Nat.lt_or_ge i es.size with z | z
  ·have eb:SetTable.below t.place slot=i:=below_eq T.up (by omega) hS1 hS2
   rw[eb]
   have hp:t.place[i]?=some t.place[i]:=Array.getElem?_eq_getElem (by omega)
   have he:es[i]?=some es[i]:=Array.getElem?_eq_getElem z
   rw[hp,he]
   have:=h (t.place[i]+1) (.inr ⟨fun k a hk ha=>?_,fun k a hk ha=>?_⟩)
   ·rw[hord,he]at this
    exact wpAny_pure this
   ·rcases Nat.lt_or_ge k i with y | y
    ·have:=T.up.lt y ha hp;omega
    ·have:k=i:=by omega
     subst this
     rw[hp]at ha;cases ha;omega
   ·have:=T.up.lt (show i<k by omega) hp ha;omega
  ·have eb:SetTable.below t.place slot=es.size:=below_eq T.up (by omega) (fun k a hk ha=>hS1 k a (by omega) ha) (fun k a hk ha=>by
    have:=(Array.getElem?_eq_some_iff.mp ha).1;omega)
   rw[eb]
   have he:es[es.size]?=none:=Array.getElem?_eq_none (Nat.le_refl _)
   rw[he]
   have:=h 0
   have hno:(ordS w d es ep)[i]?=none:=by rw[hord];exact Array.getElem?_eq_none z
   have:=h (if _h:es.size=0 then slot else t.place[es.size - 1]!+1+slot) (.inr ⟨fun k a hk ha=>?_,fun k a hk ha=>?_⟩)
   ·rw[hno]at this
    exact wpAny_pure this
   ·have hk2:=(Array.getElem?_eq_some_iff.mp ha).1
    have:=hS1 k a (by omega) ha
    split <;> omega
   ·have:=(Array.getElem?_eq_some_iff.mp ha).1;omega
end
end L2
namespace L2
open PySem PySem.Spec PyProof.Rows
section
variable {prog:Program} {w:World} {A:Around} {E:Value→Shared→Prop} {s:Shared}
theorem next_set {it d:Addr} {slot i ep:Nat} {es:Array (Int×Value)} {t:SetTable} {x:Value} {hx:Int} {Q:Option Value→Shared→Prop} (hne:d≠it) (hit:IsSetIter s.heap it d slot i es.size ep)
 (hs:SetAt w s.heap d es ep t) (hS:SlotAt w t slot i) (he:(ordS w d es ep)[i]?=some (hx,x))
 (hQ:∀ slot' h',IsSetIter h' it d slot' (i+1) es.size ep→SlotAt w t slot' (i+1)→Heap.SameBut it s.heap h'→Q (some x) { s with heap:=h' }) :
 wpAny (model prog w) A (pyNext (.ref it)) Q E s:=by
 obtain⟨o,ho,hc,hd⟩:=id hit
 obtain⟨od,hod,hxd,hdd,T⟩:=id hs
 unfold pyNext
 refine wpAny_bind (wpAny_attempt (wpAny_callSpecial?_slot (name:=Str.ofString "__next__") hit.typeIs slot_seti_next
  (wpAny_call_entry slot_seti_next hit.typeIs entry_seti_next ?_ (args_seti_next _))))
 unfold Builtin.«set_iterator.__next__»
 refine wpAny_bind (wpAny_pure ?_)
 refine wpAny_bind (wpAny_fieldsOf ho hd ?_)
 show wpAny _ _ (setEntries d >>= _) _ _ s
 refine wpAny_bind (wpAny_setEntries_of hod hdd T.fits ?_)
 rw[if_neg (by simp)]
 show wpAny _ _ (setNext d (slot:Int).toNat (i:Int).toNat (ep:Int).toNat >>= _) _ _ s
 rw[Int.toNat_natCast,Int.toNat_natCast,Int.toNat_natCast]
 refine wpAny_bind (setNext_at hs hS fun slot' hS'=>?_)
 rw[he]
 dsimp only[Option.map]
 refine wpAny_bind (wpAny_setField ho hd (by simp) ?_)
 have ho2:=Heap.get?_update_self (Obj.mapFields (·.setIfInBounds 0 (rawInt slot'))) ho (Obj.isFreed_of_fields (Obj.data_mapFields hd _))
 have hd2:(Obj.mapFields (·.setIfInBounds 0 (rawInt slot')) o).data=.fields #[.int slot' 0,.int i 0,.ref d,.int es.size 0,.int ep 0]:=by rw[Obj.data_mapFields hd];simp[rawInt]
 refine wpAny_bind (wpAny_setField ho2 hd2 (by simp) ?_)
 have ho3:=Heap.get?_update_self (Obj.mapFields (·.setIfInBounds 1 (rawInt ((i:Int)+1)))) ho2 (Obj.isFreed_of_fields (Obj.data_mapFields hd2 _))
 exact wpAny_pure ⟨_,rfl,wpAny_pure (hQ slot' _ ⟨_,ho3,(Obj.cls_mapFields ..).trans ((Obj.cls_mapFields ..).trans hc),by rw[Obj.data_mapFields hd2];simp[rawInt]⟩ hS' ((Heap.SameBut.update ..).trans (Heap.SameBut.update ..)))⟩
theorem next_end {it d:Addr} {slot i ep:Nat} {es:Array (Int×Value)} {t:SetTable} {Q:Option Value→Shared→Prop} (hh:A.handled=none) (hne:d≠it) (hit:IsSetIter s.heap it d slot i es.size ep)
 (hs:SetAt w s.heap d es ep t) (hS:SlotAt w t slot i) (he:(ordS w d es ep)[i]?=none)
 (hQ:∀ h',Heap.ExtBut it s.heap h'→Q none { s with heap:=h' }) :
 wpAny (model prog w) A (pyNext (.ref it)) Q E s:=by
 obtain⟨o,ho,hc,hd⟩:=id hit
 obtain⟨od,hod,hxd,hdd,T⟩:=id hs
 unfold pyNext
 refine wpAny_bind (wpAny_attempt (wpAny_callSpecial?_slot (name:=Str.ofString "__next__") hit.typeIs slot_seti_next
  (wpAny_call_entry slot_seti_next hit.typeIs entry_seti_next ?_ (args_seti_next _))))
 unfold Builtin.«set_iterator.__next__»
 refine wpAny_bind (wpAny_pure ?_)
 refine wpAny_bind (wpAny_fieldsOf ho hd ?_)
 show wpAny _ _ (setEntries d >>= _) _ _ s
 refine wpAny_bind (wpAny_setEntries_of hod hdd T.fits ?_)
 rw[if_neg (by simp)]
 show wpAny _ _ (setNext d (slot:Int).toNat (i:Int).toNat (ep:Int).toNat >>= _) _ _ s
 rw[Int.toNat_natCast,Int.toNat_natCast,Int.toNat_natCast]
 refine wpAny_bind (setNext_at hs hS fun slot' hS'=>?_)
 rw[he]
 dsimp only[Option.map]
 refine wpAny_bind (wpAny_setField ho hd (by simp) ?_)
 refine wpAny_bind ?_
 simp only[newExc,newTuple]
 refine wpAny_bind (wpAny_newObj_type ?_ (by size_fits))
 refine wpAny_bind (m:=firstArgMember _ _) (wpAny_of_eq (a:=Value.none) (by first | rfl | (simp only[firstArgMember];rfl)) ?_)
 refine wpAny_newObj_type ?_ (by size_fits)
 simp only[raiseNew]
 refine wpAny_bind (wpAny_handled ?_)
 rw[show A.in1.handled=none from hh]
 refine wpAny_bind (wpAny_pure (wpAny_throw ?_))
 refine wpAny_bind (wpAny_isInstance (T:="StopIteration") (b:=true) ⟨_,Heap.get?_push_size _ rfl,rfl⟩ isSubtype_stop ?_)
 exact wpAny_pure (hQ _ (((Heap.SameBut.update ..).extBut.push _).push _))
theorem walks_set (hh:A.handled=none) (I d:Addr) (hne:d≠I) (es:Array (Int×Value)) (ep:Nat) (t:SetTable) :
 Walks prog w A I [I,d] [I] es.size (fun i v=>∃ hx,(ordS w d es ep)[i]?=some (hx,v)) (fun i h=>∃ slot,IsSetIter h I d slot i es.size ep∧SetAt w h d es ep t∧SlotAt w t slot i) where
 sub:=fun b hb=>by simp at hb;simp[hb]
 frame:=fun _ _ _ ⟨slot,⟨o,ho,r⟩,st,hS⟩ hk=>⟨slot,⟨o,hk I (by simp) o ho,r⟩,st.at' fun o e=>hk d (by simp) o e,hS⟩
 item:=fun i s Q E hi ⟨slot,hit,st,hS⟩ hQ=>by
  have hz:(ordS w d es ep).size=es.size:=by rw[← Array.length_toList,(ordS_perm w d es ep).length_eq,Array.length_toList]
  obtain⟨⟨hx,x⟩,he⟩:∃ p,(ordS w d es ep)[i]?=some p:=⟨_,Array.getElem?_eq_getElem (by omega)⟩
  refine next_set hne hit st hS he fun slot' h' hit' hS' hs'=>?_
  exact hQ x h' s.toks ⟨hx,he⟩ ⟨slot',hit',st.at' fun o e=>hs'.extBut d o hne e,hS'⟩ fun b o hb e=>hs'.extBut b o (fun h=>hb (by simp[h])) e
 done:=fun s Q E ⟨slot,hit,st,hS⟩ hQ=>by
  have hz:(ordS w d es ep).size=es.size:=by rw[← Array.length_toList,(ordS_perm w d es ep).length_eq,Array.length_toList]
  exact next_end hh hne hit st hS (Array.getElem?_eq_none (by omega)) fun h' he'=>hQ h' s.toks fun b o hb e=>he' b o (fun h=>hb (by simp[h])) e
 self:=fun _ _ _ _ ⟨slot,hit,st,hS⟩ hQ=>iter_self hit hQ
theorem hint_set {r:Addr} {Q:Bool→Shared→Prop} (hT:s.TypeIs (.ref r) "set") (h:Q false s):wpAny (model prog w) A (Builtin.List.listLengthHint (.ref r)) Q E s:=by
 unfold Builtin.List.listLengthHint
 refine wpAny_bind (wpAny_specialOf hT PySem.F.slot_set_len.lookup ?_)
 generalize hid:("set.__len__":String)=id0
 wp_delta
 rw[show splitId id0=some ("set","__len__") from by subst hid;decide +kernel]
 subst hid
 refine wpAny_bind (wpAny_isInstance (T:="set") (b:=true) hT (by rw[isSubtype_type];kernel_rfl) ?_)
 refine wpAny_ite_split (fun hab=>absurd hab (by decide)) (fun _=>?_)
 refine wpAny_ite_split (fun _=>?_) (fun hab=>absurd (by decide +kernel) hab)
 refine wpAny_bind (wpAny_typeOf hT ?_)
 exact wpAny_pure h
theorem src_set {d:Addr} {es:Array (Int×Value)} {ep:Nat} {t:SetTable}:PySem.W.KdlSrc prog w "set" d d es.size (fun i v=>∃ hx,(ordS w d es ep)[i]?=some (hx,v)) (fun h=>SetAt w h d es ep t) where
 type:=fun _ hm=>hm.typeIs
 there:=fun _ hm=>let ⟨_,ho,_⟩:=hm;⟨Heap.lt_size ho,Heap.lt_size ho⟩
 keep:=fun _ _ hm hk=>hm.at' fun o e=>hk d (.inl rfl) o e
 notList:=by decide
 notTuple:=by decide
 hint:=fun _ _ _ _ hm hq=>hint_set hm.typeIs hq
 iter:=fun _ s hh hm=>⟨_,_,(fun _ _ hq=>iter_set hm hq),walks_set hh _ d (let ⟨_,ho,_⟩:=hm;Nat.ne_of_lt (Heap.lt_size ho)) es ep t,
  ⟨0,⟨_,Heap.get?_push_size _ rfl,rfl,rfl⟩,hm.at' fun o e=>Heap.get?_push_of_some _ e,.inr ⟨fun k a hk=>absurd hk (by omega),fun k a _ _=>Nat.zero_le _⟩⟩⟩
end
end L2
namespace L2
open PySem PySem.Spec PyProof.Rows
noncomputable def dedupI (ns:List Int):List Int:=firstMet (fun i=>ns.getD i 0) ns.length
section
variable {X:Cx}
end
end L2
namespace L2
open PySem PySem.Spec PyProof.Rows
theorem perm_of_sub {α:Type} [DecidableEq α]:∀ {l1 l2:List α},l1.Nodup→l1 ⊆ l2→l2.length≤l1.length→l1.Perm l2
 | [],l2,_,_,h=>by
  have:l2=[]:=List.eq_nil_of_length_eq_zero (by simpa using h)
  rw[this]
 | x :: l1,l2,hn,hs,h=>by
  rw[List.nodup_cons]at hn
  have hx:x∈l2:=hs List.mem_cons_self
  refine(List.Perm.cons x (perm_of_sub hn.2 (fun y hy=>?_) ?_)).trans (List.perm_cons_erase hx).symm
  ·have hne:y≠x:=fun e=>hn.1 (e ▸ hy)
   exact(List.mem_erase_of_ne hne).mpr (hs (List.mem_cons_of_mem _ hy))
  ·rw[List.length_erase_of_mem hx]
   simp only[List.length_cons]at h
   omega
theorem firstMet_nodup (val:Nat→Int):∀ i,(firstMet val i).Nodup
 | 0=>by rw[firstMet_zero];exact .nil
 | i+1=>by
  rw[firstMet_succ];unfold step_dedup
  split
  ·exact firstMet_nodup val i
  ·rename_i h
   rw[List.nodup_append]
   refine⟨firstMet_nodup val i,by simp,fun a ha b hb e=>h ?_⟩
   rw[List.mem_singleton]at hb
   rw[List.any_eq_true]
   exact⟨a,ha,by rw[e,hb];simp⟩
theorem dedup_nodup (ns:List Int):(dedupI ns).Nodup:=firstMet_nodup _ _
theorem dedup_mem (ns:List Int) (k:Int):k∈dedupI ns↔k∈ns:=by
 have e:=firstMet_any (fun i=>ns.getD i 0) ns.length k
 have h1:k∈dedupI ns↔(dedupI ns).any (· == k)=true:=by
  rw[List.any_eq_true]
  exact⟨fun h=>⟨k,h,by simp⟩,fun⟨x,h,q⟩=>by rw[beq_iff_eq]at q;exact q ▸ h⟩
 rw[h1]
 show (firstMet (fun i=>ns.getD i 0) ns.length).any (· == k)=true↔_
 rw[e,List.any_eq_true]
 constructor
 ·rintro ⟨x,hx,q⟩
  rw[beq_iff_eq]at q
  obtain⟨i,hi,rfl⟩:=List.mem_map.mp hx
  have hi2:=List.mem_range.mp hi
  rw[← q]
  show ns.getD i 0∈ns
  rw[List.getD_eq_getElem?_getD,List.getElem?_eq_getElem hi2]
  exact List.getElem_mem hi2
 ·intro h
  obtain⟨i,hi,e⟩:=List.getElem_of_mem h
  exact⟨k,List.mem_map.mpr ⟨i,List.mem_range.mpr hi,by show ns.getD i 0=k;rw[List.getD_eq_getElem?_getD,List.getElem?_eq_getElem hi];exact e⟩,by simp⟩
noncomputable def intV:Value→Int
 | .int k _=>k
 | _=>0
theorem intsAre_all:∀ {vs:List Value},(∀ v∈vs,∃ k t,v=.int k t)→IntsAre vs (vs.map intV)
 | [],_=>.nil
 | v :: vs,h=>by
  obtain⟨k,t,rfl⟩:=h v List.mem_cons_self
  exact .cons k t (intsAre_all fun x hx=>h x (List.mem_cons_of_mem _ hx))
section
variable {prog:Program} {w:World} {A:Around} {E:Value→Shared→Prop} {s:Shared}
theorem collect_src {T:String} {r d:Addr} {n:Nat} {P:Nat→Value→Prop} {OK:Heap→Prop} {R:List Value→Shared→Prop} (K:PySem.W.KdlSrc prog w T r d n P OK) (hh:A.handled=none) (hok:OK s.heap) (hn:n≤sizeLine)
 (h:∀ (h':Heap) (tk:Nat) (acc:Array Value),(∀ b o,s.heap.get? b=some o→h'.get? b=some o)→s.heap.objs.size<h'.objs.size→ItemsOf P acc n→R acc.toList { s with heap:=h',toks:=tk }) :
 wpAny (model prog w) A (collect (.ref r)) R E s:=by
 have hlt:=K.there _ hok
 unfold collect
 refine wpAny_bind (wpAny_runValue (codeAny_builtin entry_proto_collect' ?_))
 rw[Around.under_plainId PySem.F.plain_proto_collect _]
 show wpAny _ A.in1 (newList [] >>= fun l=>again (.builtin "list.__iadd__" ⟨[l,.ref r],[]⟩)) _ _ s
 refine wpAny_bind (wpAny_newObj_type (wpAny_pure ⟨plainId_quiet PySem.F.plain_list_iadd _,codeAny_builtin entry_list_iadd' ?_⟩))
 rw[Around.under_plainId PySem.F.plain_list_iadd _]
 have hS:(s.heap.push { cls:=.type "list",data:=.seq ([]:List Value).toArray }).get? s.heap.objs.size=some { cls:=.type "list",data:=.seq #[] }:=Heap.get?_push_size _ rfl
 show wpAny _ A.in1 (Builtin.List.listExtendWith (.ref s.heap.objs.size) (.ref r) (.ref s.heap.objs.size)) _ _ _
 have key:=PySem.W.kdl_extend (A:=A) (s:={ s with heap:=s.heap.push { cls:=.type "list",data:=.seq ([]:List Value).toArray } })
  (R:=fun(q:Result) (s':Shared)=>∃ (h':Heap) (tk:Nat) (acc':Array Value) (c':Nat),q=.ok (.ret (.ref s.heap.objs.size))∧s'={ s with heap:=h',toks:=tk } ∧
   (∀ b o,s.heap.get? b=some o→h'.get? b=some o)∧h'.get? s.heap.objs.size=some { cls:=.type "list",dict:=none,data:=.seq acc' c',slots:=#[] }∧ItemsOf P acc' n)
  K hh (K.keep _ _ hok fun b _ o e=>Heap.get?_push_of_some _ e) s.heap.objs.size (Nat.ne_of_gt hlt.1) (Nat.ne_of_gt hlt.2) (.ref s.heap.objs.size) 0 hS
  (fun h' tk acc' c' hk hS' hacc=>⟨h',tk,acc',c',rfl,rfl,fun b o e=>hk b o (Nat.ne_of_lt (Heap.lt_size e)) (Heap.get?_push_of_some _ e),hS',hacc⟩) hn
 refine wpAny_mono key (fun fin s' x=>?_) fun e s' x=>?_
 ·cases fin with
  | done f =>
   obtain⟨h',tk,acc',c',e,rfl,hk,hS',hacc⟩:=x
   cases e
   show wpAny _ A (load s.heap.objs.size >>= _) _ _ _
   exact wpAny_bind (wpAny_load hS' (wpAny_pure (h h' tk acc' hk (Heap.lt_size hS') hacc)))
  | again c₁ =>
   refine⟨x.1,codeAny_mono x.2 fun q s₂ y=>?_⟩
   obtain⟨h',tk,acc',c',rfl,rfl,hk,hS',hacc⟩:=y
   show wpAny _ A (load s.heap.objs.size >>= _) _ _ _
   exact wpAny_bind (wpAny_load hS' (wpAny_pure (h h' tk acc' hk (Heap.lt_size hS') hacc)))
 ·obtain⟨_,_,_,_,e',_⟩:=x
  cases e'
theorem sorted_src {T:String} {r d:Addr} {n:Nat} {P:Nat→Value→Prop} {OK:Heap→Prop} {Q:Value→Shared→Prop} (K:PySem.W.KdlSrc prog w T r d n P OK) (hh:A.handled=none) (hok:OK s.heap) (h64:n<64)
 (hP:∀ i v,P i v→∃ k t,v=.int k t)
 (h:∀ (h':Heap) (tk:Nat) (a:Addr) (vs:List Value) (out:Array Value) (ms:List Int) (e:Nat),vs.length=n→(∀ i v,vs[i]?=some v→P i v)→(∀ b o,s.heap.get? b=some o→h'.get? b=some o)→s.heap.objs.size≤a →
  h'.get? a=some (seqObj "list" out e)→IntsAre out.toList ms→ms.Perm (vs.map intV)→ms.Pairwise (·≤·)→Q (.ref a) { s with heap:=h',toks:=tk }) :
 wpAny (model prog w) A (call (.builtin "sorted") [.ref r]) Q E s:=by
 have hsl:n≤sizeLine:=by rw[sizeLine_eq];omega
 refine Calls.call_function_entry kind_sorted plain_sorted entry_sorted (args_sorted1 _) ?_
 unfold Builtin.«sorted»
 refine wpAny_bind (m:=checkCount "sorted" 1 1 _) (wpAny_pure ?_)
 refine wpAny_bind (collect_src (A:=A.in1) K hh hok hsl fun h' tk acc hk hgr hacc=>?_)
 have hl:acc.toList.length=n:=by rw[Array.length_toList];exact hacc.1
 have hv:∀ i v,acc.toList[i]?=some v→P i v:=fun j v e=>hacc.2 j v (by rw[← Array.getElem?_toList];exact e)
 refine wpAny_bind (wpAny_newList ?_ (by rw[hl];exact hsl))
 have hI:IntsAre acc.toList (acc.toList.map intV):=intsAre_all fun v hv'=>by
  obtain⟨i,hi⟩:=List.mem_iff_getElem?.mp hv'
  exact hP i v (hv i v hi)
 have hoL:(h'.push (seqObj "list" acc.toList.toArray 0)).get? h'.objs.size=some (seqObj "list" acc.toList.toArray 0):=Heap.get?_push_size _ rfl
 refine wpAny_bind (wpAny_holding (wpAny_call_entry slot_list_sort ⟨_,hoL,rfl⟩ entry_list_sort (list_sort_tree (s:={ s with heap:=h'.push (seqObj "list" acc.toList.toArray 0),toks:=tk }) hoL hI (by omega) fun out ns' a1 a2 a3=>⟨_,rfl,?_⟩) (args_list_sort _)))
 obtain⟨e,he⟩:=sortedHeap_at (out:=out) hoL
 refine wpAny_pure ⟨_,rfl,h _ tk _ acc.toList out ns' e hl hv (fun b o q=>?_) (Nat.le_of_lt hgr) he a1 a2 a3⟩
 have hb:=Heap.lt_size (hk b o q)
 rw[sortedHeap_old (Nat.ne_of_lt hb) (by rw[size_push'];exact Nat.lt_succ_of_lt hb)]
 exact Heap.get?_push_of_some _ (hk b o q)
variable {X:Cx} {e:Expr} {es:List Expr} {t:TA} {x y:Str} {p p2 pos pos2:Pos}
noncomputable def tSS (t:TA):TE:=fun σ H Q=>t σ H fun xs H1=>∃ (a:Addr) (ns:List Int),xs=[.ref a]∧H1 a=some (.lst (ns.map V.int))∧(dedupI ns).length≤18 ∧
 ∀ (l:Addr) (ms:List Int),H1 l=none→ms.Perm (dedupI ns)→ms.Pairwise (·<·)→Q (.ref l) (upd H1 l (.lst (ms.map V.int)))
theorem pe_sortedSet (hc:X.calm=true) (hg:Gl X x) (hm:X.mg x=none) (hv:bootBuiltins x=some (.builtin "sorted")) (hg2:Gl X y) (hm2:X.mg y=none) (hv2:bootBuiltins y=some (.type "set")) (ha:PA X [e] t)
 (hn:x≠"__name__":=by decide) (hdb:(x == ("__debug__":Str))=false:=by decide) (hn2:y≠"__name__":=by decide) (hdb2:(y == ("__debug__":Str))=false:=by decide)
 (he:starEach [e] X.env=(false,eval e X.env) :: starEach [] X.env:=by rfl):PE X (.Call (.Name x p) [.Call (.Name y p2) [e] [] pos2] [] pos) (tSS t):=by
 intro pins s σ H Q I h
 refine wpAny_Call_Name_kw (ld_blt I hg hm hv ?_ hn hdb)
 refine PyProof.Rows.callWith_builtin1 ?_ rfl rfl
 show wpAny _ _ (spliced ((false,eval (.Call (.Name y p2) [e] [] pos2) X.env) :: backTo pos (starEach [] X.env))) _ _ s
 refine Calls.spliced_cons ?_
 refine wpAny_Call_Name_kw (ld_blt I hg2 hm2 hv2 ?_ hn2 hdb2)
 refine PyProof.Rows.callWith_type1 (thn (ha pos2 pins s σ H _ I h) fun us s1 ⟨vs,H1,I1,r1,q1⟩=>?_) he rfl
 obtain⟨a,ns,rfl,hl,h18,q⟩:=q1
 obtain⟨u,rfl,rx⟩:=vals1 r1
 cases rx
 obtain⟨its,rv,pl,hz⟩:=I1.list (SqL.of hl)
 have hlen:=rv.length
 rw[List.length_map]at hlen
 have es1:its.toArray.size=ns.length:=by rw[List.size_toArray,hlen]
 refine call_setG (I1.ok.hd hc) pl.isList (ints_are rv) (by rw[es1];exact h18) fun h' tk hS kp=>?_
 rw[es1]at hS
 refine Calls.spliced_nil ?_
 obtain⟨o,es,ep,tt,ho,hex,hd,hel,hmem,hn',T⟩:=hS
 have hAt:SetAt X.w h' s1.heap.objs.size es ep tt:=⟨o,ho,hex,hd,by rw[hn'];exact T⟩
 have h18':=T.le
 have hint:∀ q∈es.toList,∃ k t,q.2=.int k t:=fun q hq=>by
  obtain⟨⟨k,hk,_⟩,_⟩:=hel q hq
  obtain⟨t,e⟩:=Value.isInt_shape hk
  exact⟨k,t,e⟩
 have hpo:=ordS_perm X.w s1.heap.objs.size es ep
 refine sorted_src (s:={ s1 with heap:=h',toks:=tk }) (src_set (t:=tt)) (I1.ok.hd hc) hAt (by omega) (fun i v ⟨hx,e⟩=>?_) fun h2 tk2 a2 vs out ms e2 hvl hvv hk2 hsz2 ho2 hI2 hp2 hs2=>?_
 ·rw[← Array.getElem?_toList]at e
  have:=hint _ (hpo.mem_iff.mp (List.mem_of_getElem? e))
  exact this
 ·have hvs:vs=(ordS X.w s1.heap.objs.size es ep).toList.map (·.2):=by
   have hz2:(ordS X.w s1.heap.objs.size es ep).toList.length=es.size:=by rw[hpo.length_eq,Array.length_toList]
   apply List.ext_getElem
   ·rw[List.length_map,hz2,hvl]
   ·intro i h1 h2'
    obtain⟨hx,e⟩:=hvv i vs[i] (List.getElem?_eq_getElem h1)
    rw[← Array.getElem?_toList]at e
    obtain⟨hb,e⟩:=List.getElem?_eq_some_iff.mp e
    rw[List.getElem_map,e]
  have hperm:ms.Perm (dedupI ns):=by
   refine hp2.trans ?_
   rw[hvs,List.map_map]
   refine(hpo.map _).trans ?_
   refine(perm_of_sub (dedup_nodup ns) (fun k hk=>?_) ?_).symm
   ·have:(firstMet (fun i=>ns.getD i 0) ns.length).any (· == k)=true:=by
     rw[List.any_eq_true];exact⟨k,hk,by simp⟩
    obtain⟨q,hq,hq2⟩:=(hmem k).mp this
    obtain⟨t,e⟩:=Value.isInt_shape hq2
    refine List.mem_map.mpr ⟨q,hq,?_⟩
    show intV q.2=k
    rw[e];rfl
   ·rw[List.length_map,Array.length_toList,hn']
    exact Nat.le_refl _
  have hstr:ms.Pairwise (·<·):=by
   have hnd:ms.Nodup:=hperm.nodup_iff.mpr (dedup_nodup ns)
   exact(hs2.and hnd).imp fun⟨h1,h2⟩=>by omega
  have hfr:s1.heap.objs.size≤a2:=by
   have h3:s1.heap.objs.size<h'.objs.size:=Heap.lt_size ho
   have h4:h'.objs.size≤a2:=hsz2
   omega
  have hnone:H1 a2=none:=I1.hok.fresh hfr
  refine⟨.ref a2,_,I1.laid (t':=tk2) (o:=.lst (ms.map V.int)) (fun b o e=>hk2 b o (kp b o (Heap.lt_size e) e)) hfr ⟨?_,out.toList,e2,vals_ints hI2,ho2⟩,rfl,q a2 ms hnone hperm hstr⟩
  rw[List.length_map,hperm.length_eq]
  exact Nat.le_trans h18 (by decide)
end
end L2
namespace L2
open PySem PySem.Spec PyProof.Rows
noncomputable def DK {α:Type}:Sem α→Prop
 | .pure _=>True
 | .raise _=>True
 | .unsupported _=>True
 | .finish _=>True
 | .rule _ k=>∀ u,DK (k u)
 | .at _ k=>∀ u,DK (k u)
 | .load _ _ k=>∀ o,DK (k o)
 | .update _ _ f k=>(∀ o,(f o).dict=o.dict∧(f o).cls=o.cls∧(o.isFreed=false→(f o).isFreed=false))∧∀ u,DK (k u)
 | .alloc _ k=>∀ a,DK (k a)
 | .loadIfAlive _ k=>∀ o,DK (k o)
 | .point _ k=>∀ u,DK (k u)
 | .register _ _=>True
 | .fresh k=>∀ t,DK (k t)
 | .ask k=>∀ x,DK (k x)
 | .choose _ _ k=>∀ n,DK (k n)
 | .os _ _ _=>False
 | .call _ _ _ _ _=>False
 | .handled _ k=>∀ h,DK (k h)
 | .newGen _ _=>False
 | .genState _ k=>∀ g,DK (k g)
 | .resume _ _ _ _=>False
 | .yield _ _ _ _=>False
 | .stack k=>∀ l,DK (k l)
 | .fork _ _=>False
 | .thread k=>∀ n,DK (k n)
 | .await _ _ _ _ _=>False
theorem DK.bind {α β:Type} {f:α→Sem β}:∀ {t:Sem α},DK t→(∀ a,DK (f a))→DK (t.bind f):=by
 intro t
 induction t with
 | pure a=>intro _ hf;exact hf a
 | raise e=>intro _ _;trivial
 | unsupported w=>intro _ _;trivial
 | finish e=>intro _ _;trivial
 | rule tag k ih=>intro h hf u;exact ih u (h u) hf
 | «at» pos k ih=>intro h hf u;exact ih u (h u) hf
 | load a part k ih=>intro h hf o;exact ih o (h o) hf
 | update a part g k ih=>intro h hf;exact⟨h.1,fun u=>ih u (h.2 u) hf⟩
 | alloc o k ih=>intro h hf a;exact ih a (h a) hf
 | loadIfAlive a k ih=>intro h hf o;exact ih o (h o) hf
 | point live k ih=>intro h hf u;exact ih u (h u) hf
 | register a k ih=>intro _ _;trivial
 | fresh k ih=>intro h hf t;exact ih t (h t) hf
 | ask k ih=>intro h hf x;exact ih x (h x) hf
 | choose src n k ih=>intro h hf x;exact ih x (h x) hf
 | os req live k ih=>intro h _;exact h.elim
 | call c hd gd live k ih=>intro h _;exact h.elim
 | handled own k ih=>intro h hf x;exact ih x (h x) hf
 | newGen c k ih=>intro h _;exact h.elim
 | genState g k ih=>intro h hf x;exact ih x (h x) hf
 | resume g r live k ih=>intro h _;exact h.elim
 | yield v gd live k ih=>intro h _;exact h.elim
 | stack k ih=>intro h hf x;exact ih x (h x) hf
 | fork c k ih=>intro h _;exact h.elim
 | thread k ih=>intro h hf x;exact ih x (h x) hf
 | await a take timed live k ih=>intro h _;exact h.elim
noncomputable def HD (h0 h:Heap):Prop:=∀ b o,h0.get? b=some o→∃ o',h.get? b=some o'∧o'.dict=o.dict∧o'.cls=o.cls
theorem HD.refl (h:Heap):HD h h:=fun b o e=>⟨o,e,rfl,rfl⟩
theorem HD.trans {a b c:Heap} (x:HD a b) (y:HD b c):HD a c:=fun d o e=>by
 obtain⟨o1,e1,d1,c1⟩:=x d o e
 obtain⟨o2,e2,d2,c2⟩:=y d o1 e1
 exact⟨o2,e2,d2.trans d1,c2.trans c1⟩
theorem HD.kept {h h':Heap} (k:∀ b o,h.get? b=some o→h'.get? b=some o):HD h h':=fun b o e=>⟨o,k b o e,rfl,rfl⟩
theorem freed_none {h:Heap} {a:Addr} {o:Obj} (e:h.get? a=some o):o.isFreed=false:=(Heap.get?_some_iff.mp e).2
theorem HD.update {h:Heap} {a:Addr} {f:Obj→Obj} (hf:∀ o,(f o).dict=o.dict∧(f o).cls=o.cls∧(o.isFreed=false→(f o).isFreed=false)):HD h (h.update a f):=fun b o e=>by
 by_cases q:b=a
 ·subst q
  exact⟨f o,Heap.get?_update_self f e ((hf o).2.2 (freed_none e)),(hf o).1,(hf o).2.1⟩
 ·exact⟨o,(Heap.get?_update_ne _ _ _ _ q).trans e,rfl,rfl⟩
theorem wp_dk {α:Type} {M:Model} {Γ:PySem.Ctx} {h0:Heap}:∀ (t:Sem α),DK t→∀ {Q:α→Pos→Shared→Prop} {E:Value→Pos→Shared→Prop} {p:Pos} {s:Shared},HD h0 s.heap→Sem.wp M Γ t Q E p s →
 Sem.wp M Γ t (fun a p s'=>Q a p s'∧HD h0 s'.heap) (fun e p s'=>E e p s'∧HD h0 s'.heap) p s:=by
 intro t
 induction t with
 | pure a=>intro _ Q E p s hd h;exact⟨h,hd⟩
 | raise e=>intro _ Q E p s hd h;exact⟨h,hd⟩
 | unsupported w=>intro _ Q E p s hd h;exact h
 | finish e=>intro _ Q E p s hd h;exact h
 | rule tag k ih=>intro d Q E p s hd h;exact ih () (d ()) hd h
 | «at» pos k ih=>intro d Q E p s hd h;exact ih () (d ()) hd h
 | load a part k ih=>intro d Q E p s hd h;obtain⟨o,e,h⟩:=h;exact⟨o,e,ih o (d o) hd h⟩
 | update a part g k ih=>intro d Q E p s hd h;exact⟨h.1,ih () (d.2 ()) (s:={ s with heap:=s.heap.update a g }) (hd.trans (HD.update d.1)) h.2⟩
 | alloc o k ih=>intro d Q E p s hd h;exact ih _ (d _) (s:={ s with heap:=s.heap.push o }) (hd.trans (HD.kept fun b o e=>Heap.get?_push_of_some _ e)) h
 | loadIfAlive a k ih=>intro d Q E p s hd h;exact ih _ (d _) hd h
 | point live k ih=>intro d Q E p s hd h;exact ih () (d ()) hd h
 | register a k ih=>intro _ Q E p s hd h;exact h
 | fresh k ih=>intro d Q E p s hd h;exact ih _ (d _) (s:={ s with toks:=s.toks+1 }) hd h
 | ask k ih=>intro d Q E p s hd h;exact ih _ (d _) hd h
 | choose src n k ih=>intro d Q E p s hd h;exact⟨h.1,ih _ (d _) (s:={ s with drawn:=s.drawn.bump src }) hd h.2⟩
 | os req live k ih=>intro d;exact d.elim
 | call c hd gd live k ih=>intro d;exact d.elim
 | handled own k ih=>intro d Q E p s hd h;exact ih _ (d _) hd h
 | newGen c k ih=>intro d;exact d.elim
 | genState g k ih=>intro d Q E p s hd h;obtain⟨st,e,h⟩:=h;exact⟨st,e,ih _ (d _) hd h⟩
 | resume g r live k ih=>intro d;exact d.elim
 | yield v gd live k ih=>intro d;exact d.elim
 | stack k ih=>intro d Q E p s hd h;exact ih _ (d _) hd h
 | fork c k ih=>intro d;exact d.elim
 | thread k ih=>intro d Q E p s hd h;exact ih _ (d _) hd h
 | await a take timed live k ih=>intro d;exact d.elim
theorem wpAny_dk {α:Type} {M:Model} {A:Around} {t:Sem α} {Q:α→Shared→Prop} {E:Value→Shared→Prop} {s:Shared} (d:DK t) (h:wpAny M A t Q E s) :
 wpAny M A t (fun a s'=>Q a s'∧HD s.heap s'.heap) (fun e s'=>E e s'∧HD s.heap s'.heap) s:=fun Γ p hΓ=>wp_dk t d (HD.refl _) (h Γ p hΓ)
theorem dk_fieldsOf (v:Value):DK (fieldsOf v):=by
 unfold fieldsOf
 split
 ·intro o
  show DK (match o.data with | .fields vs=>pure vs | _=>unsupported _)
  split <;> trivial
 ·trivial
theorem dk_field (v:Value) (i:Nat):DK (field v i):=DK.bind (dk_fieldsOf v) fun vs=>by
 split <;> trivial
theorem mapFields_dk (f:Array Value→Array Value) (o:Obj):(Obj.mapFields f o).dict=o.dict∧(Obj.mapFields f o).cls=o.cls∧(o.isFreed=false→(Obj.mapFields f o).isFreed=false):=by
 obtain⟨c,d,data,sl⟩:=o
 cases data <;> first | exact⟨rfl,rfl,fun h=>h⟩ | exact⟨rfl,rfl,fun _=>rfl⟩
theorem dk_setField (v:Value) (i:Nat) (x:Value):DK (setField v i x):=by
 unfold setField
 split
 ·unfold updateField
  intro o
  show DK (match o.data with | .fields vs=>if i<vs.size then update _ (Obj.mapFields (·.setIfInBounds i x))else unsupported _ | _=>unsupported _)
  split
  ·split
   ·exact⟨mapFields_dk _,fun _=>trivial⟩
   ·trivial
  ·trivial
 ·trivial
theorem dk_setFlight (e:Value) (f:Option Addr):DK (setFlight e f):=DK.bind (dk_field e 1) fun tb=>by
 split
 ·exact dk_setField _ _ _
 ·trivial
theorem dk_readyFrames:∀ l:List Env,DK (readyFrames l)
 | []=>trivial
 | env :: outer=>by
  unfold readyFrames
  split
  ·intro o
   show DK (if ((o.slots.getD 3 none).isSome)=true then _ else _)
   split
   ·trivial
   ·refine DK.bind ?_ fun imp=>DK.bind ?_ fun back=>⟨fun o=>⟨rfl,rfl,fun h=>(by obtain⟨c,d,dt,sl⟩:=o;cases dt <;> first | rfl | exact h)⟩,fun _=>dk_readyFrames outer⟩
    ·unfold behindIsImport
     split
     ·trivial
     ·split
      ·trivial
      ·exact DK.bind (dk_field _ _) fun _=>trivial
    ·cases outer with
     | nil =>
      show DK (if (env.scope.isGenerator || env.scope.isCoroutine)=true then pure Value.none else underTheClaimsCaller >>= _)
      split
      ·trivial
      ·refine DK.bind ?_ fun _=>trivial
       unfold underTheClaimsCaller
       intro l
       first | trivial | (dsimp only;first | trivial | (split <;> trivial))
     | cons c r=>trivial
  ·trivial
theorem dk_frameOf (env:Env):DK (PySem.frameOf env):=by
 unfold PySem.frameOf
 refine DK.bind (t:=frameEnvs) (fun l=>trivial) fun l=>DK.bind ?_ fun f=>?_
 ·generalize l.dropWhile (·.frame != env.frame)=r
  cases r with
  | nil=>trivial
  | cons e r=>exact DK.bind (dk_readyFrames _) fun _=>trivial
 ·split <;> trivial
theorem dk_noteFrame (e:Value) (env:Env):DK (noteFrame e env):=by
 unfold noteFrame
 split
 ·refine DK.bind (dk_field _ _) fun head=>?_
  have fin:∀ f,DK (do setField e 1 (← EntryCells.newEntry head (← PySem.frameOf env) .none (rawInt f) .none (← entryPlaceOf f (head != .none)))):=fun f=>by
   refine DK.bind (dk_frameOf env) fun fr=>DK.bind ?_ fun pl=>DK.bind ?_ fun en=>dk_setField _ _ _
   ·unfold entryPlaceOf
    intro l
    refine DK.bind (t:=Sem.pure l) trivial fun acts=>?_
    split <;> trivial
   ·unfold EntryCells.newEntry newFields newObj
    first | (intro a;trivial) | (split <;> (first | trivial | (intro a;trivial))) | (repeat' (first | trivial | split | intro))
  split
  ·refine DK.bind (dk_field _ _) fun x=>?_
   split
   ·trivial
   ·exact DK.bind (dk_setField _ _ _) fun _=>fin _
  ·exact fin _
 ·trivial
theorem dk_leaving (env:Env) (e:Value):DK (leaving env e):=DK.bind (dk_noteFrame e env) fun _=>dk_setFlight e none
end L2
namespace L2
open PySem PySem.Spec PyProof.Rows
theorem ObjOk.there {P:Program} {w:World} {H:Hp} {h:Heap} {a:Addr} {u:HO} (x:ObjOk P w H h a u):∃ o,h.get? a=some o:=by
 cases u with
 | lst xs=>obtain⟨_,_,_,_,e⟩:=x;exact⟨_,e⟩
 | tup xs=>obtain⟨_,_,_,o,e,_⟩:=x;exact⟨_,e⟩
 | dK kvs=>obtain⟨_,_,_,_,o,_,_,e,_⟩:=x;exact⟨_,e⟩
 | dT kvs=>obtain⟨_,_,_,_,o,_,_,e,_⟩:=x;exact⟨_,e⟩
 | set S n=>obtain⟨o,_,_,_,e,_⟩:=x;exact⟨_,e⟩
 | ins C dx fs=>obtain⟨_,_,_,e,_⟩:=x;exact⟨_,e⟩
 | own y=>exact x
 | xd fs=>obtain⟨_,⟨_,_,_,e,_⟩,_⟩:=x;exact⟨_,e⟩
 | rng lo hi=>obtain⟨_,_,_,e⟩:=x;exact⟨_,e⟩
 | frz ob u=>obtain⟨e,_⟩:=x;exact⟨_,e⟩
 | tbl ps=>exact⟨_,show h.get? a=some _ from x⟩
 | met f y=>exact⟨_,show h.get? a=some _ from x⟩
 | ext φ=>obtain⟨_,e,_⟩:=x;exact e
noncomputable def CXR (P:Program) (w:World):CXT:=fun outer H s E ev s'=>∃ (e:Addr) (cls a0:Value) (H':Hp) (B:Heap) (oe:Obj),ev=.ref e∧s'.os=s.os∧AllBare s'.gens∧Un (frs outer) [] H H' s.heap s'.heap∧HOk P w H' s'.heap∧H' e=none ∧
 s'.heap.get? e=some oe∧Heap.FlyingW B outer e cls a0 s'.heap∧(∀ b u,H' b=some u→∃ o,B.get? b=some o)∧(∀ b o,s.heap.get? b=some o→b∉frs outer→∃ o',B.get? b=some o')∧E cls oe.dict H'
section
variable {X:Cx} {pins:List (Addr×Obj)} {σ:St} {H:Hp} {s:Shared} {E:XK}
structure Body (X:Cx):Prop where
 ex:X.ex=[]
 stk:X.stack=X.env :: X.outer
 fr:X.env.frame=some X.env.locals
theorem Body.mem (b:Body X) {c:Addr}:c∈frs X.stack↔c=X.env.locals∨c∈X.fs:=by
 rw[b.stk]
 unfold frs
 rw[List.filterMap_cons,b.fr,List.mem_cons]
 rfl
theorem left_ok (Bd:Body X) (I:Inv X pins σ H s) {B:Heap} {e:Addr} {cls a0:Value} {oe:Obj} {h':Heap} (he:s.heap.get? e=some oe) (hHe:H e=none) (st:B.StaysIn s.heap) (cov:∀ b u,H b=some u→∃ o,B.get? b=some o)
 (olds:∀ b o,X.s₀.heap.get? b=some o→b∉X.fs→∃ o',B.get? b=some o') (fl:Heap.FlyingW B X.outer e cls a0 h') (ups:s.heap.UpToSlots h') (hd:HD s.heap h') (q:E cls oe.dict H) :
 CXR X.prog X.w X.outer X.H₀ X.s₀ E (.ref e) { s with heap:=h' }:=by
 have st':B.StaysIn h':=fl.1
 have nx:∀ b,b∉X.ex:=fun b z=>by rw[Bd.ex]at z;cases z
 have neL:∀ b o,X.s₀.heap.get? b=some o→b≠X.env.locals:=fun b o e=>Nat.ne_of_lt (Nat.lt_of_lt_of_le (Heap.lt_size e) I.ok.above)
 have same:∀ b o o',B.get? b=some o→s.heap.get? b=some o'→h'.get? b=some o':=fun b o o' e1 e2=>by
  have:=st b o e1
  rw[e2]at this
  cases this
  exact st' b _ e1
 have frd:∀ b∈X.fs,∀ o,s.heap.get? b=some o→∀ vs,o.data≠.fields vs:=fun b hb o e vs=>by
  obtain⟨_,o',ho',hnf⟩:=I.funs.mem hb
  rw[e]at ho'
  cases ho'
  exact hnf vs
 obtain⟨oe',he',de,ce⟩:=hd e oe he
 refine⟨e,cls,a0,H,B,oe',rfl,I.os,I.bare,⟨fun b o e1 n hb _=>?_,fun b o e1 n hb _=>?_,fun b o e1 n _=>I.base.free b o e1 n (nx b),fun b o e1 _=>?_,I.base.tups,I.base.frzs,I.base.tbls⟩,fun b u e1=>?_,hHe,he',fl,cov,olds,by rw[de];exact q⟩
 ·obtain⟨o',eB⟩:=olds b o e1 hb
  exact same b o' o eB (I.base.keep b o e1 n hb (nx b))
 ·obtain⟨sl,e2⟩:=I.base.slot b o e1 n hb (nx b)
  obtain⟨sl',e3⟩:=ups b _ e2 (frd b hb _ e2)
  exact⟨sl',e3⟩
 ·by_cases hb:b∈X.fs
  ·obtain⟨o',e2⟩:=I.base.there b o e1 (nx b)
   obtain⟨sl,e3⟩:=ups b o' e2 (frd b hb o' e2)
   exact⟨_,e3⟩
  ·obtain⟨o',eB⟩:=olds b o e1 hb
   exact⟨o',st' b o' eB⟩
 ·refine(I.hok b u e1).stay (fun c v hc e2=>?_) (fun _ z=>z) fun _ _ z=>z
  have tr:∃ o,B.get? c=some o:=by
   rcases hc with z | z
   ·rw[z];exact cov b u e1
   ·exact cov c _ z
  obtain⟨o,eB⟩:=tr
  exact same c o v eB e2
theorem leave_on (Bd:Body X) (hfr:X.A.frames=some (X.env :: X.outer)) (I:Inv X pins σ H s) {ev:Value} {s':Shared} {E':Value→Shared→Prop} (h:CXR X.prog X.w X.stack H s E ev s') :
 wpAny (model X.prog X.w) X.A (leaving X.env ev) (fun _ s''=>CXR X.prog X.w X.outer X.H₀ X.s₀ E ev s'') E' s':=by
 obtain⟨e,cls,a0,H',B,oe,rfl,os,bare,un,hok,hHe,he,fl,cov,olds,q⟩:=h
 have I':Inv X pins σ H' s':=I.call' os un hok bare fun b z=>absurd z (by simp)
 have fl':Heap.FlyingW B (X.env :: X.outer) e cls a0 s'.heap:=by rw[Bd.stk]at fl;exact fl
 have w1:=wpAny_leaves_onW (M:=model X.prog X.w) (A:=X.A) (E:=fun _ _=>False) (s:=s') (Q:=fun _ s''=>∃ h',s''={ s' with heap:=h' }∧Heap.FlyingW B X.outer e cls a0 h'∧s'.heap.UpToSlots h') hfr Bd.fr fl' fun h' f u=>⟨h',rfl,f,u⟩
 refine wpAny_mono (wpAny_dk (dk_leaving X.env (.ref e)) w1) (fun _ s'' ⟨⟨h',e1,f,u⟩,hd⟩=>?_) fun _ _ z=>z.1.elim
 subst e1
 refine left_ok Bd I' he hHe fl.1 cov (fun b o e1 hb=>?_) f u hd q
 obtain⟨o1,e2⟩:=I.base.there b o e1 (by rw[Bd.ex];simp)
 refine olds b o1 e2 fun z=>?_
 rcases Bd.mem.mp z with z | z
 ·exact absurd (Nat.lt_of_lt_of_le (Heap.lt_size e1) I.ok.above) (by rw[z];exact Nat.lt_irrefl _)
 ·exact hb z
theorem leave_new (Bd:Body X) (hfr:X.A.frames=some (X.env :: X.outer)) (I:Inv X pins σ H s) {e:Addr} {oe:Obj} {vs:Array Value} {a0:Value} {E':Value→Shared→Prop} (he:s.heap.get? e=some oe) (hHe:H e=none) (hold:∀ b o,X.s₀.heap.get? b=some o→b≠e) (hd:oe.data=.fields vs) (h1:vs[1]?=some .none) (h0:vs[0]?=some a0) (q:E oe.cls oe.dict H) :
 wpAny (model X.prog X.w) X.A (leaving X.env (.ref e)) (fun _ s''=>CXR X.prog X.w X.outer X.H₀ X.s₀ E (.ref e) s'') E' s:=by
 have stf:s.heap.FunFrames X.base (X.env :: X.outer):=by have:=I.stack;rw[Bd.stk]at this;exact this
 have enf:e∉frs X.stack:=fun z=>by
  obtain⟨_,o,ho,hnf⟩:=I.stack.mem z
  rw[he]at ho
  cases ho
  exact hnf vs hd
 have inB:∀ b o,s.heap.get? b=some o→b≠e→b∉frs X.stack→(PySem.W.hideAll s.heap (e :: frs X.stack)).get? b=some o:=fun b o e1 n1 n2=>PySem.W.hideAll_get _ e1 (by simp[n1,n2])
 have fr2:s.heap.FunFrames (PySem.W.hideAll s.heap (e :: frs X.stack)) (X.env :: X.outer):=by
  refine PySem.W.funFrames_hide stf fun env hm a ha=>List.mem_cons_of_mem _ ?_
  rw[Bd.stk]
  exact List.mem_filterMap.mpr ⟨env,hm,ha⟩
 have stB:(PySem.W.hideAll s.heap (e :: frs X.stack)).StaysIn s.heap:=fun b o e1=>PySem.W.of_hideAll _ e1
 have w1:=wpAny_leaving_firstW (M:=model X.prog X.w) (A:=X.A) (E:=fun _ _=>False) (s:=s) (base:=PySem.W.hideAll s.heap (e :: frs X.stack)) (Q:=fun _ s''=>∃ h',s''={ s with heap:=h' }∧Heap.LeftW (PySem.W.hideAll s.heap (e :: frs X.stack)) (X.env :: X.outer) e oe.cls a0 s.heap h') hfr fr2 Bd.fr he stB (PySem.W.hideAll_none _ (by simp)) hd h1 h0 fun h' z=>⟨h',rfl,z⟩
 refine wpAny_mono (wpAny_dk (dk_leaving X.env (.ref e)) w1) (fun _ s'' ⟨⟨h',e1,k1,⟨_,_,k2⟩,k3,k4⟩,hdd⟩=>?_) fun _ _ z=>z.1.elim
 subst e1
 refine left_ok Bd I he hHe stB (fun b u e1=>?_) (fun b o e1 hb=>?_) ⟨k1,PySem.W.hideAll_none _ (by simp),k2,k3⟩ k4 hdd q
 ·obtain⟨o,e2⟩:=(I.hok b u e1).there
  refine⟨o,inB b o e2 (fun z=>by rw[z,hHe]at e1;cases e1) fun z=>?_⟩
  rw[I.stkFree b z]at e1
  cases e1
 ·obtain⟨o',e2⟩:=I.base.there b o e1 (by rw[Bd.ex];simp)
  have lt:=Heap.lt_size e1
  refine⟨o',inB b o' e2 (hold b o e1) fun z=>?_⟩
  ·rcases Bd.mem.mp z with z | z
   ·rw[z]at lt
    exact absurd (Nat.lt_of_lt_of_le lt I.ok.above) (Nat.lt_irrefl _)
   ·exact hb z
end
theorem passR {P:Program} {w:World} {K:PySem.W.Frag} {mg:Str→Option Value} {base:Heap} {N:List Str} {qual:Str} {scope:Scope} {f:Addr} {cd:Value} {A:Around} {outer:List Env} {s:Shared} {H:Hp} {E:XK} (hfr:A.frames=some outer) :
 Passes (CXR P w) (cxOf (CXR P w) P w K mg base N qual scope f cd A outer s H E) E:=fun pins σ H1 s1 ev s' I h =>
 leave_on (X:=cxOf (CXR P w) P w K mg base N qual scope f cd A outer s H E) ⟨rfl,rfl,rfl⟩ (Around.frames_deeper hfr) I h
end L2
namespace L2
open PySem PySem.Spec PyProof.Rows
noncomputable def FP (X:Cx) (v:Expr) (n:Nat) (t:TE):Prop:=∀ (pins:List (Addr×Obj)) (s:Shared) (σ:St) (H:Hp) (Q:Hp→Prop),Inv X pins σ H s→(t σ H fun _ H'=>Q H') →
 wpAny (model X.prog X.w) X.A (eval v X.env) (fun u s'=>∃ y tk H',u=.str y tk∧y.length≤n∧Inv X pins σ H' s'∧Q H') X.xe s
noncomputable def FPs (X:Cx) (vs:List Expr) (n:Nat) (t:TA):Prop:=∀ (pins:List (Addr×Obj)) (s:Shared) (σ:St) (H:Hp) (Q:Hp→Prop) (out:Str),out.length+n≤sizeLine→Inv X pins σ H s→(t σ H fun _ H'=>Q H') →
 wpAny (model X.prog X.w) X.A (joinParts out (evalEach vs X.env)) (fun u s'=>∃ y tk H',u=.str y tk∧Inv X pins σ H' s'∧Q H') X.xe s
section
variable {X:Cx}
theorem fp_str {z:Str} {j pos} (h:z.length≤1000):FP X (.Constant (.str z) j pos) 1000 (tC (.str z)):=fun pins s σ H Q I q=>by
 refine thn (pe_str pins s σ H (fun y H'=>y=.str z∧Q H') I ⟨rfl,q⟩) fun u s' ⟨v,H',I',r,e,q'⟩=>?_
 subst e
 obtain⟨t,rfl⟩:=r
 exact⟨z,t,H',rfl,h,I',q'⟩
noncomputable def tSmall (te:TE):TE:=fun σ H Q=>te σ H fun x H1=>∃ i:Int,x=.int i∧i.natAbs.log2<1920∧(toString i:Str).length≤1000∧Q x H1
theorem fp_int {v:Expr} {te:TE} {pos:Pos} (h:PE X v te):FP X (.FormattedValue v (-1) none pos) 1000 (tSmall te):=fun pins s σ H Q I q=>by
 refine FormattedValue_plain (thn (h pins s σ H _ I q) fun u s' ⟨x,H',I',r,q'⟩=>?_)
 obtain⟨i,rfl,hd,hl,q'⟩:=q'
 obtain⟨t,rfl⟩:=r
 exact formatField_int_small hd ⟨_,_,H',rfl,hl,I'.tok _,q'⟩
theorem fps_nil:FPs X [] 0 tNil:=fun pins s σ H Q out hz I q=>joinParts_nil ⟨out,_,H,rfl,I.tok _,q⟩ (by omega)
theorem fps_cons {v:Expr} {vs:List Expr} {n m:Nat} {te:TE} {t:TA} (h1:FP X v n te) (h2:FPs X vs m t) (he:evalEach (v :: vs) X.env=eval v X.env :: evalEach vs X.env:=by rfl):FPs X (v :: vs) (n+m) (tCons te t):=fun pins s σ H Q out hz I q=>by
 rw[he]
 refine joinParts_cons (thn (h1 pins s σ H _ I q) fun u s' ⟨y,tk,H',e,hl,I',q'⟩=>?_)
 subst e
 have ha:(out++y).length=out.length+y.length:=strLen_append _ _
 exact⟨by rw[ha];omega,h2 pins s' σ H' Q (out++y) (by rw[ha];omega) I' q'⟩
noncomputable def tText (t:TA):TE:=fun σ H Q=>t σ H fun _ H'=>∀ z,Q (.str z) H'
theorem pe_fstr {v w:Expr} {vs:List Expr} {n:Nat} {t:TA} {pos:Pos} (h:FPs X (v :: w :: vs) n t) (hn:n≤100000:=by decide) (he:evalEach (v :: w :: vs) X.env=eval v X.env :: eval w X.env :: evalEach vs X.env:=by rfl):PE X (.JoinedStr (v :: w :: vs) pos) (tText t):=fun pins s σ H Q I q=>by
 refine JoinedStr_many ?_
 rw[← he]
 refine thn (h pins s σ H (fun H'=>∀ z,Q (.str z) H') Str.empty (by
  have:Str.empty.length=0:=rfl
  rw[this]
  exact Nat.le_trans (by omega) (show 100000≤sizeLine by decide)) I q) fun u s' ⟨y,tk,H',e,I',q'⟩=>?_
 subst e
 exact⟨.str y,H',I',⟨_,rfl⟩,q' y⟩
end
noncomputable abbrev bmV:List Value:=[.type "ValueError",.type "Exception",.type "BaseException",.type "object"]
noncomputable def Raises (X:Cx) (E:XK):Prop:=∀ (pins:List (Addr×Obj)) (σ:St) (H:Hp) (s:Shared) (e:Addr) (oe:Obj) (vs:Array Value) (a0:Value),Inv X pins σ H s→s.heap.get? e=some oe→H e=none→(∀ b o,X.s₀.heap.get? b=some o→b≠e)→oe.data=.fields vs→vs[1]?=some .none→vs[0]?=some a0→E oe.cls oe.dict H→X.xe (.ref e) s
theorem raiseR {P:Program} {w:World} {K:PySem.W.Frag} {mg:Str→Option Value} {base:Heap} {N:List Str} {qual:Str} {scope:Scope} {f:Addr} {cd:Value} {A:Around} {outer:List Env} {s:Shared} {H:Hp} {E:XK} (hfr:A.frames=some outer) :
 Raises (cxOf (CXR P w) P w K mg base N qual scope f cd A outer s H E) E:=fun pins σ H1 s1 e oe vs a0 I he hHe hold hd h1 h0 q =>
 leave_new (X:=cxOf (CXR P w) P w K mg base N qual scope f cd A outer s H E) ⟨rfl,rfl,rfl⟩ (Around.frames_deeper hfr) I he hHe hold hd h1 h0 q
section
variable {X:Cx}
end
end L2
namespace L2
open PySem PySem.Spec PyProof.Rows
section
variable {X:Cx}
end
end L2
namespace L2
open PySem PySem.Spec PyProof.Rows PySem.MeetsSeq
section
variable {X:Cx}
noncomputable def rCountI:V→List V→Hp→VK→Prop:=fun x vs H Q=>∃ (l:Addr) (ns:List Int) (k:Int),x=.ref l∧vs=[.int k]∧H l=some (.lst (ns.map V.int))∧Q (.int (ns.count k:Nat)) H
theorem countP_ints (k:Int):∀ {vs:List Value} {ns:List Int},IntsAre vs ns→vs.countP (fun v=>intV v == k)=ns.count k
 | _,_,.nil=>rfl
 | _,_,.cons n t r=>by
  rw[List.countP_cons,List.count_cons,countP_ints k r]
  rfl
theorem mt_countI:MtM X "list.count" rCountI:=by
 intro pins s σ H x vs v us Q I rx rv h
 obtain⟨l,ns,k,rfl,rfl,hH,q⟩:=h
 cases rx
 obtain⟨u,rfl,ru⟩:=rv.one
 obtain⟨t,rfl⟩:=ru
 obtain⟨z,its,n,r,hl,e⟩:=I.lstM hH
 have hI:=ints_are r
 refine call_meets PySem.F.slot_list_count ⟨_,e,rfl⟩ PySem.F.entry_list_count (PySem.F.args_list_count_2 _ _) (list_count l its.toArray n (.int k t) (fun v=>intV v == k) fun y hy=>?_) ⟨e,?_⟩
 ·obtain⟨i,hi⟩:=List.mem_iff_getElem?.mp (show y∈its by simpa using hy)
  obtain⟨t',rfl⟩:=hI.int_at i y hi
  exact EqGives.int _ _ _ _
 ·rw[show its.toArray.toList=its from rfl,countP_ints k hI]
  exact⟨.int _,H,I.tok _,⟨_,rfl⟩,q⟩
end
end L2
namespace L2
open PySem PySem.Spec PyProof.Rows
section
variable {X:Cx}
noncomputable def CMulB (i j:Int):Prop:=(0≤i∧i<2 ^ 20000)∧(0≤j∧j<2 ^ 20000)
theorem bits_b {i:Int} (h0:0≤i) (h1:i<2 ^ 20000):Builtin.Int.intBits i≤2 ^ 20:=by
 unfold Builtin.Int.intBits
 split
 ·omega
 ·have h2:i.natAbs<2 ^ 20000:=by
   have e:((i.natAbs:Nat):Int)<((2 ^ 20000:Nat):Int):=by
    rw[Int.natAbs_of_nonneg h0,Int.natCast_pow]
    exact h1
   exact Int.ofNat_lt.mp e
  have hne:i.natAbs≠0:=fun e=>by
   have:i=0:=Int.natAbs_eq_zero.mp e
   subst this
   rename_i q
   exact q rfl
  have:=(Nat.log2_lt hne).mpr h2
  have e:(2:Nat) ^ 20=1048576:=by decide
  omega
theorem CMulB.ok {i j:Int} (h:CMulB i j):IntMulOk i j:=.of_bits (bits_b h.1.1 h.1.2) (bits_b h.2.1 h.2.2)
theorem op_mulB:OpR X (binaryOp .Mult) (rI CMulB fun i j=>.int (i * j)):=opI fun _ _ _ _ _ _ _ hc q=>mul_int q hc.ok
noncomputable def ipB:TIp:=fun x y H Q=>∃ i j,x=.int i∧y=.int j∧CMulB i j∧Q (.int (i * j)) H
theorem ip_mulB:PIp X .Mult ipB:=by
 intro pins s σ H x y v u Q I r1 r2 h
 obtain⟨i,j,e1,e2,hc,q⟩:=h
 subst e1;subst e2
 obtain⟨t,rfl⟩:=r1
 obtain⟨t',rfl⟩:=r2
 exact imul_int ⟨.int _,H,I.tok _,⟨_,rfl⟩,q⟩ hc.ok
end
end L2
namespace CW
open PySem L2
structure Cn2 (mg:Str→Option Value) (tC:Tok):Prop where
 MOST_NICHES:mg "MOST_NICHES"=some (.int 200 tC)
theorem ipow_le {m n:Nat} (h:m≤n):(2:Int) ^ m≤2 ^ n:=by
 rw[show (2:Int)=((2:Nat):Int) from rfl,← Int.natCast_pow,← Int.natCast_pow]
 exact Int.ofNat_le.mpr (Nat.pow_le_pow_right (by decide) h)
theorem ipow_lt {m n:Nat} (h:m<n):(2:Int) ^ m<2 ^ n:=by
 rw[show (2:Int)=((2:Nat):Int) from rfl,← Int.natCast_pow,← Int.natCast_pow]
 exact Int.ofNat_lt.mpr (Nat.pow_lt_pow_right (by decide) h)
noncomputable def chW (room:Int):Nat→Int
 | 0=>1
 | n+1=>chW room n * (room+((n:Int)+1)) / ((n:Int)+1)
noncomputable def chO (n:Nat) (room:Int):Int:=if room<0 then 0 else chW room n
theorem chW_in {room:Int} (h0:0≤room) (h1:room≤200):∀ n:Nat,n≤60→0≤chW room n∧chW room n≤512 ^ n
 | 0,_=>⟨by unfold chW;decide,by unfold chW;decide⟩
 | n+1,hn=>by
  obtain⟨a,b⟩:=chW_in h0 h1 n (by omega)
  have p:0≤chW room n * (room+((n:Int)+1)):=Int.mul_nonneg a (by omega)
  refine⟨Int.ediv_nonneg p (by omega),?_⟩
  have q:chW room n * (room+((n:Int)+1))≤512 ^ n * 512:=Int.mul_le_mul b (by omega) (by omega) (Int.le_of_lt (Int.pow_pos (by decide)))
  have r:chW room n * (room+((n:Int)+1)) / ((n:Int)+1)≤chW room n * (room+((n:Int)+1)):=Int.ediv_le_self _ p
  have e:(512:Int) ^ (n+1)=512 ^ n * 512:=Int.pow_succ ..
  show chW room n * (room+((n:Int)+1)) / ((n:Int)+1)≤512 ^ (n+1)
  rw[e]
  exact Int.le_trans r q
theorem chO_in {room:Int} (h1:room≤200) {n:Nat} (hn:n≤60):0≤chO n room∧chO n room≤2 ^ 540:=by
 unfold chO
 split
 ·exact⟨Int.le_refl _,Int.le_of_lt (Int.pow_pos (by decide))⟩
 ·obtain⟨a,b⟩:=chW_in (by omega) h1 n hn
  refine⟨a,Int.le_trans b ?_⟩
  have e:(512:Int) ^ n=2 ^ (9 * n):=by rw[Int.pow_mul];rfl
  rw[e]
  exact ipow_le (by omega)
noncomputable def lesN (ns:List Int) (m:Int):Int:=(ns.map fun o=>if o<m then o else m).sum
noncomputable def roomM (niches:Int) (ns:List Int) (m:Int):Int:=niches - 2 * lesN ns m
noncomputable def howM (niches:Int) (ns ms:List Int):Int:=ms.foldl (fun a m=>a * chO (ns.count m) (roomM niches ns m)) 1
noncomputable def rmM (niches:Int) (ns:List Int) (m:Int):Int×Int:=(m,roomM niches ns m)
theorem howM_snoc (niches:Int) (ns ms:List Int) (m:Int):howM niches ns (ms++[m])=howM niches ns ms * chO (ns.count m) (roomM niches ns m):=by
 unfold howM;rw[List.foldl_append];rfl
theorem howM_take {niches:Int} {ns ms:List Int} {i:Nat} {m:Int} (h:ms[i]?=some m):howM niches ns (ms.take (i+1))=howM niches ns (ms.take i) * chO (ns.count m) (roomM niches ns m):=by
 rw[List.take_succ,h];exact howM_snoc ..
theorem lesN_nn {ns:List Int} {m:Int} (h:∀ n∈ns,1≤n) (hm:1≤m):0≤lesN ns m:=by
 unfold lesN
 induction ns with
 | nil=>exact Int.le_refl 0
 | cons a l ih =>
  have h1:=ih fun n hn=>h n (List.mem_cons_of_mem _ hn)
  have h2:=h a List.mem_cons_self
  rw[List.map_cons,List.sum_cons]
  split <;> omega
theorem roomM_le {niches:Int} {ns:List Int} {m:Int} (hN:niches≤200) (h:∀ n∈ns,1≤n) (hm:1≤m):roomM niches ns m≤200:=by
 have:=lesN_nn h hm;unfold roomM;omega
theorem howM_in {niches:Int} {ns:List Int} (hN:niches≤200) (h:∀ n∈ns,1≤n) (hl:ns.length≤60):∀ (ms:List Int),(∀ m∈ms,1≤m)→∀ (i:Nat),i≤ms.length→0≤howM niches ns (ms.take i)∧howM niches ns (ms.take i)≤(2 ^ 540) ^ i:=by
 intro ms hms i
 induction i with
 | zero=>intro _;exact⟨show (0:Int)≤1 by decide,by rw[Int.pow_zero];exact Int.le_refl 1⟩
 | succ i ih =>
  intro hi
  obtain⟨a,b⟩:=ih (by omega)
  have hm:ms[i]?=some ms[i]:=List.getElem?_eq_getElem (by omega)
  obtain⟨c,d⟩:=chO_in (roomM_le hN h (hms ms[i] (List.getElem_mem _))) (n:=ns.count ms[i]) (Nat.le_trans List.count_le_length hl)
  rw[howM_take hm]
  refine⟨Int.mul_nonneg a c,?_⟩
  rw[Int.pow_succ]
  exact Int.mul_le_mul b d c (Int.le_of_lt (Int.pow_pos (Int.pow_pos (by decide))))
theorem howM_b {niches:Int} {ns ms:List Int} (hN:niches≤200) (h:∀ n∈ns,1≤n) (hl:ns.length≤60) (hms:∀ m∈ms,1≤m) (h18:ms.length≤18) {i:Nat} (hi:i≤ms.length) {m:Int} (hm:1≤m) :
 CMulB (howM niches ns (ms.take i)) (chO (ns.count m) (roomM niches ns m)):=by
 obtain⟨a,b⟩:=howM_in hN h hl ms hms i hi
 obtain⟨c,d⟩:=chO_in (roomM_le hN h hm) (n:=ns.count m) (Nat.le_trans List.count_le_length hl)
 have e:((2:Int) ^ 540) ^ i=2 ^ (540 * i):=by rw[Int.pow_mul]
 rw[e]at b
 exact⟨⟨a,Int.lt_of_le_of_lt b (ipow_lt (by omega))⟩,⟨c,Int.lt_of_le_of_lt d (ipow_lt (by omega))⟩⟩
structure SzOk (ns:List Int):Prop where
 pos:∀ n∈ns,1≤n
 sum:ns.sum≤60
 len:ns.length≤60
 few:(dedupI ns).length≤18
structure Dst (ns ms:List Int):Prop where
 perm:ms.Perm (dedupI ns)
 up:ms.Pairwise (·<·)
theorem Dst.mem {ns ms:List Int} (d:Dst ns ms) {m:Int}:m∈ms↔m∈ns:=d.perm.mem_iff.trans (dedup_mem ns m)
theorem Dst.eq {ns ns' ms ms':List Int} (d:Dst ns ms) (d':Dst ns' ms') (h:∀ m,m∈ns↔m∈ns'):ms=ms':=by
 have p:ms.Perm ms':=perm_of_sub (d.up.imp fun h=>Int.ne_of_lt h) (fun m hm=>d'.mem.mpr ((h m).mp (d.mem.mp hm))) (by
  rw[d'.perm.length_eq,d.perm.length_eq]
  exact(dedup_nodup ns').length_le_of_subset fun m hm=>(dedup_mem ns m).mpr ((h m).mpr ((dedup_mem ns' m).mp hm)))
 exact sorted_unique p (d.up.imp Int.le_of_lt) (d'.up.imp Int.le_of_lt)
theorem Dst.pos {ns ms:List Int} (d:Dst ns ms) (h:SzOk ns):∀ m∈ms,1≤m:=fun m hm=>h.pos m (d.mem.mp hm)
theorem Dst.len {ns ms:List Int} (d:Dst ns ms) (h:SzOk ns):ms.length≤18:=by rw[d.perm.length_eq];exact h.few
inductive spRooms (vs:List V) (H:Hp) (Q:VK) (E_:XK):Prop
 | mk (a:Addr) (niches:Int) (ns:List Int) (h0_:vs=[.int niches,.ref a]) (h1_:H a=some (.lst (ns.map V.int))) (h2_:SzOk ns)
  (h3_:∀ ms (l:Addr) us H',Dst ns ms→Same H H'→H' l=some (.lst us)→Prs H' us (ms.map (rmM niches ns))→Q (.ref l) H'):spRooms vs H Q E_
inductive spChoices (vs:List V) (H:Hp) (Q:VK) (E_:XK):Prop
 | mk (n:Nat) (room:Int) (h0_:vs=[.int n,.int room]) (h1_:n≤60) (h2_:room≤200) (h3_:Q (.int (chO n room)) H):spChoices vs H Q E_
end CW
namespace CW
open PySem L2
theorem SzOk.nil:SzOk []:=⟨fun n hn=>absurd hn List.not_mem_nil,by decide,by decide,by decide⟩
theorem Dst.nil {ms:List Int} (d:Dst [] ms):ms=[]:=by
 apply List.eq_nil_iff_forall_not_mem.mpr
 intro m hm
 have:=d.mem.mp hm
 cases this
end CW
namespace CW
open PySem L2
noncomputable def Sob (r:List Int):Prop:=∀ (i:Nat) (x:Int),r[i]?=some x→2 * ((i:Int)+1)≤x
theorem Sob.snoc {r:List Int} {p:Int}:Sob (r++[p])↔Sob r∧2 * ((r.length:Int)+1)≤p:=by
 constructor
 ·intro h
  refine⟨fun i x e=>h i x ?_,h r.length p ?_⟩
  ·rw[List.getElem?_append_left (List.getElem?_eq_some_iff.mp e).1];exact e
  ·rw[List.getElem?_append_right (Nat.le_refl _),Nat.sub_self];rfl
 ·rintro ⟨h1,h2⟩ i x e
  rw[List.getElem?_append]at e
  split at e
  ·exact h1 i x e
  ·rename_i q
   rcases Nat.lt_or_ge (i - r.length) 1 with z | z
   ·have:i=r.length:=by omega
    subst this
    rw[Nat.sub_self]at e
    cases e
    exact h2
   ·rw[List.getElem?_eq_none (by simpa using z)]at e;cases e
theorem les_siz' (j:Int):∀ ps:Trs,les ps j≤siz ps
 | []=>by simp[les,siz]
 | q :: ps=>by rw[les_cons,siz_cons];have:=les_siz' j ps;omega
theorem les_top {j:Int}:∀ {ps:Trs},(∀ q∈ps,q.1≤j)→les ps j=siz ps
 | [],_=>rfl
 | q :: ps,h=>by
  rw[les_cons,siz_cons,les_top fun x hx=>h x (List.mem_cons_of_mem _ hx)]
  have:=h q List.mem_cons_self
  omega
theorem les_up {j k:Int} (h:j≤k):∀ ps:Trs,les ps j≤les ps k
 | []=>by simp[les]
 | q :: ps=>by rw[les_cons,les_cons];have:=les_up h ps;omega
theorem greatest:∀ {ps:Trs},ps≠[]→∃ q∈ps,∀ x∈ps,x.1≤q.1
 | [],h=>absurd rfl h
 | [q],_=>⟨q,List.mem_cons_self,fun x hx=>by rw[List.mem_singleton.mp hx];exact Int.le_refl _⟩
 | p :: q :: ps,_=>by
  obtain⟨m,hm,hx⟩:=greatest (ps:=q :: ps) (by simp)
  by_cases c:m.1≤p.1
  ·exact⟨p,List.mem_cons_self,fun x h=>by
    rcases List.mem_cons.mp h with e | e
    ·rw[e];exact Int.le_refl _
    ·exact Int.le_trans (hx x e) c⟩
  ·exact⟨m,List.mem_cons_of_mem _ hm,fun x h=>by
    rcases List.mem_cons.mp h with e | e
    ·rw[e];omega
    ·exact hx x e⟩
theorem Lst.lowS {r:List Int} {ps:Trs} (h:Lst r ps):(∀ q∈ps,0≤q.2)↔Sob r:=by
 induction h with
 | nil=>exact⟨fun _ i x e=>by simp at e,fun _ q hq=>nomatch hq⟩
 | @snoc r ps p qs hl hb ha ih =>
  have hL:Lst (r++[p]) qs:=.snoc hl hb ha
  have hbd:Bd qs p:=hL.bd fun x hx=>by
   rcases List.mem_append.mp hx with z | z
   ·have:=hb x z;omega
   ·rw[List.mem_singleton.mp z];exact Int.le_refl _
  have hz:=hL.sizx
  rw[List.length_append]at hz
  have hz2:=hl.sizx
  obtain⟨s,rest,h0,h1,h2,h3⟩:=id ha
  rw[Sob.snoc,← ih]
  have hm:∀ q:Int×Int,q∈qs↔q=(s+1,p - 2 * les rest (s+1) - 2 * (s+1))∨q∈rest:=fun q=>by rw[h3.mem_iff,List.mem_cons]
  have hlr:les rest (s+1)+(s+1)≤siz qs:=by
   have:les qs (s+1)≤siz qs:=les_siz' _ _
   rw[les_perm h3,les_cons]at this
   simp only at this
   omega
  simp only[List.length_singleton,Int.natCast_add]at hz
  constructor
  ·intro h
   refine⟨fun q hq=>?_,?_⟩
   ·rcases h1 with ⟨_,hp⟩ | ⟨hs,hp⟩
    ·exact h q ((hm q).mpr (.inr (hp.mem_iff.mp hq)))
    ·rcases List.mem_cons.mp (hp.mem_iff.mp hq)with e | e
     ·have hnew:=h _ ((hm _).mpr (.inl rfl))
      simp only at hnew
      rw[e]
      show 0≤p - 1 - 2 * les ps s
      rw[les_perm hp,les_cons]
      have:=les_up (show s≤s+1 by omega) rest
      simp only
      omega
     ·exact h q ((hm q).mpr (.inr e))
   ·obtain⟨q,hq,hg⟩:=greatest ha.ne
    have e1:=(hbd q hq).2
    rw[les_top hg]at e1
    have:=h q hq
    omega
  ·rintro ⟨h,hp'⟩ q hq
   rcases (hm q).mp hq with e | e
   ·rw[e]
    show 0≤p - 2 * les rest (s+1) - 2 * (s+1)
    omega
   ·rcases h1 with ⟨_,hp⟩ | ⟨hs,hp⟩
    ·exact h q (hp.mem_iff.mpr e)
    ·exact h q (hp.mem_iff.mpr (List.mem_cons_of_mem _ e))
theorem Lst.highS {r:List Int} {ps:Trs} (h:Lst r ps) (n:Int):(∀ q∈ps,q.2+2 * les ps q.1≤n)↔∀ x∈r,x≤n:=by
 constructor
 ·intro hq
  cases h with
  | nil=>intro x hx;cases hx
  | @snoc r ps' p _ hl hb ha =>
   obtain⟨s,rest,h0,h1,h2,h3⟩:=id ha
   have:=hq _ (h3.mem_iff.mpr List.mem_cons_self)
   simp only at this
   rw[les_perm h3,les_cons]at this
   simp only at this
   have e:min (s+1) (s+1)=s+1:=by omega
   rw[e]at this
   intro x hx
   rcases List.mem_append.mp hx with z | z
   ·have:=hb x z;omega
   ·rw[List.mem_singleton.mp z];omega
 ·intro hx q hq
  exact(h.bd hx q hq).2
theorem lesN_les (ps:Trs) (m:Int):lesN (ps.map (·.1)) m=les ps m:=by
 unfold lesN les
 rw[List.map_map]
 congr 1
 refine List.map_congr_left fun q _=>?_
 simp only[Function.comp]
 split <;> omega
theorem Lst.sober {r:List Int} {ps:Trs} (h:Lst r ps) (n:Int):(∀ q∈ps,0≤q.2∧q.2≤roomM n (ps.map (·.1)) q.1)↔(Sob r∧∀ x∈r,x≤n):=by
 rw[← h.lowS,← h.highS n]
 constructor
 ·intro hq
  refine⟨fun q hm=>(hq q hm).1,fun q hm=>?_⟩
  have:=(hq q hm).2
  unfold roomM at this
  rw[lesN_les]at this
  omega
 ·rintro ⟨h1,h2⟩ q hm
  refine⟨h1 q hm,?_⟩
  unfold roomM
  rw[lesN_les]
  have:=h2 q hm
  omega
end CW
namespace CW
open PySem L2
end CW
namespace L2
open PySem PySem.Spec PyProof.Rows
open Sem (wp)
noncomputable def TailH (bmB bm:List Value):Prop:=∀ {X:String} {b:Bool},bmB.contains (.type X)=b→bm.contains (.type X)=b
noncomputable def noRefs:List Value→List Value
 | .ref _ :: r=>noRefs r
 | l=>l
theorem tailH_of {bmB:List Value}:∀ {bm:List Value},noRefs bm=bmB→TailH bmB bm
 | [],e=>fun hb=>by
  have e':([]:List Value)=bmB:=e
  rw[e']
  exact hb
 | v :: r,e=>fun hb=>by
  cases v
  case ref a =>
   have ih:=tailH_of (bm:=r) e hb
   rw[List.contains_cons,ih]
   rfl
  all_goals (rw[show _ :: r=bmB from e];exact hb)
section
variable {prog:Program} {w:World} {A:Around} {E:Value→Shared→Prop} {h:Heap} {g:Array GenState} {d:Drawn} {t:Nat} {os:OsState}
variable {nm q:Str} {C N:Addr} {bs bm bmB:List Value} {hdct:Bool} {sn:List Str} {sub:List Value} {ab:Bool} {col:Option Bool} {dd:Option Addr} {k0 k1 k2 k3 k5:Option Value} {B newId initId:String}
theorem check_newH {M:Model} (F:ExcBaseFacts B newId initId bmB) (T:TailH bmB bm) {rest:List Value} {Q:Unit→Shared→Prop} (oC:h.get? C=some (excClassObj nm q C N bs bm hdct sn sub ab col dd k0 k1 k2 k3 k5 newId))
 (kq:Q () ⟨h,g,d,t,os⟩):wpAny M A (checkBuiltinCall newId ⟨.ref C :: rest,[]⟩) Q E ⟨h,g,d,t,os⟩:=by
 have hasIt:(Value.ref C :: bm).contains (.type B)=true:=by
  rw[List.contains_cons,T F.hasB]
  exact Bool.or_true _
 have ns:=F.noStar
 simp only[checkBuiltinCall,F.newRow,F.newSplit,F.newKind]
 repeat (first
  | refine wpAny_loadPart_at oC ?_
  | (refine wpAny_isSubtype_exc oC ?_;rw[hasIt])
  | refine wpAny_staticBase_exc oC ?_
  | refine wpAny_madeBy_exc oC ?_
  | simp only[bne_self_eq_false,if_false,Bool.false_eq_true]
  | wp_step)
 exact kq
theorem exc_newH {R:Result→Shared→Prop} (F:ExcBaseFacts B newId initId bmB) (T:TailH bmB bm) {rest:List Value} (oC:h.get? C=some (excClassObj nm q C N bs bm hdct sn sub ab col dd k0 k1 k2 k3 k5 newId))
 (kq:R (.ok (.ret (.ref (h.objs.size+1)))) ⟨(h.push { cls:=.type "tuple",data:=.seq rest.toArray }).push { cls:=.ref C,data:=.fields #[.ref h.objs.size,.none,.none,.none,.bool false,.none] },g,d,t,os⟩) (hrest:rest.length≤sizeLine:=by size_fits) :
 codeAny (model prog w) A (.builtin newId ⟨.ref C :: rest,[]⟩) R ⟨h,g,d,t,os⟩:=by
 have ends:=F.ends
 have has1:(Value.ref C :: bm).contains (.type B)=true:=by
  rw[List.contains_cons,T F.hasB]
  exact Bool.or_true _
 have has2:(Value.ref C :: bm).contains (.type "AttributeError")=false:=by
  rw[List.contains_cons,T F.noAttr]
  rfl
 have has3:(Value.ref C :: bm).contains (.type "NameError")=false:=by
  rw[List.contains_cons,T F.noName]
  rfl
 refine codeAny_builtinAt F.entry ?_
 unfold Builtin.«BaseException.__new__»
 refine PySem.wpAt_bind ?_
 show PySem.wpAt _ _ _ (stack >>= _) _ _ _
 refine PySem.wpAt_bind (PySem.wpAt_stack fun _ _=>PySem.wpAt_of_wpAny ?_)
 wp_walk
 refine PySem.wpAt_of_wpAny ?_
 rw[F.owner]
 repeat (first
  | with_reducible refine wpAny_madeHere_exc F.canon oC ?_
  | with_reducible refine wpAny_loadPart_at oC ?_
  | (with_reducible refine wpAny_isSubtype_exc oC ?_;first | rw[has1] | rw[has2] | rw[has3])
  | wp_step)
 show R _ _
 rw[Heap.size_push]
 exact kq
theorem check_initH {M:Model} (F:ExcBaseFacts B newId initId bmB) (T:TailH bmB bm) {e:Addr} {oe:Obj} {rest:List Value} {Q:Unit→Shared→Prop}
 (oC:h.get? C=some (excClassObj nm q C N bs bm hdct sn sub ab col dd k0 k1 k2 k3 k5 newId)) (oE:h.get? e=some oe) (ocl:oe.cls=.ref C) (kq:Q () ⟨h,g,d,t,os⟩) :
 wpAny M A (checkBuiltinCall initId ⟨.ref e :: rest,[]⟩) Q E ⟨h,g,d,t,os⟩:=by
 have hasIt:(Value.ref C :: bm).contains (.type B)=true:=by
  rw[List.contains_cons,T F.hasB]
  exact Bool.or_true _
 have ns:=F.noStar
 simp only[checkBuiltinCall,F.initRow,F.initSplit,F.initKind]
 repeat (first
  | (with_reducible refine wpAny_loadPart_at oE ?_;rw[ocl])
  | with_reducible refine wpAny_loadPart_at oC ?_
  | (with_reducible refine wpAny_isSubtype_exc oC ?_;rw[hasIt])
  | wp_step)
 refine wpAny_onRaise ?_
 rw[show ∀ (a b:String) (n:Nat),Bind.check ⟨.positional,"*",B,.self,[⟨"args",.varPos,false⟩]⟩ a b n (List.map (fun x=>x.fst) ({ pos:=Value.ref e :: rest }:Args).kw)=pure () from fun a b n=>check_star_args _ _ _ _ _ _]
 exact wpAny_pure kq
theorem type_call_initT (F:ExcBaseFacts B newId initId bmB) (T:TailH bmB bm) {mN:Str→Option Value} {rest:List Value} {fI:Addr} {oI:Obj} {Q:Fin→Shared→Prop}
 (hC:h.get? C=some (excClassObj nm q C N bs bm hdct sn sub ab col dd k0 k1 k2 k3 k5 newId)) (hn:h.Ns N mN) (hi:mN "__init__"=some (.ref fI))
 (hfI:h.get? fI=some oI) (hfc:oI.cls=.type "function")
 (hq:∀ h' e,Heap.MadeExcOf h h' e (.ref C) rest →
  wpAny (model prog w) A (call (.ref fI) (.ref e :: rest)) (fun r s'=>r=.none∧Q (.done (.ret (.ref e))) s') E ⟨h',g,d,t,os⟩) (hrest:rest.length≤sizeLine:=by size_fits) :
 wpAny (model prog w) A (Builtin.«type.__call__» ⟨.ref C :: rest,[]⟩) Q E ⟨h,g,d,t,os⟩:=by
 repeat (first | with_reducible refine wpAny_loadPart_at hC ?_ | with_reducible refine wpAny_madeBy_exc hC ?_ | wp_step)
 refine codeAny_call_builtin_code (Code.quiet_builtin _ F.quiet) (check_newH F T hC ?_)
 refine exc_newH F T hC ?_ hrest
 show wpAny _ _ _ _ _ _
 have k2:∀ b o,h.get? b=some o→((h.push { cls:=.type "tuple",data:=.seq rest.toArray }).push { cls:=.ref C,data:=.fields #[.ref h.objs.size,.none,.none,.none,.bool false,.none] }).get? b=some o :=
  fun b o e=>Heap.get?_push_of_some _ (Heap.get?_push_of_some _ e)
 have hC₁:=k2 _ _ hC
 have hfI₁:=k2 _ _ hfI
 have hn₁:=hn.keeps k2
 have hget:((h.push { cls:=.type "tuple",data:=.seq rest.toArray }).push
  { cls:=.ref C,data:=.fields #[.ref h.objs.size,.none,.none,.none,.bool false,.none] }).get? (h.objs.size+1)=some
  { cls:=.ref C,data:=.fields #[.ref h.objs.size,.none,.none,.none,.bool false,.none] }:=by heap_get
 have hcC:(Value.ref C :: bm).contains (.ref C)=true:=by simp
 unfold isInstance
 repeat (first | with_reducible refine wpAny_loadPart_at hget ?_ | (with_reducible refine wpAny_isSubtype_exc hC₁ ?_;rw[hcC]) | wp_step)
 show wpAny _ _ (typeLookup (.ref C) _) _ _ _
 rw[typeLookup_eq]
 refine wpAny_bind (wpAny_mroOf_exc hC₁ ?_)
 rw[lookupAlong_cons]
 refine wpAny_bind (wpAny_classOwn_exc hC₁ hn₁ ?_)
 rw[hi]
 refine wpAny_pure ?_
 refine wpAny_holding (wpAny_bind ?_)
 unfold bindSpecial
 refine wpAny_bind (wpAny_typeOf (T:="function") ⟨_,hfI₁,hfc⟩ ?_)
 rw[if_pos (by decide)]
 refine wpAny_pure (wpAny_bind (wpAny_mono (hq _ (h.objs.size+1) ⟨k2,Heap.get?_none_of_le (Nat.le_succ _),h.objs.size,hget,Heap.get?_none_of_le (Nat.le_refl _),?_⟩) (fun r s' hr=>?_) fun _ _ x=>x))
 ·exact Heap.get?_push_of_some _ (Heap.get?_push_at rfl rfl)
 ·obtain⟨rfl,hQ⟩:=hr
  wp_walk
  exact hQ
theorem call_initT (F:ExcBaseFacts B newId initId bmB) (T:TailH bmB bm) {mN:Str→Option Value} {rest:List Value} {fI:Addr} {oI:Obj} {Q:Value→Shared→Prop}
 (hC:h.get? C=some (excClassObj nm q C N bs bm hdct sn sub ab col dd k0 k1 k2 k3 k5 newId)) (hn:h.Ns N mN) (hi:mN "__init__"=some (.ref fI))
 (hfI:h.get? fI=some oI) (hfc:oI.cls=.type "function")
 (hq:∀ h' e,Heap.MadeExcOf h h' e (.ref C) rest →
  wpAny (model prog w) (A.under (.builtin "type.__call__" ⟨.ref C :: rest,[]⟩)) (call (.ref fI) (.ref e :: rest)) (fun r s'=>r=.none∧Q (.ref e) s') E ⟨h',g,d,t,os⟩) (hrest:rest.length≤sizeLine:=by size_fits) :
 wpAny (model prog w) A (call (.ref C) rest) Q E ⟨h,g,d,t,os⟩:=by
 have f1:=tc_lookup
 have f2:=tc_bind (.ref C)
 have hT:(⟨h,g,d,t,os⟩:Shared).TypeIs (.ref C) "type":=⟨_,hC,rfl⟩
 refine wpAny_call (codeAny_of_tree ?_)
 show wpAny _ _ (callAny (.ref C) _) _ _ _
 repeat (any_goals (first | assumption | with_reducible refine wpAny_loadPart_at hC ?_ | wp_step))
 refine⟨rfl,?_⟩
 refine codeAny_call_builtin_at (Code.quiet_builtin _ (by decide +kernel)) entry_typeCall (wpAny_check_type_call_sub hC (type_call_initT (hrest:=hrest) F T hC hn hi hfI hfc fun h' e hm=>?_))
 exact hq h' e hm
theorem raise_made_od {M:Model} {s:Shared} {env:Env} {x:Sem Value} {Q:Flow→Shared→Prop} (hbase:bm.contains (.type "BaseException")=true) (hh:A.handled=none)
 (h:wpAny M A x (fun v s₁=>∃ e od t,v=.ref e∧s₁.heap.get? C=some (excClassObj nm q C N bs bm hdct sn sub ab col dd k0 k1 k2 k3 k5 newId) ∧
  s₁.heap.get? e=some { cls:=.ref C,dict:=od,data:=.fields #[.ref t,.none,.none,.none,.bool false,.none] }∧E (.ref e) s₁) E s) :
 wpAny M A (raiseStmt env (some x) none) Q E s:=by
 have hcB:(Value.ref C :: bm).contains (.type "BaseException")=true:=by rw[List.contains_cons,hbase,Bool.or_true]
 unfold raiseStmt
 refine wpAny_bind (wpAny_mono h (fun v s₁ h₁=>?_) fun _ _ x=>x)
 obtain⟨e,od,t,rfl,hC,he,hE⟩:=h₁
 obtain⟨hp,g,d,tk,os⟩:=s₁
 repeat (first | with_reducible refine wpAny_loadPart_at he ?_ | with_reducible refine wpAny_loadPart_at hC ?_ | (with_reducible refine wpAny_isSubtype_exc hC ?_;rw[hcB]) | wp_step)
 exact wpAny_raiseNew_none hh hE
theorem raise_initT {s:Shared} {env:Env} (F:ExcBaseFacts B newId initId bmB) {mN:Str→Option Value} {x:Str} {np cpos pos:Pos} {args:List Expr} {fI:Addr} {oI:Obj} {Q:Flow→Shared→Prop}
 (hbase:bm.contains (.type "BaseException")=true) (hh:A.handled=none) (hplain:(backTo cpos (starEach args env)).any (·.1)=false) (hi:mN "__init__"=some (.ref fI)) (hfc:oI.cls=.type "function")
 (h:wpAny (model prog w) A (eval (.Name x np) env) (fun f s₁=>f=.ref C∧wpAny (model prog w) A (evalArgs (.ref C) true (backTo cpos (starEach args env)) [])
  (fun a s₂=>a.kw=[]∧a.pos.length≤sizeLine∧s₂.heap.get? C=some (excClassObj nm q C N bs bm hdct sn sub ab col dd k0 k1 k2 k3 k5 newId)∧s₂.heap.Ns N mN∧TailH bmB bm∧s₂.heap.get? fI=some oI ∧
   ∀ h' e,Heap.MadeExcOf s₂.heap h' e (.ref C) a.pos→wpAny (model prog w) (A.under (.builtin "type.__call__" ⟨.ref C :: a.pos,[]⟩)) (call (.ref fI) (.ref e :: a.pos)) (fun r s'=>r=.none ∧
    (s'.heap.get? C=some (excClassObj nm q C N bs bm hdct sn sub ab col dd k0 k1 k2 k3 k5 newId))∧(∃ od t,s'.heap.get? e=some { cls:=.ref C,dict:=od,data:=.fields #[.ref t,.none,.none,.none,.bool false,.none] })∧E (.ref e) s') E { s₂ with heap:=h' }) E s₁) E s) :
 wpAny (model prog w) A (exec (.Raise (some (.Call (.Name x np) args [] cpos)) none pos) env) Q E s:=by
 rw[arm_exec_Raise]
 simp only[evalOpt,Option.map]
 refine wpAny_bind (wpAny_standAt (raise_made_od (C:=C) (nm:=nm) (q:=q) (N:=N) (bs:=bs) (bm:=bm) (hdct:=hdct) (sn:=sn) (sub:=sub) (ab:=ab) (col:=col) (dd:=dd) (k0:=k0) (k1:=k1) (k2:=k2) (k3:=k3) (k5:=k5) (newId:=newId) hbase hh (wpAny_bind (wpAny_mono (wpAny_Call_ofName (wpAny_mono h (fun f s₁ h₁=>?_) fun _ _ x=>x)) (fun v s₃ h₃=>wpAny_bind (wpAny_standAt (wpAny_pure h₃))) fun _ _ x=>x))))
 obtain⟨rfl,h₁⟩:=h₁
 unfold callWith
 refine wpAny_bind (wpAny_holding (wpAny_mono h₁ (fun a s₂ h₂=>wpAny_bind (wpAny_standAt ?_)) fun _ _ x=>x))
 obtain⟨apos,akw⟩:=a
 obtain⟨hkw,hlen,hC,hn,T,hfI,h₂⟩:=h₂
 obtain rfl:akw=[]:=hkw
 obtain⟨hp,g,d,tk,os⟩:=s₂
 simp only[hplain]
 refine wpAny_bind (wpAny_keeperOf_exc hC ?_)
 refine wpAny_bind (call_initT (hrest:=hlen) F T hC hn hi hfI hfc fun h' e hm=>wpAny_mono (h₂ h' e hm) (fun r s' ⟨hr,z1,⟨od,vs,z2⟩,z3⟩=>⟨hr,?_⟩) fun _ _ z=>z)
 refine wpAny_bind (wpAny_holding (wpAny_point (wpAny_pure ?_)))
 exact⟨e,od,vs,rfl,z1,z2,z3⟩
theorem call_binit (F:ExcBaseFacts B newId initId bmB) (T:TailH bmB bm) {rest:List Value} {e t0:Addr} {od:Option Addr} {Q:Value→Shared→Prop}
 (hC:h.get? C=some (excClassObj nm q C N bs bm hdct sn sub ab col dd k0 k1 k2 k3 k5 newId)) (he:h.get? e=some { cls:=.ref C,dict:=od,data:=.fields #[.ref t0,.none,.none,.none,.bool false,.none] })
 (hq:∀ h' t1,(∀ b o,b≠e→h.get? b=some o→h'.get? b=some o)→h'.get? e=some { cls:=.ref C,dict:=od,data:=.fields #[.ref t1,.none,.none,.none,.bool false,.none] }→Q .none ⟨h',g,d,t,os⟩) (hrest:rest.length≤sizeLine:=by size_fits) :
 wpAny (model prog w) A (call (.builtin initId) (.ref e :: rest)) Q E ⟨h,g,d,t,os⟩:=by
 refine wpAny_call (codeAny_call_builtin F.init.plain F.initEntry (check_initH F T hC he rfl ?_))
 have he1:=Heap.get?_push_of_some { cls:=.type "tuple",data:=.seq rest.toArray } he
 wp_walk
 refine hq _ h.objs.size (fun b o n hb=>?_) ?_
 ·rw[Heap.get?_update_other _ _ n.symm]
  exact Heap.get?_push_of_some _ hb
 ·rw[Heap.get?_update_self _ he1 rfl]
  rfl
end
end L2
namespace L2
open PySem PySem.Spec PyProof.Rows
open Sem (wp)
open Builtin Builtin.ObjectAttr
structure XStore (K:PySem.W.Frag) (C:Addr) (name:Str):Prop where
 cls:∃ cd bm,PySem.W.clsIn K C=some cd∧cd.mro=.ref C :: bm∧(∀ self,refuseLoop self "__setattr__" bm=pure ())∧bm.contains (.type "object")=true∧cd.hasDict=true
 set:PySem.W.findIn K (.ref C) "__setattr__"=some (some (.builtin "object.__setattr__"))
 free:PySem.W.findIn K (.ref C) name=some none
section
variable {prog:Program} {w:World} {A:Around} {E:Value→Shared→Prop} {h:Heap} {g:Array GenState} {d:Drawn} {t:Nat} {os:OsState} {K:PySem.W.Frag} {C e:Addr} {name:Str} {v:Value} {vs:Array Value}
theorem store_exc {Q:Unit→Shared→Prop} (X:K.In h) (S:XStore K C name) (hx:h.get? e=some { cls:=.ref C,dict:=none,data:=.fields vs })
 (hq:∀ h' dx tk',h.get? dx=none→(∀ b o,b≠e→h.get? b=some o→h'.get? b=some o)→h'.get? e=some { cls:=.ref C,dict:=some dx,data:=.fields vs }→h'.Ns1 dx (fun y=>if y=name then some v else none)→Q () ⟨h',g,d,tk',os⟩) :
 wpAny (model prog w) A (setAttr (.ref e) name v) Q E ⟨h,g,d,t,os⟩:=by
 obtain⟨⟨cd,bm,hc,hm,href,hob,hdct⟩,hs,hfree⟩:=S
 have SF:=PySem.F.store_ValueError
 have I:PySem.W.InstAt h e { cls:=.ref C,dict:=none,data:=.fields vs } C none:=⟨hx,rfl,rfl,trivial⟩
 have hmro:PySem.W.Looks (model prog w) h (mroOf (.ref C)) cd.mro:=(PySem.W.looks_clsIn X hc).andThen .now
 have hsub:PySem.W.Looks (model prog w) h (isInstance (.ref e) (.type "object")) true:=I.type.andThen (PySem.W.looks_mroIn X (by
  unfold PySem.W.mroIn
  rw[hc,Option.bind_some,hm,if_neg (by simp),List.contains_cons,hob,Bool.or_true]))
 refine PySem.W.set_plain (s:=⟨h,g,d,t,os⟩) X I hs ?_
 refine codeAny_call_builtin SF.slot.plain SF.entry (@PySem.W.check_slot (model prog w) _ _ _ "object.__setattr__" "object" "__setattr__" (.ref e) [.str name t,v] [] _ SF.kind SF.split hsub (SF.args (.ref e) (.str name t) v) ?_)
 rw[PySem.W.osa_eq,refuse_eq]
 refine wpAny_bind (wpAny_bind (I.type.at (wpAny_bind (hmro.at ?_))))
 rw[hm,refuseLoop_ref,href]
 refine wpAny_pure (wpAny_bind (I.type.at (wpAny_bind ((PySem.W.looks_findIn X hfree).at (wpAny_bind ?_)))))
 refine wpAny_pure ?_
 dsimp only
 have hx₁:(h.push { cls:=.type "dict",data:=.dict #[] }).get? e=some { cls:=.ref C,dict:=none,data:=.fields vs }:=Heap.get?_push_of_some _ hx
 have hxs:e≠h.objs.size:=Nat.ne_of_lt (Heap.lt_size hx)
 refine wpAny_bind (wpAny_pure (wpAny_bind (wpAny_bind (wpAny_loadPart hx (wpAny_bind ((PySem.W.looks_clsIn X hc).at ?_))))))
 rw[hdct]
 rw[if_neg (by decide)]
 dsimp only
 rw[if_neg (by simp[typeHasDict])]
 refine wpAny_bind (wpAny_alloc' ?_)
 refine wpAny_bind (wpAny_update' hx₁ ?_)
 refine wpAny_pure ?_
 dsimp only
 have hgd:((h.push { cls:=.type "dict",data:=.dict #[] }).update e fun o=>{ cls:=o.cls,dict:=some h.objs.size,data:=o.data,slots:=o.slots }).get? h.objs.size
  = some { cls:=.type "dict",data:=.dict #[] }:=(Heap.get?_update_ne _ _ _ _ hxs.symm).trans (Heap.get?_push_at rfl rfl)
 have hnd:((h.push { cls:=.type "dict",data:=.dict #[] }).update e fun o=>{ cls:=o.cls,dict:=some h.objs.size,data:=o.data,slots:=o.slots }).Ns h.objs.size (fun _=>none) :=
  ⟨_,#[],_,hgd,rfl,fun e he=>absurd he (by simp),fun _=>rfl⟩
 unfold storeInDict newKeyGuard
 refine wpAny_bind (wpAny_pure (wpAny_bind (wpAny_nsSet1 (Heap.Ns1.of_empty hnd) fun h' hn' hs=>?_)))
 obtain⟨oD,esD,epD,hoD,hdD,hcD⟩:=hn'.count (Within.cons name v Within.nil)
 refine wpAny_bind (wpAny_lookBehind hoD (by rw[hdD];exact pastItsLine_dict (Nat.le_trans hcD (by rw[List.length_cons,List.length_nil,sizeLine_eq];omega))) ?_)
 wp_walk
 refine hq h' h.objs.size _ (Heap.get?_none_of_le (Nat.le_refl _)) (fun b o n hb=>?_) ?_ hn'
 ·exact(hs.2 b (Nat.ne_of_lt (Heap.lt_size hb))).trans ((Heap.get?_update_ne _ _ _ _ n).trans (Heap.get?_push_of_some _ hb))
 ·exact(hs.2 e hxs).trans (Heap.get?_update_self _ hx₁ rfl)
end
end L2
namespace L2
open PySem PySem.Spec PyProof.Rows
noncomputable def XO (C e:Addr) (od:Option Addr):HO:=.ext fun h=>∃ t,h.get? e=some { cls:=.ref C,dict:=od,data:=.fields #[.ref t,.none,.none,.none,.bool false,.none] }
theorem XO.mk {P:Program} {w:World} {H:Hp} {h:Heap} {C e t:Addr} {od:Option Addr} (x:h.get? e=some { cls:=.ref C,dict:=od,data:=.fields #[.ref t,.none,.none,.none,.bool false,.none] }):ObjOk P w H h e (XO C e od) :=
 ⟨⟨t,x⟩,⟨_,x⟩,fun h1 h2 ⟨t,z⟩ k=>⟨t,k _ z⟩⟩
noncomputable def del (H:Hp) (a:Addr):Hp:=fun b=>if b=a then none else H b
theorem del_same {H:Hp} {a:Addr}:del H a a=none:=by unfold del;rw[if_pos rfl]
theorem del_ne {H:Hp} {a b:Addr} (h:b≠a):del H a b=H b:=by unfold del;rw[if_neg h]
section
variable {X:Cx} {pins:List (Addr×Obj)} {σ:St} {H:Hp} {s:Shared} {h':Heap} {C e dx:Addr} {od:Option Addr} {φ:Heap→Prop}
theorem Inv.forget (I:Inv X pins σ H s) (he:H e=some (.ext φ)):Inv X pins σ (del H e) s:=by
 have ne:∀ b u,H b=some u→(∀ ψ,u≠.ext ψ)→b≠e:=fun b u q n z=>by rw[z,he]at q;cases q;exact n _ rfl
 have un:Un X.fs [] H (del H e) s.heap s.heap:=⟨fun _ _ q _ _ _=>q,fun _ o q _ _ _=>⟨o.slots,q⟩,fun b _ _ n _=>by unfold del;split <;> first | rfl | exact n,fun _ o q _=>⟨o,q⟩,
  fun b xs q=>by rw[del_ne (ne b _ q fun _ z=>by cases z)];exact q,fun b o u q=>by rw[del_ne (ne b _ q fun _ z=>by cases z)];exact q,fun b ps q=>⟨#[],by rw[del_ne (ne b _ q fun _ z=>by cases z),q];simp⟩⟩
 exact I.un (t':=s.toks) un fun b u q=>by
  by_cases hb:b=e
  ·rw[hb,del_same]at q;cases q
  ·rw[del_ne hb]at q
   exact(I.hok b u q).stay (fun _ _ _ z=>z) (fun c z=>by rw[del_ne (ne c _ z fun _ z=>by cases z)];exact z) fun c xs z=>by rw[del_ne (ne c _ z fun _ z=>by cases z)];exact z
theorem Inv.unthere (I:Inv X pins σ H s) {a:Addr} (hn:s.heap.get? a=none):H a=none:=by
 cases hu:H a with
 | none=>rfl
 | some u =>
  obtain⟨o,ho⟩:=(I.hok a u hu).there
  rw[hn]at ho
  cases ho
theorem Inv.newX (I:Inv X pins σ H s) {args:List Value} (hm:Heap.MadeExcOf s.heap h' e (.ref C) args):Inv X pins σ (upd H e (XO C e none)) { s with heap:=h' }:=by
 have hn:=I.unthere hm.new
 have ne:∀ b u,H b=some u→b≠e:=fun b u q z=>by rw[z,hn]at q;cases q
 have nh:∀ b o,s.heap.get? b=some o→b≠e:=fun b o q z=>by rw[z,hm.new]at q;cases q
 obtain⟨t,ht,_,_⟩:=hm.there
 have un:Un X.fs [] H (upd H e (XO C e none)) s.heap h':=⟨fun b o q _ _ _=>hm.keeps b o q,fun b o q _ _ _=>⟨o.slots,hm.keeps b o q⟩,fun b o q n _=>by rw[upd_ne (nh b o q)];exact n,fun b o q _=>⟨o,hm.keeps b o q⟩,
  fun b xs q=>by rw[upd_ne (ne b _ q)];exact q,fun b o u q=>by rw[upd_ne (ne b _ q)];exact q,fun b ps q=>⟨#[],by rw[upd_ne (ne b _ q),q];simp⟩⟩
 exact I.un (t':=s.toks) un fun b u q=>by
  by_cases hb:b=e
  ·subst hb;rw[upd_same]at q;cases q;exact XO.mk ht
  ·rw[upd_ne hb]at q
   exact(I.hok b u q).stay (fun c v _ z=>hm.keeps c v z) (fun c z=>by rw[upd_ne (ne c _ z)];exact z) fun c xs z=>by rw[upd_ne (ne c _ z)];exact z
theorem Inv.dictX (I:Inv X pins σ H s) {t':Nat} {fs:List (Str×V)} (he:H e=some (XO C e none)) (hdx:s.heap.get? dx=none) (k:∀ b o,b≠e→s.heap.get? b=some o→h'.get? b=some o) {t:Addr}
 (hx:h'.get? e=some { cls:=.ref C,dict:=some dx,data:=.fields #[.ref t,.none,.none,.none,.bool false,.none] }) (hd:∃ mA,h'.Ns1 dx mA∧∀ f,RelO (fs.lookup f) (mA f)) :
 Inv X pins σ (upd (upd H dx (.xd fs)) e (XO C e (some dx))) { s with heap:=h',toks:=t' }:=by
 have hn:=I.unthere hdx
 have ne:∀ b u,H b=some u→(∀ ψ,u≠.ext ψ)→b≠e:=fun b u q n z=>by rw[z,he]at q;cases q;exact n _ rfl
 have nd:∀ b u,H b=some u→b≠dx:=fun b u q z=>by rw[z,hn]at q;cases q
 have nb:∀ b,H b=none→b≠e:=fun b q z=>by rw[z,he]at q;cases q
 have nh:∀ b o,s.heap.get? b=some o→b≠dx:=fun b o q z=>by rw[z,hdx]at q;cases q
 have up:∀ b u,H b=some u→(∀ ψ,u≠.ext ψ)→upd (upd H dx (.xd fs)) e (XO C e (some dx)) b=some u:=fun b u q n=>by rw[upd_ne (ne b u q n),upd_ne (nd b u q)];exact q
 have un:Un X.fs [] H (upd (upd H dx (.xd fs)) e (XO C e (some dx))) s.heap h':=⟨fun b o q n _ _=>k b o (nb b n) q,fun b o q n _ _=>⟨o.slots,k b o (nb b n) q⟩,fun b o q n _=>by rw[upd_ne (nb b n),upd_ne (nh b o q)];exact n,
  fun b o q _=>by
   by_cases hb:b=e
   ·rw[hb];exact⟨_,hx⟩
   ·exact⟨o,k b o hb q⟩,
  fun b xs q=>up b _ q (fun _ z=>by cases z),fun b o u q=>up b _ q (fun _ z=>by cases z),fun b ps q=>⟨#[],by rw[up b _ q (fun _ z=>by cases z)];simp⟩⟩
 exact I.un (t':=t') un fun b u q=>by
  by_cases hb:b=e
  ·subst hb;rw[upd_same]at q;cases q;exact XO.mk hx
  ·rw[upd_ne hb]at q
   by_cases hc:b=dx
   ·subst hc;rw[upd_same]at q;cases q;exact hd
   ·rw[upd_ne hc]at q
    refine(I.hok b u q).stay (fun c v hcv z=>k c v (fun z'=>?_) z) (fun c z=>up c _ z fun _ z=>by cases z) fun c xs z=>up c _ z fun _ z=>by cases z
    subst z'
    rcases hcv with z1 | z1
    ·exact hb z1.symm
    ·rw[he]at z1;cases z1
end
noncomputable def XCls (K:PySem.W.Frag) (C:Addr) (i:Option Value):Prop:=∀ h:Heap,K.In h→∃ bm N nm q bs hdct sn sub ab col dd k0 k1 k2 k3 k5 mN,h.get? C=some (excClassObj nm q C N bs bm hdct sn sub ab col dd k0 k1 k2 k3 k5 "ValueError.__new__")∧h.Ns N mN∧mN "__init__"=i∧TailH bmV bm
noncomputable def excInI (K:PySem.W.Frag) (C:Addr) (i:Option Value):Bool:=match K.lookup C with
 | some ⟨.type "type",_,.cls cd,sl⟩=>(match cd.mro,sl.toList with
  | .ref C' :: bm,[_,_,_,_,some (.builtin n),_]=>C' == C && n == "ValueError.__new__" && !cd.hasDel && noRefs bm == bmV && PySem.W.nsOkIn K cd.ns && PySem.W.nsIn K cd.ns "__init__" == some i
  | _,_=>false)
 | _=>false
theorem nsMap_of_in {K:PySem.W.Frag} {h:Heap} {N:Addr} {x:Str} {v:Value} (X:K.In h) (e:PySem.W.nsOkIn K N=true) (q:PySem.W.nsIn K N x=some (some v)):h.nsMap N x=some v:=by
 obtain⟨o,es,ep,ho,hd,_,hf⟩:=Heap.Ns.of_isNs (PySem.W.isNs_of_in X e)
 unfold PySem.W.nsIn at q
 split at q
 ·rename_i c d es' n' sl z
  have:=X _ _ z
  rw[ho]at this
  cases this
  cases hd
  split at q
  ·rename_i en he
   cases q
   rw[← hf]
   unfold nsFind findBy
   rw[← Array.find?_toList,he]
   rfl
  ·split at q <;> cases q
 ·cases q
theorem xcls_of {K:PySem.W.Frag} {C:Addr} {i:Option Value} (q:excInI K C i=true):XCls K C i:=fun h kin=>by
 unfold excInI at q
 split at q
 ·rename_i dd cd sl ho
  split at q
  ·rename_i C' bm k0 k1 k2 k3 n k5 hm hs
   simp only[Bool.and_eq_true,beq_iff_eq,Bool.not_eq_true']at q
   obtain⟨⟨⟨⟨⟨e1,e2⟩,hdel⟩,ht⟩,hok⟩,hni⟩:=q
   subst e1 e2
   obtain⟨nm,bs,mro,ns,qn,hd,sn,sub,ab,col,del⟩:=cd
   dsimp only at hm hdel hok hni
   subst hm hdel
   obtain⟨l⟩:=sl
   dsimp only at hs
   subst hs
   refine⟨bm,ns,nm,qn,bs,hd,sn,sub,ab,col,dd,k0,k1,k2,k3,k5,_,kin _ _ ho,.of_isNs (PySem.W.isNs_of_in kin hok),?_,tailH_of ht⟩
   cases i with
   | none=>exact PySem.W.nsMap_none_of_in kin hok hni
   | some v=>exact nsMap_of_in kin hok hni
  ·cases q
 ·cases q
end L2
namespace L2
open PySem PySem.Spec PyProof.Rows
theorem isFn_at {K:PySem.W.Frag} {h:Heap} {f:Addr} (kin:K.In h) (hf:PySem.W.isFn K (.ref f)=true):∃ o,h.get? f=some o∧o.cls=.type "function":=by
 unfold PySem.W.isFn at hf
 have e:=beq_iff_eq.mp hf
 unfold PySem.W.typeIn at e
 cases q:K.lookup f with
 | none=>simp[q]at e
 | some o=>exact⟨o,kin _ _ q,by simpa[q]using e⟩
noncomputable def tBInit (K:PySem.W.Frag) (t:TA):TE:=fun σ H Q=>t σ H fun vs H1=>∃ a C i od rest,vs=.ref a :: rest∧rest.length≤sizeLine∧H1 a=some (XO C a od)∧XCls K C i∧Q .non H1
section
variable {X:Cx}
noncomputable def sXat (K:PySem.W.Frag) (ta tv:TE) (f:Str):TS:=fun D σ H=>tv σ H fun y H1=>ta σ H1 fun x H2=>∃ a C,x=.ref a∧H2 a=some (XO C a none)∧XStore K C f ∧
 ∀ dx,H2 dx=none→dx≠a→D.nx σ (upd (upd H2 dx (.xd [(f,y)])) a (XO C a (some dx)))
theorem ps_xat {o value:Expr} {f:Str} {ta tv:TE} {pos pos':Pos} (ha:PE X o ta) (hv:PE X value tv) (hs:swapsWith value (some (.Attribute o f pos')) pos.line X.env=pure false):PS X (.Assign [.Attribute o f pos'] value pos) (sXat X.K ta tv f):=by
 intro pins s σ H D I h
 refine plainObj_wpAny_Assign_Attribute (thn (hv pins s σ H _ I h) fun u s1 ⟨y,H1,I1,ry,q⟩=>thn (ha pins s1 σ H1 _ I1 q) fun ov s2 ⟨x,H2,I2,rx,a,C,ex,ea,S,q2⟩=>?_) hs
 subst ex
 obtain rfl:ov=Value.ref a:=rx
 obtain⟨⟨t0,ho⟩,_⟩:=I2.hok a _ ea
 refine store_exc I2.kIn S ho fun h' dx tk' hdx k he' hns=>?_
 have ne:dx≠a:=fun z=>by rw[z,ho]at hdx;cases hdx
 refine⟨σ,_,I2.dictX (t':=tk') (fs:=[(f,y)]) ea hdx k he' ⟨_,hns,fun g=>?_⟩,q2 dx (I2.unthere hdx) ne⟩
 by_cases hg:g=f
 ·subst hg
  rw[List.lookup_cons_self,if_pos rfl]
  exact ry
 ·have hgf:(g == f)=false:=by simpa using hg
  rw[List.lookup_cons,hgf,if_neg hg]
  exact True.intro
noncomputable def tRaiseI (C:Addr) (sp:Sp) (E:XK) (t:TA):TS:=fun _ σ H=>t σ H fun vs H1=>vs.length≤sizeLine∧∀ e,H1 e=none →
 sp (.ref e :: vs) (upd H1 e (XO C e none)) (fun v H2=>v=.non∧∃ od,H2 e=some (XO C e od)∧E (.ref C) od (del H2 e)) E0
theorem ps_raiseI {E:XK} {C fI:Addr} {fd:FuncData} {ps:List Str} {sp:Sp} {k:Nat} {x:Str} {e:Expr} {es:List Expr} {t:TA} {np cpos pos:Pos} (RX:Raises X E) (hx:X.ex=[]) (hcalm:X.calm=true) (hc:XCls X.K C (some (.ref fI)))
 (hf:PySem.W.isFn X.K (.ref fI)=true) (F:FnOk X.prog X.w X.K X.mg X.base CX0 k fI fd ps sp) (hr:Room (k+1) X.A) (hb:Binds X.K fd ps [])
 (hg:Gl X x) (hm:X.mg x=some (.ref C)) (ha:PA X (e :: es) t) (hdb:(x == ("__debug__":Str))=false:=by decide)
 (he:starEach (e :: es) X.env=(false,eval e X.env) :: starEach es X.env:=by rfl) (hpl:(backTo cpos (starEach es X.env)).any (·.1)=false:=by rfl):PS X (.Raise (some (.Call (.Name x np) (e :: es) [] cpos)) none pos) (tRaiseI C sp E t):=by
 intro pins s σ H D I h
 obtain⟨bm,N,nm,q,bs,hdct,sn,sub,ab,col,dd,k0,k1,k2,k3,k5,mN,hC,hN,hi,T⟩:=hc X.base I.mod.kin
 obtain⟨oI,hoI,hoc⟩:=isFn_at I.mod.kin hf
 have hplain:(backTo cpos (starEach (e :: es) X.env)).any (·.1)=false:=by
  rw[he]
  show (false || (backTo cpos (starEach es X.env)).any (·.1))=false
  rw[hpl]
  rfl
 refine raise_initT (C:=C) (nm:=nm) (q:=q) (N:=N) (bs:=bs) (bm:=bm) (hdct:=hdct) (sn:=sn) (sub:=sub) (ab:=ab) (col:=col) (dd:=dd) (k0:=k0) (k1:=k1) (k2:=k2) (k3:=k3) (k5:=k5) (mN:=mN) (fI:=fI) (oI:=oI) PySem.F.excBase_ValueError (T PySem.F.excBase_ValueError.hasBase) (I.ok.hd hcalm) hplain hi hoc (ld_glob I hg hm ⟨rfl,?_⟩ hdb)
 have sp':=ha cpos pins s σ H _ I h
 rw[he]at sp' ⊢
 refine Calls.evalArgs_plain (thn sp' fun us s2 ⟨vs,H2,I2,r,hz,q2⟩=>?_)
 refine⟨rfl,by have:=r.length;show us.length≤_;omega,I2.bk _ _ hC,hN.keeps I2.bk,T,I2.bk _ _ hoI,fun h' e' hm'=>?_⟩
 have I3:=Inv.newX (C:=C) I2 hm'
 have hq:=q2 e' (I2.unthere hm'.new)
 have r2:Vals (V.ref e' :: (vs++[])) (Value.ref e' :: (us++[])):=.cons rfl (r.append .nil)
 rw[List.append_nil,List.append_nil]at r2
 have hl:((Value.ref e' :: us)++[]).length=ps.length:=by
  rw[List.append_nil,← r2.length]
  exact F.len _ _ _ _ hq
 have hb':=hb { s2 with heap:=h' } (Value.ref e' :: us) I3.kIn hl
 rw[List.append_nil]at hb'
 refine wpAny_call (codeAny_mono (F.run _ X.stack _ _ ⟨Value.ref e' :: us,[]⟩ (Value.ref e' :: us) _ _ E0 (hr.make C us []) (I3.env0.make C us []) hb' r2 hq) fun rr s' hq'=>?_)
 cases rr with
 | error ev=>exact hq'.elim
 | ok fl =>
  cases fl with
  | ret u =>
   obtain⟨v,H',I4,rv,ev,od,ho,q3⟩:=I3.after hq'
   subst ev
   obtain⟨⟨t0,hox⟩,_⟩:=I4.hok e' _ ho
   refine⟨rv,I4.bk _ _ hC,⟨od,t0,hox⟩,RX pins σ (del H' e') s' e' _ _ (.ref t0) (I4.forget ho) hox del_same (fun b o e1 z=>?_) rfl rfl rfl q3⟩
   obtain⟨o',e2⟩:=I2.base.there b o e1 (by rw[hx];simp)
   rw[z,hm'.new]at e2
   cases e2
  | next=>exact False.elim hq'
  | brk=>exact False.elim hq'
  | cont=>exact False.elim hq'
end
end L2
namespace L2
open PySem PySem.Spec PyProof.Rows
section
variable {P:Program} {w:World} {l:List Env} {H:Hp} {s s':Shared} {E:XK} {e:Addr}
structure Fly (P:Program) (w:World) (l:List Env) (H:Hp) (s:Shared) (e:Addr) (cls a0:Value) (od:Option Addr) (H':Hp) (B:Heap) (s':Shared):Prop where
 os:s'.os=s.os
 bare:AllBare s'.gens
 un:Un (frs l) [] H H' s.heap s'.heap
 hok:HOk P w H' s'.heap
 no:H' e=none
 at_:∃ oe,s'.heap.get? e=some oe∧oe.dict=od
 fl:Heap.FlyingW B l e cls a0 s'.heap
 cov:∀ b u,H' b=some u→∃ o,B.get? b=some o
 olds:∀ b o,s.heap.get? b=some o→b∉frs l→∃ o',B.get? b=some o'
theorem CXR.fly {ev:Value} (h:CXR P w l H s E ev s'):∃ e cls a0 od H' B,ev=.ref e∧Fly P w l H s e cls a0 od H' B s'∧E cls od H':=by
 obtain⟨e,cls,a0,H',B,oe,rfl,os,bare,un,hok,hHe,he,fl,cov,olds,q⟩:=h
 exact⟨e,cls,a0,oe.dict,H',B,rfl,⟨os,bare,un,hok,hHe,⟨oe,he,rfl⟩,fl,cov,olds⟩,q⟩
variable {cls a0:Value} {od:Option Addr} {H':Hp} {B:Heap}
theorem Fly.frame (f:Fly P w l H s e cls a0 od H' B s') {b:Addr} (hb:b∈frs l) {o:Obj} (ho:s'.heap.get? b=some o):∀ vs,o.data≠.fields vs:=by
 obtain⟨_,o',ho',hnf⟩:=f.fl.2.2.1.mem hb
 rw[ho]at ho'
 cases ho'
 exact hnf
theorem Fly.turn (f:Fly P w l H s e cls a0 od H' B s') {h':Heap} {t':Nat} (fl:Heap.FlyingW B l e cls a0 h') (ups:s'.heap.UpToSlots h') (hd:HD s'.heap h'):Fly P w l H s e cls a0 od H' B { s' with heap:=h',toks:=t' }:=by
 have same:∀ b o o',B.get? b=some o→s'.heap.get? b=some o'→h'.get? b=some o':=fun b o o' e1 e2=>by
  have:=f.fl.1 b o e1
  rw[e2]at this
  cases this
  exact fl.1 b _ e1
 obtain⟨oe,he,hdct⟩:=f.at_
 obtain⟨oe',he',de,ce⟩:=hd e oe he
 refine⟨f.os,f.bare,⟨fun b o e1 n hb hx=>?_,fun b o e1 n hb hx=>?_,f.un.free,fun b o e1 hx=>?_,f.un.tups,f.un.frzs,f.un.tbls⟩,fun b u e1=>?_,f.no,⟨oe',he',de.trans hdct⟩,fl,f.cov,f.olds⟩
 ·obtain⟨o',eB⟩:=f.olds b o e1 hb
  exact same b o' o eB (f.un.keep b o e1 n hb hx)
 ·obtain⟨sl,e2⟩:=f.un.slot b o e1 n hb hx
  obtain⟨sl',e3⟩:=ups b _ e2 (f.frame hb e2)
  exact⟨sl',e3⟩
 ·by_cases hb:b∈frs l
  ·obtain⟨o',e2⟩:=f.un.there b o e1 hx
   obtain⟨sl,e3⟩:=ups b o' e2 (f.frame hb e2)
   exact⟨_,e3⟩
  ·obtain⟨o',eB⟩:=f.olds b o e1 hb
   exact⟨o',fl.1 b o' eB⟩
 ·refine(f.hok b u e1).stay (fun c v hc e2=>?_) (fun _ z=>z) fun _ _ z=>z
  have tr:∃ o,B.get? c=some o:=by
   rcases hc with z | z
   ·rw[z];exact f.cov b u e1
   ·exact f.cov c _ z
  obtain⟨o,eB⟩:=tr
  exact same c o v eB e2
theorem Fly.fresh (f:Fly P w l H s e cls a0 od H' B s') {b:Addr} {o:Obj} (e1:s.heap.get? b=some o):b≠e:=fun z=>by
 subst z
 by_cases hb:b∈frs l
 ·obtain⟨o',e2⟩:=f.un.there b o e1 (by simp)
  obtain⟨oe,vs,he,_,hd,_⟩:=f.fl.first
  exact f.frame hb he vs hd
 ·obtain⟨o',eB⟩:=f.olds b o e1 hb
  rw[f.fl.2.1]at eB
  cases eB
end
noncomputable def XH (e:Addr) (cls:Value) (od:Option Addr):HO:=.ext fun h=>∃ o vs,h.get? e=some o∧o.cls=cls∧o.dict=od∧o.data=.fields vs
section
variable {X:Cx} {pins:List (Addr×Obj)} {σ:St} {H:Hp} {s s':Shared} {e:Addr} {cls a0:Value} {od:Option Addr} {H':Hp} {B:Heap}
theorem Fly.inv (I:Inv X pins σ H s) (f:Fly X.prog X.w X.stack H s e cls a0 od H' B s'):Inv X pins σ H' s':=I.call' f.os f.un f.hok f.bare fun b z=>absurd z (by simp)
theorem Fly.held (I:Inv X pins σ H s) (f:Fly X.prog X.w X.stack H s e cls a0 od H' B s'):Inv X pins σ (upd H' e (XH e cls od)) s':=by
 have ne:∀ b u,H' b=some u→b≠e:=fun b u q z=>by rw[z,f.no]at q;cases q
 obtain⟨oe,vs,he,hcl,hd,_⟩:=f.fl.first
 obtain⟨oe',he',hdct⟩:=f.at_
 rw[he]at he'
 cases he'
 refine I.call' f.os ⟨f.un.keep,f.un.slot,fun b o e1 n hx=>?_,f.un.there,fun b xs q=>?_,fun b o u q=>?_,fun b ps q=>?_⟩ (fun b u q=>?_) f.bare fun b z=>absurd z (by simp)
 ·rw[upd_ne (f.fresh e1)];exact f.un.free b o e1 n hx
 ·have:=f.un.tups b xs q;rw[upd_ne (ne b _ this)];exact this
 ·have:=f.un.frzs b o u q;rw[upd_ne (ne b _ this)];exact this
 ·obtain⟨more,this⟩:=f.un.tbls b ps q;exact⟨more,by rw[upd_ne (ne b _ this)];exact this⟩
 ·by_cases hb:b=e
  ·subst hb
   rw[upd_same]at q
   cases q
   exact⟨⟨oe,vs,he,hcl,hdct,hd⟩,⟨_,he⟩,fun h1 h2 ⟨o,vs,z,zz⟩ k=>⟨o,vs,k _ z,zz⟩⟩
  ·rw[upd_ne hb]at q
   exact(f.hok b u q).stay (fun _ _ _ z=>z) (fun c z=>by rw[upd_ne (ne c _ z)];exact z) fun c xs z=>by rw[upd_ne (ne c _ z)];exact z
end
end L2
namespace L2
open PySem PySem.Spec PyProof.Rows
theorem HD.trans' {a b c:Heap} (x:HD a b) (y:HD b c):HD a c:=fun p o e=>by
 obtain⟨o1,e1,d1,c1⟩:=x p o e
 obtain⟨o2,e2,d2,c2⟩:=y p o1 e1
 exact⟨o2,e2,d2.trans d1,c2.trans c1⟩
noncomputable def Cx.inX (X:Cx) (e:Addr):Cx:={ X with A:=X.A.mark (some (.ref e)),calm:=false,xe:=fun _ _=>False }
section
variable {X:Cx} {pins:List (Addr×Obj)} {σ:St} {H:Hp} {s s':Shared} {e:Addr} {cls a0:Value} {od:Option Addr} {H':Hp} {B:Heap}
theorem Cx.Ok.inX (o:X.Ok):(X.inX e).Ok:=⟨o.mod,o.kind,o.glob,o.blt,o.above,o.inj,o.has,o.cab,(fun z=>by cases z),o.frames,o.stk,o.exf,o.bs,o.bsz,o.noex,o.exfs,o.funs,o.frf⟩
theorem Inv.inX (I:Inv X pins σ H s):Inv (X.inX e) pins σ H s:=⟨I.ok.inX,I.os,I.bare,I.base,I.loc,I.cell,I.free,I.freeC,I.pin,I.hok,I.len⟩
theorem Inv.outX (ok:X.Ok) (I:Inv (X.inX e) pins σ H s):Inv X pins σ H s:=⟨ok,I.os,I.bare,I.base,I.loc,I.cell,I.free,I.freeC,I.pin,I.hok,I.len⟩
theorem fly_note (Bd:Body X) (I:Inv X pins σ H s) (f:Fly X.prog X.w X.stack H s e cls a0 od H' B s') {hs:List ExceptHandler} {Q:Flow→Shared→Prop} {E:Value→Shared→Prop}
 (k:∀ s'',Fly X.prog X.w X.stack H s e cls a0 od H' B s''→wpAny (model X.prog X.w) X.A (handleBy (.ref e) X.env hs) Q E s'') :
 wpAny (model X.prog X.w) X.A (noteFrame (.ref e) X.env) (fun _ s₂=>wpAny (model X.prog X.w) X.A (setFlight (.ref e) none) (fun _ s₃=>wpAny (model X.prog X.w) X.A (handleBy (.ref e) X.env hs) Q E s₃) E s₂) E s':=by
 have hfr:X.A.frames=some (X.env :: X.outer):=by rw[I.ok.frames,Bd.stk]
 have fl':Heap.FlyingW B (X.env :: X.outer) e cls a0 s'.heap:=by rw[← Bd.stk];exact f.fl
 have w1:=wpAny_looks_onW (M:=model X.prog X.w) (A:=X.A) (E:=fun _ _=>False) (s:=s') (Q:=fun _ s''=>∃ h',s''={ s' with heap:=h' }∧Heap.HeldW B (X.env :: X.outer) e cls a0 X.env.locals h'∧s'.heap.UpToSlots h') hfr Bd.fr fl' fun h' a b=>⟨h',rfl,a,b⟩
 refine wpAny_mono (wpAny_dk (dk_noteFrame (.ref e) X.env) w1) (fun _ s2 ⟨⟨h4,e4,held,u4⟩,hd4⟩=>?_) fun _ _ z=>z.1.elim
 subst e4
 have w2:=wpAny_landsW (M:=model X.prog X.w) (A:=X.A) (E:=fun _ _=>False) (s:={ s' with heap:=h4 }) (Q:=fun _ s''=>∃ h',s''={ s' with heap:=h' }∧Heap.FlyingW B (X.env :: X.outer) e cls a0 h'∧h4.UpToSlots h') held fun h' a b=>⟨h',rfl,a,b⟩
 refine wpAny_mono (wpAny_dk (dk_setFlight (.ref e) none) w2) (fun _ s3 ⟨⟨h5,e5,fl5,u5⟩,hd5⟩=>?_) fun _ _ z=>z.1.elim
 subst e5
 exact k _ (f.turn (t':=s'.toks) (by rw[Bd.stk];exact fl5) (u4.trans u5) (HD.trans' hd4 hd5))
theorem fly_again (f:Fly X.prog X.w X.stack H s e cls a0 od H' B s') {A:Around} {Q:Unit→Shared→Prop} {E:Value→Shared→Prop} (k:∀ s'',Fly X.prog X.w X.stack H s e cls a0 od H' B s''→Q () s''):wpAny (model X.prog X.w) A (setFlight (.ref e) none) Q E s':=by
 have w2:=lands_againW (M:=model X.prog X.w) (A:=A) (E:=fun _ _=>False) (s:=s') (Q:=fun _ s''=>∃ h',s''={ s' with heap:=h' }∧Heap.FlyingW B X.stack e cls a0 h'∧s'.heap.UpToSlots h') f.fl fun h' a b=>⟨h',rfl,a,b⟩
 refine wpAny_mono (wpAny_dk (dk_setFlight (.ref e) none) w2) (fun _ s3 ⟨⟨h5,e5,fl5,u5⟩,hd5⟩=>?_) fun _ _ z=>z.1.elim
 subst e5
 exact k _ (f.turn (t':=s'.toks) fl5 u5 hd5)
theorem fly_test (I:Inv X pins σ H s) (f:Fly X.prog X.w X.stack H s e cls a0 od H' B s') {A:Around} {x:Str} {c:Value} {b:Bool} {np:Pos} {Q:Bool→Shared→Prop} {E E':Value→Shared→Prop} (hg:Gl X x) (hm:X.mg x=some c) (hx:PySem.W.exmOne X.K cls c=some b) (q:Q b s') (hd:(x == ("__debug__":Str))=false:=by decide) :
 wpAny (model X.prog X.w) A (eval (.Name x np) X.env) (fun c s₁=>wpAny (model X.prog X.w) A (excMatches (.ref e) c) Q E s₁) E' s':=by
 have I':=f.inv I
 refine Calls.Name_function_global I'.ok.kind hg (Calls.loadGlobal_global (by rw[I'.ok.glob];exact I'.mod.glob.keeps I'.bk) hm ?_) hd
 obtain⟨oe,vs,he,hcl,_,_⟩:=f.fl.first
 have LT:PySem.W.Looks (model X.prog X.w) s'.heap (typeOf (.ref e)) cls:=hcl ▸ (PySem.W.Looks.ld he).andThen .now
 exact(PySem.W.exm_one I'.kIn LT hx).here q
end
noncomputable abbrev HR:=Value→Option Addr→Addr→Ends→St→Hp→Prop
noncomputable def PH (X:Cx) (hs:List ExceptHandler) (r:HR):Prop:=∀ (pins:List (Addr×Obj)) (H0:Hp) (s0:Shared) (σ:St) (e:Addr) (cls a0:Value) (od:Option Addr) (H':Hp) (B:Heap) (s':Shared) (D:Ends),Inv X pins σ H0 s0 →
 Fly X.prog X.w X.stack H0 s0 e cls a0 od H' B s'→r cls od e D σ H'→wpAny (model X.prog X.w) X.A (handleBy (.ref e) X.env hs) (SP X pins D) X.xe s'
noncomputable def hOne (K:PySem.W.Frag) (c:Value) (ts:TS) (r:HR):HR:=fun cls od e D σ H=>∃ b,PySem.W.exmOne K cls c=some b∧if b=true then ts D σ H else r cls od e D σ H
noncomputable def hOneAs (K:PySem.W.Frag) (c:Value) (i:Nat) (ts:TS) (r:HR):HR:=fun cls od e D σ H=>∃ b,PySem.W.exmOne K cls c=some b∧if b=true then
 ts { nx:=fun σ2 H2=>D.nx (σ2.set i none) H2,rt:=D.rt,bk:=fun σ2 H2=>D.bk (σ2.set i none) H2,ct:=fun σ2 H2=>D.ct (σ2.set i none) H2 } (σ.set i (some (.ref e))) (upd H e (XH e cls od))else r cls od e D σ H
noncomputable def hEnd:HR:=fun _ _ _ _ _ _=>False
section
variable {X:Cx} {x:Str} {c:Value} {np pos:Pos} {b₀:Stmt} {suite:List Stmt} {rest:List ExceptHandler} {ts:TS} {r:HR}
theorem ph_end:PH X [] hEnd:=fun _ _ _ _ _ _ _ _ _ _ _ _ _ _ q=>q.elim
theorem SP.outX {pins:List (Addr×Obj)} {D:Ends} {f:Flow} {s:Shared} {e:Addr} (ok:X.Ok) (h:SP (X.inX e) pins D f s):SP X pins D f s:=by
 cases f with
 | next=>obtain⟨σ',H',I,q⟩:=h;exact⟨σ',H',I.outX ok,q⟩
 | brk=>obtain⟨σ',H',I,q⟩:=h;exact⟨σ',H',I.outX ok,q⟩
 | cont=>obtain⟨σ',H',I,q⟩:=h;exact⟨σ',H',I.outX ok,q⟩
 | ret u=>obtain⟨v,σ',H',I,q⟩:=h;exact⟨v,σ',H',I.outX ok,q⟩
theorem ph_one (hg:Gl X x) (hm:X.mg x=some c) (hs:∀ e,PSs (X.inX e) (b₀ :: suite) ts) (hr:PH X rest r) (hd:(x == ("__debug__":Str))=false:=by decide) :
 PH X (.ExceptHandler (some (.Name x np)) none (b₀ :: suite) pos :: rest) (hOne X.K c ts r):=fun pins H0 s0 σ e cls a0 od H' B s' D I f q=>by
 obtain⟨b,hb,q⟩:=q
 refine wpAny_handleBy_cons (codeAny_handlers_test (fly_test I f hg hm hb ?_ hd)) (by intro q;cases q)
 cases b with
 | false =>
  rw[if_neg (by decide)]at q
  exact hr pins H0 s0 σ e cls a0 od H' B s' D I f q
 | true =>
  rw[if_pos rfl]at q
  refine codeAny_handlers_suite (fly_again f fun s'' f''=>?_)
  exact wpAny_mono (hs e pins s'' σ H' D (f''.inv I).inX q) (fun fl s3 z=>z.outX I.ok) fun _ _ z=>z.elim
end
end L2
namespace L2
open PySem PySem.Spec PyProof.Rows
section
variable {X:Cx} {pins:List (Addr×Obj)} {σ:St} {H:Hp} {s:Shared}
theorem name_goes {M:Model} {A:Around} {E:Value→Shared→Prop} {i:Nat} {x:Str} {pos:Pos} {Q:Unit→Shared→Prop} (I:Inv X pins σ H s) (hN:X.N.Nodup) (hi:X.N[i]?=some x) (hk:X.env.scope.names.lookup x=some .local)
 (h:∀ s',Inv X pins (σ.set i none) H s'→Q () s'):wpAny M A (do bindName X.env x .none;unbindBehindTheSuite X.env x pos) Q E s:=by
 obtain⟨m,hn,hl⟩:=id I.loc
 have hcls:(X.env.scope.kind == .class || (X.env.scope.kind == .module && X.env.locals != X.env.globals))=false:=by rw[I.ok.kind];rfl
 have hiσ:i<σ.length:=by rw[I.len];exact(List.getElem?_eq_some_iff.mp hi).1
 have cne:=I.cne
 refine wpAny_nameGoes_keeps hk hn hcls fun h' v hn' hs=>?_
 have tracked:HOk X.prog X.w H h':=fun b ob e=>by
  refine(I.hok b ob e).stay (fun c w' hc q=>(hs.2 c ?_).trans q) (fun _ q=>q) fun _ _ q=>q
  rintro rfl
  rcases hc with z | hc
  ·rw[← z,I.free]at e;cases e
  ·rw[I.free]at hc;cases hc
 refine h _ ⟨I.ok,I.os,I.bare,⟨fun b o e n hb hx=>?_,fun b o e n hb hx=>?_,I.base.free,fun b o e hx=>?_,I.base.tups,I.base.frzs,I.base.tbls⟩,⟨_,hn',fun j y v' e1 e2 e3=>?_⟩,fun y c e=>?_,I.free,I.freeC,fun p hp=>?_,tracked,by simpa using I.len⟩
 ·exact(hs.2 b (Nat.ne_of_lt (Nat.lt_of_lt_of_le (Heap.lt_size e) I.ok.above))).trans (I.base.keep b o e n hb hx)
 ·obtain⟨sl,e1⟩:=I.base.slot b o e n hb hx
  exact⟨sl,(hs.2 b (Nat.ne_of_lt (Nat.lt_of_lt_of_le (Heap.lt_size e) I.ok.above))).trans e1⟩
 ·obtain⟨o',e1⟩:=I.base.there b o e hx
  exact⟨o',(hs.2 b (Nat.ne_of_lt (Nat.lt_of_lt_of_le (Heap.lt_size e) I.ok.above))).trans e1⟩
 ·by_cases hj:j=i
  ·subst hj
   rw[List.getElem?_set_self hiσ]at e2
   cases e2
  ·rw[List.getElem?_set_ne (Ne.symm hj)]at e2
   obtain⟨u',r',q⟩:=hl j y v' e1 e2 e3
   refine⟨u',r',?_⟩
   rcases q with ⟨k,e⟩ | ⟨k,c,e,z⟩
   ·refine .inl ⟨k,?_⟩
    have:y≠x:=fun e=>hj (nodup_ix hN e1 (e ▸ hi))
    simp[this,e]
   ·exact .inr ⟨k,c,e,z.sameBut hs (cne y c e)⟩
 ·obtain⟨w',z⟩:=I.cell y c e
  exact⟨w',z.sameBut hs (cne y c e)⟩
 ·obtain⟨e,n,ne,nf,d⟩:=I.pin p hp
  exact⟨(hs.2 p.1 ne).trans e,n,ne,nf,d⟩
end
section
variable {X:Cx} {x n:Str} {c:Value} {np pos:Pos} {b₀:Stmt} {suite:List Stmt} {rest:List ExceptHandler} {ts:TS} {r:HR} {i:Nat}
theorem ph_oneAs (hg:Gl X x) (hm:X.mg x=some c) (hN:X.N.Nodup) (hi:X.N[i]?=some n) (hk:X.env.scope.names.lookup n=some .local) (hs:∀ e,PSs (X.inX e) (b₀ :: suite) ts) (hr:PH X rest r) (hd:(x == ("__debug__":Str))=false:=by decide) :
 PH X (.ExceptHandler (some (.Name x np)) (some n) (b₀ :: suite) pos :: rest) (hOneAs X.K c i ts r):=fun pins H0 s0 σ e cls a0 od H' B s' D I f q=>by
 obtain⟨b,hb,q⟩:=q
 refine wpAny_handleBy_cons (codeAny_handlers_test (fly_test I f hg hm hb ?_ hd)) (by intro q;cases q)
 cases b with
 | false =>
  rw[if_neg (by decide)]at q
  exact hr pins H0 s0 σ e cls a0 od H' B s' D I f q
 | true =>
  rw[if_pos rfl]at q
  refine codeAny_handlers_suite_as (fly_again f fun s'' f''=>?_)
  refine store_ok2 (f''.held I) hN hi (.inl hk) (v:=.ref e) (u:=.ref e) rfl (fun s3 I3 _=>?_) (.inr hk)
  refine wpAny_mono (hs e pins s3 _ _ _ I3.inX q) (fun fl s4 z=>?_) fun _ _ z=>z.elim
  have z:=z.outX I.ok
  cases fl with
  | next=>obtain⟨σ2,H2,I4,q4⟩:=z;exact name_goes I4 hN hi hk fun s5 I5=>⟨_,_,I5,q4⟩
  | brk=>obtain⟨σ2,H2,I4,q4⟩:=z;exact name_goes I4 hN hi hk fun s5 I5=>⟨_,_,I5,q4⟩
  | cont=>obtain⟨σ2,H2,I4,q4⟩:=z;exact name_goes I4 hN hi hk fun s5 I5=>⟨_,_,I5,q4⟩
  | ret u=>obtain⟨v,σ2,H2,I4,rv,q4⟩:=z;exact name_goes I4 hN hi hk fun s5 I5=>⟨v,_,_,I5,rv,q4⟩
noncomputable abbrev TC:=St→Hp→(Hp→Prop)→XK→Prop
noncomputable def PCall (X:Cx) (st:Stmt) (t:TC):Prop:=∀ (pins:List (Addr×Obj)) (s:Shared) (σ:St) (H:Hp) (Q:Hp→Prop) (E:XK),Inv X pins σ H s→t σ H Q E →
 wpAny (model X.prog X.w) X.A (exec st X.env) (fun f s1=>f=.next∧∃ H',Inv X pins σ H' s1∧Q H') (fun ev s1=>∃ H0 s0,Inv X pins σ H0 s0∧CXR X.prog X.w X.stack H0 s0 E ev s1) s
noncomputable def tTry (t:TC) (r:HR):TS:=fun D σ H=>t σ H (fun H'=>D.nx σ H') fun cls od H'=>∀ e,H' e=none→r cls od e D σ H'
theorem ps_try {st:Stmt} {h:ExceptHandler} {hs:List ExceptHandler} {t:TC} (Bd:Body X) (hc:PCall X st t) (hh:PH X (h :: hs) r):PS X (.Try [st] (h :: hs) [] [] pos) (tTry t r):=by
 intro pins s σ H D I q
 refine wpAny_Try_except (wpAny_execs_cons (wpAny_mono (hc pins s σ H _ _ I q) (fun f s1 z=>?_) fun ev s1 z=>?_))
 ·obtain⟨rfl,H',I',q'⟩:=z
  exact wpAny_execs_nil (wpAny_execs_nil ⟨σ,H',I',q'⟩)
 ·obtain⟨H0,s0,I0,z⟩:=z
  obtain⟨e,cls,a0,od,H',B,rfl,f,q'⟩:=z.fly
  exact fly_note Bd I0 f fun s'' f''=>hh pins H0 s0 σ e cls a0 od H' B s'' D I0 f'' (q' e f.no)
end
end L2
namespace L2
open PySem PySem.Spec PyProof.Rows
noncomputable abbrev SpS:=Shared→List Env→List V→Hp→VK→XK→Prop
structure FnOkS (P:Program) (w:World) (K:PySem.W.Frag) (mg:Str→Option Value) (base:Heap) (CX:CXT) (k:Nat) (f:Addr) (fd:FuncData) (ps:List Str) (sp:SpS):Prop where
 len:∀ s o vs H Q E,sp s o vs H Q E→vs.length=ps.length
 run:∀ (A:Around) (outer:List Env) (s:Shared) (H:Hp) (args:Args) (us:List Value) (vs:List V) (Q:VK) (E:XK),Room k A→Env0 P w K mg base A outer s H→BindsTo s fd args (ps.zip us)→Vals vs us→sp s outer vs H Q E →
  codeAny (model P w) A (.call (.ref f) args) (CR CX outer P w H s Q E) s
theorem fn_ofS {CX:CXT} {P:Program} {w:World} {K:PySem.W.Frag} {mg:Str→Option Value} {base:Heap} {k:Nat} {f:Addr} {name qual:Str} {params:Arguments} {body:List Stmt} {scope:Scope} {dV kV doc pm cdv ct oc:Value} {an od:Option Addr}
 {osl:Array (Option Value)} {N ps:List Str} {sp:SpS} (lk:K.lookup f=some ⟨oc,od,.func (PySem.W.fnOf name qual params body scope dV kV doc pm an cdv ct),osl⟩) (hcd:PySem.W.codeIn K cdv qual=true) (S:FnScope N ps scope)
 (len:∀ s o vs H Q E,sp s o vs H Q E→vs.length=ps.length)
 (hbody:∀ (A:Around) (outer:List Env) (s:Shared) (H:Hp) (vs:List V) (Q:VK) (E:XK),A.frames=some outer→Room k (A.deeper (envOfC qual scope s.heap.objs.size f cdv))→sp s outer vs H Q E →
  ∃ t,PSs (cxOf CX P w K mg base N qual scope f cdv A outer s H E) body t∧t { nx:=fun _ H'=>Q .non H',rt:=Q } (start N vs) H) :
 FnOkS P w K mg base CX (k+1) f (PySem.W.fnOf name qual params body scope dV kV doc pm an cdv ct) ps sp:=by
 refine⟨len,fun A outer s H args us vs Q E hr e0 hb r hsp=>?_⟩
 have kp:∀ b o,base.get? b=some o→s.heap.get? b=some o:=fun b o e=>(e0.bs b o e).1
 have KX:K.In s.heap:=e0.mod.kin.keeps kp
 refine codeAny_call_function hr.depth (KX _ _ lk) rfl S.co S.gen rfl (PySem.W.codeRec_of KX hcd) (hb _ _ _ _ (wpAny_newFunctionEnv_cells S.kind (fun⟨n,v⟩ hy=>?_) fun env he s1 x=>?_))
 ·exact(S.par n (List.of_mem_zip hy).1).imp (fun q=>q) fun q=>⟨q,PySem.W.cellsFrom_some _ _ _ (.inl q)⟩
 ·subst he
  obtain⟨t,ht,hq⟩:=hbody A outer s H vs Q E e0.frames (hr.deeper _) hsp
  have I:Inv (cxOf CX P w K mg base N qual scope f cdv A outer s H E) [] (start N vs) H s1:=inv_start S hr.hd e0 (len _ _ _ _ _ _ hsp) r x
  refine⟨(e0.mod.nolimit.keeps kp).keeps x.toInCall.keep,codeAny_func (wpAny_mono (ht [] s1 (start N vs) H _ I hq) (fun fl s' hs=>?_) fun _ _ hs=>hs)⟩
  cases fl with
  | ret u=>obtain⟨v,σ',H',J,rv,q⟩:=hs;exact⟨v,H',J.os,J.bare,J.base,J.hok,rv,q⟩
  | next=>obtain⟨σ',H',J,q⟩:=hs;exact⟨.non,H',J.os,J.bare,J.base,J.hok,rfl,q⟩
  | brk=>obtain⟨_,_,_,q⟩:=hs;exact q.elim
  | cont=>obtain⟨_,_,_,q⟩:=hs;exact q.elim
noncomputable def Laid (D:List (Addr×Obj)) (H:Hp) (h:Heap) (fr:List Addr):Prop:=∀ p∈D,h.get? p.1=some p.2∧H p.1=none∧p.1∉fr
noncomputable def LamOk (P:Program) (w:World) (K:PySem.W.Frag) (mg:Str→Option Value) (base:Heap) (CX:CXT) (k:Nat) (f:Addr) (D:List (Addr×Obj)) (sp:Hp→VK→XK→Prop):Prop :=
 ∀ (A:Around) (outer:List Env) (s:Shared) (H:Hp) (Q:VK) (E:XK),Room k A→Env0 P w K mg base A outer s H→Laid D H s.heap (frs outer)→sp H Q E →
  codeAny (model P w) A (.call (.ref f) ⟨[],[]⟩) (CR CX outer P w H s Q E) s
noncomputable def cxLam (CX:CXT) (P:Program) (w:World) (K:PySem.W.Frag) (mg:Str→Option Value) (base:Heap) (N:List Str) (qual:Str) (scope:Scope) (f:Addr) (cd:Value) (clos:List (Str×Addr)) (A:Around) (outer:List Env) (s:Shared) (H:Hp) (E:XK):Cx where
 prog:=P
 w:=w
 K:=K
 mg:=mg
 base:=base
 A:=A.deeper (PySem.W.envX qual scope s.heap.objs.size f cd clos)
 N:=N
 s₀:=s
 H₀:=H
 env:=PySem.W.envX qual scope s.heap.objs.size f cd clos
 outer:=outer
 stack:=PySem.W.envX qual scope s.heap.objs.size f cd clos :: outer
 ex:=[]
 calm:=true
 fn:=fun _=>false
 pn:=[]
 xe:=fun e s'=>wpAny (model P w) (A.deeper (PySem.W.envX qual scope s.heap.objs.size f cd clos)) (leaving (PySem.W.envX qual scope s.heap.objs.size f cd clos) e) (fun _ s''=>CX outer H s E e s'') (fun e' s''=>CX outer H s E e' s'') s'
structure LamScope (N:List Str) (scope:Scope) (clos:List (Str×Addr)) (D:List (Addr×Obj)) (σ:St):Prop where
 kind:scope.kind=.function
 co:scope.isCoroutine=false
 gen:scope.isGenerator=false
 nocell:∀ x∈scope.names,x.2≠.cell
 inj:∀ x y c,clos.lookup x=some c→clos.lookup y=some c→x=y
 has:∀ x,scope.names.lookup x=some .free→∃ c,clos.lookup x=some c
 cells:∀ x c,clos.lookup x=some c→∃ o u,(c,o)∈D∧o.data=.cell u
 vals:∀ (i:Nat) (x:Str) (v:V),N[i]?=some x→σ[i]?=some (some v)→scope.names.lookup x=some .free∧∃ c o u,clos.lookup x=some c∧(c,o)∈D∧o.data=.cell (some u)∧RelV v u
 len:σ.length=N.length
theorem lam_of {CX:CXT} {P:Program} {w:World} {K:PySem.W.Frag} {mg:Str→Option Value} {base:Heap} {k:Nat} {f c':Addr} {name qual:Str} {params:Arguments} {body:Expr} {scope:Scope} {clos:List (Str×Addr)} {pm ctv:Value} {D:List (Addr×Obj)} {N:List Str} {σ:St} {sp:Hp→VK→XK→Prop}
 (hf:(f,PySem.W.kla_obj name qual params body scope clos pm c' ctv)∈D) (hc:∃ oc vs t,(c',oc)∈D∧oc.data=.fields vs∧vs[1]?=some (.str qual t)) (S:LamScope N scope clos D σ)
 (hb:bindArgs (PySem.W.kla_fn name qual params body scope clos pm (.ref c') ctv) ⟨[],[]⟩=pure [])
 (hbody:∀ (A:Around) (outer:List Env) (s:Shared) (H:Hp) (Q:VK) (E:XK),A.frames=some outer→Room k (A.deeper (PySem.W.envX qual scope s.heap.objs.size f (.ref c') clos))→sp H Q E →
  ∃ te,PE (cxLam CX P w K mg base N qual scope f (.ref c') clos A outer s H E) body te∧te σ H Q) :
 LamOk P w K mg base CX (k+1) f D sp:=fun A outer s H Q E hr e0 hD hsp=>by
 have kp:∀ b o,base.get? b=some o→s.heap.get? b=some o:=fun b o e=>(e0.bs b o e).1
 obtain⟨oc,vs,t,hoc,hd,hv⟩:=hc
 refine PySem.W.kla_callFunE hr.depth (hD _ hf).1 rfl S.co S.gen rfl ⟨c',oc,vs,t,rfl,(hD _ hoc).1,hd,hv⟩ ?_
 rw[hb]
 refine wpAny_pure (wpAny_newFunctionEnv S.nocell (fun x z=>absurd z (by simp)) (fun h₁ hns hsb=>⟨((e0.mod.nolimit).keeps kp).fresh _ hsb,?_⟩) S.kind)
 show codeAny _ _ (.expr body (PySem.W.envX qual scope s.heap.objs.size f (.ref c') clos)) _ _
 have hk₁:∀ b o,s.heap.get? b=some o→h₁.get? b=some o:=fun b o e=>hsb.extBut b o (Nat.ne_of_lt (Heap.lt_size e)) (Heap.get?_push_of_some _ e)
 obtain⟨te,ht,hq⟩:=hbody A outer s H Q E e0.frames (hr.deeper _) hsp
 have noA:∀ b:Addr,b∉(cxLam CX P w K mg base N qual scope f (.ref c') clos A outer s H E).ex:=fun b z=>absurd (show b∈([]:List Addr) from z) (by simp)
 have I:Inv (cxLam CX P w K mg base N qual scope f (.ref c') clos A outer s H E) [] σ H { s with heap:=h₁,toks:=s.toks+([]:List (Str×Value)).length }:=by
  refine⟨⟨e0.mod,S.kind,rfl,rfl,Nat.le_refl _,S.inj,fun y hy=>?_,(fun y c z=>by cases z),fun _=>hr.hd,Around.frames_deeper e0.frames,.inr ⟨rfl,rfl⟩,fun b z=>absurd z (noA b),e0.bs,e0.bsz,fun b _ _=>noA b,fun b z=>absurd z (noA b),e0.funs,e0.frf⟩,
   rfl,e0.bare,Un.kept hk₁,⟨_,hns,fun i y v h1 h2 h3=>?_⟩,fun y c h=>?_,e0.hok.fresh (Nat.le_refl _),fun y c h=>?_,fun p hp=>absurd (show p∈([]:List (Addr×Obj)) from hp) (by simp),e0.hok.kept hk₁,S.len⟩
  ·have hy:scope.names.lookup y=some .cell∨scope.names.lookup y=some .free:=hy
   rcases hy with hy | hy
   ·exact absurd rfl (S.nocell _ (PySem.mem_of_lookup hy))
   ·exact S.has y hy
  ·obtain⟨hfree,c,o,u,hcl,ho,hdat,rv⟩:=S.vals i y v h1 h2
   exact⟨u,rv,.inr ⟨.inr hfree,c,hcl,o,hk₁ _ _ (hD _ ho).1,hdat⟩⟩
  ·obtain⟨o,u,ho,hdat⟩:=S.cells y c h
   exact⟨u,o,hk₁ _ _ (hD _ ho).1,hdat⟩
  ·obtain⟨o,u,ho,hdat⟩:=S.cells y c h
   exact(hD _ ho).2.1
 refine PySem.W.kla_codeExpr (wpAny_mono (ht [] _ σ H _ I hq) (fun u s' hs=>?_) fun _ _ hs=>hs)
 obtain⟨v,H',J,rv,q⟩:=hs
 exact⟨v,H',J.os,J.bare,J.base,J.hok,rv,q⟩
end L2
namespace L2
open PySem PySem.Spec PyProof.Rows
theorem passL {P:Program} {w:World} {K:PySem.W.Frag} {mg:Str→Option Value} {base:Heap} {N:List Str} {qual:Str} {scope:Scope} {f:Addr} {cd:Value} {clos:List (Str×Addr)} {A:Around} {outer:List Env} {s:Shared} {H:Hp} {E:XK} (hfr:A.frames=some outer) :
 Passes (CXR P w) (cxLam (CXR P w) P w K mg base N qual scope f cd clos A outer s H E) E:=fun pins σ H1 s1 ev s' I h =>
 leave_on (X:=cxLam (CXR P w) P w K mg base N qual scope f cd clos A outer s H E) ⟨rfl,rfl,rfl⟩ (Around.frames_deeper hfr) I h
theorem passN {P:Program} {w:World} {X:Cx}:Passes (CXR P w) X E0:=fun _ _ _ _ _ _ _ h=>by
 obtain⟨_,_,_,_,_,_,_,_,_,_,_,_,_,_,_,_,q⟩:=h
 exact q.elim
noncomputable def FnAtX (P:Program) (w:World) (K:PySem.W.Frag) (mg:Str→Option Value) (base:Heap) (x:Str) (k:Nat) (ps:List Str) (sp:Sp):Prop :=
 ∃ f fd,FnOk P w K mg base (CXR P w) k f fd ps sp∧mg x=some (.ref f)∧PySem.W.keepIn K (.ref f)=true∧Binds K fd ps []
section
variable {X:Cx} {x:Str} {j k:Nat} {ps:List Str} {sp:Sp} {t:TA} {e:Expr} {es:List Expr} {p pos:Pos}
theorem pe_fnX {E:XK} (F:FnAtX X.prog X.w X.K X.mg X.base x j ps sp) (hr:Room k X.A) (hg:Gl X x) (hx:Passes (CXR X.prog X.w) X E) (ha:PA X (e :: es) t) (hj:j≤k:=by decide) (hdb:(x == ("__debug__":Str))=false:=by decide)
 (he:starEach (e :: es) X.env=(false,eval e X.env) :: starEach es X.env:=by rfl) (hpl:(backTo pos (starEach es X.env)).any (·.1)=false:=by rfl) :
 PE X (.Call (.Name x p) (e :: es) [] pos) (tCall sp [] E t):=by
 obtain⟨f,fd,G,hm,hk,hb⟩:=F
 exact pe_call (hdb:=hdb) (he:=he) (hpl:=hpl) G (hr.mono hj) hg hm hk hb .nil hx ha
end
noncomputable def Cx.withE (X:Cx) (E:Value→Shared→Prop):Cx:={ X with xe:=E }
theorem Inv.withE {X:Cx} {pins:List (Addr×Obj)} {σ:St} {H:Hp} {s:Shared} {E:Value→Shared→Prop} (I:Inv X pins σ H s):Inv (X.withE E) pins σ H s :=
 ⟨⟨I.ok.mod,I.ok.kind,I.ok.glob,I.ok.blt,I.ok.above,I.ok.inj,I.ok.has,I.ok.cab,I.ok.hd,I.ok.frames,I.ok.stk,I.ok.exf,I.ok.bs,I.ok.bsz,I.ok.noex,I.ok.exfs,I.ok.funs,I.ok.frf⟩,I.os,I.bare,I.base,I.loc,I.cell,I.free,I.freeC,I.pin,I.hok,I.len⟩
theorem Inv.noE {X:Cx} {pins:List (Addr×Obj)} {σ:St} {H:Hp} {s:Shared} {E:Value→Shared→Prop} (ok:X.Ok) (I:Inv (X.withE E) pins σ H s):Inv X pins σ H s :=
 ⟨ok,I.os,I.bare,I.base,I.loc,I.cell,I.free,I.freeC,I.pin,I.hok,I.len⟩
noncomputable def tAsk (X:Cx) (k i:Nat):TC:=fun σ H Q E=>∃ f D spL,σ[i]?=some (some (.ref f))∧LamOk X.prog X.w X.K X.mg X.base (CXR X.prog X.w) k f D spL∧(∃ oc od fd sl,(f,(⟨oc,od,.func fd,sl⟩:Obj))∈D)∧Laid D X.H₀ X.s₀.heap X.fs∧spL H (fun _ H'=>Q H') E
theorem pc_ask {X:Cx} {k i:Nat} {x:Str} {np cpos pos:Pos} (Bd:Body X) (hr:Room k X.A) (hN:X.N[i]?=some x) (hv:Vis X.env.scope x) (hd:(x == ("__debug__":Str))=false:=by decide) (hcd:(x == ("__classdict__":Str))=false:=by decide)
 (hs:swapsWith (.Call (.Name x np) [] [] cpos) none pos.line X.env=pure false:=by rfl):PCall X (.Expr (.Call (.Name x np) [] [] cpos) pos) (tAsk X k i):=by
 intro pins s σ H Q E I h
 obtain⟨f,D,spL,hσ,L,⟨oc,od,fd,sl,hfo⟩,hD,q⟩:=h
 refine wpAny_Expr_any ?_ I.quiet hs
 refine wpAny_Call_Name_kw ?_
 have v:=pe_var (X:=X.withE fun ev s1=>∃ H0 s0,Inv X pins σ H0 s0∧CXR X.prog X.w X.stack H0 s0 E ev s1) (pos:=np) hN hv hd hcd pins s σ H (fun u H'=>u=.ref f∧H'=H) I.withE ⟨_,hσ,rfl,rfl⟩
 refine thn v fun u s1 ⟨y,H1,I1,r1,ey,eH⟩=>?_
 subst ey eH
 obtain rfl:u=Value.ref f:=r1
 have J:=I1.noE I.ok
 have hD1:Laid D H1 s1.heap (frs X.stack):=fun p hp=>by
  obtain⟨a1,a2,a3⟩:=hD p hp
  refine⟨J.base.keep p.1 p.2 a1 a2 a3 (by rw[Bd.ex];simp),J.base.free p.1 p.2 a1 a2 (by rw[Bd.ex];simp),fun z=>?_⟩
  rcases Bd.mem.mp z with z | z
  ·exact absurd (Nat.lt_of_lt_of_le (Heap.lt_size a1) J.ok.above) (by rw[z];exact Nat.lt_irrefl _)
  ·exact a3 z
 refine PySem.W.callWith_F0 (first:=[]) ⟨oc,od,fd,sl,(hD1 _ hfo).1⟩ ?_
 refine wpAny_call (codeAny_mono (L X.A X.stack s1 H1 _ E hr J.env0 hD1 q) fun r s' hq=>?_)
 cases r with
 | error ev=>exact⟨H1,s1,J,hq⟩
 | ok fl =>
  cases fl with
  | ret u =>
   obtain⟨v,H',I',rv,q'⟩:=J.after hq
   exact⟨rfl,H',I',q'⟩
  | next=>exact hq.elim
  | brk=>exact hq.elim
  | cont=>exact hq.elim
end L2
namespace L2
open PySem PySem.Spec PyProof.Rows
noncomputable def BMain (mg:Str→Option Value) (h:Heap):Prop:=∃ bm ob,mg "__builtins__"=some (.ref bm)∧bm≠builtinsNs∧h.get? bm=some ob∧ob.cls=.type "module"∧ob.dict=some builtinsNs∧ob.data=.plain
noncomputable def pick (ix:List Nat) (σ:St):St:=ix.map fun i=>(σ[i]?).join
structure LamSrc (X:Cx) (scope:Scope) (clos:List (Str×Addr)) (NL:List Str) (ix:List Nat):Prop where
 kind:scope.kind=.function
 co:scope.isCoroutine=false
 gen:scope.isGenerator=false
 nocell:∀ x∈scope.names,x.2≠.cell
 cl:closureFor scope X.env=pure clos
 sub:∀ q∈clos,X.env.cells.lookup q.1=some q.2∧X.fn q.1=true
 has:∀ x,scope.names.lookup x=some .free→∃ c,clos.lookup x=some c
 ixs:∀ (j:Nat) (x:Str),NL[j]?=some x→∃ i,ix[j]?=some i∧X.N[i]?=some x∧Vis X.env.scope x∧X.env.kindOf x≠some .local∧scope.names.lookup x=some .free
 len:ix.length=NL.length
noncomputable def tWhy (X:Cx) (P:Addr) (lpos:Pos) (ix:List Nat) (kL:Nat) (spL:St→Hp→VK→XK→Prop) (spW:SpS) (E:XK):TE:=fun σ H Q=>∃ ps,H P=some (.tbl ps)∧TriplesOk ps.toList∧codeAmong lpos ps.toList=none ∧
 ∀ c' f s1 D,LamOk X.prog X.w X.K X.mg X.base (CXR X.prog X.w) kL f D (spL (pick ix σ))→(∃ oc od fd sl,(f,(⟨oc,od,.func fd,sl⟩:Obj))∈D)→Laid D (upd H P (.tbl (ps++#[rawInt lpos.line,rawInt lpos.col,.ref c']))) s1.heap (frs X.stack) →
  spW s1 X.stack [.ref f] (upd H P (.tbl (ps++#[rawInt lpos.line,rawInt lpos.col,.ref c']))) Q E
section
variable {X:Cx}
theorem lookup_mem {x:Str} {c:Addr} {clos:List (Str×Addr)} (h:clos.lookup x=some c):(x,c)∈clos:=PySem.mem_of_lookup h
theorem pe_why {y xp:Str} {params:Arguments} {body:Expr} {scope:Scope} {lpos cpos np:Pos} {c P f:Addr} {fd:FuncData} {k kW:Nat} {clos:List (Str×Addr)} {NL:List Str} {ix:List Nat} {spL:St→Hp→VK→XK→Prop} {spW:SpS} {E:XK}
 (Bd:Body X) (F:FnOkS X.prog X.w X.K X.mg X.base (CXR X.prog X.w) kW f fd [xp] spW) (hr:Room kW X.A) (hg:Gl X y) (hm:X.mg y=some (.ref f)) (hk:PySem.W.keepIn X.K (.ref f)=true) (hb:Binds X.K fd [xp] []) (hx:Passes (CXR X.prog X.w) X E)
 (hcode:X.env.code=.ref c) (hC:PySem.W.CodeHd X.base c P) (hbm:BMain X.mg X.base) (hdef:defaultsOf params X.env=([],[])) (S:LamSrc X scope clos NL ix)
 (hbind:∀ pm c' ctv,bindArgs (PySem.W.kla_fn "<lambda>" (X.env.qual++"<lambda>") params body scope clos pm (.ref c') ctv) ⟨[],[]⟩=pure [])
 (hlam:∀ (f' c':Addr) (σ':St) (A:Around) (outer:List Env) (s:Shared) (H:Hp) (Q:VK) (E:XK),A.frames=some outer→Room k (A.deeper (PySem.W.envX (X.env.qual++"<lambda>") scope s.heap.objs.size f' (.ref c') clos))→spL σ' H Q E →
  ∃ te,PE (cxLam (CXR X.prog X.w) X.prog X.w X.K X.mg X.base NL (X.env.qual++"<lambda>") scope f' (.ref c') clos A outer s H E) body te∧te σ' H Q)
 (hdb:(y == ("__debug__":Str))=false:=by decide) (he:starEach [.Lambda params body scope lpos] X.env=[(false,eval (.Lambda params body scope lpos) X.env)]:=by rfl) :
 PE X (.Call (.Name y np) [.Lambda params body scope lpos] [] cpos) (tWhy X P lpos ix (k+1) spL spW E):=by
 intro pins s σ H Q I h
 obtain⟨ps,hPH,htr,hnf,h⟩:=h
 have hP:s.heap.get? P=some (PySem.W.tabObj ps):=I.hok P _ hPH
 obtain⟨bm,ob,b1,b2,b3,b4,b5,b6⟩:=hbm
 have hgs:=I.mod.glob.keeps I.bk
 have hgP:mainGlobals≠P:=fun z=>by
  obtain⟨o,es,ep,e,hd,_⟩:=hgs
  rw[z,hP]at e;cases e;cases hd
 have hbP:bm≠P:=fun z=>by
  have e:=I.bk _ _ b3
  rw[z,hP]at e;cases e;cases b4
 have hbG:bm≠mainGlobals:=fun z=>by
  obtain⟨o,es,ep,e,hd,_⟩:=I.mod.glob
  rw[z,e]at b3;cases b3;rw[hd]at b6;cases b6
 refine wpAny_Call_Name_kw (ld_glob I hg hm ?_ hdb)
 refine PySem.W.callWith_K (h₀:=X.base) I.ok.mod.kin hk ?_ he rfl
 rw[he]
 refine Calls.spliced_cons (PySem.W.kla_eval hdef (PySem.W.kla_makeFunction (mg:=X.mg) S.cl I.ok.glob hgs hcode (hC.keeps I.bk) hP htr hnf hgP ⟨bm,ob,b1,b2,hbG,hbP,I.bk _ _ b3,b4,b5,b6⟩ fun c' ctv h' tk ext hge hlt hrec htb=>?_))
 refine Calls.spliced_nil ?_
 obtain⟨c₂,oc,vs,t,e2,hoc,hocd,hocv⟩:=hrec
 cases e2
 have kp:∀ b o,b≠P→s.heap.get? b=some o→(h'.push (PySem.W.kla_obj "<lambda>" (X.env.qual++"<lambda>") params body scope clos ((X.mg "__name__").getD .none) c' ctv)).get? b=some o:=fun b o n e=>Heap.get?_push_of_some _ (ext b o n e)
 have hP':(h'.push (PySem.W.kla_obj "<lambda>" (X.env.qual++"<lambda>") params body scope clos ((X.mg "__name__").getD .none) c' ctv)).get? P=some (PySem.W.tabObj (ps++#[rawInt lpos.line,rawInt lpos.col,.ref c'])):=Heap.get?_push_of_some _ htb
 have nP:∀ b,H b=none→b≠P:=fun b q z=>by rw[z,hPH]at q;cases q
 have nT:∀ b u,H b=some u→(∀ qs,u≠.tbl qs)→b≠P:=fun b u q n z=>by rw[z,hPH]at q;cases q;exact n _ rfl
 have un:Un X.fs [] H (upd H P (.tbl (ps++#[rawInt lpos.line,rawInt lpos.col,.ref c']))) s.heap (h'.push (PySem.W.kla_obj "<lambda>" (X.env.qual++"<lambda>") params body scope clos ((X.mg "__name__").getD .none) c' ctv)):=by
  refine⟨fun b o q n _ _=>kp b o (nP b n) q,fun b o q n _ _=>⟨o.slots,kp b o (nP b n) q⟩,fun b o q n _=>by rw[upd_ne (nP b n)];exact n,fun b o q _=>?_,fun b xs q=>?_,fun b o u q=>?_,fun b qs q=>?_⟩
  ·by_cases hb':b=P
   ·rw[hb'];exact⟨_,hP'⟩
   ·exact⟨o,kp b o hb' q⟩
  ·rw[upd_ne (nT b _ q fun _ z=>by cases z)];exact q
  ·rw[upd_ne (nT b _ q fun _ z=>by cases z)];exact q
  ·by_cases hb':b=P
   ·subst hb'
    rw[hPH]at q
    cases q
    exact⟨_,upd_same⟩
   ·exact⟨#[],by rw[upd_ne hb',q];simp⟩
 have hok:HOk X.prog X.w (upd H P (.tbl (ps++#[rawInt lpos.line,rawInt lpos.col,.ref c']))) (h'.push (PySem.W.kla_obj "<lambda>" (X.env.qual++"<lambda>") params body scope clos ((X.mg "__name__").getD .none) c' ctv)):=fun b u q=>by
  by_cases hb':b=P
  ·subst hb'
   rw[upd_same]at q
   cases q
   exact hP'
  ·rw[upd_ne hb']at q
   refine(I.hok b u q).stay (fun d v hd' z=>kp d v (fun z'=>?_) z) (fun d z=>by rw[upd_ne (nT d _ z fun _ z=>by cases z)];exact z) fun d xs z=>by rw[upd_ne (nT d _ z fun _ z=>by cases z)];exact z
   subst z'
   rcases hd' with z1 | z1
   ·exact hb' z1.symm
   ·rw[hPH]at z1;cases z1
 have I1:=I.un (t':=tk) un hok
 have hPs:P<s.heap.objs.size:=Heap.lt_size hP
 have fresh:∀ b,s.heap.objs.size≤b→upd H P (.tbl (ps++#[rawInt lpos.line,rawInt lpos.col,.ref c'])) b=none∧b∉frs X.stack:=fun b hb'=>by
  refine⟨by rw[upd_ne (Nat.ne_of_gt (Nat.lt_of_lt_of_le hPs hb'))];exact I.hok.fresh hb',fun z=>?_⟩
  obtain⟨_,o,ho,_⟩:=I.stack.mem z
  exact absurd (Heap.lt_size ho) (Nat.not_lt.mpr hb')
 have hle:s.heap.objs.size≤h'.objs.size:=Nat.le_trans hge (Nat.le_of_lt hlt)
 have cellAt:∀ q∈clos,∃ o u,s.heap.get? q.2=some o∧o.data=.cell u∧H q.2=none∧q.2∉frs X.stack:=fun q hq=>by
  obtain⟨hl,hfn⟩:=S.sub q hq
  obtain⟨u,o,ho,hd'⟩:=I.cell q.1 q.2 hl
  refine⟨o,u,ho,hd',I.freeC _ _ hl,fun z=>?_⟩
  rcases Bd.mem.mp z with z | z
  ·exact I.cne _ _ hl z
  ·obtain⟨_,o',ho',_⟩:=I.ok.funs.mem z
   exact absurd (Heap.lt_size ho') (Nat.not_lt.mpr (I.ok.cab _ _ hfn hl))
 let Dc:List (Addr×Obj):=clos.filterMap fun q=>(s.heap.get? q.2).map fun o=>(q.2,o)
 have memC:∀ q∈clos,∀ o,s.heap.get? q.2=some o→(q.2,o)∈Dc:=fun q hq o ho=>List.mem_filterMap.mpr ⟨q,hq,by rw[ho];rfl⟩
 let D:List (Addr×Obj):=(h'.objs.size,PySem.W.kla_obj "<lambda>" (X.env.qual++"<lambda>") params body scope clos ((X.mg "__name__").getD .none) c' ctv) :: (c',oc) :: Dc
 have laid:Laid D (upd H P (.tbl (ps++#[rawInt lpos.line,rawInt lpos.col,.ref c']))) (h'.push (PySem.W.kla_obj "<lambda>" (X.env.qual++"<lambda>") params body scope clos ((X.mg "__name__").getD .none) c' ctv)) (frs X.stack):=fun p hp=>by
  rcases List.mem_cons.mp hp with rfl | hp
  ·exact⟨Heap.get?_push_size _ rfl,fresh _ hle⟩
  ·rcases List.mem_cons.mp hp with rfl | hp
   ·exact⟨Heap.get?_push_of_some _ hoc,fresh _ hge⟩
   ·obtain⟨q,hq,hp⟩:=List.mem_filterMap.mp hp
    obtain⟨o,u,ho,hd',hn,hfr⟩:=cellAt q hq
    rw[ho]at hp
    cases hp
    exact⟨kp _ _ (nP _ hn) ho,by rw[upd_ne (nP _ hn)];exact hn,hfr⟩
 have LS:LamScope NL scope clos D (pick ix σ):=by
  refine⟨S.kind,S.co,S.gen,S.nocell,fun x y c h1 h2=>I.ok.inj x y c (S.sub _ (lookup_mem h1)).1 (S.sub _ (lookup_mem h2)).1,S.has,fun x c h1=>?_,fun j x v h1 h2=>?_,by unfold pick;rw[List.length_map];exact S.len⟩
  ·obtain⟨o,u,ho,hd',_⟩:=cellAt _ (lookup_mem h1)
   exact⟨o,u,List.mem_cons_of_mem _ (List.mem_cons_of_mem _ (memC _ (lookup_mem h1) o ho)),hd'⟩
  ·obtain⟨i,hi,hN,hv,hnl,hfree⟩:=S.ixs j x h1
   have hσ:σ[i]?=some (some v):=by
    unfold pick at h2
    rw[List.getElem?_map,hi]at h2
    have h2:(σ[i]?).join=some v:=Option.some.inj h2
    cases hs:σ[i]? with
    | none=>rw[hs]at h2;cases h2
    | some w'=>rw[hs]at h2;exact congrArg some h2
   obtain⟨m,_,hl⟩:=I.loc
   obtain⟨u,ru,lk⟩:=hl i x v hN hσ hv
   rcases lk with ⟨kl,_⟩ | ⟨_,c2,hc2,o,ho,hd'⟩
   ·exact absurd kl hnl
   ·obtain⟨c3,hc3⟩:=S.has x hfree
    have hsub:=(S.sub _ (lookup_mem hc3)).1
    rw[hc2]at hsub
    obtain rfl:c2=c3:=Option.some.inj hsub
    exact⟨hfree,c2,o,u,hc3,List.mem_cons_of_mem _ (List.mem_cons_of_mem _ (memC _ (lookup_mem hc3) o ho)),hd',ru⟩
 have L:LamOk X.prog X.w X.K X.mg X.base (CXR X.prog X.w) (k+1) h'.objs.size D (spL (pick ix σ)) :=
  lam_of (k:=k) (N:=NL) (σ:=pick ix σ) (List.mem_cons_self ..) ⟨oc,vs,t,List.mem_cons_of_mem _ (List.mem_cons_self ..),hocd,hocv⟩ LS (hbind _ _ _) fun A outer s H Q E hfr hr' hsp=>hlam _ _ _ A outer s H Q E hfr hr' hsp
 have hsp:=h c' h'.objs.size { s with heap:=h'.push (PySem.W.kla_obj "<lambda>" (X.env.qual++"<lambda>") params body scope clos ((X.mg "__name__").getD .none) c' ctv),toks:=tk } D L ⟨_,_,_,_,List.mem_cons_self ..⟩ laid
 have hb':=hb { s with heap:=h'.push (PySem.W.kla_obj "<lambda>" (X.env.qual++"<lambda>") params body scope clos ((X.mg "__name__").getD .none) c' ctv),toks:=tk } [Value.ref h'.objs.size] I1.kIn rfl
 refine⟨I1.kIn,wpAny_call (codeAny_mono (F.run X.A X.stack _ _ ⟨[Value.ref h'.objs.size],[]⟩ [Value.ref h'.objs.size] [V.ref h'.objs.size] Q E hr I1.env0 hb' (.cons rfl .nil) hsp) fun r s' hq=>?_)⟩
 cases r with
 | error ev=>exact hx pins σ _ _ ev s' I1 hq
 | ok fl =>
  cases fl with
  | ret u=>exact I1.after hq
  | next=>exact hq.elim
  | brk=>exact hq.elim
  | cont=>exact hq.elim
end
end L2
namespace L2
open PySem PySem.Spec PyProof.Rows
theorem law_callT {Pr:Program} {w:World} {K:PySem.W.Frag} {mg mb:Str→Option Value} {CX:CXT} {k:Nat} {fa a c P:Addr} {fd:FuncData} {x:Str} {sp:Sp} {s₁:Shared} {vs:List Value} {ns:List Int}
 (KX:K.In s₁.heap) (hns:s₁.heap.Ns mainGlobals mg) (hb:s₁.heap.Ns builtinsNs mb) (hbb:∀ x:Str,x≠"__name__"→mb x=bootBuiltins x) (hlim:s₁.heap.NoLimit) (hg:s₁.gens=#[])
 (ha:s₁.heap.get? a=some { cls:=.type "list",data:=.seq vs.toArray }) (hi:IntsAre vs ns) (hl:ns.length≤sizeLine) (hr:Room k callerA)
 (hC:PySem.W.CodeHd s₁.heap c P) (hT:s₁.heap.TableAt c P #[]) (hKP:K.lookup P=none) (hbm:BMain mg s₁.heap)
 (F:∀ base:Heap,K.In base→base.Ns mainGlobals mg→BMain mg base→PySem.W.CodeHd base c P→FnOk Pr w K mg base CX k fa fd [x] sp) (hbind:∀ (s:Shared) (u:Value),BindsTo s fd ⟨[u],[]⟩ [(x,u)])
 (hsp:∀ H:Hp,H P=some (.tbl #[])→SqL K H a (ns.map V.int)→sp [.ref a] H (fun v _=>v=.bl true) fun _ _ _=>False)
 (hCX:∀ H e s',CX [] H s₁ (fun _ _ _=>False) e s'→False) :
 codeAny (model Pr w) callerA (.call (.ref fa) ⟨[.ref a],[]⟩) (fun r s'=>r=.ok (.ret (.bool true))∧OldK s₁.heap s'.heap∧s'.os=s₁.os∧AllBare s'.gens) s₁:=by
 have rv:=vals_ints hi
 have lenV:=hi.length
 have hP:s₁.heap.get? P=some (PySem.W.tabObj #[]):=hT.2
 have hPa:P≠a:=fun z=>by rw[z,ha]at hP;cases hP
 have core:∀ H:Hp,H P=some (.tbl #[])→(∀ b,b≠P→H b=none∨∃ ob xs,H b=some (.frz ob (.lst xs)))→SqL K H a (ns.map V.int)→HOk Pr w H s₁.heap→(∀ b,H b≠none→b=a∨b=P)→(H a≠none→K.lookup a=none) →
  codeAny (model Pr w) callerA (.call (.ref fa) ⟨[.ref a],[]⟩) (fun r s'=>r=.ok (.ret (.bool true))∧OldK s₁.heap s'.heap∧s'.os=s₁.os∧AllBare s'.gens) s₁:=by
  intro H hHP hO hS hok hA hK
  have base_of:∀ {b:Addr} {o:Obj},s₁.heap.get? b=some o→H b=none→(hidT s₁.heap H).get? b=some o:=fun e n=>hidT_get e n
  have free:∀ {b:Addr},b≠a→b≠P→H b=none:=fun {b} n1 n2=>by
   cases q:H b with
   | none=>rfl
   | some u=>rcases hA b (by rw[q];simp)with z | z <;> contradiction
  have noA:∀ {b:Addr} {o:Obj} {es:Array DictEntry} {ep:Nat},s₁.heap.get? b=some o→o.data=.dict es ep→H b=none:=fun {b o es ep} e d =>
   free (fun z=>by rw[z,ha]at e;cases e;cases d) fun z=>by rw[z,hP]at e;cases e;cases d
  have nsK:∀ {b:Addr} {m:Str→Option Value},s₁.heap.Ns b m→(hidT s₁.heap H).Ns b m:=fun {b m} ⟨o,es,ep,e,d,r⟩=>⟨o,es,ep,base_of e (noA e d),d,r⟩
  have hKb:K.In (hidT s₁.heap H):=fun b o e=>base_of (KX b o e) (by
   cases q:H b with
   | none=>rfl
   | some u =>
    rcases hA b (by rw[q];simp)with z | z
    ·subst z;rw[hK (by rw[q];simp)]at e;cases e
    ·subst z;rw[hKP]at e;cases e)
  have hM:Mod K mg (hidT s₁.heap H):=⟨hKb,nsK hns,⟨mb,nsK hb,hbb⟩,let ⟨mc,h1,h2⟩:=hlim;⟨mc,nsK h1,h2⟩⟩
  have e0:Env0 Pr w K mg (hidT s₁.heap H) callerA [] s₁ H:=⟨rfl,hM,fun b o e=>of_hidT e,Nat.le_of_eq (hidT_size _ _),trivial,fun b hb=>absurd (show b∈([]:List Addr) from hb) (by simp),hok,.of_eq hg⟩
  have hbm':BMain mg (hidT s₁.heap H):=by
   obtain⟨bm,ob,b1,b2,b3,b4,b5⟩:=hbm
   refine⟨bm,ob,b1,b2,base_of b3 (free (fun z=>?_) fun z=>?_),b4,b5⟩
   ·rw[z,ha]at b3;cases b3;exact absurd (show Value.type "list"=Value.type "module" from b4) (by decide)
   ·rw[z,hP]at b3;cases b3;cases b4
  have hC':PySem.W.CodeHd (hidT s₁.heap H) c P:=by
   obtain⟨o,vs',file,tf,flags,tg,inF,text,tt,e1,e2,r⟩:=hC
   refine⟨o,vs',file,tf,flags,tg,inF,text,tt,base_of e1 (free (fun z=>?_) fun z=>?_),e2,r⟩
   ·rw[z,ha]at e1;cases e1;exact absurd (show Value.type "list"=Value.type "code" from e2) (by decide)
   ·rw[z,hP]at e1;cases e1;cases e2
  refine codeAny_mono ((F _ hKb (nsK hns) hbm' hC').run callerA [] s₁ H ⟨[.ref a],[]⟩ [.ref a] [.ref a] _ _ hr e0 (hbind s₁ (.ref a)) (.cons rfl .nil) (hsp H hHP hS)) fun r s' h=>?_
  cases r with
  | error e=>exact(hCX H e s' h).elim
  | ok fl =>
   cases fl with
   | next=>exact False.elim h
   | brk=>exact False.elim h
   | cont=>exact False.elim h
   | ret u =>
    obtain⟨v,H',os,bare,un,hok',r',q⟩:=h
    have q':v=.bl true:=q
    subst q'
    obtain rfl:u=Value.bool true:=r'
    refine⟨rfl,⟨fun b o e=>?_,fun b o e=>un.there b o e (by simp)⟩,os,bare⟩
    by_cases hbP:b=P
    ·subst hbP
     rw[hP]at e
     cases e
     obtain⟨more,hm⟩:=un.tbls _ _ hHP
     exact .inr (.inl ⟨hT.isCodeTable,rfl,#[],more,rfl,hok' _ _ hm⟩)
    ·refine .inl ?_
     cases q:H b with
     | none=>exact un.keep b o e q (by intro z;exact absurd (show b∈([]:List Addr) from z) (by simp)) (by simp)
     | some u =>
      rcases hO b hbP with z | ⟨ob,xs,z⟩
      ·rw[q]at z;cases z
      ·have z2:=un.frzs b ob _ z
       obtain⟨e1,_⟩:=hok b _ z
       obtain⟨e2,_⟩:=hok' b _ z2
       rw[e]at e1;cases e1
       exact e2
 cases hk:K.lookup a with
 | some o =>
  have e:=KX a o hk
  rw[ha]at e
  cases e
  refine core (upd (fun _=>none) P (.tbl #[])) upd_same (fun b n=>.inl (by rw[upd_ne n])) (.inr ⟨_,vs.toArray,_,hk,rfl,rfl,rfl,by rw[List.size_toArray,lenV];exact hl,by simpa using rv⟩) (fun b u z=>?_) (fun b z=>?_) fun z=>absurd (upd_ne (Ne.symm hPa)) z
  ·by_cases hb':b=P
   ·subst hb';rw[upd_same]at z;cases z;exact hP
   ·rw[upd_ne hb']at z;cases z
  ·by_cases hb':b=P
   ·exact .inr hb'
   ·exact absurd (upd_ne hb') z
 | none =>
  refine core (upd (upd (fun _=>none) a (.frz { cls:=.type "list",data:=.seq vs.toArray } (.lst (ns.map V.int)))) P (.tbl #[])) upd_same (fun b n=>?_) (.inl (.inr ⟨{ cls:=.type "list",data:=.seq vs.toArray },by rw[upd_ne (Ne.symm hPa),upd_same]⟩)) (fun b u z=>?_) (fun b z=>?_) fun _=>hk
  ·by_cases hb':b=a
   ·subst hb';exact .inr ⟨_,_,by rw[upd_ne n,upd_same]⟩
   ·exact .inl (by rw[upd_ne n,upd_ne hb'])
  ·by_cases hb':b=P
   ·subst hb';rw[upd_same]at z;cases z;exact hP
   ·rw[upd_ne hb']at z
    by_cases hc':b=a
    ·subst hc'
     rw[upd_same]at z
     cases z
     exact⟨ha,by rw[List.length_map];exact hl,vs,_,rv,ha⟩
    ·rw[upd_ne hc']at z;cases z
  ·by_cases hb':b=P
   ·exact .inr hb'
   ·by_cases hc':b=a
    ·exact .inl hc'
    ·exact absurd (by rw[upd_ne hb',upd_ne hc']) z
theorem walk_ofT {l:PySem.W.OpenLaw} {n k:Nat} {q:Program} {loose:List Str} {XP:(Str→Option Value)→Heap→Prop} {YP:World→Heap→Prop} {d:DefRec} {K:Params→PySem.W.Frag} {CX:World→CXT} {sp:World→Addr→Sp} {x:Str}
 (hn:l.most=some n) (hn2:n≤sizeLine) (hdf:d.params.defaults=[]) (hr:Room k callerA) {ts:List Addr}
 (hY:∀ (w:World) (h:Heap),YP w h→(K w.params).In h) (hTab:∀ (w:World) (h:Heap),YP w h→∀ P∈ts,h.get? P=some (PySem.W.tabObj #[]))
 (F:∀ (w:World) (mg:Str→Option Value) (fa:Addr) (h:Heap),(K w.params).In h→h.Ns mainGlobals mg→mg d.name=some (.ref fa) →
  ∃ (fd:FuncData) (c P:Addr),P∈ts∧PySem.W.codeHdIn (K w.params) c P=true∧(K w.params).lookup P=none∧(∀ (s:Shared) (u:Value),BindsTo s fd ⟨[u],[]⟩ [(x,u)]) ∧
   ∀ base:Heap,(K w.params).In base→base.Ns mainGlobals mg→BMain mg base→PySem.W.CodeHd base c P→FnOk l.prog w (K w.params) mg base (CX w) k fa fd [x] (sp w P))
 (hsp:∀ (w:World) (P:Addr) (H:Hp) (a:Addr) (ns:List Int),ns.length≤n→H P=some (.tbl #[])→SqL (K w.params) H a (ns.map V.int)→sp w P [.ref a] H (fun v _=>v=.bl true) fun _ _ _=>False)
 (hCX:∀ (w:World) (H:Hp) (s:Shared) (e:Value) (s':Shared),CX w [] H s (fun _ _ _=>False) e s'→False) :
 PySem.W.WalkO q loose XP YP l.row.toRowW d [] (fun f vs=>PySem.call f vs):=by
 refine Att.attach_call hn hdf fun w s₀ s₁ mg mb fa o pm cd doc a vs ns G Y ho hd hcd hmg hobj hints hlen hg=>?_
 have KX:=hY w _ Y
 obtain⟨fd,c,P,hPt,hcode,hKP,hb,hF⟩:=F w mg fa _ KX G.T.g hmg
 have hC:=PySem.W.codeHd_of_K KX hcode
 have t6:=hC.tab (hTab w _ Y P hPt)
 exact law_callT KX G.T.g G.T.b G.T.builtins G.T.nolimit hg hobj hints (Nat.le_trans hlen hn2) hr hC t6 hKP G.T.bmain hF hb (fun H h1 h2=>hsp w _ H a ns hlen h1 h2) fun H e s'=>hCX w H s₁ e s'
end L2
namespace L2
open PySem PySem.Spec PyProof.Rows
section
variable {prog:Program} {w:World} {A:Around} {E:Value→Shared→Prop} {s:Shared} {K:PySem.W.Frag} {x C:Addr} {ox:Obj} {od:Option Obj} {name:Str} {expr:Bool} {Q:Value→Shared→Prop}
theorem get_exc {v:Value} (X:K.In s.heap) (I:PySem.W.InstAt s.heap x ox C od) (hga:PySem.W.findIn K (.ref C) "__getattribute__"=some (some (.builtin "BaseException.__getattribute__"))) (hk:PySem.W.findIn K (.ref C) "__getattr__"=some none)
 (hs:PySem.W.subIn K (.ref C) (.type "BaseException")=some true) (hf:PySem.W.findObj K C od name=some (.value v)) (hh:PySem.W.handedIn v=true) (h:Q v { s with toks:=s.toks+1 }):wpAny (model prog w) A (getAttr (.ref x) name expr) Q E s:=by
 have FB:=PySem.F.attrBase_ValueError
 have L0:=I.type (M:=model prog w)
 have L1:=PySem.W.looks_find (M:=model prog w) X I hf
 have ht:PySem.W.Looks (model prog w) s.heap (isInstance (.ref x) (.type "BaseException")) true:=L0.andThen (PySem.W.looks_subIn X hs)
 have hook:PySem.W.Looks (model prog w) s.heap (hookBefore (.ref C)) none:=PySem.W.looks_hook X (by rw[if_pos (show onTheHeap (Value.ref C)=true from rfl)];exact hk)
 obtain⟨hh',g,d,t,os⟩:=s
 refine wpAny_bind (wpAny_mkText (wpAny_holding (wpAny_bind (L0.at (wpAny_bind ((PySem.W.looks_findIn X hga).at ?_))))))
 dsimp only
 rw[show (onTheHeap (Value.ref C) && Value.builtin "BaseException.__getattribute__" == Value.builtin "object.__getattribute__")=false from by rw[show (Value.builtin "BaseException.__getattribute__" == Value.builtin "object.__getattribute__")=false from by decide +kernel,Bool.and_false],if_neg (by decide)]
 refine wpAny_bind (hook.at (wpAny_bind (wpAny_attempt (wpAny_holding ?_))))
 unfold callGetattribute
 rw[show (expr && onTheHeap (Value.builtin "BaseException.__getattribute__"))=false from Bool.and_false _,if_neg (by decide)]
 unfold boundAndCalled
 rw[FB.ga.bind]
 refine wpAny_bind (wpAny_pure ?_)
 show wpAny _ _ (call (.builtin "BaseException.__getattribute__") [.ref x,.str name t]) _ _ _
 refine wpAny_call ?_
 refine codeAny_call_builtin FB.ga.plain PySem.F.entry_bexc_ga ?_
 refine @PySem.W.check_slot (model prog w) _ _ ⟨hh',g,d,t+1,os⟩ "BaseException.__getattribute__" "BaseException" "__getattribute__" (.ref x) [.str name t] [] _ (by decide +kernel) (by decide +kernel) ht (PySem.F.args_bexc_ga (.ref x) (.str name t)) ?_
 refine wpAny_bind (wpAny_pure (wpAny_bind (wpAny_pure (wpAny_bind (L0.at (wpAny_bind (L1.at ?_)))))))
 refine wpAny_pure ?_
 show wpAny _ _ (handedOut v) _ _ _
 rw[PySem.W.handedOut_of hh]
 exact wpAny_pure h
end
structure XGetE (K:PySem.W.Frag) (C:Addr) (f:Str):Prop where
 ga:PySem.W.findIn K (.ref C) "__getattribute__"=some (some (.builtin "BaseException.__getattribute__"))
 hook:PySem.W.findIn K (.ref C) "__getattr__"=some none
 sub:PySem.W.subIn K (.ref C) (.type "BaseException")=some true
 hd:PySem.W.hasDictIn K C=true
 free:PySem.W.findIn K (.ref C) f=some none
noncomputable def tXatE (K:PySem.W.Frag) (ta:TE) (f:Str):TE:=fun σ H Q=>ta σ H fun x H1=>∃ a C dx fs v,x=.ref a∧H1 a=some (XH a (.ref C) (some dx))∧H1 dx=some (.xd fs)∧XGetE K C f∧fs.lookup f=some v∧Q v H1
theorem pe_xatE {X:Cx} {e:Expr} {ta:TE} {f:Str} {pos:Pos} (he:PE X e ta) (hb:attributeBase e f X.env (eval e X.env)=eval e X.env):PE X (.Attribute e f pos) (tXatE X.K ta f):=by
 intro pins s σ H Q I h
 refine attr_of hb (thn (he pins s σ H _ I h) fun u s1 ⟨x,H1,I1,rx,a,C,dx,fs,v,ex,ea,ed,G,l,q⟩=>?_)
 subst ex
 obtain rfl:u=Value.ref a:=rx
 obtain⟨⟨o,vs,ho,hcl,hdct,hdat⟩,_⟩:=I1.hok a _ ea
 obtain⟨mA,hns,rel⟩:=I1.hok dx _ ed
 obtain⟨od,hod,hl⟩:=lookIn_ns hns
 obtain⟨u,hu,ru⟩:=RelO.some_of (v:=v) (o:=mA f) (by rw[← l];exact rel f)
 have J:PySem.W.InstAt s1.heap a o C (some od):=⟨ho,hcl,by unfold PySem.W.notCls;rw[hdat],by rw[hdct];exact hod⟩
 exact get_exc I1.kIn J G.ga G.hook G.sub (PySem.W.findObj_own G.hd G.free rfl (by rw[hl,hu])) (handed_of ru) ⟨v,H1,I1.tok _,ru,q⟩
end L2
namespace L2
open PySem PySem.Spec PyProof.Rows
section
variable {P:Program} {w:World} {K:PySem.W.Frag} {mg:Str→Option Value} {base:Heap}
theorem Fun.okS {x qual:Str} {st:Stmt} {f:Addr} {fd:FuncData} {N ps:List Str} {k:Nat} {sp:SpS} (F:Fun K x qual st f fd) (S:FnScope N ps (defScope st)) (len:∀ s o vs H Q E,sp s o vs H Q E→vs.length=ps.length)
 (hbody:∀ (cdv:Value) (A:Around) (outer:List Env) (s:Shared) (H:Hp) (vs:List V) (Q:VK) (E:XK),A.frames=some outer→Room k (A.deeper (envOfC qual (defScope st) s.heap.objs.size f cdv))→sp s outer vs H Q E →
  ∃ t,PSs (cxOf (CXR P w) P w K mg base N qual (defScope st) f cdv A outer s H E) (defBody st) t∧t { nx:=fun _ H'=>Q .non H',rt:=Q } (start N vs) H):FnOkS P w K mg base (CXR P w) (k+1) f fd ps sp:=by
 obtain⟨oc,od,kV,doc,pm,an,cdv,ct,osl,rfl,lk,hcd⟩:=F.ex
 exact fn_ofS lk hcd S len fun A outer s H vs Q E hfr hr hsp=>hbody cdv A outer s H vs Q E hfr hr hsp
theorem Fun.okX {x qual:Str} {st:Stmt} {f:Addr} {fd:FuncData} {N ps:List Str} {k:Nat} {sp:Sp} (F:Fun K x qual st f fd) (S:FnScope N ps (defScope st)) (len:∀ vs H Q E,sp vs H Q E→vs.length=ps.length)
 (hbody:∀ (cdv:Value) (A:Around) (outer:List Env) (s:Shared) (H:Hp) (vs:List V) (Q:VK) (E:XK),A.frames=some outer→Room k (A.deeper (envOfC qual (defScope st) s.heap.objs.size f cdv))→sp vs H Q E →
  ∃ t,PSs (cxOf (CXR P w) P w K mg base N qual (defScope st) f cdv A outer s H E) (defBody st) t∧t { nx:=fun _ H'=>Q .non H',rt:=Q } (start N vs) H):FnOk P w K mg base (CXR P w) (k+1) f fd ps sp:=by
 obtain⟨oc,od,kV,doc,pm,an,cdv,ct,osl,rfl,lk,hcd⟩:=F.ex
 have G:=fn_ofS (CX:=CXR P w) (P:=P) (w:=w) (mg:=mg) (base:=base) (k:=k) (sp:=fun _ _ vs H Q E=>sp vs H Q E) lk hcd S (fun _ _ vs H Q E h=>len vs H Q E h) fun A outer s H vs Q E hfr hr hsp=>hbody cdv A outer s H vs Q E hfr hr hsp
 exact⟨len,G.run⟩
theorem passF {CX:CXT} {N:List Str} {qual:Str} {scope:Scope} {f:Addr} {cd:Value} {A:Around} {outer:List Env} {s:Shared} {H:Hp} {E:XK} :
 PassesOwn (model P w) (cxOf CX P w K mg base N qual scope f cd A outer s H E).A (cxOf CX P w K mg base N qual scope f cd A outer s H E).env (cxOf CX P w K mg base N qual scope f cd A outer s H E).xe :=
 PassesOwn.leaving (Q₁:=fun e s''=>CX outer H s E e s'') (E₁:=fun e s''=>CX outer H s E e s'')
end
end L2
namespace L2
open PySem PySem.Spec PyProof.Rows
open Sem (wp)
open Builtin Builtin.ObjectAttr
section
variable {prog:Program} {w:World} {A:Around} {E:Value→Shared→Prop} {h:Heap} {g:Array GenState} {d:Drawn} {t:Nat} {os:OsState} {K:PySem.W.Frag} {C e:Addr} {name:Str} {v:Value} {vs:Array Value}
theorem store_exc2 {Q:Unit→Shared→Prop} {dx:Addr} {mA:Str→Option Value} {ns:List Str} (X:K.In h) (S:XStore K C name) (hx:h.get? e=some { cls:=.ref C,dict:=some dx,data:=.fields vs }) (hn:h.Ns1 dx mA) (ne:e≠dx)
 (hw:Within mA ns) (hsz:ns.length≤1000)
 (hq:∀ h' tk',Heap.SameBut dx h h'→h'.Ns1 dx (fun y=>if y=name then some v else mA y)→Q () ⟨h',g,d,tk',os⟩) :
 wpAny (model prog w) A (setAttr (.ref e) name v) Q E ⟨h,g,d,t,os⟩:=by
 obtain⟨⟨cd,bm,hc,hm,href,hob,hdct⟩,hs,hfree⟩:=S
 have SF:=PySem.F.store_ValueError
 obtain⟨oD0,esD0,epD0,hoD0,hdD0,hcD0⟩:=hn.count hw
 have I:PySem.W.InstAt h e { cls:=.ref C,dict:=some dx,data:=.fields vs } C (some oD0):=⟨hx,rfl,rfl,hoD0⟩
 have hmro:PySem.W.Looks (model prog w) h (mroOf (.ref C)) cd.mro:=(PySem.W.looks_clsIn X hc).andThen .now
 have hsub:PySem.W.Looks (model prog w) h (isInstance (.ref e) (.type "object")) true:=I.type.andThen (PySem.W.looks_mroIn X (by
  unfold PySem.W.mroIn
  rw[hc,Option.bind_some,hm,if_neg (by simp),List.contains_cons,hob,Bool.or_true]))
 refine PySem.W.set_plain (s:=⟨h,g,d,t,os⟩) X I hs ?_
 refine codeAny_call_builtin SF.slot.plain SF.entry (@PySem.W.check_slot (model prog w) _ _ _ "object.__setattr__" "object" "__setattr__" (.ref e) [.str name t,v] [] _ SF.kind SF.split hsub (SF.args (.ref e) (.str name t) v) ?_)
 rw[PySem.W.osa_eq,refuse_eq]
 refine wpAny_bind (wpAny_bind (I.type.at (wpAny_bind (hmro.at ?_))))
 rw[hm,refuseLoop_ref,href]
 refine wpAny_pure (wpAny_bind (I.type.at (wpAny_bind ((PySem.W.looks_findIn X hfree).at (wpAny_bind ?_)))))
 refine wpAny_pure ?_
 dsimp only
 refine wpAny_bind (wpAny_pure (wpAny_bind (wpAny_bind (wpAny_loadPart hx (wpAny_bind ((PySem.W.looks_clsIn X hc).at ?_))))))
 rw[hdct]
 refine wpAny_pure (a:=some dx) (wpAny_bind (wpAny_pure (wpAny_bind ?_)))
 refine wpAny_nsSet1 hn fun h' hn' hs=>?_
 obtain⟨oD,esD,epD,hoD,hdD,hcD⟩:=hn'.count (Within.cons name v hw)
 refine wpAny_bind (wpAny_lookBehind hoD (by rw[hdD];exact pastItsLine_dict (Nat.le_trans hcD (by rw[List.length_cons,sizeLine_eq];omega))) ?_)
 exact wpAny_pure (hq h' _ hs hn')
end
section
variable {X:Cx} {pins:List (Addr×Obj)} {σ:St} {H:Hp} {s:Shared} {h':Heap} {dx:Addr}
theorem Inv.xdPut (I:Inv X pins σ H s) {t':Nat} {fs fs':List (Str×V)} (hx:H dx=some (.xd fs)) (k:∀ b o,b≠dx→s.heap.get? b=some o→h'.get? b=some o) (hd:∃ mA,h'.Ns1 dx mA∧∀ f,RelO (fs'.lookup f) (mA f)) :
 Inv X pins σ (upd H dx (.xd fs')) { s with heap:=h',toks:=t' }:=by
 have ne:∀ b u,H b=some u→(∀ ψ,u≠.xd ψ)→b≠dx:=fun b u q n z=>by rw[z,hx]at q;cases q;exact n _ rfl
 have nb:∀ b,H b=none→b≠dx:=fun b q z=>by rw[z,hx]at q;cases q
 have up:∀ b u,H b=some u→(∀ ψ,u≠.xd ψ)→upd H dx (.xd fs') b=some u:=fun b u q n=>by rw[upd_ne (ne b u q n)];exact q
 have th:∃ u,h'.get? dx=some u:=by
  obtain⟨mA,⟨o,es,ep,e,_⟩,_⟩:=hd
  exact⟨o,e⟩
 have un:Un X.fs [] H (upd H dx (.xd fs')) s.heap h':=⟨fun b o q n _ _=>k b o (nb b n) q,fun b o q n _ _=>⟨o.slots,k b o (nb b n) q⟩,fun b o q n _=>by rw[upd_ne (nb b n)];exact n,
  fun b o q _=>by
   by_cases hb:b=dx
   ·rw[hb];exact th
   ·exact⟨o,k b o hb q⟩,
  fun b xs q=>up b _ q (fun _ z=>by cases z),fun b o u q=>up b _ q (fun _ z=>by cases z),fun b ps q=>⟨#[],by rw[up b _ q (fun _ z=>by cases z)];simp⟩⟩
 exact I.un (t':=t') un fun b u q=>by
  by_cases hb:b=dx
  ·subst hb;rw[upd_same]at q;cases q;exact hd
  ·rw[upd_ne hb]at q
   refine(I.hok b u q).stay (fun c v hcv z=>k c v (fun z'=>?_) z) (fun c z=>up c _ z fun _ z=>by cases z) fun c xs z=>up c _ z fun _ z=>by cases z
   subst z'
   rcases hcv with z1 | z1
   ·exact hb z1.symm
   ·rw[hx]at z1;cases z1
theorem within_of {mA:Str→Option Value}:∀ {fs:List (Str×V)},(∀ f,RelO (fs.lookup f) (mA f))→Within mA (fs.map (·.1)):=by
 intro fs r y hy
 have:=r y
 cases q:fs.lookup y with
 | none=>rw[q]at this;exact absurd this.none_of hy
 | some v =>
  clear this r hy
  induction fs with
  | nil=>cases q
  | cons p r ih =>
   obtain⟨a,b⟩:=p
   rw[List.lookup_cons]at q
   by_cases h:(y == a)=true
   ·rw[beq_iff_eq]at h;subst h;simp
   ·rw[Bool.not_eq_true]at h;rw[h]at q;exact List.mem_cons_of_mem _ (ih q)
end
section
variable {X:Cx}
noncomputable def sXat2 (K:PySem.W.Frag) (ta tv:TE) (f:Str):TS:=fun D σ H=>tv σ H fun y H1=>ta σ H1 fun x H2=>∃ a C dx fs,x=.ref a∧H2 a=some (XO C a (some dx))∧H2 dx=some (.xd fs)∧fs.length≤1000∧XStore K C f ∧
 D.nx σ (upd H2 dx (.xd ((f,y) :: fs)))
theorem ps_xat2 {o value:Expr} {f:Str} {ta tv:TE} {pos pos':Pos} (ha:PE X o ta) (hv:PE X value tv) (hs:swapsWith value (some (.Attribute o f pos')) pos.line X.env=pure false):PS X (.Assign [.Attribute o f pos'] value pos) (sXat2 X.K ta tv f):=by
 intro pins s σ H D I h
 refine plainObj_wpAny_Assign_Attribute (thn (hv pins s σ H _ I h) fun u s1 ⟨y,H1,I1,ry,q⟩=>thn (ha pins s1 σ H1 _ I1 q) fun ov s2 ⟨x,H2,I2,rx,a,C,dx,fs,ex,ea,ed,hl,S,q2⟩=>?_) hs
 subst ex
 obtain rfl:ov=Value.ref a:=rx
 obtain⟨⟨t0,ho⟩,_⟩:=I2.hok a _ ea
 obtain⟨mA,hns,hrel⟩:=I2.hok dx _ ed
 have ne:a≠dx:=fun z=>by rw[z,ed]at ea;cases ea
 refine store_exc2 I2.kIn S ho hns ne (within_of hrel) (by rw[List.length_map];exact hl) fun h' tk' sb hns'=>?_
 refine⟨σ,_,I2.xdPut (t':=tk') (fs':=(f,y) :: fs) ed (fun b o n z=>(sb.2 b n).trans z) ⟨_,hns',fun g=>?_⟩,q2⟩
 by_cases hg:g=f
 ·subst hg
  rw[List.lookup_cons_self,if_pos rfl]
  exact ry
 ·have hgf:(g == f)=false:=by simpa using hg
  rw[List.lookup_cons,hgf,if_neg hg]
  exact hrel g
structure OInit (K:PySem.W.Frag) (D fB:Addr):Prop where
 ga:PySem.W.specialIn K (.ref D) "__getattribute__"=some (some (.builtin "type.__getattribute__"))
 reads:PySem.W.readsIn K D (.type "type")=true
 find:PySem.W.findCls K (.ref D) (.type "type") "__init__"=some (.val (.ref fB))
 keep:PySem.W.keepIn K (.ref fB)=true
theorem pe_oinit {CX:CXT} {k:Nat} {D fB:Addr} {fd:FuncData} {ps:List Str} {sp:Sp} {E:XK} {x:Str} {e:Expr} {es:List Expr} {t:TA} {np apos pos:Pos} {pl:Sem Bool} (B:OInit X.K D fB) (F:FnOk X.prog X.w X.K X.mg X.base CX k fB fd ps sp) (hr:Room k X.A) (hb:Binds X.K fd ps []) (hx:Passes CX X E)
 (hg:Gl X x) (hm:X.mg x=some (.ref D)) (ha:PA X (e :: es) t) (hdb:(x == ("__debug__":Str))=false:=by decide)
 (hst:starEach (e :: es) X.env=(false,eval e X.env) :: starEach es X.env:=by rfl) (hpl:(backTo pos (starEach es X.env)).any (·.1)=false:=by rfl)
 (ht:eval (.Call (.Attribute (.Name x np) "__init__" apos) (e :: es) [] pos) X.env=(do
  let ov ← eval (.Name x np) X.env
  standAt apos.atName
  let (f,first) ← holding [ov] (getMethod ov "__init__" pl)
  callWith pos f first (backTo pos (starEach (e :: es) X.env)) (backToKw pos (keywordEach [] X.env))):=by rfl) :
 PE X (.Call (.Attribute (.Name x np) "__init__" apos) (e :: es) [] pos) (tCall sp [] E t):=by
 intro pins s σ H Q I h
 refine PySem.W.methodCall_KW (pl:=pl) (ld_glob I hg hm ?_ hdb) ht
 refine PySem.W.method_cls I.kIn B.ga (PySem.W.cls_value I.kIn B.reads B.find rfl ?_)
 refine PySem.W.callWith_K (h₀:=X.base) I.ok.mod.kin B.keep (thn (ha pos pins { s with toks:=s.toks+1 } σ H _ (I.tok _) h) fun us s1 ⟨vs,H1,I1,r,q⟩=>⟨I1.kIn,?_⟩) hst hpl
 exact run_fn F hr hb .nil hx I1 r q
theorem find_VE (K:PySem.W.Frag):PySem.W.findCls K (.type "ValueError") (.type "type") "__init__"=some (.val (.builtin "ValueError.__init__")):=by kernel_rfl
theorem method_typeX {prog:Program} {w:World} {A:Around} {E:Value→Shared→Prop} {s:Shared} {K:PySem.W.Frag} {name:Str} {v:Value} {T:String} {pl:Sem Bool} {Q:Value×List Value→Shared→Prop} (X:K.In s.heap) (ht:typeOf (.type T)=pure (.type "type")) (hs:Manifest.isStub T=false)
 (e:PySem.W.findCls K (.type T) (.type "type") name=some (.val v)) (hh:PySem.W.handedIn v=true) (h:Q (v,[]) { s with toks:=s.toks+1 }):wpAny (model prog w) A (getMethod (.type T) name pl) Q E s:=by
 have hstub:opaqueClassAbove (.type T)=pure none:=by unfold opaqueClassAbove;dsimp only;rw[hs];rfl
 have L0:PySem.W.Looks (model prog w) s.heap (typeOf (.type T)) (.type "type"):=PySem.W.Looks.of_pure ht
 have hg:PySem.W.findIn K (.type "type") "__getattribute__"=some (some (.builtin "type.__getattribute__")):=PySem.W.type_tga
 unfold getMethod specialOf
 refine wpAny_bind (wpAny_bind (L0.here ((PySem.W.looks_findIn X hg).here ?_)))
 dsimp only
 rw[if_pos PySem.W.canon_tga]
 refine wpAny_bind (wpAny_mono (Q:=fun v=>Q (v,[])) (E:=E) ?_ (fun _ _ z=>wpAny_pure z) fun _ _ z=>z)
 have LO:PySem.W.Looks (model prog w) s.heap (opaqueClassAbove (.type T)) none:=PySem.W.Looks.of_pure hstub
 refine PySem.W.cls_open X LO L0 hg (PySem.W.looks_hook X (r:=none) (by rfl)) (by show PySem.W.subIn K _ _=_;rfl) e
  (wpAny_pure (by show wpAny _ _ (handedOut v) _ _ _;rw[PySem.W.handedOut_of hh];exact wpAny_pure h))
theorem pe_vinit {e:Expr} {es:List Expr} {t:TA} {np apos pos:Pos} {pl:Sem Bool} (hg:Gl X "ValueError") (hm:X.mg "ValueError"=none) (ha:PA X (e :: es) t)
 (hst:starEach (e :: es) X.env=(false,eval e X.env) :: starEach es X.env:=by rfl) (hpl:(backTo pos (starEach es X.env)).any (·.1)=false:=by rfl)
 (ht:eval (.Call (.Attribute (.Name "ValueError" np) "__init__" apos) (e :: es) [] pos) X.env=(do
  let ov ← eval (.Name "ValueError" np) X.env
  standAt apos.atName
  let (f,first) ← holding [ov] (getMethod ov "__init__" pl)
  callWith pos f first (backTo pos (starEach (e :: es) X.env)) (backToKw pos (keywordEach [] X.env))):=by rfl) :
 PE X (.Call (.Attribute (.Name "ValueError" np) "__init__" apos) (e :: es) [] pos) (tBInit X.K t):=by
 intro pins s σ H Q I h
 refine PySem.W.methodCall_KW (pl:=pl) (ld_blt I hg hm (u:=.type "ValueError") (by kernel_rfl) ?_) ht
 refine method_typeX I.kIn (by kernel_rfl) (by decide +kernel) (find_VE X.K) (by decide +kernel) ?_
 have hplain:(backTo pos (starEach (e :: es) X.env)).any (·.1)=false:=by
  rw[hst]
  show (false || (backTo pos (starEach es X.env)).any (·.1))=false
  rw[hpl]
  rfl
 refine Calls.callWith_builtin hplain ?_
 have sp:=ha pos pins { s with toks:=s.toks+1 } σ H _ (I.tok _) h
 rw[hst]at sp ⊢
 refine Calls.evalArgs_plain (thn sp fun us s2 ⟨vs,H2,I2,r,a,C,i,od,rest,ev,hz,hx,hC,q⟩=>?_)
 subst ev
 cases r with
 | cons r0 rr =>
  rename_i u us _
  obtain rfl:u=Value.ref a:=r0
  obtain⟨bm,N,nm,qn,bs,hdct,sn,sub,ab,col,dd,k0,k1,k2,k3,k5,mN,hC',hN,hni,T⟩:=hC s2.heap I2.kIn
  obtain⟨⟨t0,ho⟩,_⟩:=I2.hok a _ hx
  refine call_binit (hrest:=by have:=rr.length;show us.length≤_;omega) PySem.F.excBase_ValueError T hC' ho fun h' t1 k he'=>?_
  refine⟨.non,H2,?_,rfl,q⟩
  have:=I2.write (x:=a) (e:=a) (o:=XO C a od) (t':=s2.toks) (by rw[hx];exact True.intro) (.inl rfl) k ⟨_,he'⟩ (XO.mk he')
  rwa [show upd H2 a (XO C a od)=H2 from by funext b;unfold upd;split <;> simp_all]at this
end
structure FunD (K:PySem.W.Frag) (x qual:Str) (st:Stmt) (f:Addr) (fd:FuncData):Prop where
 ex:∃ (oc:Value) (od:Option Addr) (dV kV doc pm:Value) (an:Option Addr) (cdv ct:Value) (osl:Array (Option Value)),
  fd=PySem.W.fnOf x qual (defArgs st) (defBody st) (defScope st) dV kV doc pm an cdv ct∧K.lookup f=some ⟨oc,od,.func fd,osl⟩∧PySem.W.codeIn K cdv qual=true
 kp:PySem.W.keepIn K (.ref f)=true
section
variable {P:Program} {w:World} {K:PySem.W.Frag} {mg:Str→Option Value} {base:Heap}
theorem FunD.ok {x qual:Str} {st:Stmt} {f:Addr} {fd:FuncData} {N ps:List Str} {k:Nat} {sp:Sp} (F:FunD K x qual st f fd) (S:FnScope N ps (defScope st)) (len:∀ vs H Q E,sp vs H Q E→vs.length=ps.length)
 (hbody:∀ (cdv:Value) (A:Around) (outer:List Env) (s:Shared) (H:Hp) (vs:List V) (Q:VK) (E:XK),Room k (A.deeper (envOfC qual (defScope st) s.heap.objs.size f cdv))→sp vs H Q E →
  ∃ t,PSs (cxOf CX0 P w K mg base N qual (defScope st) f cdv A outer s H E).nox (defBody st) t∧t { nx:=fun _ H'=>Q .non H',rt:=Q } (start N vs) H):FnOk P w K mg base CX0 (k+1) f fd ps sp:=by
 obtain⟨oc,od,dV,kV,doc,pm,an,cdv,ct,osl,rfl,lk,hcd⟩:=F.ex
 refine fn_of lk hcd S len fun A outer s H vs Q E hr hsp=>?_
 obtain⟨t,h,q⟩:=hbody cdv A outer s H vs Q E hr hsp
 exact⟨t,h.nox,q⟩
theorem funD_mk {x qual:Str} {st:Stmt} {f:Addr} {oc:Value} {od an:Option Addr} {osl:Array (Option Value)} {dV kV doc pm cdv ct:Value} (l:K.lookup f=some ⟨oc,od,.func (PySem.W.fnOf x qual (defArgs st) (defBody st) (defScope st) dV kV doc pm an cdv ct),osl⟩)
 (c:PySem.W.codeIn K cdv qual=true) (k:PySem.W.keepIn K (.ref f)=true):FunD K x qual st f (PySem.W.fnOf x qual (defArgs st) (defBody st) (defScope st) dV kV doc pm an cdv ct):=⟨⟨oc,od,dV,kV,doc,pm,an,cdv,ct,osl,rfl,l,c⟩,k⟩
end
end L2
namespace L2
open PySem PySem.Spec PyProof.Rows
open PySem.W PySem.Calls
section
variable {K:PySem.W.Frag} {x t c:Value}
end
section
variable {X:Cx}
end
end L2
theorem CW.fm0 {α:Type} {p:α→Prop}:∀ q∈([]:List α),p q:=fun _ h=>nomatch h
theorem CW.fm1 {α:Type} {p:α→Prop} {a:α} {l:List α} (h:p a) (t:∀ q∈l,p q):∀ q∈a :: l,p q:=List.forall_mem_cons.mpr ⟨h,t⟩
theorem CW.has_of {names:List (PySem.Str×PySem.NameKind)} {clos:List (PySem.Str×PySem.Addr)} (h:∀ q∈names,q.2=.free→(clos.lookup q.1).isSome=true):∀ x,names.lookup x=some .free→∃ c,clos.lookup x=some c:=fun x e=>Option.isSome_iff_exists.mp (h (x,.free) (PySem.mem_of_lookup e) rfl)
theorem CW.ix_nil {p:Nat→PySem.Str→Prop}:∀ (j:Nat) (x:PySem.Str),([]:List PySem.Str)[j]?=some x→p j x:=fun _ _ h=>nomatch h
theorem CW.ix_cons {a:PySem.Str} {l:List PySem.Str} {p:Nat→PySem.Str→Prop} (h:p 0 a) (t:∀ (j:Nat) (x:PySem.Str),l[j]?=some x→p (j+1) x):∀ (j:Nat) (x:PySem.Str),(a :: l)[j]?=some x→p j x
 | 0,_,e=>by cases e;exact h
 | j+1,x,e=>t j x e
namespace CW
open PySem L2
section
variable {P:Program} {w:World} {K:PySem.W.Frag} {mg:Str→Option Value} {base:Heap}
noncomputable def SmallI (i:Int):Prop:=i.natAbs.log2<1920∧(toString i:Str).length≤1000
theorem smallI {i:Int} (h0:0≤i) (h1:i<256):SmallI i:=by
 have:∀ n:Nat,n<256→((n:Int).natAbs.log2<1920∧(toString (n:Int):Str).length≤1000):=by decide +kernel
 have:=this i.toNat (by omega)
 rwa [show ((i.toNat:Nat):Int)=i from by omega]at this
noncomputable def spXB (K:PySem.W.Frag):Sp:=fun vs H Q E=>∃ e C i a b,vs=[.ref e,.str a,.str b]∧H e=some (XO C e none)∧XCls K C i∧XStore K C "word" ∧
 ∀ dx,H dx=none→dx≠e→Q .non (upd (upd H dx (.xd [("word",.str b)])) e (XO C e (some dx)))
noncomputable def spX0 (nm:Str) (C:Addr):Sp:=fun vs H Q E=>∃ e a,vs=[.ref e,.str a]∧H e=some (XO C e none) ∧
 ∀ dx,H dx=none→dx≠e→Q .non (upd (upd H dx (.xd [("word",.str nm)])) e (XO C e (some dx)))
noncomputable def spXI (nm:Str) (C:Addr):Sp:=fun vs H Q E=>∃ e i,vs=[.ref e,.int i]∧SmallI i∧H e=some (XO C e none) ∧
 ∀ dx,H dx=none→dx≠e→Q .non (upd (upd H dx (.xd [("at",.int i),("word",.str nm)])) e (XO C e (some dx)))
theorem upd_again {H:Hp} {e dx:Addr} {o o1 o2:HO} (n:dx≠e):upd (upd (upd H dx o) e o1) dx o2=upd (upd H dx o2) e o1:=by
 funext b
 unfold upd
 by_cases h1:b=dx
 ·subst h1
  rw[if_pos rfl,if_neg n,if_pos rfl]
 ·rw[if_neg h1]
  by_cases h2:b=e
  ·rw[if_pos h2,if_pos h2]
  ·rw[if_neg h2,if_neg h2,if_neg h1,if_neg h1]
theorem del_upd {H:Hp} {e dx:Addr} {o o' o'':HO} (he:H e=none) (n:dx≠e):del (upd (upd (upd H e o) dx o') e o'') e=upd H dx o':=by
 funext b
 unfold del upd
 by_cases h1:b=e
 ·subst h1
  rw[if_pos rfl,if_neg (Ne.symm n),he]
 ·rw[if_neg h1,if_neg h1]
  by_cases h2:b=dx
  ·rw[if_pos h2,if_pos h2]
  ·rw[if_neg h2,if_neg h2,if_neg h1]
noncomputable def Rf (E:XK) (C:Addr) (fs:List (Str×V)) (H:Hp):Prop:=∀ dx,H dx=none→E (.ref C) (some dx) (upd H dx (.xd fs))
noncomputable def Rf0 (E:XK) (C:Addr) (nm:Str) (H:Hp):Prop:=Rf E C [("word",.str nm)] H
noncomputable def RfI (E:XK) (C:Addr) (nm:Str) (i:Int) (H:Hp):Prop:=Rf E C [("at",.int i),("word",.str nm)] H
theorem rd0 {E:XK} {C:Addr} {nm a:Str} {H:Hp} (k:Rf0 E C nm H):[V.str a].length≤sizeLine∧∀ e,H e=none→spX0 nm C (.ref e :: [V.str a]) (upd H e (XO C e none)) (fun v H2=>v=.non∧∃ od,H2 e=some (XO C e od)∧E (.ref C) od (del H2 e)) E0 :=
 ⟨by show 1≤sizeLine;decide,fun e he=>⟨e,a,rfl,upd_same,fun dx h1 h2=>⟨rfl,some dx,upd_same,by
  rw[upd_ne h2]at h1
  rw[del_upd he h2]
  exact k dx h1⟩⟩⟩
theorem rdI {E:XK} {C:Addr} {nm:Str} {i:Int} {H:Hp} (hi:SmallI i) (k:RfI E C nm i H):[V.int i].length≤sizeLine∧∀ e,H e=none→spXI nm C (.ref e :: [V.int i]) (upd H e (XO C e none)) (fun v H2=>v=.non∧∃ od,H2 e=some (XO C e od)∧E (.ref C) od (del H2 e)) E0 :=
 ⟨by show 1≤sizeLine;decide,fun e he=>⟨e,i,rfl,hi,upd_same,fun dx h1 h2=>⟨rfl,some dx,upd_same,by
  rw[upd_ne h2]at h1
  rw[del_upd he h2]
  exact k dx h1⟩⟩⟩
structure RaisesAs (P:Program) (w:World) (K:PySem.W.Frag) (mg:Str→Option Value) (base:Heap) (x:Str) (C:Addr) (ps:List Str) (sp:Sp):Prop where
 m:mg x=some (.ref C)
 i:∃ fI fd,XCls K C (some (.ref fI))∧PySem.W.isFn K (.ref fI)=true∧FnOk P w K mg base CX0 2 fI fd ps sp∧Binds K fd ps []
theorem ps_raiseR {X:Cx} {E:XK} {C:Addr} {ps:List Str} {sp:Sp} {k:Nat} {x:Str} {e:Expr} {es:List Expr} {t:TA} {np cpos pos:Pos} (RX:Raises X E) (R:RaisesAs X.prog X.w X.K X.mg X.base x C ps sp) (hx:X.ex=[]) (hcalm:X.calm=true)
 (hr:Room k X.A) (hg:Gl X x) (ha:PA X (e :: es) t) (hk:3≤k:=by decide) (hdb:(x == ("__debug__":Str))=false:=by decide)
 (he:starEach (e :: es) X.env=(false,eval e X.env) :: starEach es X.env:=by rfl) (hpl:(backTo cpos (starEach es X.env)).any (·.1)=false:=by rfl):PS X (.Raise (some (.Call (.Name x np) (e :: es) [] cpos)) none pos) (tRaiseI C sp E t):=by
 obtain⟨m,fI,fd,h1,h2,h3,h4⟩:=R
 exact ps_raiseI (hdb:=hdb) (he:=he) (hpl:=hpl) RX hx hcalm h1 h2 h3 (hr.mono hk) h4 hg m ha
noncomputable def xsIn (K:PySem.W.Frag) (C D:Addr) (name:Str):Bool:=(match PySem.W.clsIn K C with
 | some cd=>cd.mro == .ref C :: .ref D :: bmV && cd.hasDict
 | none=>false) && PySem.W.findIn K (.ref C) "__setattr__" == some (some (.builtin "object.__setattr__")) && PySem.W.findIn K (.ref C) name == some none
theorem refuse_tail (D:Addr) (self:Value):PySem.refuseLoop self "__setattr__" (.ref D :: bmV)=pure ():=by
 rw[PySem.refuseLoop_ref]
 rfl
theorem xs_of {C D:Addr} {name:Str} (h:xsIn K C D name=true):XStore K C name:=by
 simp only[xsIn,Bool.and_eq_true,beq_iff_eq]at h
 obtain⟨⟨h1,h2⟩,h3⟩:=h
 split at h1
 ·rename_i cd hc
  rw[Bool.and_eq_true,beq_iff_eq]at h1
  exact⟨⟨cd,.ref D :: bmV,hc,h1.1,refuse_tail D,by rw[List.contains_cons];rfl,h1.2⟩,h2,h3⟩
 ·cases h1
noncomputable def xgIn (K:PySem.W.Frag) (C:Addr) (f:Str):Bool:=PySem.W.findIn K (.ref C) "__getattribute__" == some (some (.builtin "BaseException.__getattribute__")) && PySem.W.findIn K (.ref C) "__getattr__" == some none &&
 PySem.W.subIn K (.ref C) (.type "BaseException") == some true && PySem.W.hasDictIn K C && PySem.W.findIn K (.ref C) f == some none
theorem xg_of {C:Addr} {f:Str} (h:xgIn K C f=true):XGetE K C f:=by
 simp only[xgIn,Bool.and_eq_true,beq_iff_eq]at h
 exact⟨h.1.1.1.1,h.1.1.1.2,h.1.1.2,h.1.2,h.2⟩
structure Errs (K:PySem.W.Frag) (mg:Str→Option Value) where
 row:Addr
 trains:Addr
 sizes:Addr
 many:Addr
 creel:Addr
 number:Addr
 near:Addr
 bare:Addr
 err:Addr
 m_row:mg "BadRow"=some (.ref row)
 m_trains:mg "BadTrains"=some (.ref trains)
 m_sizes:mg "BadSizes"=some (.ref sizes)
 m_many:mg "TooMany"=some (.ref many)
 m_creel:mg "BadCreel"=some (.ref creel)
 m_number:mg "BadNumber"=some (.ref number)
 m_near:mg "TooNear"=some (.ref near)
 m_bare:mg "Bare"=some (.ref bare)
 m_err:mg "CreelError"=some (.ref err)
noncomputable def metIn (K:PySem.W.Frag):List Addr→Bool
 | []=>true
 | a :: l=>PySem.W.exmOne K (.ref a) (.ref a) == some true && l.all (fun b=>PySem.W.exmOne K (.ref b) (.ref a) == some false) && metIn K l
structure Sees (X:Errs K mg):Prop where
 met:metIn K [X.row,X.trains,X.sizes,X.many,X.creel,X.number,X.near,X.bare]=true
 g1:xgIn K X.row "at"=true
 g2:xgIn K X.trains "at"=true
 g3:xgIn K X.sizes "at"=true
 e1:PySem.W.exmOne K (.ref X.row) (.ref X.err)=some true
 e4:PySem.W.exmOne K (.ref X.many) (.ref X.err)=some true
theorem Sees.all {X:Errs K mg} (Z:Sees X):PySem.W.exmOne K (.ref X.row) (.ref X.row)=some true∧PySem.W.exmOne K (.ref X.trains) (.ref X.trains)=some true∧PySem.W.exmOne K (.ref X.sizes) (.ref X.sizes)=some true∧PySem.W.exmOne K (.ref X.many) (.ref X.many)=some true∧PySem.W.exmOne K (.ref X.creel) (.ref X.creel)=some true∧PySem.W.exmOne K (.ref X.number) (.ref X.number)=some true∧PySem.W.exmOne K (.ref X.near) (.ref X.near)=some true∧PySem.W.exmOne K (.ref X.bare) (.ref X.bare)=some true∧PySem.W.exmOne K (.ref X.trains) (.ref X.row)=some false∧PySem.W.exmOne K (.ref X.sizes) (.ref X.row)=some false∧PySem.W.exmOne K (.ref X.sizes) (.ref X.trains)=some false∧PySem.W.exmOne K (.ref X.many) (.ref X.row)=some false∧PySem.W.exmOne K (.ref X.many) (.ref X.trains)=some false∧PySem.W.exmOne K (.ref X.many) (.ref X.sizes)=some false∧PySem.W.exmOne K (.ref X.creel) (.ref X.row)=some false∧PySem.W.exmOne K (.ref X.creel) (.ref X.trains)=some false∧PySem.W.exmOne K (.ref X.creel) (.ref X.sizes)=some false∧PySem.W.exmOne K (.ref X.creel) (.ref X.many)=some false∧PySem.W.exmOne K (.ref X.number) (.ref X.row)=some false∧PySem.W.exmOne K (.ref X.number) (.ref X.trains)=some false∧PySem.W.exmOne K (.ref X.number) (.ref X.sizes)=some false∧PySem.W.exmOne K (.ref X.number) (.ref X.many)=some false∧PySem.W.exmOne K (.ref X.number) (.ref X.creel)=some false∧PySem.W.exmOne K (.ref X.near) (.ref X.row)=some false∧PySem.W.exmOne K (.ref X.near) (.ref X.trains)=some false∧PySem.W.exmOne K (.ref X.near) (.ref X.sizes)=some false∧PySem.W.exmOne K (.ref X.near) (.ref X.many)=some false∧PySem.W.exmOne K (.ref X.near) (.ref X.creel)=some false∧PySem.W.exmOne K (.ref X.near) (.ref X.number)=some false∧PySem.W.exmOne K (.ref X.bare) (.ref X.row)=some false∧PySem.W.exmOne K (.ref X.bare) (.ref X.trains)=some false∧PySem.W.exmOne K (.ref X.bare) (.ref X.sizes)=some false∧PySem.W.exmOne K (.ref X.bare) (.ref X.many)=some false∧PySem.W.exmOne K (.ref X.bare) (.ref X.creel)=some false∧PySem.W.exmOne K (.ref X.bare) (.ref X.number)=some false∧PySem.W.exmOne K (.ref X.bare) (.ref X.near)=some false:=by
 have h:=Z.met
 simp only[metIn,List.all_cons,List.all_nil,Bool.and_eq_true,Bool.and_true,beq_iff_eq]at h
 simp only[h,and_self]
theorem Sees.t0 {X:Errs K mg} (Z:Sees X):PySem.W.exmOne K (.ref X.row) (.ref X.row)=some true:=Z.all.1
theorem Sees.t1 {X:Errs K mg} (Z:Sees X):PySem.W.exmOne K (.ref X.trains) (.ref X.trains)=some true:=Z.all.2.1
theorem Sees.t2 {X:Errs K mg} (Z:Sees X):PySem.W.exmOne K (.ref X.sizes) (.ref X.sizes)=some true:=Z.all.2.2.1
theorem Sees.t3 {X:Errs K mg} (Z:Sees X):PySem.W.exmOne K (.ref X.many) (.ref X.many)=some true:=Z.all.2.2.2.1
theorem Sees.t4 {X:Errs K mg} (Z:Sees X):PySem.W.exmOne K (.ref X.creel) (.ref X.creel)=some true:=Z.all.2.2.2.2.1
theorem Sees.t5 {X:Errs K mg} (Z:Sees X):PySem.W.exmOne K (.ref X.number) (.ref X.number)=some true:=Z.all.2.2.2.2.2.1
theorem Sees.t6 {X:Errs K mg} (Z:Sees X):PySem.W.exmOne K (.ref X.near) (.ref X.near)=some true:=Z.all.2.2.2.2.2.2.1
theorem Sees.t7 {X:Errs K mg} (Z:Sees X):PySem.W.exmOne K (.ref X.bare) (.ref X.bare)=some true:=Z.all.2.2.2.2.2.2.2.1
theorem Sees.f10 {X:Errs K mg} (Z:Sees X):PySem.W.exmOne K (.ref X.trains) (.ref X.row)=some false:=Z.all.2.2.2.2.2.2.2.2.1
theorem Sees.f20 {X:Errs K mg} (Z:Sees X):PySem.W.exmOne K (.ref X.sizes) (.ref X.row)=some false:=Z.all.2.2.2.2.2.2.2.2.2.1
theorem Sees.f21 {X:Errs K mg} (Z:Sees X):PySem.W.exmOne K (.ref X.sizes) (.ref X.trains)=some false:=Z.all.2.2.2.2.2.2.2.2.2.2.1
theorem Sees.f30 {X:Errs K mg} (Z:Sees X):PySem.W.exmOne K (.ref X.many) (.ref X.row)=some false:=Z.all.2.2.2.2.2.2.2.2.2.2.2.1
theorem Sees.f31 {X:Errs K mg} (Z:Sees X):PySem.W.exmOne K (.ref X.many) (.ref X.trains)=some false:=Z.all.2.2.2.2.2.2.2.2.2.2.2.2.1
theorem Sees.f32 {X:Errs K mg} (Z:Sees X):PySem.W.exmOne K (.ref X.many) (.ref X.sizes)=some false:=Z.all.2.2.2.2.2.2.2.2.2.2.2.2.2.1
theorem Sees.f40 {X:Errs K mg} (Z:Sees X):PySem.W.exmOne K (.ref X.creel) (.ref X.row)=some false:=Z.all.2.2.2.2.2.2.2.2.2.2.2.2.2.2.1
theorem Sees.f41 {X:Errs K mg} (Z:Sees X):PySem.W.exmOne K (.ref X.creel) (.ref X.trains)=some false:=Z.all.2.2.2.2.2.2.2.2.2.2.2.2.2.2.2.1
theorem Sees.f42 {X:Errs K mg} (Z:Sees X):PySem.W.exmOne K (.ref X.creel) (.ref X.sizes)=some false:=Z.all.2.2.2.2.2.2.2.2.2.2.2.2.2.2.2.2.1
theorem Sees.f43 {X:Errs K mg} (Z:Sees X):PySem.W.exmOne K (.ref X.creel) (.ref X.many)=some false:=Z.all.2.2.2.2.2.2.2.2.2.2.2.2.2.2.2.2.2.1
theorem Sees.f50 {X:Errs K mg} (Z:Sees X):PySem.W.exmOne K (.ref X.number) (.ref X.row)=some false:=Z.all.2.2.2.2.2.2.2.2.2.2.2.2.2.2.2.2.2.2.1
theorem Sees.f51 {X:Errs K mg} (Z:Sees X):PySem.W.exmOne K (.ref X.number) (.ref X.trains)=some false:=Z.all.2.2.2.2.2.2.2.2.2.2.2.2.2.2.2.2.2.2.2.1
theorem Sees.f52 {X:Errs K mg} (Z:Sees X):PySem.W.exmOne K (.ref X.number) (.ref X.sizes)=some false:=Z.all.2.2.2.2.2.2.2.2.2.2.2.2.2.2.2.2.2.2.2.2.1
theorem Sees.f53 {X:Errs K mg} (Z:Sees X):PySem.W.exmOne K (.ref X.number) (.ref X.many)=some false:=Z.all.2.2.2.2.2.2.2.2.2.2.2.2.2.2.2.2.2.2.2.2.2.1
theorem Sees.f54 {X:Errs K mg} (Z:Sees X):PySem.W.exmOne K (.ref X.number) (.ref X.creel)=some false:=Z.all.2.2.2.2.2.2.2.2.2.2.2.2.2.2.2.2.2.2.2.2.2.2.1
theorem Sees.f60 {X:Errs K mg} (Z:Sees X):PySem.W.exmOne K (.ref X.near) (.ref X.row)=some false:=Z.all.2.2.2.2.2.2.2.2.2.2.2.2.2.2.2.2.2.2.2.2.2.2.2.1
theorem Sees.f61 {X:Errs K mg} (Z:Sees X):PySem.W.exmOne K (.ref X.near) (.ref X.trains)=some false:=Z.all.2.2.2.2.2.2.2.2.2.2.2.2.2.2.2.2.2.2.2.2.2.2.2.2.1
theorem Sees.f62 {X:Errs K mg} (Z:Sees X):PySem.W.exmOne K (.ref X.near) (.ref X.sizes)=some false:=Z.all.2.2.2.2.2.2.2.2.2.2.2.2.2.2.2.2.2.2.2.2.2.2.2.2.2.1
theorem Sees.f63 {X:Errs K mg} (Z:Sees X):PySem.W.exmOne K (.ref X.near) (.ref X.many)=some false:=Z.all.2.2.2.2.2.2.2.2.2.2.2.2.2.2.2.2.2.2.2.2.2.2.2.2.2.2.1
theorem Sees.f64 {X:Errs K mg} (Z:Sees X):PySem.W.exmOne K (.ref X.near) (.ref X.creel)=some false:=Z.all.2.2.2.2.2.2.2.2.2.2.2.2.2.2.2.2.2.2.2.2.2.2.2.2.2.2.2.1
theorem Sees.f65 {X:Errs K mg} (Z:Sees X):PySem.W.exmOne K (.ref X.near) (.ref X.number)=some false:=Z.all.2.2.2.2.2.2.2.2.2.2.2.2.2.2.2.2.2.2.2.2.2.2.2.2.2.2.2.2.1
theorem Sees.f70 {X:Errs K mg} (Z:Sees X):PySem.W.exmOne K (.ref X.bare) (.ref X.row)=some false:=Z.all.2.2.2.2.2.2.2.2.2.2.2.2.2.2.2.2.2.2.2.2.2.2.2.2.2.2.2.2.2.1
theorem Sees.f71 {X:Errs K mg} (Z:Sees X):PySem.W.exmOne K (.ref X.bare) (.ref X.trains)=some false:=Z.all.2.2.2.2.2.2.2.2.2.2.2.2.2.2.2.2.2.2.2.2.2.2.2.2.2.2.2.2.2.2.1
theorem Sees.f72 {X:Errs K mg} (Z:Sees X):PySem.W.exmOne K (.ref X.bare) (.ref X.sizes)=some false:=Z.all.2.2.2.2.2.2.2.2.2.2.2.2.2.2.2.2.2.2.2.2.2.2.2.2.2.2.2.2.2.2.2.1
theorem Sees.f73 {X:Errs K mg} (Z:Sees X):PySem.W.exmOne K (.ref X.bare) (.ref X.many)=some false:=Z.all.2.2.2.2.2.2.2.2.2.2.2.2.2.2.2.2.2.2.2.2.2.2.2.2.2.2.2.2.2.2.2.2.1
theorem Sees.f74 {X:Errs K mg} (Z:Sees X):PySem.W.exmOne K (.ref X.bare) (.ref X.creel)=some false:=Z.all.2.2.2.2.2.2.2.2.2.2.2.2.2.2.2.2.2.2.2.2.2.2.2.2.2.2.2.2.2.2.2.2.2.1
theorem Sees.f75 {X:Errs K mg} (Z:Sees X):PySem.W.exmOne K (.ref X.bare) (.ref X.number)=some false:=Z.all.2.2.2.2.2.2.2.2.2.2.2.2.2.2.2.2.2.2.2.2.2.2.2.2.2.2.2.2.2.2.2.2.2.2.1
theorem Sees.f76 {X:Errs K mg} (Z:Sees X):PySem.W.exmOne K (.ref X.bare) (.ref X.near)=some false:=Z.all.2.2.2.2.2.2.2.2.2.2.2.2.2.2.2.2.2.2.2.2.2.2.2.2.2.2.2.2.2.2.2.2.2.2.2
inductive Why (X:Errs K mg):Value→Option Addr→Hp→Str→Int→Prop where
 | row {H:Hp} {dx:Addr} {fs:List (Str×V)} {i:Int}:H dx=some (.xd fs)→fs.lookup ("at":Str)=some (V.int i)→Why X (.ref X.row) (some dx) H "BadRow" i
 | trains {H:Hp} {dx:Addr} {fs:List (Str×V)} {i:Int}:H dx=some (.xd fs)→fs.lookup ("at":Str)=some (V.int i)→Why X (.ref X.trains) (some dx) H "BadTrains" i
 | sizes {H:Hp} {dx:Addr} {fs:List (Str×V)} {i:Int}:H dx=some (.xd fs)→fs.lookup ("at":Str)=some (V.int i)→Why X (.ref X.sizes) (some dx) H "BadSizes" i
 | many {H:Hp} {od:Option Addr}:Why X (.ref X.many) od H "TooMany" 0
 | creel {H:Hp} {od:Option Addr}:Why X (.ref X.creel) od H "BadCreel" 0
 | number {H:Hp} {od:Option Addr}:Why X (.ref X.number) od H "BadNumber" 0
 | near {H:Hp} {od:Option Addr}:Why X (.ref X.near) od H "TooNear" 0
 | bare {H:Hp} {od:Option Addr}:Why X (.ref X.bare) od H "Bare" 0
noncomputable def Mono (sp:Hp→VK→XK→Prop):Prop:=∀ H Q Q' E E',(∀ v H',Q v H'→Q' v H')→(∀ c o H',E c o H'→E' c o H')→sp H Q E→sp H Q' E'
noncomputable def spWhy (P:Program) (w:World) (base:Heap) (X:Errs K mg) (kL:Nat):SpS:=fun s outer vs H Q E=>∃ f D spL,vs=[.ref f]∧LamOk P w K mg base (CXR P w) kL f D spL∧Mono spL∧(∃ oc od fd sl,(f,(⟨oc,od,.func fd,sl⟩:Obj))∈D)∧Laid D H s.heap (frs outer) ∧
 ∀ t,H t=none→spL (upd H t (.tup [.str "",.int 0])) (fun _ H'=>Q (.ref t) H') fun cls od H'=>∃ nm i,Why X cls od H' nm i∧∀ H'' t',(∀ b u,H' b=some u→H'' b=some u)→H'' t'=some (.tup [.str nm,.int i])→Q (.ref t') H''
theorem sub2 {H:Hp} {e t:Addr} {o o':HO} (he:H e=none) (ht:upd H e o t=none):∀ b u,H b=some u→upd (upd H e o) t o' b=some u:=fun b u q=>by
 have n1:b≠e:=fun z=>by rw[z,he]at q;cases q
 have n2:b≠t:=fun z=>by subst z;rw[upd_ne n1,q]at ht;cases ht
 rw[upd_ne n2,upd_ne n1]
 exact q
theorem sub1 {H:Hp} {t:Addr} {o':HO} (ht:H t=none):∀ b u,H b=some u→upd H t o' b=some u:=fun b u q=>by
 rw[upd_ne (fun z=>by rw[z,ht]at q;cases q)]
 exact q
theorem pe_xatK (K:PySem.W.Frag) {X:Cx} {e:Expr} {ta:TE} {f:Str} {pos:Pos} (hK:X.K=K) (he:PE X e ta) (hb:attributeBase e f X.env (eval e X.env)=eval e X.env):PE X (.Attribute e f pos) (tXatE K ta f):=by
 subst hK
 exact pe_xatE he hb
noncomputable def Good (row:List Int):Prop:=∀ j,1≤j→j<row.length→row.getD (j - 1) 0<row.getD j 0
noncomputable def BadAt (row:List Int) (i:Nat):Prop:=1≤i∧i<row.length∧row.getD i 0≤row.getD (i - 1) 0∧∀ j,1≤j→j<i→row.getD (j - 1) 0<row.getD j 0
noncomputable def LookK (X:Errs K mg) (row:List Int) (H:Hp) (Q:Prop) (E:XK):Prop :=
 (60<row.length→Rf0 E X.many "TooMany" H)∧(row.length≤60→(Good row→Q)∧∀ i:Nat,BadAt row i→RfI E X.row "BadRow" i H)
noncomputable def spLookX (X:Errs K mg):Sp:=fun vs H Q E=>∃ (a:Addr) (row:List Int),vs=[.ref a]∧H a=some (.lst (row.map V.int))∧row.length≤200∧LookK X row H (Q .non H) E
theorem at_any {ns:List Int} {i:Int} (h0:-(ns.length:Int)≤i) (h1:i<ns.length):∃ n,atI (ns.map V.int) i=some (.int n):=by
 unfold atI ixN
 rw[List.length_map]
 by_cases h:0≤i
 ·rw[if_pos h,if_pos h1]
  have hj:i.toNat<ns.length:=by omega
  exact⟨ns[i.toNat],by simp[hj]⟩
 ·rw[if_neg h,if_pos h0]
  have hj:(i+ns.length).toNat<ns.length:=by omega
  exact⟨ns[(i+ns.length).toNat],by simp[hj]⟩
inductive WhyRow (row:List Int):Str→Int→Prop where
 | many:60<row.length→WhyRow row "TooMany" 0
 | good:row.length≤60→Good row→WhyRow row "" 0
 | bad {i:Nat}:row.length≤60→BadAt row i→WhyRow row "BadRow" i
theorem good_or (row:List Int):∀ n,(∀ j,1≤j→j<n→j<row.length→row.getD (j - 1) 0<row.getD j 0)∨∃ i,BadAt row i
 | 0=>.inl fun j h1 h2=>by omega
 | n+1=>by
  rcases good_or row n with h | h
  ·by_cases hn:1≤n∧n<row.length
   ·by_cases hb:row.getD n 0≤row.getD (n - 1) 0
    ·exact .inr ⟨n,hn.1,hn.2,hb,fun j h1 h2=>h j h1 h2 (by omega)⟩
    ·refine .inl fun j h1 h2 h3=>?_
     by_cases hj:j<n
     ·exact h j h1 hj h3
     ·obtain rfl:j=n:=by omega
      omega
   ·refine .inl fun j h1 h2 h3=>?_
    by_cases hj:j<n
    ·exact h j h1 hj h3
    ·exact absurd ⟨by omega,by omega⟩ hn
  ·exact .inr h
theorem bad_not_good {row:List Int} {i:Nat} (b:BadAt row i) (g:Good row):False:=by
 have:=g i b.1 b.2.1
 have:=b.2.2.1
 omega
theorem bad_uniq {row:List Int} {i j:Nat} (a:BadAt row i) (b:BadAt row j):i=j:=by
 rcases Nat.lt_trichotomy i j with h | h | h
 ·have:=b.2.2.2 i a.1 h;have:=a.2.2.1;omega
 ·exact h
 ·have:=a.2.2.2 j b.1 h;have:=b.2.2.1;omega
theorem WhyRow.row_of {row:List Int} {nm:Str} {i:Int} (W:WhyRow row nm i) (h:nm=""):row.length≤60∧Good row:=by
 cases W with
 | many _=>exact absurd h (by decide)
 | good a b=>exact⟨a,b⟩
 | bad _ _=>exact absurd h (by decide)
noncomputable def spRowBad:Sp:=fun vs H Q E=>∃ (a:Addr) (row:List Int),vs=[.ref a]∧H a=some (.lst (row.map V.int))∧row.length≤200∧∀ nm i,WhyRow row nm i→∀ t,H t=none→Q (.ref t) (upd H t (.tup [.str nm,.int i]))
noncomputable def spSpoilt:Sp:=fun vs H Q E=>∃ (a b:Addr) (row ds:List Int),vs=[.ref a,.ref b]∧H a=some (.lst (row.map V.int))∧row.length≤60∧H b=some (.lst (ds.map V.int))∧6≤ds.length∧∀ row':List Int,row'.length≤200→RetL H Q row'
noncomputable def WhyAt (P:Program) (w:World) (K:PySem.W.Frag) (mg:Str→Option Value) (base:Heap) (X:Errs K mg) (kL:Nat):Prop :=
 ∃ f fd,FnOkS P w K mg base (CXR P w) (kL+1) f fd ["_law_ask"] (spWhy P w base X kL)∧mg "_law_why"=some (.ref f)∧PySem.W.keepIn K (.ref f)=true∧Binds K fd ["_law_ask"] []
theorem pe_whyL {X:Cx} {Z:Errs X.K X.mg} {params:Arguments} {body:Expr} {scope:Scope} {lpos cpos np:Pos} {c P:Addr} {k j:Nat} {clos:List (Str×Addr)} (NL:List Str) (ix:List Nat) {spL:St→Hp→VK→XK→Prop}
 (Bd:Body X) (W:WhyAt X.prog X.w X.K X.mg X.base Z (k+1)) (hr:Room j X.A) (hg:Gl X "_law_why")
 (hcode:X.env.code=.ref c) (hC:PySem.W.CodeHd X.base c P) (hbm:BMain X.mg X.base) (hdef:defaultsOf params X.env=([],[])) (S:LamSrc X scope clos NL ix)
 (hbind:∀ pm c' ctv,bindArgs (PySem.W.kla_fn "<lambda>" (X.env.qual++"<lambda>") params body scope clos pm (.ref c') ctv) ⟨[],[]⟩=pure [])
 (hlam:∀ (f' c':Addr) (σ':St) (A:Around) (outer:List Env) (s:Shared) (H:Hp) (Q:VK) (E:XK),A.frames=some outer→Room k (A.deeper (PySem.W.envX (X.env.qual++"<lambda>") scope s.heap.objs.size f' (.ref c') clos))→spL σ' H Q E →
  ∃ te,PE (cxLam (CXR X.prog X.w) X.prog X.w X.K X.mg X.base NL (X.env.qual++"<lambda>") scope f' (.ref c') clos A outer s H E) body te∧te σ' H Q) (hj:k+2≤j:=by decide)
 (he:starEach [.Lambda params body scope lpos] X.env=[(false,eval (.Lambda params body scope lpos) X.env)]:=by rfl) :
 PE X (.Call (.Name "_law_why" np) [.Lambda params body scope lpos] [] cpos) (tWhy X P lpos ix (k+1) spL (spWhy X.prog X.w X.base Z (k+1)) E0):=by
 obtain⟨f,fd,F,hm,hk,hb⟩:=W
 exact pe_why (he:=he) Bd F (hr.mono hj) hg hm hk hb passN hcode hC hbm hdef S hbind hlam
structure FunC (K:PySem.W.Frag) (x qual:Str) (st:Stmt) (f:Addr) (fd:FuncData) (c:Addr):Prop where
 ex:∃ (oc:Value) (od:Option Addr) (kV doc pm:Value) (an:Option Addr) (ct:Value) (osl:Array (Option Value)),
  fd=PySem.W.fnOf x qual (defArgs st) (defBody st) (defScope st) .none kV doc pm an (.ref c) ct∧K.lookup f=some ⟨oc,od,.func fd,osl⟩∧PySem.W.codeIn K (.ref c) qual=true
theorem FunC.ok {x qual:Str} {st:Stmt} {f c:Addr} {fd:FuncData} {N ps:List Str} {k:Nat} {sp:Sp} (F:FunC K x qual st f fd c) (S:FnScope N ps (defScope st)) (len:∀ vs H Q E,sp vs H Q E→vs.length=ps.length)
 (hbody:∀ (A:Around) (outer:List Env) (s:Shared) (H:Hp) (vs:List V) (Q:VK) (E:XK),Room k (A.deeper (PyProof.Rows.envOfC qual (defScope st) s.heap.objs.size f (.ref c)))→sp vs H Q E →
  ∃ t,PSs (cxOf CX0 P w K mg base N qual (defScope st) f (.ref c) A outer s H E).nox (defBody st) t∧t { nx:=fun _ H'=>Q .non H',rt:=Q } (start N vs) H):FnOk P w K mg base CX0 (k+1) f fd ps sp:=by
 obtain⟨oc,od,kV,doc,pm,an,ct,osl,rfl,lk,hcd⟩:=F.ex
 refine fn_of lk hcd S len fun A outer s H vs Q E hr hsp=>?_
 obtain⟨t,h,q⟩:=hbody A outer s H vs Q E hr hsp
 exact⟨t,h.nox,q⟩
noncomputable def SameP (P:Addr) (H H':Hp):Prop:=∀ b o,b≠P→H b=some o→H' b=some o
theorem _root_.L2.Same.toP {P:Addr} {H H':Hp} (h:Same H H'):SameP P H H':=fun b o _ e=>h b o e
theorem SameP.trans {P:Addr} {H H1 H2:Hp} (a:SameP P H H1) (b:SameP P H1 H2):SameP P H H2:=fun c o n h=>b c o n (a c o n h)
theorem SameP.tbl {P:Addr} {H:Hp} {o:HO}:SameP P H (upd H P o):=fun b o n h=>by rw[upd_ne n];exact h
theorem tbl_ne {H:Hp} {P b:Addr} {ps:Array Value} {o:HO} (h:H P=some (.tbl ps)) (e:H b=some o) (n:∀ qs,o≠.tbl qs):b≠P:=fun z=>by rw[z,h]at e;cases e;exact n _ rfl
noncomputable def spLawT (K:PySem.W.Frag) (P:Addr):Sp:=fun vs H Q _=>∃ (a:Addr) (ns:List Int),vs=[.ref a]∧H P=some (.tbl #[])∧SqL K H a (ns.map V.int)∧ns.length≤63∧∀ H',Q (.bl true) H'
noncomputable def MonoSp (sp:Sp):Prop:=∀ vs H Q Q' E E',(∀ v H',Q v H'→Q' v H')→(∀ c o H',E c o H'→E' c o H')→sp vs H Q E→sp vs H Q' E'
theorem why_read {Z:Errs K mg} {PT:Addr} {lpos:Pos} {kL:Nat} {spL:Hp→VK→XK→Prop} {H:Hp} {Q:VK} {E:XK} {ps:Array Value} {stack:List Env} (mono:Mono spL)
 (kr:∀ (H':Hp) (c':Value) (ps':Array Value),SameP PT H H'→H' PT=some (.tbl ps')→ps'.toList=ps.toList++[rawInt lpos.line,rawInt lpos.col,c']→∀ t0,H' t0=none →
  spL (upd H' t0 (.tup [.str "",.int 0])) (fun _ H2=>Q (.ref t0) H2) fun cls od H2=>∃ nm i,Why Z cls od H2 nm i∧∀ H3 t',Same H2 H3→H3 t'=some (.tup [.str nm,.int i])→Q (.ref t') H3) :
 ∀ (c' f:Addr) (s1:Shared) (D:List (Addr×Obj)),LamOk P w K mg base (CXR P w) kL f D spL→(∃ oc od fd sl,(f,(⟨oc,od,.func fd,sl⟩:Obj))∈D)→Laid D (upd H PT (.tbl (ps++#[rawInt lpos.line,rawInt lpos.col,.ref c']))) s1.heap (frs stack) →
  spWhy P w base Z kL s1 stack [.ref f] (upd H PT (.tbl (ps++#[rawInt lpos.line,rawInt lpos.col,.ref c']))) Q E :=
 fun c' fl s1 D hL hfo hLd=>⟨fl,D,_,rfl,hL,mono,hfo,hLd,fun t0 ht0=>kr _ (.ref c') _ SameP.tbl upd_same (by simp) t0 ht0⟩
noncomputable def WhyE (Z:Errs K mg) (Q:VK):XK:=fun cls od H2=>∃ nm i,Why Z cls od H2 nm i∧∀ H3 t',Same H2 H3→H3 t'=some (.tup [.str nm,.int i])→Q (.ref t') H3
theorem whyE_many {Z:Errs K mg} {Q:VK} {H:Hp} (k:∀ tv H3,Same H H3→H3 tv=some (.tup [.str "TooMany",.int 0])→Q (.ref tv) H3):Rf0 (WhyE Z Q) Z.many "TooMany" H:=fun dx hdx=>⟨_,_,.many,fun H3 t' g3 h3=>k t' H3 ((Same.upd hdx).trans g3) h3⟩
theorem whyE_creel {Z:Errs K mg} {Q:VK} {H:Hp} (k:∀ tv H3,Same H H3→H3 tv=some (.tup [.str "BadCreel",.int 0])→Q (.ref tv) H3):Rf0 (WhyE Z Q) Z.creel "BadCreel" H:=fun dx hdx=>⟨_,_,.creel,fun H3 t' g3 h3=>k t' H3 ((Same.upd hdx).trans g3) h3⟩
theorem whyE_number {Z:Errs K mg} {Q:VK} {H:Hp} (k:∀ tv H3,Same H H3→H3 tv=some (.tup [.str "BadNumber",.int 0])→Q (.ref tv) H3):Rf0 (WhyE Z Q) Z.number "BadNumber" H:=fun dx hdx=>⟨_,_,.number,fun H3 t' g3 h3=>k t' H3 ((Same.upd hdx).trans g3) h3⟩
theorem whyE_near {Z:Errs K mg} {Q:VK} {H:Hp} (k:∀ tv H3,Same H H3→H3 tv=some (.tup [.str "TooNear",.int 0])→Q (.ref tv) H3):Rf0 (WhyE Z Q) Z.near "TooNear" H:=fun dx hdx=>⟨_,_,.near,fun H3 t' g3 h3=>k t' H3 ((Same.upd hdx).trans g3) h3⟩
theorem whyE_bare {Z:Errs K mg} {Q:VK} {H:Hp} (k:∀ tv H3,Same H H3→H3 tv=some (.tup [.str "Bare",.int 0])→Q (.ref tv) H3):Rf0 (WhyE Z Q) Z.bare "Bare" H:=fun dx hdx=>⟨_,_,.bare,fun H3 t' g3 h3=>k t' H3 ((Same.upd hdx).trans g3) h3⟩
theorem whyE_row {Z:Errs K mg} {Q:VK} {H:Hp} {i:Int} (k:∀ tv H3,Same H H3→H3 tv=some (.tup [.str "BadRow",.int i])→Q (.ref tv) H3):RfI (WhyE Z Q) Z.row "BadRow" i H:=fun dx hdx=>⟨_,_,.row upd_same rfl,fun H3 t' g3 h3=>k t' H3 ((Same.upd hdx).trans g3) h3⟩
theorem whyE_trains {Z:Errs K mg} {Q:VK} {H:Hp} {i:Int} (k:∀ tv H3,Same H H3→H3 tv=some (.tup [.str "BadTrains",.int i])→Q (.ref tv) H3):RfI (WhyE Z Q) Z.trains "BadTrains" i H:=fun dx hdx=>⟨_,_,.trains upd_same rfl,fun H3 t' g3 h3=>k t' H3 ((Same.upd hdx).trans g3) h3⟩
theorem whyE_sizes {Z:Errs K mg} {Q:VK} {H:Hp} {i:Int} (k:∀ tv H3,Same H H3→H3 tv=some (.tup [.str "BadSizes",.int i])→Q (.ref tv) H3):RfI (WhyE Z Q) Z.sizes "BadSizes" i H:=fun dx hdx=>⟨_,_,.sizes upd_same rfl,fun H3 t' g3 h3=>k t' H3 ((Same.upd hdx).trans g3) h3⟩
theorem why_got {Z:Errs K mg} {PT:Addr} {lpos:Pos} {kL:Nat} {spL:Hp→VK→XK→Prop} {H:Hp} {Q:VK} {E:XK} {ps:Array Value} {stack:List Env} (nm:Str) (i:Int) (mono:Mono spL)
 (hsp:∀ (H':Hp) (t0:Addr) (Q':VK),SameP PT H H'→H' t0=some (.tup [.str "",.int 0])→(∀ tv H3,Same H' H3→H3 tv=some (.tup [.str nm,.int i])→Q' (.ref tv) H3)→spL H' (fun _ H2=>Q' (.ref t0) H2) (WhyE Z Q'))
 (kk:∀ (tv:Addr) (H3:Hp) (c':Value) (ps':Array Value),SameP PT H H3→H3 PT=some (.tbl ps')→ps'.toList=ps.toList++[rawInt lpos.line,rawInt lpos.col,c']→H3 tv=some (.tup [.str nm,.int i])→Q (.ref tv) H3) :
 ∀ (c' f:Addr) (s1:Shared) (D:List (Addr×Obj)),LamOk P w K mg base (CXR P w) kL f D spL→(∃ oc od fd sl,(f,(⟨oc,od,.func fd,sl⟩:Obj))∈D)→Laid D (upd H PT (.tbl (ps++#[rawInt lpos.line,rawInt lpos.col,.ref c']))) s1.heap (frs stack) →
  spWhy P w base Z kL s1 stack [.ref f] (upd H PT (.tbl (ps++#[rawInt lpos.line,rawInt lpos.col,.ref c']))) Q E :=
 why_read mono fun H' c' ps' g hP hps t0 ht0=>by
  have g2:=Same.upd (o:=.tup [.str "",.int 0]) ht0
  exact hsp (upd H' t0 (.tup [.str "",.int 0])) t0 Q (g.trans g2.toP) upd_same fun tv H3 g3 e=>kk tv H3 c' ps' ((g.trans g2.toP).trans g3.toP) (g3 _ _ (g2 _ _ hP)) hps e
theorem shaped_why {nm:Str} (i:Int) (h:PyData.strOk nm=true):SeqAt.shaped (.tuple [.str nm,.int i])=true:=by
 simp[SeqAt.shaped,PyData.canLay0,PyData.canLayAll0,PyData.depth,PyData.depthAll,h]
theorem WhyRow.ok {row:List Int} {nm:Str} {i:Int} (W:WhyRow row nm i):PyData.strOk nm=true:=by
 cases W <;> decide +kernel
theorem WhyRow.eqv {row:List Int} {nm:Str} {i:Int} (W:WhyRow row nm i):PyData.eqv (.str nm) (.str "")=decide (nm=""):=by
 cases W <;> decide +kernel
theorem shaped_str {nm:Str} (h:PyData.strOk nm=true):SeqAt.shaped (.str nm)=true:=by
 simp[SeqAt.shaped,PyData.canLay0,PyData.depth,h]
end
end CW
namespace CW
open PySem L2
inductive Ref where
 | ok | many | row (i:Int) | trains (i:Int) | sizes (i:Int) | creel | number | near | bare
noncomputable def Ref.nm:Ref→Str
 | .ok=>"" | .many=>"TooMany" | .row _=>"BadRow" | .trains _=>"BadTrains" | .sizes _=>"BadSizes" | .creel=>"BadCreel" | .number=>"BadNumber" | .near=>"TooNear" | .bare=>"Bare"
noncomputable def Ref.at:Ref→Int
 | .row i=>i | .trains i=>i | .sizes i=>i | _=>0
theorem Ref.strOk (r:Ref):PyData.strOk r.nm=true:=by cases r <;> simp only[Ref.nm] <;> decide +kernel
theorem Ref.nm_ok {r:Ref}:r.nm=""↔r=.ok:=by cases r <;> simp[Ref.nm] <;> decide
theorem Ref.eqv_ok (r:Ref):PyData.eqv (.str r.nm) (.str "")=decide (r.nm=""):=by cases r <;> first | decide +kernel | (rw[decide_eq_false (by simp only[Ref.nm];decide)];simp only[Ref.nm];decide +kernel)
section
variable {P:Program} {w:World} {K:PySem.W.Frag} {mg:Str→Option Value} {base:Heap}
noncomputable def Ref.go (X:Errs K mg) (E:XK) (H:Hp):Ref→Prop
 | .ok=>False
 | .many=>Rf0 E X.many "TooMany" H
 | .row i=>RfI E X.row "BadRow" i H
 | .trains i=>RfI E X.trains "BadTrains" i H
 | .sizes i=>RfI E X.sizes "BadSizes" i H
 | .creel=>Rf0 E X.creel "BadCreel" H
 | .number=>Rf0 E X.number "BadNumber" H
 | .near=>Rf0 E X.near "TooNear" H
 | .bare=>Rf0 E X.bare "Bare" H
theorem go_why {Z:Errs K mg} {Q:VK} {H:Hp} {r:Ref} (h:r≠.ok) (k:∀ tv H3,Same H H3→H3 tv=some (.tup [.str r.nm,.int r.at])→Q (.ref tv) H3):r.go Z (WhyE Z Q) H:=by
 cases r with
 | ok=>exact h rfl
 | many=>exact whyE_many k
 | row i=>exact whyE_row k
 | trains i=>exact whyE_trains k
 | sizes i=>exact whyE_sizes k
 | creel=>exact whyE_creel k
 | number=>exact whyE_number k
 | near=>exact whyE_near k
 | bare=>exact whyE_bare k
theorem go_mono {Z:Errs K mg} {E E':XK} {H:Hp} {r:Ref} (hE:∀ c o H',E c o H'→E' c o H') (h:r.go Z E H):r.go Z E' H:=by
 cases r <;> first | exact h | exact fun dx hd=>hE _ _ _ (h dx hd)
open Classical in
noncomputable def dueRow (row:List Int):Ref:=if 60<row.length then .many else if h:∃ i,BadAt row i then .row ((Classical.choose h:Nat):Int)else .ok
theorem dueRow_why (row:List Int):WhyRow row (dueRow row).nm (dueRow row).at:=by
 unfold dueRow
 by_cases h:60<row.length
 ·rw[if_pos h];exact .many h
 ·rw[if_neg h]
  by_cases hb:∃ i,BadAt row i
  ·rw[dif_pos hb];exact .bad (by omega) (Classical.choose_spec hb)
  ·rw[dif_neg hb]
   rcases good_or row row.length with g | g
   ·exact .good (by omega) fun j h1 h2=>g j h1 h2 h2
   ·exact absurd g hb
theorem whyRow_uniq {row:List Int} {nm nm':Str} {i i':Int} (a:WhyRow row nm i) (b:WhyRow row nm' i'):nm=nm'∧i=i':=by
 cases a with
 | many h=>cases b with
  | many _=>exact⟨rfl,rfl⟩
  | good h' _=>omega
  | bad h' _=>omega
 | good h g=>cases b with
  | many h'=>omega
  | good _ _=>exact⟨rfl,rfl⟩
  | bad _ b=>exact(bad_not_good b g).elim
 | bad h g=>cases b with
  | many h'=>omega
  | good _ g'=>exact(bad_not_good g g').elim
  | bad _ b=>rw[bad_uniq g b];exact⟨rfl,rfl⟩
theorem dueRow_ok {row:List Int}:dueRow row=.ok↔row.length≤60∧Good row:=by
 constructor
 ·intro h
  have:=dueRow_why row
  rw[h]at this
  exact this.row_of rfl
 ·intro ⟨h1,h2⟩
  exact Ref.nm_ok.mp (whyRow_uniq (dueRow_why row) (.good h1 h2)).1
theorem good_cons {x:Int} {r:List Int} (h:Good (x :: r)):Good r:=fun j h1 h2=>by
 have:=h (j+1) (by omega) (by rw[List.length_cons];omega)
 obtain⟨j',rfl⟩:∃ j',j=j'+1:=⟨j - 1,by omega⟩
 simpa using this
theorem good_row:∀ {row:List Int},Good row→Row row
 | [],_=>List.Pairwise.nil
 | [x],_=>List.pairwise_singleton _ _
 | x :: y :: r,h=>by
  have ih:=good_row (good_cons h)
  have hxy:x<y:=by simpa using h 1 (by omega) (by simp)
  refine List.Pairwise.cons (fun z hz=>?_) ih
  rcases List.mem_cons.mp hz with rfl | hz
  ·exact hxy
  ·exact Int.lt_trans hxy (List.rel_of_pairwise_cons ih hz)
theorem row_good {row:List Int} (h:Row row):Good row:=fun j h1 h2=>by
 have:=List.pairwise_iff_getElem.mp h (j - 1) j (by omega) h2 (by omega)
 rw[List.getD_eq_getElem?_getD,List.getD_eq_getElem?_getD,List.getElem?_eq_getElem (by omega:j - 1<row.length),List.getElem?_eq_getElem h2]
 exact this
theorem dueRow_row {row:List Int}:dueRow row=.ok↔Row row∧row.length≤60:=by
 rw[dueRow_ok]
 exact⟨fun⟨a,b⟩=>⟨good_row b,a⟩,fun⟨a,b⟩=>⟨b,row_good a⟩⟩
theorem look_due {X:Errs K mg} {row:List Int} {H:Hp} {Q:Prop} {E:XK} (q:dueRow row=.ok→Q) (k:dueRow row≠.ok→(dueRow row).go X E H):LookK X row H Q E:=by
 refine⟨fun z=>?_,fun z=>⟨fun g=>q (dueRow_ok.mpr ⟨z,g⟩),fun i b=>?_⟩⟩
 ·have e:dueRow row=.many:=by unfold dueRow;rw[if_pos z]
  have:=k (by rw[e];exact fun h=>(nomatch h))
  rwa [e]at this
 ·have e:dueRow row=.row i:=by
   unfold dueRow
   have hb:∃ i,BadAt row i:=⟨i,b⟩
   rw[if_neg (by omega),dif_pos hb,bad_uniq (Classical.choose_spec hb) b]
  have:=k (by rw[e];exact fun h=>(nomatch h))
  rwa [e]at this
section
variable {X:Errs K mg} {row:List Int} {c p:Int} {H:Hp} {Q:VK} {lh t0:Addr}
end
theorem triples_snoc {ps ps':Array Value} {a b:Int} {c:Value} (h:TriplesOk ps.toList) (e:ps'.toList=ps.toList++[rawInt a,rawInt b,c]):TriplesOk ps'.toList:=by
 rw[e]
 generalize ps.toList=l at h
 clear e ps ps'
 match l,h with
 | [],_=>exact True.intro
 | .int _ _ :: .int _ _ :: _ :: rest,h=>exact triples_app rest h
where triples_app {a b:Int} {c:Value}:∀ (l:List Value),TriplesOk l→TriplesOk (l++[rawInt a,rawInt b,c])
 | [],_=>True.intro
 | .int _ _ :: .int _ _ :: _ :: rest,h=>triples_app rest h
end
end CW
namespace CW
open PySem L2
section
variable {P:Program} {w:World} {K:PySem.W.Frag} {mg:Str→Option Value} {base:Heap}
end
end CW
namespace CW
open PySem L2
noncomputable def lkI (ms:List (Int×Int)) (c:Int):Option Int:=(ms.find? fun m=>decide (m.1=c)).map (·.2)
section
variable {P:Program} {w:World} {K:PySem.W.Frag} {mg:Str→Option Value} {base:Heap}
end
end CW
namespace CW
open PySem L2
end CW
namespace L2
open PySem PySem.W PySem.Spec PyProof.Rows
section
variable {prog:Program} {w:World} {A:Around} {R:Result→Shared→Prop} {I S:Addr} {fp:List Addr} {P:Nat→Value→Prop} {St:Nat→Heap→Prop} {d:Value} {ns:List Int}
end
section
variable {X:Cx} {e f:Expr} {te tf:TE} {p pos kp:Pos}
end
end L2
namespace L2
open PySem PySem.Spec PyProof.Rows
end L2
namespace CW
open PySem L2
noncomputable def stpG (ms:List (Int×Int)):Nat→Int
 | 0=>0
 | n+1=>(lkI ms ((n:Int)+1)).getD (stpG ms n)
noncomputable def stf (ms:List (Int×Int)) (G k:Nat):Int:=stpG ms (min k G)
end CW
namespace CW
open PySem L2
end CW
namespace CW
end CW
namespace L2
open PySem PySem.Spec PyProof.Rows
noncomputable def CodeX (c:Addr) (qual:Str):HO:=.ext fun h=>∃ oc vs t,h.get? c=some oc∧oc.data=.fields vs∧vs[1]?=some (.str qual t)
theorem CodeX.mk {P:Program} {w:World} {H:Hp} {h:Heap} {c:Addr} {qual:Str} {oc:Obj} {vs:Array Value} {t:Tok} (h1:h.get? c=some oc) (h2:oc.data=.fields vs) (h3:vs[1]?=some (.str qual t)):ObjOk P w H h c (CodeX c qual) :=
 ⟨⟨oc,vs,t,h1,h2,h3⟩,⟨_,h1⟩,fun g1 g2 ⟨oc,vs,t,a,b,d⟩ k=>⟨oc,vs,t,k _ a,b,d⟩⟩
section
variable {X:Cx} {pins:List (Addr×Obj)} {σ:St} {H:Hp} {s:Shared}
end
section
variable {X:Cx}
end
end L2
namespace CW
open PySem L2
section
variable {P:Program} {w:World} {K:PySem.W.Frag} {mg:Str→Option Value} {base:Heap}
noncomputable def SameL (PT:Addr) (H H':Hp):Prop:=∀ b o,b≠PT→(∀ φ,o≠.ext φ)→H b=some o→H' b=some o
theorem SameL.trans {PT:Addr} {H H1 H2:Hp} (a:SameL PT H H1) (b:SameL PT H1 H2):SameL PT H H2:=fun c o n x h=>b c o n x (a c o n x h)
end
end CW
namespace CW
open PySem L2
section
variable {P:Program} {w:World} {K:PySem.W.Frag} {mg:Str→Option Value} {base:Heap}
end
end CW
namespace CW
open PySem L2
theorem eqv_il:∀ a b:List Int,PyData.eqvAll (a.map PyData.int) (b.map PyData.int)=decide (a=b)
 | [],[]=>rfl
 | [],y :: b=>rfl
 | x :: a,[]=>rfl
 | x :: a,y :: b=>by
  show (PyData.eqv (.int x) (.int y) && PyData.eqvAll (a.map PyData.int) (b.map PyData.int))=_
  rw[eqv_il a b]
  show ((x == y) && decide (a=b))=_
  rw[Bool.eq_iff_iff]
  simp
theorem eqv_ints2 (a b:List Int):PyData.eqv (.list (a.map PyData.int)) (.list (b.map PyData.int))=decide (a=b):=eqv_il a b
end CW
namespace CW
open PySem L2
end CW
namespace CW
open PySem L2
noncomputable def offs (ps:Trs) (s:Int):List Int:=(ps.filter fun p=>decide (p.1=s)).map (·.2)
theorem offs_append (a b:Trs) (s:Int):offs (a++b) s=offs a s++offs b s:=by
 unfold offs;rw[List.filter_append,List.map_append]
theorem offs_cons (p:Int×Int) (ps:Trs) (s:Int):offs (p :: ps) s=if p.1=s then p.2 :: offs ps s else offs ps s:=by
 unfold offs
 rw[List.filter_cons]
 by_cases h:p.1=s
 ·rw[if_pos (by simpa using h),if_pos h];rfl
 ·rw[if_neg (by simpa using h),if_neg h]
theorem offs_perm {ps qs:Trs} (h:ps.Perm qs) (s:Int):(offs ps s).Perm (offs qs s):=(h.filter _).map _
theorem offs_sorted {ps:Trs} (h:ps.Pairwise ple) (s:Int):(offs ps s).Pairwise (·≤·):=by
 unfold offs
 rw[List.pairwise_map]
 refine(h.filter _).imp_of_mem fun {a b} ha hb hab=>?_
 have h1:a.1=s:=by have:=(List.mem_filter.mp ha).2;simpa using this
 have h2:b.1=s:=by have:=(List.mem_filter.mp hb).2;simpa using this
 rcases hab with q | q
 ·omega
 ·exact q.2
theorem offs_one (k:Int) (os:List Int) (s:Int):offs (os.map fun o=>(k,o)) s=if k=s then os else []:=by
 induction os with
 | nil=>unfold offs;simp
 | cons o os ih =>
  rw[List.map_cons,offs_cons,ih]
  by_cases h:k=s
  ·rw[if_pos h,if_pos h,if_pos h]
  ·rw[if_neg h,if_neg h,if_neg h]
end CW
namespace CW
open PySem L2
end CW
namespace CW
open PySem L2
end CW
namespace CW
open PySem L2
theorem DG.keep {H H':Hp} {d:Addr} {gs:List Grp} (dg:DG H d gs) (s:Same H H'):DG H' d gs:=⟨s _ _ dg.at_,fun g hg=>s _ _ (dg.lst g hg),dg.adr,dg.key⟩
end CW
namespace CW
open PySem L2
theorem head_at {l:List Int} (h:l≠[]):∃ x,atI (l.map V.int) 0=some (V.int x)∧l[0]?=some x:=by
 cases l with
 | nil=>exact absurd rfl h
 | cons x r =>
  obtain⟨y,_,h2,h3⟩:=at_mem (ns:=x :: r) (i:=0) (by decide) (by simp)
  exact⟨y,h3,h2⟩
end CW
namespace CW
open PySem L2
end CW
namespace CW
open PySem L2
theorem offs_take {ps:Trs} {i:Nat} {p:Int×Int} (h:ps[i]?=some p) (s:Int):offs (ps.take (i+1)) s=offs (ps.take i) s++(if p.1=s then [p.2]else []):=by
 rw[List.take_succ,h,offs_append]
 show offs (ps.take i) s++offs [p] s=_
 rw[offs_cons]
 rfl
end CW
namespace L2
open PySem PySem.Spec PyProof.Rows
section
variable {X:Cx}
end
end L2
namespace L2
open PySem PySem.Spec PyProof.Rows
section
variable {X:Cx} {pins:List (Addr×Obj)} {σ:St} {H H':Hp} {s:Shared} {h':Heap}
theorem Inv.many {t':Nat} (I:Inv X pins σ H s) (k:∀ b u,s.heap.get? b=some u→h'.get? b=some u) (ext:∀ b o,H b=some o→H' b=some o) (new:∀ b o,H' b=some o→H b=none→s.heap.objs.size≤b) (hok:∀ b o,H' b=some o→H b=none→ObjOk X.prog X.w H' h' b o)
 (old:∀ b o,H b=some o→ObjOk X.prog X.w H' h' b o):Inv X pins σ H' { s with heap:=h',toks:=t' }:=by
 refine I.un (H':=H') ⟨fun b o e n _ _=>k b o e,fun b o e n _ _=>⟨o.slots,k b o e⟩,fun b o e n _=>?_,fun b o e _=>⟨o,k b o e⟩,fun b xs e=>ext b _ e,fun b o u e=>ext b _ e,fun b ps e=>⟨#[],by rw[ext b _ e];simp⟩⟩ (fun b o e=>?_)
 ·cases q:H' b with
  | none=>rfl
  | some o'=>exact absurd (Heap.lt_size e) (Nat.not_lt.mpr (new b o' q n))
 ·cases q:H b with
  | none=>exact hok b o e q
  | some o' =>
   have:=ext b o' q
   rw[e]at this
   cases this
   exact old b o q
end
end L2
namespace L2
open PySem PySem.Spec PyProof.Rows
section
variable {prog:Program} {w:World} {A:Around} {E:Value→Shared→Prop} {s:Shared}
end
end L2
namespace L2
open PySem PySem.Spec PyProof.Rows
structure TsOk (h:Heap) (b0:Nat) (no:List Addr) (xs ys:Array Value) (Ts:List Addr):Prop where
 at_:∀ (j:Nat) (T:Addr),Ts[j]?=some T→∃ x y,xs[j]?=some x∧ys[j]?=some y∧IsPair h T x y
 new:∀ T∈Ts,b0≤T∧T∉no
 nd:Ts.Nodup
theorem TsOk.keep {h h':Heap} {b0:Nat} {no:List Addr} {xs ys:Array Value} {Ts:List Addr} (t:TsOk h b0 no xs ys Ts) (k:∀ c o,c∉no→h.get? c=some o→h'.get? c=some o):TsOk h' b0 no xs ys Ts :=
 ⟨fun j T e=>let ⟨x,y,h1,h2,h3⟩:=t.at_ j T e;⟨x,y,h1,h2,k T _ (t.new T (List.mem_of_getElem? e)).2 h3⟩,t.new,t.nd⟩
theorem TsOk.snoc {h:Heap} {b0:Nat} {no:List Addr} {xs ys:Array Value} {Ts:List Addr} {T:Addr} {x y:Value} (t:TsOk h b0 no xs ys Ts) (hx:xs[Ts.length]?=some x) (hy:ys[Ts.length]?=some y) (hT:IsPair h T x y) (hb:b0≤T) (hno:T∉no) (hn:T∉Ts):TsOk h b0 no xs ys (Ts++[T]):=by
 refine⟨fun j T' e=>?_,fun T' e=>?_,?_⟩
 ·rw[List.getElem?_append]at e
  split at e
  ·exact t.at_ j T' e
  ·rename_i q
   have:j=Ts.length:=by
    rcases Nat.lt_or_ge (j - Ts.length) 1 with z | z
    ·omega
    ·rw[List.getElem?_eq_none (by simpa using z)]at e;cases e
   subst this
   rw[Nat.sub_self]at e
   cases e
   exact⟨x,y,hx,hy,hT⟩
 ·rcases List.mem_append.mp e with q | q
  ·exact t.new T' q
  ·rw[List.mem_singleton.mp q];exact⟨hb,hno⟩
 ·rw[List.nodup_append]
  exact⟨t.nd,by simp,fun a ha b hb' e=>hn (by rw[List.mem_singleton]at hb';rw[← hb',← e];exact ha)⟩
section
variable {prog:Program} {w:World} {A:Around} {R:Result→Shared→Prop}
end
end L2
namespace L2
open PySem PySem.W PySem.Spec PyProof.Rows
section
variable {prog:Program} {w:World} {A:Around} {E:Value→Shared→Prop} {R:Result→Shared→Prop} {s:Shared}
end
end L2
namespace L2
open PySem PySem.W PySem.Spec PyProof.Rows
structure ZS (h:Heap) (z TI TO i1 i2 l1 l2:Addr) (xs ys:Array Value) (a b:Value):Prop where
 hz:IsZip h z TI TO .none
 hTI:IsPair h TI (.ref i1) (.ref i2)
 hTO:IsPair h TO a b
 h1:h.IsListIter i1 l1 0
 h2:h.IsListIter i2 l2 0
 hl1:h.IsList l1 xs
 hl2:h.IsList l2 ys
theorem ZS.keep {h h':Heap} {z TI TO i1 i2 l1 l2 S:Addr} {xs ys:Array Value} {a b:Value} (q:ZS h z TI TO i1 i2 l1 l2 xs ys a b) (hS:S≠z∧S≠TI∧S≠i1∧S≠i2∧S≠l1∧S≠l2) (hTS:S≠TO)
 (k:∀ c o,c≠S→h.get? c=some o→h'.get? c=some o):ZS h' z TI TO i1 i2 l1 l2 xs ys a b :=
 ⟨k _ _ hS.1.symm q.hz,k _ _ hS.2.1.symm q.hTI,k _ _ hTS.symm q.hTO,q.h1.at fun o e=>k _ o hS.2.2.1.symm e,q.h2.at fun o e=>k _ o hS.2.2.2.1.symm e,q.hl1.at fun o e=>k _ o hS.2.2.2.2.1.symm e,q.hl2.at fun o e=>k _ o hS.2.2.2.2.2.symm e⟩
section
variable {prog:Program} {w:World} {A:Around} {E:Value→Shared→Prop} {R:Result→Shared→Prop} {s:Shared}
end
end L2
namespace L2
open PySem PySem.W PySem.Spec PyProof.Rows
section
variable {X:Cx} {x y:Str} {a b:Expr} {ta:TA} {p p2 pos pos2:Pos}
end
end L2
namespace L2
open PySem PySem.W PySem.Spec PyProof.Rows
end L2
namespace CW
open PySem L2
theorem sum_big:∀ {ns:List Int},(∀ n∈ns,1≤n)→13 * ((ns.filter fun n=>decide (12<n)).length:Int)≤ns.sum∧0≤ns.sum
 | [],_=>⟨by simp,by simp⟩
 | n :: ns,h=>by
  have ih:=sum_big (ns:=ns) fun m hm=>h m (List.mem_cons_of_mem _ hm)
  have h1:=h n List.mem_cons_self
  rw[List.filter_cons,List.sum_cons]
  by_cases c:12<n
  ·rw[if_pos (decide_eq_true c),List.length_cons]
   omega
  ·rw[if_neg (by simpa using c)]
   omega
theorem few18 {ns:List Int} (h:∀ n∈ns,1≤n) (hs:ns.sum≤80):(dedupI ns).length≤18:=by
 have nd:=dedup_nodup ns
 have e:(dedupI ns).length=((dedupI ns).filter fun n=>decide (12<n)).length+((dedupI ns).filter fun n=>!decide (12<n)).length:=by
  have:=(List.filter_append_perm (fun n:Int=>decide (12<n)) (dedupI ns)).length_eq
  rw[List.length_append]at this
  exact this.symm
 have h1:((dedupI ns).filter fun n=>decide (12<n)).length≤(ns.filter fun n=>decide (12<n)).length:=by
  refine List.Nodup.length_le_of_subset (List.Pairwise.filter _ nd) fun k hk=>?_
  obtain⟨a,b⟩:=List.mem_filter.mp hk
  exact List.mem_filter.mpr ⟨(dedup_mem ns k).mp a,b⟩
 have h2:((dedupI ns).filter fun n=>!decide (12<n)).length≤((List.range 12).map (fun i:Nat=>(i:Int)+1)).length:=by
  refine List.Nodup.length_le_of_subset (List.Pairwise.filter _ nd) fun k hk=>?_
  obtain⟨a,b⟩:=List.mem_filter.mp hk
  have:=h k ((dedup_mem ns k).mp a)
  have b':¬ 12<k:=by simpa using b
  exact List.mem_map.mpr ⟨(k - 1).toNat,List.mem_range.mpr (by omega),by omega⟩
 rw[List.length_map,List.length_range]at h2
 have:=(sum_big h).1
 omega
theorem offs_mem {ps:Trs} {s:Int}:offs ps s≠[]↔∃ p∈ps,p.1=s:=by
 constructor
 ·intro h
  obtain⟨o,ho⟩:=List.exists_mem_of_ne_nil _ h
  obtain⟨p,hp1,_⟩:=List.mem_map.mp ho
  obtain⟨h1,h2⟩:=List.mem_filter.mp hp1
  exact⟨p,h1,by simpa using h2⟩
 ·rintro ⟨p,hp,e⟩ z
  have:p.2∈offs ps s:=List.mem_map.mpr ⟨p,List.mem_filter.mpr ⟨hp,by simpa using e⟩,rfl⟩
  rw[z]at this
  cases this
section
variable {P:Program} {w:World} {K:PySem.W.Frag} {mg:Str→Option Value} {base:Heap} {CX:CXT}
end
end CW
namespace CW
open PySem L2
end CW
namespace CW
open PySem L2
theorem shaped_2i (a b:List Int):SeqAt.shaped (.list [.list (a.map PyData.int),.list (b.map PyData.int)])=true:=by
 simp[SeqAt.shaped,PyData.canLay0,PyData.canLayAll0,canLay_ints,PyData.depth,PyData.depthAll,depth_ints]
end CW
namespace CW
open PySem L2
noncomputable def RwsA (H:Hp) (us:List V):Prop:=∀ v∈us,∃ (a:Addr) (r:List Int),v=.ref a∧H a=some (.lst (r.map V.int))∧Row r∧r.length≤40
theorem siz_nn {ps:Trs} (h:∀ q∈ps,1≤q.1):0≤siz ps:=by have:=len_le_sum h;unfold szs at this;unfold siz;omega
end CW
namespace CW
open PySem L2
end CW
namespace CW
open PySem L2
theorem RwsA.add {Hx Hy:Hp} {us:List V} {r:List Int} {p l5:Addr} (e5:Hx l5=some (.lst us)) (hR:RwsA Hx us) (hp:Hx p=none) (g:Same Hx Hy) (ep:Hy p=some (.lst (r.map V.int))) (hrr:Row r) (hr40:r.length≤40) :
 RwsA (upd Hy l5 (.lst (us++[V.ref p]))) (us++[V.ref p]):=fun v hv=>by
 rcases List.mem_append.mp hv with h | h
 ·obtain⟨a,r',rfl,e,x⟩:=hR v h
  refine⟨a,r',rfl,?_,x⟩
  rw[upd_ne fun z=>?_]
  ·exact g _ _ e
  ·rw[z,e5]at e
   have e2:=Option.some.inj e
   have e3:us=r'.map V.int:=by injection e2
   rw[e3]at h
   obtain⟨n,_,hn⟩:=List.mem_map.mp h
   cases hn
 ·rw[List.mem_singleton.mp h]
  refine⟨p,r,rfl,?_,hrr,hr40⟩
  rw[upd_ne fun z=>by rw[z,e5]at hp;cases hp]
  exact ep
end CW
namespace CW
open PySem L2
noncomputable def cb:Nat→Nat→Nat
 | _,0=>1
 | 0,_+1=>1
 | r+1,n+1=>cb r (n+1)+cb (r+1) n
theorem cb_zero (r:Nat):cb r 0=1:=by cases r <;> simp[cb]
theorem cb_row (n:Nat):cb 0 n=1:=by cases n <;> simp[cb]
theorem cb_step (r n:Nat):cb (r+1) (n+1)=cb r (n+1)+cb (r+1) n:=by rw[cb]
theorem cb_sym:∀ k r n:Nat,r+n=k→cb r n=cb n r:=by
 intro k
 induction k with
 | zero=>intro r n h;have h1:r=0:=by omega
         have h2:n=0:=by omega
         rw[h1,h2]
 | succ k ih =>
  intro r n h
  cases r with
  | zero=>rw[cb_row,cb_zero]
  | succ r =>
   cases n with
   | zero=>rw[cb_row,cb_zero]
   | succ n =>
    rw[cb_step,cb_step,ih r (n+1) (by omega),ih (r+1) n (by omega)]
    omega
theorem cb_mul:∀ k r n:Nat,r+n=k→cb r (n+1) * (n+1)=cb r n * (r+n+1):=by
 intro k
 induction k with
 | zero =>
  intro r n h
  have h1:r=0:=by omega
  have h2:n=0:=by omega
  rw[h1,h2,cb_row,cb_row]
 | succ k ih =>
  intro r n h
  cases r with
  | zero=>rw[cb_row,cb_row];omega
  | succ r =>
   have a:=ih r n (by omega)
   have b:=ih n r (by omega)
   rw[cb_sym _ n (r+1) rfl,cb_sym _ n r rfl]at b
   rw[cb_step,Nat.add_mul,a]
   have c:cb (r+1) n * (r+1+n+1)=cb (r+1) n * (r+1)+cb (r+1) n * (n+1):=by rw[← Nat.mul_add];rfl
   rw[c,b]
   have d:n+r+1=r+n+1:=by omega
   rw[d]
theorem cb_pos:∀ r n:Nat,1≤cb r n
 | r,0=>by rw[cb_zero];exact Nat.le_refl _
 | 0,n+1=>by rw[cb_row];exact Nat.le_refl _
 | r+1,n+1=>by rw[cb_step];have:=cb_pos r (n+1);omega
theorem cb_up (r n:Nat):cb r n≤cb r (n+1):=by
 cases r with
 | zero=>rw[cb_row,cb_row];exact Nat.le_refl _
 | succ r=>rw[cb_step];omega
theorem chW_cb (r:Nat):∀ n:Nat,chW (r:Int) n=(cb r n:Int)
 | 0=>by rw[cb_zero];rfl
 | n+1=>by
  show chW (r:Int) n * ((r:Int)+((n:Int)+1)) / ((n:Int)+1)=_
  rw[chW_cb r n]
  have h:=cb_mul _ r n rfl
  have h':(cb r n:Int) * ((r:Int)+((n:Int)+1))=(cb r (n+1):Int) * ((n:Int)+1):=by
   have h2:cb r n * (r+(n+1))=cb r (n+1) * (n+1):=h.symm
   exact_mod_cast h2
  rw[h']
  exact Int.mul_ediv_cancel _ (by omega)
theorem chO_cb {room:Int} (h:0≤room) (n:Nat):chO n room=(cb room.toNat n:Int):=by
 unfold chO
 rw[if_neg (by omega)]
 conv=>lhs;rw[show room=((room.toNat:Nat):Int)by omega]
 exact chW_cb _ n
end CW
namespace CW
open PySem L2
noncomputable def sw (room:Int) (k:Nat) (l:Int):Nat→Int
 | 0=>0
 | m+1=>sw room k l m+chO k (room - (l+(m:Int)))
theorem sw_cb {room:Int} (k:Nat) {l:Int}:∀ m:Nat,l+(m:Int)≤room→sw room k l m+(cb (room - l - m).toNat (k+1):Int)=(cb (room - l).toNat (k+1):Int)
 | 0,_=>by show (0:Int)+_=_;rw[Int.zero_add];congr 3;omega
 | m+1,h=>by
  have ih:=sw_cb (room:=room) k (l:=l) m (by omega)
  show sw room k l m+chO k (room - (l+(m:Int)))+_=_
  rw[chO_cb (by omega),← ih]
  have e:(room - l - (m:Int)).toNat=(room - l - ((m+1:Nat):Int)).toNat+1:=by omega
  have e2:(room - (l+(m:Int))).toNat=(room - l - ((m+1:Nat):Int)).toNat+1:=by omega
  rw[e,e2,cb_step]
  omega
theorem sw_nn {room:Int} (k:Nat) {l:Int}:∀ m:Nat,l+(m:Int)≤room+1→0≤sw room k l m
 | 0,_=>Int.le_refl 0
 | m+1,h=>by
  have ih:=sw_nn (room:=room) k (l:=l) m (by omega)
  show 0≤sw room k l m+chO k (room - (l+(m:Int)))
  rw[chO_cb (by omega)]
  omega
noncomputable def rk (room:Int):Int→List Int→Int
 | _,[]=>0
 | l,o :: os=>sw room os.length l (o - l).toNat+rk room o os
noncomputable def Vld (room:Int):Int→List Int→Prop
 | _,[]=>True
 | l,o :: os=>l≤o∧o≤room∧Vld room o os
theorem rk_in {room:Int}:∀ {os:List Int} {l:Int},l≤room→Vld room l os→0≤rk room l os∧rk room l os<(cb (room - l).toNat os.length:Int)
 | [],l,_,_=>by
  have:=cb_pos (room - l).toNat 0
  exact⟨Int.le_refl 0,by show (0:Int)<_;rw[List.length_nil];omega⟩
 | o :: os,l,hl,⟨h1,h2,h3⟩=>by
  obtain⟨a,b⟩:=rk_in h2 h3
  have e:=sw_cb (room:=room) os.length (l:=l) (o - l).toNat (by omega)
  have n:=sw_nn (room:=room) os.length (l:=l) (o - l).toNat (by omega)
  have e2:(room - l - ((o - l).toNat:Int)).toNat=(room - o).toNat:=by omega
  rw[e2]at e
  have u:=cb_up (room - o).toNat os.length
  show 0≤sw room os.length l (o - l).toNat+rk room o os∧sw room os.length l (o - l).toNat+rk room o os<(cb (room - l).toNat (os.length+1):Int)
  omega
theorem vld_of {room:Int}:∀ {os:List Int} {l:Int},os.Pairwise (·≤·)→(∀ o∈os,l≤o∧o≤room)→Vld room l os
 | [],_,_,_=>trivial
 | o :: os,l,h,hm=>by
  obtain⟨h1,h2⟩:=List.pairwise_cons.mp h
  obtain⟨a,b⟩:=hm o List.mem_cons_self
  exact⟨a,b,vld_of h2 fun x hx=>⟨h1 x hx,(hm x (List.mem_cons_of_mem _ hx)).2⟩⟩
theorem offs_count (ps:Trs) (m:Int):(offs ps m).length=(ps.map (·.1)).count m:=by
 induction ps with
 | nil=>rfl
 | cons p ps ih =>
  rw[offs_cons,List.map_cons,List.count_cons]
  by_cases c:p.1=m
  ·rw[if_pos c,List.length_cons,ih];simp[c]
  ·rw[if_neg c,ih];simp[c]
noncomputable def nmM (niches:Int) (ps:Trs) (ms:List Int):Int:=ms.foldl (fun a m=>a * chO (offs ps m).length (roomM niches (ps.map (·.1)) m)+rk (roomM niches (ps.map (·.1)) m) 0 (offs ps m)) 0
theorem nmM_take {niches:Int} {ps:Trs} {ms:List Int} {i:Nat} {m:Int} (h:ms[i]?=some m):nmM niches ps (ms.take (i+1))=nmM niches ps (ms.take i) * chO (offs ps m).length (roomM niches (ps.map (·.1)) m)+rk (roomM niches (ps.map (·.1)) m) 0 (offs ps m):=by
 unfold nmM
 rw[List.take_succ,h,List.foldl_append]
 rfl
noncomputable def Within (niches:Int) (ps:Trs) (m:Int):Prop:=∀ o∈offs ps m,0≤o∧o≤roomM niches (ps.map (·.1)) m
theorem within_all {niches:Int} {ps:Trs} {ms:List Int} (hm:∀ m,m∈ms↔m∈ps.map (·.1)):(∀ m∈ms,Within niches ps m)↔∀ q∈ps,0≤q.2∧q.2≤roomM niches (ps.map (·.1)) q.1:=by
 constructor
 ·intro h q hq
  exact h q.1 ((hm _).mpr (List.mem_map.mpr ⟨q,hq,rfl⟩)) q.2 (List.mem_map.mpr ⟨q,List.mem_filter.mpr ⟨hq,by simp⟩,rfl⟩)
 ·intro h m _ o ho
  obtain⟨q,hq,rfl⟩:=List.mem_map.mp ho
  obtain⟨h1,h2⟩:=List.mem_filter.mp hq
  have e:q.1=m:=by simpa using h2
  have:=h q h1
  rw[e]at this
  exact this
theorem nm_step {niches:Int} {ps:Trs} {m N W:Int} (hs:ps.Pairwise ple) (hne:offs ps m≠[]) (hw:Within niches ps m) (h0:0≤N) (h1:N<W) :
 0≤N * chO (offs ps m).length (roomM niches (ps.map (·.1)) m)+rk (roomM niches (ps.map (·.1)) m) 0 (offs ps m)∧N * chO (offs ps m).length (roomM niches (ps.map (·.1)) m)+rk (roomM niches (ps.map (·.1)) m) 0 (offs ps m)<W * chO (offs ps m).length (roomM niches (ps.map (·.1)) m):=by
 obtain⟨o,ho⟩:=List.exists_mem_of_ne_nil _ hne
 have hr:0≤roomM niches (ps.map (·.1)) m:=by have:=hw o ho;omega
 have v:=vld_of (room:=roomM niches (ps.map (·.1)) m) (l:=0) (offs_sorted hs m) fun o ho=>hw o ho
 obtain⟨a,b⟩:=rk_in hr v
 rw[Int.sub_zero]at b
 rw[chO_cb hr]
 generalize (cb (roomM niches (ps.map (·.1)) m).toNat (offs ps m).length:Int)=c at b ⊢
 generalize rk (roomM niches (ps.map (·.1)) m) 0 (offs ps m)=r at a b ⊢
 have hc:0≤c:=by omega
 have p:0≤N * c:=Int.mul_nonneg h0 hc
 have q:(N+1) * c≤W * c:=Int.mul_le_mul_of_nonneg_right (by omega) hc
 rw[Int.add_mul,Int.one_mul]at q
 omega
theorem sz_ok {r:List Int} {ps:Trs} (h:Lst r ps) (hl:r.length≤60):SzOk (ps.map (·.1)):=by
 have t:=h.trn hl
 refine⟨fun n hn=>?_,t.few,by rw[List.length_map];exact Lst.few h hl,few18 (fun n hn=>?_) (Int.le_trans t.few (by decide))⟩
 ·obtain⟨q,hq,rfl⟩:=List.mem_map.mp hn;exact t.pos q hq
 ·obtain⟨q,hq,rfl⟩:=List.mem_map.mp hn;exact t.pos q hq
noncomputable def cS (r:List Int) (k:Int):Nat:=(r.filter fun x=>decide (1≤x∧x≤k)).length
theorem cS_step {k:Int} (hk:0≤k):∀ {r:List Int},Row r→(cS r (k+1):Int)=(cS r k:Int)+if (k+1)∈r then 1 else 0
 | [],_=>by simp[cS]
 | x :: r,h=>by
  obtain⟨h1,h2⟩:=List.pairwise_cons.mp h
  have ih:=cS_step hk h2
  unfold cS at ih ⊢
  rw[List.filter_cons,List.filter_cons]
  by_cases e:x=k+1
  ·have hn:(k+1)∉r:=fun z=>by have:=h1 _ z;omega
   rw[if_neg hn]at ih
   rw[if_pos (by simp;omega),if_neg (by simp;omega),if_pos (by rw[e];exact List.mem_cons_self),List.length_cons]
   omega
  ·have hm:(k+1)∈x :: r↔(k+1)∈r:=by rw[List.mem_cons];exact⟨fun z=>z.resolve_left fun q=>e q.symm,.inr⟩
   by_cases c:1≤x∧x≤k
   ·rw[if_pos (by simp;omega),if_pos (by simpa using c),List.length_cons,List.length_cons]
    by_cases q:(k+1)∈r
    ·rw[if_pos q]at ih;rw[if_pos (hm.mpr q)];omega
    ·rw[if_neg q]at ih;rw[if_neg (fun z=>q (hm.mp z))];omega
   ·rw[if_neg (by simp;omega),if_neg (by simpa using c)]
    by_cases q:(k+1)∈r
    ·rw[if_pos q]at ih;rw[if_pos (hm.mpr q)];exact ih
    ·rw[if_neg q]at ih;rw[if_neg (fun z=>q (hm.mp z))];exact ih
theorem cS_zero (r:List Int):cS r 0=0:=by
 unfold cS
 rw[List.length_eq_zero_iff,List.filter_eq_nil_iff]
 intro x _ h
 simp at h
 omega
theorem sober_iff {r:List Int} (hr:Row r) (n:Int):((∀ k:Nat,(k:Int)+1≤n→2 * (cS r ((k:Int)+1):Int)≤(k:Int)+1)∧∀ x∈r,1≤x∧x≤n)↔(Sob r∧∀ x∈r,x≤n):=by
 constructor
 ·rintro ⟨h1,h2⟩
  refine⟨fun i x e=>?_,fun x hx=>(h2 x hx).2⟩
  have hi:i<r.length:=(List.getElem?_eq_some_iff.mp e).1
  obtain⟨b1,b2⟩:=h2 x (List.mem_of_getElem? e)
  have hc:i+1≤cS r x:=by
   unfold cS
   have hs:(r.take (i+1)).filter (fun y=>decide (1≤y∧y≤x))=r.take (i+1):=List.filter_eq_self.mpr fun y hy=>by
    obtain⟨j,hj,ej⟩:=List.mem_take_iff_getElem.mp hy
    have hy1:=(h2 y (List.mem_of_mem_take hy)).1
    have:y≤x:=by
     rcases Nat.lt_or_ge j i with z | z
     ·exact Int.le_of_lt (Row.lt hr z (by rw[List.getElem?_eq_getElem (by omega),ej]) e)
     ·have:j=i:=by omega
      subst this
      rw[List.getElem?_eq_getElem hi]at e
      rw[← ej,Option.some.inj e]
      exact Int.le_refl _
    simp only[decide_eq_true_eq]
    exact⟨hy1,this⟩
   have hsub:=((List.take_sublist (i+1) r).filter fun y=>decide (1≤y∧y≤x)).length_le
   rw[hs,List.length_take]at hsub
   omega
  have:=h1 (x - 1).toNat (by omega)
  rw[show (((x - 1).toNat:Nat):Int)+1=x by omega]at this
  omega
 ·rintro ⟨h1,h2⟩
  have pos:∀ x∈r,1≤x:=fun x hx=>by
   obtain⟨i,hi,e⟩:=List.getElem_of_mem hx
   have:=h1 i x (by rw[List.getElem?_eq_getElem hi,e])
   omega
  refine⟨fun k _=>?_,fun x hx=>⟨pos x hx,h2 x hx⟩⟩
  rcases Nat.eq_zero_or_pos (cS r ((k:Int)+1))with z | z
  ·omega
  ·generalize hc:cS r ((k:Int)+1)=c at z
   have hcl:c≤r.length:=by rw[← hc];exact List.length_filter_le _ _
   have hi:c - 1<r.length:=by omega
   have e:=List.getElem?_eq_getElem hi
   have hs:=h1 (c - 1) _ e
   have:r[c - 1]≤(k:Int)+1:=by
    apply Decidable.byContradiction
    intro q
    have hd:((r.drop (c - 1)).filter fun x=>decide (1≤x∧x≤(k:Int)+1))=[]:=List.filter_eq_nil_iff.mpr fun y hy=>by
     obtain⟨j,hj,ej⟩:=List.getElem_of_mem hy
     rw[List.length_drop]at hj
     rw[List.getElem_drop]at ej
     have:r[c - 1]≤y:=by
      rcases Nat.eq_zero_or_pos j with w | w
      ·subst w;rw[← ej];exact Int.le_refl _
      ·exact Int.le_of_lt (Row.lt hr (show c - 1<c - 1+j by omega) e (by rw[List.getElem?_eq_getElem (by omega),ej]))
     simp only[decide_eq_true_eq]
     omega
    have hl:cS r ((k:Int)+1)≤c - 1:=by
     unfold cS
     rw[← List.take_append_drop (c - 1) r,List.filter_append,hd,List.append_nil]
     exact Nat.le_trans (List.length_filter_le _ _) (by rw[List.length_take];omega)
    omega
   omega
end CW
namespace L2
open PySem PySem.Spec PyProof.Rows
end L2
namespace CW
open PySem L2
section
variable {P:Program} {w:World} {K:PySem.W.Frag} {mg:Str→Option Value} {base:Heap}
inductive spNumOff (vs:List V) (H:Hp) (Q:VK) (E_:XK):Prop
 | mk (a:Addr) (os:List Int) (room:Int) (h0_:vs=[.ref a,.int room]) (h1_:H a=some (.lst (os.map V.int))) (h2_:os.length≤60) (h3_:Vld room 0 os) (h4_:0≤room) (h5_:room≤200) (h6_:∀ H',Same H H'→Q (.int (rk room 0 os)) H'):spNumOff vs H Q E_
noncomputable def AllIn (niches:Int) (ps:Trs):Prop:=∀ q∈ps,0≤q.2∧q.2≤roomM niches (ps.map (·.1)) q.1
theorem AllIn.perm {niches:Int} {ps qs:Trs} (h:ps.Perm qs):AllIn niches ps→AllIn niches qs:=fun a q hq=>by
 have:=a q (h.mem_iff.mpr hq)
 unfold roomM at this ⊢
 rw[lesN_les]at this ⊢
 rw[← les_perm h]
 exact this
inductive spSoberN (vs:List V) (H:Hp) (Q:VK) (E_:XK):Prop
 | mk (n:Int) (a:Addr) (r:List Int) (h0_:vs=[.int n,.ref a]) (h1_:H a=some (.lst (r.map V.int))) (h2_:Row r) (h3_:r.length≤60) (h4_:0≤n) (h5_:n≤1000) (h6_:∀ b:Bool,(b=true↔(Sob r∧∀ x∈r,x≤n))→∀ H',Same H H'→Q (.bl b) H'):spSoberN vs H Q E_
theorem offs_at0 {os:List Int} (h:os≠[]) (hs:os.Pairwise (·≤·)):∃ x y,atI (os.map V.int) 0=some (V.int x)∧atI (os.map V.int) (-1)=some (V.int y)∧x∈os∧y∈os∧∀ o∈os,x≤o∧o≤y:=by
 obtain⟨x,hx,hx'⟩:=head_at h
 refine⟨x,os.getLast h,hx,last_at h,List.mem_of_getElem? hx',List.getLast_mem h,fun o ho=>?_⟩
 obtain⟨i,hi,e⟩:=List.getElem_of_mem ho
 constructor
 ·cases os with
  | nil=>exact absurd rfl h
  | cons z r =>
   cases hx'
   rcases List.mem_cons.mp ho with e | e
   ·rw[e];exact Int.le_refl _
   ·exact(List.pairwise_cons.mp hs).1 o e
 ·have hd:=List.dropLast_concat_getLast h
  rw[← hd]at hs ho
  rcases List.mem_append.mp ho with z | z
  ·exact(List.pairwise_append.mp hs).2.2 o z _ (by simp)
  ·rw[List.mem_singleton.mp z];exact Int.le_refl _
end
end CW
namespace CW
open PySem L2
theorem nm_bound {niches:Int} {ps:Trs} {ms:List Int} (hs:ps.Pairwise ple) (hm:∀ m∈ms,offs ps m≠[]):∀ i:Nat,i≤ms.length→(∀ m∈ms.take i,Within niches ps m)→0≤nmM niches ps (ms.take i)∧nmM niches ps (ms.take i)<howM niches (ps.map (·.1)) (ms.take i):=by
 intro i
 induction i with
 | zero=>intro _ _;exact⟨Int.le_refl 0,(show (0:Int)<1 by decide)⟩
 | succ i ih =>
  intro hi hw
  have he:ms[i]?=some ms[i]:=List.getElem?_eq_getElem (by omega)
  obtain⟨a,b⟩:=ih (by omega) fun m hm'=>hw m (by rw[List.take_succ];exact List.mem_append_left _ hm')
  have hmi:ms[i]∈ms:=List.getElem_mem _
  have hwi:Within niches ps ms[i]:=hw _ (by rw[List.take_succ,he];exact List.mem_append_right _ (by simp))
  rw[nmM_take he,howM_take he,← offs_count]
  exact nm_step hs (hm _ hmi) hwi a b
theorem nm_mulB {niches:Int} {ps:Trs} {ms:List Int} {i:Nat} {m:Int} (hN:niches≤200) (hz:SzOk (ps.map (·.1))) (d:Dst (ps.map (·.1)) ms) (hi:i≤ms.length) (hm:1≤m) (h0:0≤nmM niches ps (ms.take i)) (h1:nmM niches ps (ms.take i)<howM niches (ps.map (·.1)) (ms.take i)) :
 CMulB (nmM niches ps (ms.take i)) (chO (offs ps m).length (roomM niches (ps.map (·.1)) m)):=by
 have hb:=howM_b (i:=i) hN hz.pos hz.len (d.pos hz) (d.len hz) hi hm
 rw[← offs_count]at hb
 exact⟨⟨h0,Int.lt_trans h1 hb.1.2⟩,hb.2⟩
end CW
namespace CW
open PySem L2
section
variable {K:PySem.W.Frag} {mg:Str→Option Value}
noncomputable def RwsC (H:Hp) (us:List V):Prop:=∀ v∈us,∃ (a:Addr) (r:List Int),v=.ref a∧H a=some (.lst (r.map V.int))∧Row r∧r.length≤60
theorem RwsC.add {Hx Hy:Hp} {us:List V} {r:List Int} {p l5:Addr} (e5:Hx l5=some (.lst us)) (hR:RwsC Hx us) (hp:Hx p=none) (g:Same Hx Hy) (ep:Hy p=some (.lst (r.map V.int))) (hrr:Row r) (hr40:r.length≤60) :
 RwsC (upd Hy l5 (.lst (us++[V.ref p]))) (us++[V.ref p]):=fun v hv=>by
 rcases List.mem_append.mp hv with h | h
 ·obtain⟨a,r',rfl,e,x⟩:=hR v h
  refine⟨a,r',rfl,?_,x⟩
  rw[upd_ne fun z=>?_]
  ·exact g _ _ e
  ·rw[z,e5]at e
   have e2:=Option.some.inj e
   have e3:us=r'.map V.int:=by injection e2
   rw[e3]at h
   obtain⟨n,_,hn⟩:=List.mem_map.mp h
   cases hn
 ·rw[List.mem_singleton.mp h]
  refine⟨p,r,rfl,?_,hrr,hr40⟩
  rw[upd_ne fun z=>by rw[z,e5]at hp;cases hp]
  exact ep
end
end CW
namespace CW
end CW
namespace CW
open PySem L2
noncomputable def rr (S:Int):Trs→List Int
 | []=>[]
 | q :: B=>rnn (q.2+2 * S+q.1+1) q.1.toNat++rr (S+q.1) B
theorem sorted_ex (ps:Trs):∃ qs:Trs,qs.Perm ps∧qs.Pairwise ple:=by
 induction ps with
 | nil=>exact⟨[],.refl _,.nil⟩
 | cons a r ih =>
  obtain⟨qs,h1,h2⟩:=ih
  have ins:∀ qs:Trs,qs.Pairwise ple→∃ t:Trs,t.Perm (a :: qs)∧t.Pairwise ple:=by
   intro qs
   induction qs with
   | nil=>intro _;exact⟨[a],.refl _,by simp⟩
   | cons b t ih2 =>
    intro h
    obtain⟨k1,k2⟩:=List.pairwise_cons.mp h
    by_cases c:ple a b
    ·refine⟨a :: b :: t,.refl _,List.pairwise_cons.mpr ⟨fun x hx=>?_,h⟩⟩
     rcases List.mem_cons.mp hx with e | e
     ·rw[e];exact c
     ·have:=k1 x e
      unfold ple at *
      omega
    ·obtain⟨u,u1,u2⟩:=ih2 k2
     refine⟨b :: u,(u1.cons b).trans (List.Perm.swap _ _ _),List.pairwise_cons.mpr ⟨fun x hx=>?_,u2⟩⟩
     rcases List.mem_cons.mp (u1.mem_iff.mp hx)with e | e
     ·rw[e]
      unfold ple at *
      omega
     ·exact k1 x e
  obtain⟨t,t1,t2⟩:=ins qs h2
  exact⟨t,t1.trans (h1.cons a),t2⟩
end CW
namespace CW
open PySem L2
theorem top_mark:∀ {ps:Trs} (f:Int×Int→Int),ps≠[]→∃ q∈ps,(∀ x∈ps,f x≤f q)∧∀ x∈ps,x.1<q.1→f x<f q
 | [],_,h=>absurd rfl h
 | [q],f,_=>⟨q,List.mem_cons_self,fun x hx=>by rw[List.mem_singleton.mp hx];exact Int.le_refl _,fun x hx h=>by rw[List.mem_singleton.mp hx]at h;exact absurd h (Int.lt_irrefl _)⟩
 | p :: q :: ps,f,_=>by
  obtain⟨m,hm,h1,h2⟩:=top_mark (ps:=q :: ps) f (by simp)
  by_cases c:f m<f p∨(f m=f p∧p.1≤m.1)
  ·refine⟨p,List.mem_cons_self,fun x h=>?_,fun x h hl=>?_⟩
   ·rcases List.mem_cons.mp h with e | e
    ·rw[e];exact Int.le_refl _
    ·have:=h1 x e;omega
   ·rcases List.mem_cons.mp h with e | e
    ·rw[e]at hl;exact absurd hl (Int.lt_irrefl _)
    ·have a:=h1 x e
     rcases c with c | ⟨c,d⟩
     ·omega
     ·have:=h2 x e (by omega);omega
  ·refine⟨m,List.mem_cons_of_mem _ hm,fun x h=>?_,fun x h hl=>?_⟩
   ·rcases List.mem_cons.mp h with e | e
    ·rw[e];omega
    ·exact h1 x e
   ·rcases List.mem_cons.mp h with e | e
    ·rw[e]at hl ⊢;omega
    ·exact h2 x e hl
theorem Tak.ex {ps:Trs} (hne:ps≠[]) (hp:∀ q∈ps,1≤q.1):∃ p qs,Tak ps p qs∧siz qs=siz ps - 1∧∀ q∈qs,1≤q.1:=by
 obtain⟨q,hq,h1,h2⟩:=top_mark (fun q=>q.2+2 * les ps q.1) hne
 have hq1:=hp q hq
 have e:(q.1,(q.2+2 * les ps q.1) - 2 * les ps q.1)=q:=Prod.ext rfl (by show _ - _=q.2;omega)
 have hper:ps.Perm ((q.1,(q.2+2 * les ps q.1) - 2 * les ps q.1) :: ps.erase q):=by rw[e];exact List.perm_cons_erase hq
 by_cases c:q.1=1
 ·refine⟨q.2+2 * les ps q.1,ps.erase q,⟨q.1,ps.erase q,hq1,hper,h1,h2,?_⟩,?_,fun x hx=>hp x (List.mem_of_mem_erase hx)⟩
  ·exact .inl ⟨c,.refl _⟩
  ·rw[siz_perm hper,siz_cons];omega
 ·refine⟨q.2+2 * les ps q.1,(q.1 - 1,(q.2+2 * les ps q.1) - 1 - 2 * les (ps.erase q) (q.1 - 1) - 2 * (q.1 - 1)) :: ps.erase q,⟨q.1,ps.erase q,hq1,hper,h1,h2,?_⟩,?_,fun x hx=>?_⟩
  ·exact .inr ⟨by omega,.refl _⟩
  ·rw[siz_perm hper,siz_cons,siz_cons];omega
  ·rcases List.mem_cons.mp hx with e | e
   ·rw[e];show 1≤q.1 - 1;omega
   ·exact hp x (List.mem_of_mem_erase e)
theorem Lst.exr:∀ (n:Nat) (ps:Trs),siz ps=(n:Int)→(∀ q∈ps,1≤q.1)→∃ r,Lst r ps
 | 0,ps,h,hp=>by
  have:ps=[]:=by
   cases ps with
   | nil=>rfl
   | cons q ps =>
    have:=len_le_sum hp
    unfold szs at this
    unfold siz at h
    simp at this h
    omega
  rw[this]
  exact⟨[],.nil⟩
 | n+1,ps,h,hp=>by
  have hne:ps≠[]:=fun e=>by rw[e]at h;simp[siz]at h;omega
  obtain⟨p,qs,t,hs,hq⟩:=Tak.ex hne hp
  obtain⟨r,hr⟩:=Lst.exr n qs (by omega) hq
  refine⟨r++[p],hr.tak t hp fun x hx=>?_⟩
  have hb:=(t.add hp).1
  have:=(hr.highS (p - 1)).mp (fun q hq=>(hb q hq).2) x hx
  omega
theorem sw_front (room:Int) (k:Nat) (l:Int):∀ m:Nat,sw room k l (m+1)=chO k (room - l)+sw room k (l+1) m
 | 0=>by show 0+chO k (room - (l+((0:Nat):Int)))=chO k (room - l)+0;rw[show room - (l+((0:Nat):Int))=room - l by omega];omega
 | m+1=>by
  show sw room k l (m+1)+chO k (room - (l+((m+1:Nat):Int)))=chO k (room - l)+(sw room k (l+1) m+chO k (room - (l+1+(m:Int))))
  rw[sw_front room k l m,show room - (l+((m+1:Nat):Int))=room - (l+1+(m:Int))by omega]
  omega
theorem rk_front {room l:Int} {o:Int} {os:List Int} (h:l+1≤o):rk room l (o :: os)=chO os.length (room - l)+rk room (l+1) (o :: os):=by
 show sw room os.length l (o - l).toNat+rk room o os=_+(sw room os.length (l+1) (o - (l+1)).toNat+rk room o os)
 rw[show (o - l).toNat=(o - (l+1)).toNat+1 by omega,sw_front]
 omega
theorem unrk:∀ (c:Nat) (d:Nat) (room l N:Int),(room - l).toNat=d→l≤room→0≤N→N<(cb (room - l).toNat c:Int)→∃ os:List Int,os.length=c∧Vld room l os∧rk room l os=N:=by
 intro c
 induction c with
 | zero =>
  intro d room l N _ _ h0 h1
  rw[cb_zero]at h1
  exact⟨[],rfl,trivial,by show (0:Int)=N;omega⟩
 | succ c ihc =>
  intro d
  induction d with
  | zero =>
   intro room l N hd hl h0 h1
   rw[hd,cb_row]at h1
   obtain⟨os,a,b,e⟩:=ihc 0 room l N hd hl h0 (by rw[hd,cb_row];exact h1)
   refine⟨l :: os,by rw[List.length_cons,a],⟨Int.le_refl _,hl,b⟩,?_⟩
   show sw room os.length l (l - l).toNat+rk room l os=N
   rw[Int.sub_self,e]
   show 0+N=N
   omega
  | succ d ihd =>
   intro room l N hd hl h0 h1
   by_cases c1:N<(cb (room - l).toNat c:Int)
   ·obtain⟨os,a,b,e⟩:=ihc _ room l N rfl hl h0 c1
    refine⟨l :: os,by rw[List.length_cons,a],⟨Int.le_refl _,hl,b⟩,?_⟩
    show sw room os.length l (l - l).toNat+rk room l os=N
    rw[Int.sub_self,e]
    show 0+N=N
    omega
   ·have hs:cb (room - l).toNat (c+1)=cb (room - (l+1)).toNat (c+1)+cb (room - l).toNat c:=by
     rw[show (room - l).toNat=(room - (l+1)).toNat+1 by omega,cb_step]
    rw[hs]at h1
    obtain⟨os,a,b,e⟩:=ihd room (l+1) (N - (cb (room - l).toNat c:Int)) (by omega) (by omega) (by omega) (by omega)
    cases os with
    | nil=>simp at a
    | cons o os =>
     refine⟨o :: os,a,⟨by have:=b.1;omega,b.2.1,b.2.2⟩,?_⟩
     rw[rk_front b.1,e,chO_cb (by omega),show os.length=c by simpa using a]
     omega
theorem vld_sorted {room:Int}:∀ {os:List Int} {l:Int},Vld room l os→os.Pairwise (·≤·)∧∀ o∈os,l≤o∧o≤room
 | [],_,_=>⟨.nil,fun o h=>by cases h⟩
 | o :: os,l,⟨h1,h2,h3⟩=>by
  obtain⟨a,b⟩:=vld_sorted h3
  refine⟨List.pairwise_cons.mpr ⟨fun x hx=>(b x hx).1,a⟩,fun x hx=>?_⟩
  rcases List.mem_cons.mp hx with e | e
  ·rw[e];exact⟨h1,h2⟩
  ·exact⟨Int.le_trans h1 (b x e).1,(b x e).2⟩
noncomputable def nmG (niches:Int) (ns:List Int) (ps:Trs) (ms:List Int):Int:=ms.foldl (fun a m=>a * chO (ns.count m) (roomM niches ns m)+rk (roomM niches ns m) 0 (offs ps m)) 0
theorem nmG_snoc (niches:Int) (ns:List Int) (ps:Trs) (ms:List Int) (m:Int):nmG niches ns ps (ms++[m])=nmG niches ns ps ms * chO (ns.count m) (roomM niches ns m)+rk (roomM niches ns m) 0 (offs ps m):=by
 unfold nmG;rw[List.foldl_append];rfl
theorem nmG_congr {niches:Int} {ns:List Int} {ps qs:Trs}:∀ {ms:List Int},(∀ m∈ms,offs ps m=offs qs m)→∀ a:Int,ms.foldl (fun a m=>a * chO (ns.count m) (roomM niches ns m)+rk (roomM niches ns m) 0 (offs ps m)) a=ms.foldl (fun a m=>a * chO (ns.count m) (roomM niches ns m)+rk (roomM niches ns m) 0 (offs qs m)) a
 | [],_,a=>rfl
 | m :: ms,h,a=>by
  rw[List.foldl_cons,List.foldl_cons,h m List.mem_cons_self]
  exact nmG_congr (fun x hx=>h x (List.mem_cons_of_mem _ hx)) _
theorem numbered {niches:Int} {ns:List Int}:∀ (k:Nat) (ms:List Int),ms.length=k→ms.Nodup→∀ N:Int,0≤N→N<howM niches ns ms→∃ ps:Trs,(∀ m∈ms,(offs ps m).length=ns.count m∧Vld (roomM niches ns m) 0 (offs ps m))∧(∀ p∈ps,p.1∈ms)∧nmG niches ns ps ms=N:=by
 intro k
 induction k with
 | zero =>
  intro ms hk _ N h0 h1
  have:ms=[]:=List.eq_nil_of_length_eq_zero hk
  subst this
  have h1':N<1:=h1
  exact⟨[],fun m hm=>(nomatch hm),fun p hp=>(nomatch hp),by show (0:Int)=N;omega⟩
 | succ k ih =>
  intro ms hk hnd N h0 h1
  have hne:ms≠[]:=fun e=>by rw[e]at hk;cases hk
  obtain⟨ms',m,rfl⟩:∃ ms' m,ms=ms'++[m]:=⟨ms.dropLast,ms.getLast hne,(List.dropLast_concat_getLast hne).symm⟩
  have hnd':=List.nodup_append.mp hnd
  have hmn:m∉ms':=fun z=>hnd'.2.2 m z m (by simp) rfl
  rw[howM_snoc]at h1
  have hcp:0<chO (ns.count m) (roomM niches ns m):=by
   apply Decidable.byContradiction
   intro c
   have hnn:0≤chO (ns.count m) (roomM niches ns m):=by
    by_cases r:roomM niches ns m<0
    ·unfold chO;rw[if_pos r];exact Int.le_refl 0
    ·rw[chO_cb (by omega)];omega
   have:chO (ns.count m) (roomM niches ns m)=0:=by omega
   rw[this,Int.mul_zero]at h1
   omega
  have hr0:0≤roomM niches ns m:=by
   apply Decidable.byContradiction
   intro c
   unfold chO at hcp
   rw[if_pos (by omega)]at hcp
   exact absurd hcp (Int.lt_irrefl 0)
  generalize hc:chO (ns.count m) (roomM niches ns m)=c at h1 hcp
  have hdiv:N / c<howM niches ns ms':=Int.ediv_lt_of_lt_mul hcp h1
  obtain⟨ps,hp1,hp2,hp3⟩:=ih ms' (by simpa using hk) hnd'.1 (N / c) (Int.ediv_nonneg h0 (by omega)) hdiv
  have hmod:=Int.emod_lt_of_pos N hcp
  have hmod0:=Int.emod_nonneg N (show c≠0 by omega)
  rw[chO_cb hr0]at hc
  obtain⟨os,ho1,ho2,ho3⟩:=unrk (ns.count m) _ (roomM niches ns m) 0 (N % c) rfl hr0 hmod0 (by rw[Int.sub_zero,hc];exact hmod)
  have hno:offs ps m=[]:=by
   apply Decidable.byContradiction
   intro z
   obtain⟨p,hp,e⟩:=offs_mem.mp z
   exact hmn (e ▸ hp2 p hp)
  have hof:∀ x,offs (ps++os.map fun o=>(m,o)) x=if x=m then os else offs ps x:=fun x=>by
   rw[offs_append,offs_one]
   by_cases e:m=x
   ·rw[if_pos e,if_pos e.symm,← e,hno,List.nil_append]
   ·rw[if_neg e,if_neg (fun z=>e z.symm),List.append_nil]
  refine⟨ps++os.map fun o=>(m,o),fun x hx=>?_,fun p hp=>?_,?_⟩
  ·rw[hof]
   rcases List.mem_append.mp hx with z | z
   ·rw[if_neg (fun(e:x=m)=>hmn (e ▸ z))];exact hp1 x z
   ·rw[List.mem_singleton]at z
    rw[if_pos z,z]
    exact⟨ho1,ho2⟩
  ·rcases List.mem_append.mp hp with z | z
   ·exact List.mem_append_left _ (hp2 p z)
   ·obtain⟨o,_,rfl⟩:=List.mem_map.mp z
    exact List.mem_append_right _ (by simp)
  ·rw[nmG_snoc,hof,if_pos rfl,ho3]
   have e:nmG niches ns (ps++os.map fun o=>(m,o)) ms'=nmG niches ns ps ms':=nmG_congr (fun x hx=>by rw[hof,if_neg (fun(e:x=m)=>hmn (e ▸ hx))]) 0
   rw[e,hp3,chO_cb hr0,hc]
   have:=Int.ediv_mul_add_emod N c
   omega
noncomputable def cmb:Nat→Nat→List (List Int)
 | 0,0=>[[]]
 | 0,_+1=>[]
 | _+1,0=>[[]]
 | n+1,k+1=>cmb n (k+1)++(cmb n k).map fun r=>r++[(n:Int)+1]
theorem cmb_none:∀ (n k:Nat),n<k→cmb n k=[]
 | 0,k+1,_=>by rw[cmb]
 | n+1,k+1,h=>by rw[cmb,cmb_none n (k+1) (by omega),cmb_none n k (by omega)];rfl
theorem cmb_len:∀ (n k:Nat),k≤n→(cmb n k).length=cb (n - k) k
 | 0,0,_=>by rw[cmb,cb_zero];rfl
 | n+1,0,_=>by rw[cmb,cb_zero];rfl
 | n+1,k+1,h=>by
  rw[cmb,List.length_append,List.length_map,cmb_len n k (by omega)]
  by_cases c:k=n
  ·subst c
   rw[cmb_none k (k+1) (by omega),Nat.sub_self,Nat.sub_self,cb_row,cb_row]
   rfl
  ·rw[cmb_len n (k+1) (by omega)]
   have e:n+1 - (k+1)=(n - (k+1))+1:=by omega
   have e2:n - k=(n - (k+1))+1:=by omega
   rw[e,e2,cb_step]
theorem cmb_mem:∀ (n k:Nat) (r:List Int),r.length=k→Row r→(∀ x∈r,1≤x∧x≤(n:Int))→r∈cmb n k
 | 0,0,r,hl,_,_=>by rw[cmb,List.eq_nil_of_length_eq_zero hl];simp
 | 0,k+1,r,hl,_,hx=>by
  cases r with
  | nil=>simp at hl
  | cons x r=>have:=hx x List.mem_cons_self;omega
 | n+1,0,r,hl,_,_=>by rw[cmb,List.eq_nil_of_length_eq_zero hl];simp
 | n+1,k+1,r,hl,hr,hx=>by
  have hne:r≠[]:=fun e=>by rw[e]at hl;simp at hl
  rw[cmb,List.mem_append]
  have hd:=List.dropLast_concat_getLast hne
  have hlast:=hx _ (List.getLast_mem hne)
  by_cases c:r.getLast hne=(n:Int)+1
  ·right
   refine List.mem_map.mpr ⟨r.dropLast,?_,by rw[← c,hd]⟩
   rw[← hd]at hr
   obtain⟨h1,_,h2⟩:=List.pairwise_append.mp hr
   refine cmb_mem n k _ (by rw[List.length_dropLast];omega) h1 fun x hx'=>⟨(hx x ((List.dropLast_sublist r).subset hx')).1,?_⟩
   have:=h2 x hx' (r.getLast hne) (by simp)
   omega
  ·left
   refine cmb_mem n (k+1) r hl hr fun x hx'=>⟨(hx x hx').1,?_⟩
   rw[← hd]at hr hx'
   obtain⟨_,_,h2⟩:=List.pairwise_append.mp hr
   rcases List.mem_append.mp hx' with z | z
   ·have:=h2 x z (r.getLast hne) (by simp)
    omega
   ·rw[List.mem_singleton.mp z];omega
theorem cb_mono (n:Nat):∀ {r s:Nat},r≤s→cb r n≤cb s n:=by
 intro r s h
 obtain⟨d,rfl⟩:=Nat.exists_eq_add_of_le h
 clear h
 induction d with
 | zero=>exact Nat.le_refl _
 | succ d ih =>
  refine Nat.le_trans ih ?_
  rw[show r+(d+1)=(r+d)+1 from rfl]
  cases n with
  | zero=>rw[cb_zero,cb_zero];exact Nat.le_refl _
  | succ n=>rw[cb_step];omega
theorem cb_few:(List.range 61).all (fun k=>decide (chW (((200 - k:Nat):Int)) k<10 ^ 55))=true:=by decide +kernel
theorem howM_few {niches:Int} {ns ms:List Int} (h0:0≤niches) (h1:niches≤200) (hz:SzOk ns) (d:Dst ns ms):howM niches ns ms<10 ^ 55:=by
 apply Decidable.byContradiction
 intro hbig
 have hpos:0<howM niches ns ms:=by
  have:(0:Int)<10 ^ 55:=by decide
  omega
 have hnd:ms.Nodup:=d.up.imp fun h=>Int.ne_of_lt h
 have hrow:∀ N:Nat,(N:Int)<howM niches ns ms→∃ r:List Int,r∈cmb niches.toNat ns.sum.toNat∧∃ ps,Lst r ps∧ps.Pairwise ple∧nmG niches ns ps ms=(N:Int):=fun N hN=>by
  obtain⟨ps,a,b,e⟩:=numbered (niches:=niches) (ns:=ns) _ ms rfl hnd (N:Int) (by omega) hN
  have hsz:(ps.map (·.1)).Perm ns:=by
   rw[List.perm_iff_count]
   intro x
   rw[← offs_count]
   by_cases hx:x∈ms
   ·exact(a x hx).1
   ·have h2:offs ps x=[]:=by
     apply Decidable.byContradiction
     intro z
     obtain⟨p,hp,ep⟩:=offs_mem.mp z
     exact hx (ep ▸ b p hp)
    rw[h2,List.count_eq_zero.mpr (fun z=>hx (d.mem.mpr z))]
    rfl
  have hp1:∀ q∈ps,1≤q.1:=fun q hq=>hz.pos _ (hsz.mem_iff.mp (List.mem_map.mpr ⟨q,hq,rfl⟩))
  have hs:siz ps=ns.sum:=by
   have h:∀ {a b:List Int},a.Perm b→a.sum=b.sum:=fun h=>by
    induction h with
    | nil=>rfl
    | cons x _ ih=>rw[List.sum_cons,List.sum_cons,ih]
    | swap x y l=>simp only[List.sum_cons];omega
    | trans _ _ h1 h2=>exact h1.trans h2
   exact h hsz
  have hs0:0≤siz ps:=siz_nn hp1
  obtain⟨r,hr⟩:=Lst.exr (siz ps).toNat ps (by omega) hp1
  have hin:AllIn niches ps:=fun q hq=>by
   have hm:=b q hq
   have hv:=(vld_sorted (a q.1 hm).2).2 q.2 (List.mem_map.mpr ⟨q,List.mem_filter.mpr ⟨hq,by simp⟩,rfl⟩)
   refine⟨hv.1,?_⟩
   have e2:roomM niches (ps.map (·.1)) q.1=roomM niches ns q.1:=by
    unfold roomM lesN
    congr 2
    have h:∀ {a b:List Int},a.Perm b→a.sum=b.sum:=fun h=>by
     induction h with
     | nil=>rfl
     | cons x _ ih=>rw[List.sum_cons,List.sum_cons,ih]
     | swap x y l=>simp only[List.sum_cons];omega
     | trans _ _ h1 h2=>exact h1.trans h2
    exact h (hsz.map _)
   rw[e2]
   exact hv.2
  obtain⟨hsob,hle⟩:=(hr.sober niches).mp hin
  have hrl:=hr.sizx
  obtain⟨qs,hqs,hqp⟩:∃ qs:Trs,qs.Perm ps∧qs.Pairwise ple:=sorted_ex ps
  refine⟨r,cmb_mem _ _ r (by omega) hr.rowp fun x hx=>⟨?_,by have:=hle x hx;omega⟩,qs,hr.perm hqs.symm,hqp,?_⟩
  ·obtain⟨i,hi,e⟩:=List.getElem_of_mem hx
   have:=hsob i x (by rw[List.getElem?_eq_getElem hi,e])
   omega
  ·rw[← e]
   refine nmG_congr (fun m hm=>?_) 0
   exact sorted_unique (offs_perm hqs m) (offs_sorted hqp m) (vld_sorted (a m hm).2).1
 let f:Nat→List Int:=fun N=>if h:(N:Int)<howM niches ns ms then Classical.choose (hrow N h)else []
 have hf:∀ N:Nat,(N:Int)<howM niches ns ms→f N∈cmb niches.toNat ns.sum.toNat∧∃ ps,Lst (f N) ps∧ps.Pairwise ple∧nmG niches ns ps ms=(N:Int):=fun N h=>by
  show (if h:_ then _ else _)∈_∧_
  simp only[f,dif_pos h]
  exact Classical.choose_spec (hrow N h)
 have hlen:((List.range (howM niches ns ms).toNat).map f).length≤(cmb niches.toNat ns.sum.toNat).length:=by
  refine List.Nodup.length_le_of_subset ?_ fun r hr=>?_
  ·refine List.pairwise_map.mpr ?_
   refine(List.nodup_range).imp_of_mem fun {a b} ha hb hab e=>hab ?_
   have ha':((a:Nat):Int)<howM niches ns ms:=by have:=List.mem_range.mp ha;omega
   have hb':((b:Nat):Int)<howM niches ns ms:=by have:=List.mem_range.mp hb;omega
   obtain⟨_,ps,l1,s1,n1⟩:=hf a ha'
   obtain⟨_,qs,l2,s2,n2⟩:=hf b hb'
   rw[e]at l1
   have:ps=qs:=ple_uniq (l1.uniq l2) s1 s2
   rw[this]at n1
   omega
  ·obtain⟨N,hN,rfl⟩:=List.mem_map.mp hr
   exact(hf N (by have:=List.mem_range.mp hN;omega)).1
 rw[List.length_map,List.length_range]at hlen
 have h60:ns.sum.toNat≤60:=by have:=hz.sum;omega
 have hc:((cmb niches.toNat ns.sum.toNat).length:Int)<10 ^ 55:=by
  by_cases c:ns.sum.toNat≤niches.toNat
  ·rw[cmb_len _ _ c]
   have h2:=cb_mono ns.sum.toNat (show niches.toNat - ns.sum.toNat≤200 - ns.sum.toNat by omega)
   have h3:=of_decide_eq_true (List.all_eq_true.mp cb_few ns.sum.toNat (List.mem_range.mpr (by omega)))
   rw[chW_cb]at h3
   omega
  ·rw[cmb_none _ _ (by omega)]
   decide
 omega
end CW
namespace CW
open PySem L2
noncomputable def dueS (ns:List Int):Ref:=match ns.findIdx? (fun p=>decide (p<1))with
 | some i=>.sizes (i:Nat)
 | none=>if 60<ns.sum then .many else .ok
theorem dueS_bad {ns:List Int} {i:Nat} {p:Int} (h:ns[i]?=some p) (hp:p<1) (hb:∀ q∈ns.take i,1≤q):dueS ns=.sizes (i:Nat):=by
 obtain⟨hi,e⟩:=List.getElem?_eq_some_iff.mp h
 have:ns.findIdx? (fun p=>decide (p<1))=some i:=List.findIdx?_eq_some_iff_getElem.mpr ⟨hi,by rw[e];simpa using hp,fun j hj=>by
  have:ns[j]∈ns.take i:=List.mem_take_iff_getElem.mpr ⟨j,by omega,rfl⟩
  have:=hb _ this
  simp only[decide_eq_true_eq]
  omega⟩
 unfold dueS
 rw[this]
theorem dueS_good {ns:List Int} (h:∀ p∈ns,1≤p):dueS ns=if 60<ns.sum then .many else .ok:=by
 have:ns.findIdx? (fun p=>decide (p<1))=none:=List.findIdx?_eq_none_iff.mpr fun p hp=>by
  have:=h p hp
  simp only[decide_eq_false_iff_not]
  omega
 unfold dueS
 rw[this]
theorem dueS_ok {ns:List Int} (h:dueS ns=.ok) (hl:ns.length≤60):SzOk ns:=by
 have hp:∀ p∈ns,1≤p:=by
  unfold dueS at h
  split at h
  ·cases h
  ·rename_i e
   intro p hp
   have:=List.findIdx?_eq_none_iff.mp e p hp
   simp only[decide_eq_false_iff_not]at this
   omega
 have hs:ns.sum≤60:=by
  rw[dueS_good hp]at h
  split at h
  ·cases h
  ·omega
 exact⟨hp,hs,hl,few18 hp (by omega)⟩
noncomputable def badN (n:Int):Prop:=n<0∨200<n
noncomputable instance (n:Int):Decidable (badN n):=by unfold badN;exact inferInstance
noncomputable def dueH (n:Int) (ns:List Int):Ref:=if badN n then .number else dueS ns
noncomputable def dueRn (n:Int) (ns:List Int):Ref:=match dueH n ns with
 | .ok=>.number
 | r=>r
theorem dueRn_no (n:Int) (ns:List Int):dueRn n ns≠.ok:=by
 unfold dueRn
 split
 ·exact fun z=>by cases z
 ·rename_i h;exact h
theorem dueRn_ok {n:Int} {ns:List Int} (h:dueH n ns=.ok):dueRn n ns=.number:=by unfold dueRn;rw[h]
theorem dueRn_bad {n:Int} {ns:List Int} (h:dueH n ns≠.ok):dueRn n ns=dueH n ns:=by
 unfold dueRn
 split
 ·rename_i e;exact absurd e h
 ·rfl
open Classical in
noncomputable def dueNm (n:Int) (row:List Int):Ref:=match dueRow row with
 | .ok=>if badN n∨¬ (Sob row∧∀ x∈row,x≤n)then .number else .ok
 | r=>r
theorem dueNm_bad {n:Int} {row:List Int} (h:dueRow row≠.ok):dueNm n row=dueRow row:=by
 unfold dueNm
 split
 ·rename_i e;exact absurd e h
 ·rfl
theorem dueNm_num {n:Int} {row:List Int} (h:dueRow row=.ok) (b:badN n∨¬ (Sob row∧∀ x∈row,x≤n)):dueNm n row=.number:=by
 unfold dueNm;rw[h];simp only;rw[if_pos b]
theorem dueNm_ok {n:Int} {row:List Int} (h:dueRow row=.ok) (b:¬ badN n) (c:Sob row∧∀ x∈row,x≤n):dueNm n row=.ok:=by
 unfold dueNm;rw[h];simp only;rw[if_neg (fun z=>z.elim b fun y=>y c)]
section
variable {P:Program} {w:World} {K:PySem.W.Frag} {mg:Str→Option Value} {base:Heap}
noncomputable def spLookNX (X:Errs K mg):Sp:=fun vs H Q E=>∃ n:Int,vs=[.int n]∧(¬ badN n→Q .non H)∧(badN n→Rf0 E X.number "BadNumber" H)
noncomputable def spLookSX (X:Errs K mg):Sp:=fun vs H Q E=>∃ (a:Addr) (ns:List Int),vs=[.ref a]∧H a=some (.lst (ns.map V.int))∧ns.length≤60∧(dueS ns=.ok→∀ H',Same H H'→Q .non H')∧(dueS ns≠.ok→∀ H',Same H H'→(dueS ns).go X E H')
noncomputable def spHowX (X:Errs K mg):Sp:=fun vs H Q E=>∃ (n:Int) (a:Addr) (ns:List Int),vs=[.int n,.ref a]∧H a=some (.lst (ns.map V.int))∧ns.length≤60∧(dueH n ns=.ok→∀ ms H',Dst ns ms→Same H H'→Q (.int (howM n ns ms)) H')∧(dueH n ns≠.ok→∀ H',Same H H'→(dueH n ns).go X E H')
noncomputable def spRowNumX (X:Errs K mg):Sp:=fun vs H Q E=>∃ (n:Int) (a:Addr) (ns:List Int) (k:Int),vs=[.int n,.ref a,.int k]∧H a=some (.lst (ns.map V.int))∧ns.length≤60∧(k<0∨10 ^ 55≤k)∧∀ H',Same H H'→(dueRn n ns).go X E H'
noncomputable def spNumX (X:Errs K mg):Sp:=fun vs H Q E=>∃ (n:Int) (a:Addr) (row:List Int),vs=[.int n,.ref a]∧H a=some (.lst (row.map V.int))∧row.length≤200∧(dueNm n row=.ok→∀ v H',Same H H'→Q v H')∧(dueNm n row≠.ok→∀ H',Same H H'→(dueNm n row).go X E H')
theorem monoHowX {X:Errs K mg}:MonoSp (spHowX X):=by
 rintro vs H Q Q' E E' hQ hE ⟨n,a,ns,e,h1,h2,h3,h4⟩
 exact⟨n,a,ns,e,h1,h2,fun z ms H' d g=>hQ _ _ (h3 z ms H' d g),fun z H' g=>go_mono hE (h4 z H' g)⟩
theorem monoRowNumX {X:Errs K mg}:MonoSp (spRowNumX X):=by
 rintro vs H Q Q' E E' hQ hE ⟨n,a,ns,k,e,h1,h2,h3,h4⟩
 exact⟨n,a,ns,k,e,h1,h2,h3,fun H' g=>go_mono hE (h4 H' g)⟩
theorem monoNumX {X:Errs K mg}:MonoSp (spNumX X):=by
 rintro vs H Q Q' E E' hQ hE ⟨n,a,row,e,h1,h2,h3,h4⟩
 exact⟨n,a,row,e,h1,h2,fun z v H' g=>hQ _ _ (h3 z v H' g),fun z H' g=>go_mono hE (h4 z H' g)⟩
section
variable {X:Errs K mg} {H:Hp} {Q:VK} {lh t0:Addr}
theorem how_why {n:Int} {ns:List Int} (elh:H lh=some (.lst (ns.map V.int))) (hl:ns.length≤60) (et0:H t0=some (.tup [.str "",.int 0])) (kk:∀ tv H3,Same H H3→H3 tv=some (.tup [.str (dueH n ns).nm,.int (dueH n ns).at])→Q (.ref tv) H3) :
 spHowX X [.int n,.ref lh] H (fun _ H2=>Q (.ref t0) H2) (WhyE X Q) :=
 ⟨n,lh,ns,rfl,elh,hl,fun hd ms H' _ g=>kk t0 H' g (by rw[hd];exact g _ _ et0),fun hd H' g=>go_why hd fun tv H3 g3 e=>kk tv H3 (g.trans g3) e⟩
theorem rown_why {n k:Int} {ns:List Int} (elh:H lh=some (.lst (ns.map V.int))) (hl:ns.length≤60) (hk:k<0∨10 ^ 55≤k) (kk:∀ tv H3,Same H H3→H3 tv=some (.tup [.str (dueRn n ns).nm,.int (dueRn n ns).at])→Q (.ref tv) H3) :
 spRowNumX X [.int n,.ref lh,.int k] H (fun _ H2=>Q (.ref t0) H2) (WhyE X Q) :=
 ⟨n,lh,ns,k,rfl,elh,hl,hk,fun H' g=>go_why (dueRn_no n ns) fun tv H3 g3 e=>kk tv H3 (g.trans g3) e⟩
theorem numx_why {n:Int} {row:List Int} (elh:H lh=some (.lst (row.map V.int))) (hl:row.length≤200) (et0:H t0=some (.tup [.str "",.int 0])) (kk:∀ tv H3,Same H H3→H3 tv=some (.tup [.str (dueNm n row).nm,.int (dueNm n row).at])→Q (.ref tv) H3) :
 spNumX X [.int n,.ref lh] H (fun _ H2=>Q (.ref t0) H2) (WhyE X Q) :=
 ⟨n,lh,row,rfl,elh,hl,fun hd v H' g=>kk t0 H' g (by rw[hd];exact g _ _ et0),fun hd H' g=>go_why hd fun tv H3 g3 e=>kk tv H3 (g.trans g3) e⟩
end
inductive spLawDueH (vs:List V) (H:Hp) (Q:VK) (E_:XK):Prop
 | mk (n:Int) (a:Addr) (ns:List Int) (h0_:vs=[.int n,.ref a]) (h1_:H a=some (.lst (ns.map V.int))) (h2_:ns.length≤60) (h3_:∀ (t:Addr) (H':Hp),H t=none→Same H H'→H' t=some (.tup [.str (dueH n ns).nm,.int (dueH n ns).at])→Q (.ref t) H'):spLawDueH vs H Q E_
end
end CW
namespace CW
open PySem L2
noncomputable def top (i:Nat):Stmt:=PySem.Challenge.pw_creelway_k39_counted_refused_in_order.main.body.getD i (.Pass ⟨0,0,0,0⟩)
section
variable {P:Program} {w:World} {K:PySem.W.Frag} {mg:Str→Option Value} {base:Heap}
noncomputable abbrev s_CreelError_init:Stmt:=inClass (top 1) 0
theorem sc_CreelError_init:FnScope ["self","why","word"] ["self","why","word"] (defScope s_CreelError_init):=⟨rfl,rfl,rfl,by decide +kernel,rfl,by decide +kernel,by decide +kernel⟩
theorem ok_CreelError_init {f:Addr} {fd:FuncData} (F:FunD K "__init__" "CreelError.__init__" s_CreelError_init f fd) (mV:mg "ValueError"=none):FnOk P w K mg base CX0 1 f fd ["self","why","word"] (spXB K):=by
 refine F.ok sc_CreelError_init (fun vs H Q E h=>?_) (fun cdv A outer s H vs Q E hr h=>?_)
 ·obtain⟨e,C,i,a,b,rfl,_⟩:=h
  rfl
 ·obtain⟨e,C,i,a,b,rfl,he,hC,hS,k⟩:=h
  refine⟨_,(pss_cons (ps_expr (pe_vinit rfl mV (pa_cons (pv 0) (pa_cons (pv 1) pa_nil)))) (pss_one (ps_xat (pv 0) (pv 2) rfl))),?_⟩
  exact⟨_,rfl,_,rfl,e,C,i,none,_,rfl,by show 1≤sizeLine;decide,he,hC,_,rfl,_,rfl,e,C,rfl,he,hS,fun dx h1 h2=>k dx h1 h2⟩
noncomputable abbrev s_TooMany_init:Stmt:=inClass (top 2) 0
theorem sc_TooMany_init:FnScope ["self","why"] ["self","why"] (defScope s_TooMany_init):=⟨rfl,rfl,rfl,by decide +kernel,rfl,by decide +kernel,by decide +kernel⟩
theorem ok_TooMany_init {f C D fB:Addr} {i:Option Value} {fd fdB:FuncData} (F:FunD K "__init__" "TooMany.__init__" s_TooMany_init f fd) (OI:OInit K D fB) (FB:FnOk P w K mg base CX0 1 fB fdB ["self","why","word"] (spXB K)) (bB:Binds K fdB ["self","why","word"] []) (mD:mg "CreelError"=some (.ref D)) (hC:XCls K C i) (hS:XStore K C "word"):FnOk P w K mg base CX0 2 f fd ["self","why"] (spX0 "TooMany" C):=by
 refine F.ok sc_TooMany_init (fun vs H Q E h=>?_) (fun cdv A outer s H vs Q E hr h=>?_)
 ·obtain⟨e,a,rfl,_⟩:=h
  rfl
 ·obtain⟨e,a,rfl,he,k⟩:=h
  refine⟨_,(pss_one (ps_expr (pe_oinit OI FB hr bB pass0 rfl mD (pa_cons (pv 0) (pa_cons (pv 1) (pa_cons pe_str pa_nil)))))),?_⟩
  exact⟨_,rfl,_,rfl,e,C,i,a,_,rfl,he,hC,hS,fun dx h1 h2=>k dx h1 h2⟩
noncomputable abbrev s_BadRow_init:Stmt:=inClass (top 3) 0
theorem sc_BadRow_init:FnScope ["self","at"] ["self","at"] (defScope s_BadRow_init):=⟨rfl,rfl,rfl,by decide +kernel,rfl,by decide +kernel,by decide +kernel⟩
theorem ok_BadRow_init {f C D fB:Addr} {i:Option Value} {fd fdB:FuncData} (F:Fun K "__init__" "BadRow.__init__" s_BadRow_init f fd) (OI:OInit K D fB) (FB:FnOk P w K mg base CX0 1 fB fdB ["self","why","word"] (spXB K)) (bB:Binds K fdB ["self","why","word"] []) (mD:mg "CreelError"=some (.ref D)) (hC:XCls K C i) (hS:XStore K C "word") (hA:XStore K C "at"):FnOk P w K mg base CX0 2 f fd ["self","at"] (spXI "BadRow" C):=by
 refine F.ok sc_BadRow_init (fun vs H Q E h=>?_) (fun cdv A outer s H vs Q E hr h=>?_)
 ·obtain⟨e,i,rfl,_⟩:=h
  rfl
 ·obtain⟨e,n,rfl,hi,he,k⟩:=h
  refine⟨_,(pss_cons (ps_expr (pe_oinit OI FB hr bB pass0 rfl mD (pa_cons (pv 0) (pa_cons (pe_fstr (fps_cons (fp_str (by decide)) (fps_cons (fp_int (pv 1)) (fps_cons (fp_str (by decide)) fps_nil)))) (pa_cons pe_str pa_nil)))))
   (pss_one (ps_xat2 (pv 0) (pv 1) rfl))),?_⟩
  refine⟨_,rfl,_,rfl,n,rfl,hi.1,hi.2,fun z=>⟨e,C,i,_,_,rfl,he,hC,hS,fun dx h1 h2=>⟨_,rfl,_,rfl,e,C,dx,_,rfl,upd_same,(by rw[upd_ne h2];exact upd_same),by show 1≤1000;decide,hA,?_⟩⟩⟩
  show Q .non _
  rw[upd_again h2]
  exact k dx h1 h2
noncomputable abbrev s_BadSizes_init:Stmt:=inClass (top 6) 0
theorem sc_BadSizes_init:FnScope ["self","at"] ["self","at"] (defScope s_BadSizes_init):=⟨rfl,rfl,rfl,by decide +kernel,rfl,by decide +kernel,by decide +kernel⟩
theorem ok_BadSizes_init {f C D fB:Addr} {i:Option Value} {fd fdB:FuncData} (F:Fun K "__init__" "BadSizes.__init__" s_BadSizes_init f fd) (OI:OInit K D fB) (FB:FnOk P w K mg base CX0 1 fB fdB ["self","why","word"] (spXB K)) (bB:Binds K fdB ["self","why","word"] []) (mD:mg "CreelError"=some (.ref D)) (hC:XCls K C i) (hS:XStore K C "word") (hA:XStore K C "at"):FnOk P w K mg base CX0 2 f fd ["self","at"] (spXI "BadSizes" C):=by
 refine F.ok sc_BadSizes_init (fun vs H Q E h=>?_) (fun cdv A outer s H vs Q E hr h=>?_)
 ·obtain⟨e,i,rfl,_⟩:=h
  rfl
 ·obtain⟨e,n,rfl,hi,he,k⟩:=h
  refine⟨_,(pss_cons (ps_expr (pe_oinit OI FB hr bB pass0 rfl mD (pa_cons (pv 0) (pa_cons (pe_fstr (fps_cons (fp_str (by decide)) (fps_cons (fp_int (pv 1)) (fps_cons (fp_str (by decide)) fps_nil)))) (pa_cons pe_str pa_nil)))))
   (pss_one (ps_xat2 (pv 0) (pv 1) rfl))),?_⟩
  refine⟨_,rfl,_,rfl,n,rfl,hi.1,hi.2,fun z=>⟨e,C,i,_,_,rfl,he,hC,hS,fun dx h1 h2=>⟨_,rfl,_,rfl,e,C,dx,_,rfl,upd_same,(by rw[upd_ne h2];exact upd_same),by show 1≤1000;decide,hA,?_⟩⟩⟩
  show Q .non _
  rw[upd_again h2]
  exact k dx h1 h2
noncomputable abbrev s_BadNumber_init:Stmt:=inClass (top 7) 0
theorem sc_BadNumber_init:FnScope ["self","why"] ["self","why"] (defScope s_BadNumber_init):=⟨rfl,rfl,rfl,by decide +kernel,rfl,by decide +kernel,by decide +kernel⟩
theorem ok_BadNumber_init {f C D fB:Addr} {i:Option Value} {fd fdB:FuncData} (F:FunD K "__init__" "BadNumber.__init__" s_BadNumber_init f fd) (OI:OInit K D fB) (FB:FnOk P w K mg base CX0 1 fB fdB ["self","why","word"] (spXB K)) (bB:Binds K fdB ["self","why","word"] []) (mD:mg "CreelError"=some (.ref D)) (hC:XCls K C i) (hS:XStore K C "word"):FnOk P w K mg base CX0 2 f fd ["self","why"] (spX0 "BadNumber" C):=by
 refine F.ok sc_BadNumber_init (fun vs H Q E h=>?_) (fun cdv A outer s H vs Q E hr h=>?_)
 ·obtain⟨e,a,rfl,_⟩:=h
  rfl
 ·obtain⟨e,a,rfl,he,k⟩:=h
  refine⟨_,(pss_one (ps_expr (pe_oinit OI FB hr bB pass0 rfl mD (pa_cons (pv 0) (pa_cons (pv 1) (pa_cons pe_str pa_nil)))))),?_⟩
  exact⟨_,rfl,_,rfl,e,C,i,a,_,rfl,he,hC,hS,fun dx h1 h2=>k dx h1 h2⟩
noncomputable abbrev s_look_row:Stmt:=top 12
theorem sc_look_row:FnScope ["row","at"] ["row"] (defScope s_look_row):=⟨rfl,rfl,rfl,by decide +kernel,rfl,by decide +kernel,by decide +kernel⟩
theorem ok_lookX {f:Addr} {fd:FuncData} {tC:Tok} (F:Fun K "look_row" "look_row" s_look_row f fd) (B:Bt mg) (C:Cn mg tC) (X:Errs K mg) (RM:RaisesAs P w K mg base "TooMany" X.many ["self","why"] (spX0 "TooMany" X.many)) (RR:RaisesAs P w K mg base "BadRow" X.row ["self","at"] (spXI "BadRow" X.row)):FnOk P w K mg base (CXR P w) 4 f fd ["row"] (spLookX X):=by
 refine F.okX sc_look_row (fun vs H Q E h=>?_) (fun cdv A outer s H vs Q E hfr hr h=>?_)
 ·obtain⟨a,r,rfl,_⟩:=h
  rfl
 ·obtain⟨a,row,rfl,ha,hlen,k1,k2⟩:=h
  refine⟨_,(pss_cons (ps_if (pt_cmpR op_gt (pe_callB call_len_seq (by rfl) B.len PySem.boot_len (pa_cons (pv 0) pa_nil)) (pe_glob (v:=.int 60) rfl C.MOST_STONES ⟨_,rfl⟩) (nomark _))
 (pss_one (ps_raiseR (raiseR hfr) RM rfl rfl hr rfl (pa_cons (pe_fstr (fps_cons (fp_str (by decide)) (fps_cons (fp_int (pe_glob (v:=.int 60) rfl C.MOST_STONES ⟨_,rfl⟩)) (fps_cons (fp_str (by decide)) fps_nil)))) pa_nil)))
 pss_nil)
 (pss_one (ps_for passF rfl (pi_range2 rfl B.range (pa_cons pe_int (pa_cons (pe_callB call_len_seq (by rfl) B.len PySem.boot_len (pa_cons (pv 0) pa_nil)) pa_nil))) (pg_name (i:=1) sc_look_row.nd rfl (Or.inl rfl))
 (pss_one (ps_if (pt_cmpR op_le (pe_ix ix_list (pv 0) (pv 1) (fun _ _=>rfl)) (pe_ix ix_list (pv 0) (pe_op op_sub (pv 1) pe_int) (fun _ _=>rfl)) (nomark _))
 (pss_one (ps_raiseR (raiseR hfr) RR rfl rfl hr rfl (pa_cons (pv 1) pa_nil)))
 pss_nil))))),?_⟩
  by_cases h60:60<row.length
  ·refine⟨_,rfl,a,_,rfl,.inl (SqL.of ha),_,_,rfl,rfl,_,rfl,?_⟩
   exact iteDT (by rw[List.length_map];omega) ⟨60,rfl,by decide,by decide,fun z=>rd0 (k1 h60)⟩
  ·obtain⟨k2,k3⟩:=k2 (by omega)
   refine⟨_,rfl,a,_,rfl,.inl (SqL.of ha),_,_,rfl,rfl,_,rfl,iteDF (by rw[List.length_map];omega) ?_⟩
   refine⟨_,rfl,a,_,rfl,.inl (SqL.of ha),_,_,rfl,⟨by decide,by decide,by omega,by rw[List.length_map];omega⟩,for_range (lo:=1) (fun i σ H2=>(∃ v,σ=[some (.ref a),v]∧H2=H)∧∀ j,1≤j→j<1+i→row.getD (j - 1) 0<row.getD j 0) ⟨⟨none,rfl,rfl⟩,fun j h1 h2=>by omega⟩ ?_ ?_⟩
   ·rintro i σ H2 hi ⟨⟨v,rfl,rfl⟩,hg⟩
    rw[List.length_map]at hi
    obtain⟨x,_,hx,ex⟩:=at_mem (ns:=row) (i:=1+(i:Int)) (by omega) (by omega)
    obtain⟨y,_,hy,ey⟩:=at_mem (ns:=row) (i:=1+(i:Int) - 1) (by omega) (by omega)
    refine⟨_,rfl,_,rfl,a,_,_,_,rfl,rfl,SqL.of ha,ex,_,rfl,_,rfl,_,_,rfl,rfl,a,_,_,_,rfl,rfl,SqL.of ha,ey,_,_,rfl,rfl,_,rfl,?_⟩
    have gx:row.getD (1+i) 0=x:=by rw[List.getD_eq_getElem?_getD,show 1+i=(1+(i:Int)).toNat from by omega,hx];rfl
    have gy:row.getD (1+i - 1) 0=y:=by rw[List.getD_eq_getElem?_getD,show 1+i - 1=(1+(i:Int) - 1).toNat from by omega,hy];rfl
    by_cases hb:x≤y
    ·have:=k3 (1+i) ⟨by omega,by omega,by rw[gx,gy];exact hb,fun j h1 h2=>hg j h1 h2⟩
     rw[show ((1+i:Nat):Int)=1+(i:Int) from by omega]at this
     exact iteDT hb ⟨_,rfl,rdI (smallI (by omega) (by omega)) this⟩
    ·refine iteDF hb ⟨⟨_,rfl,rfl⟩,fun j h1 h2=>?_⟩
     by_cases hj:j<1+i
     ·exact hg j h1 hj
     ·obtain rfl:j=1+i:=by omega
      rw[gx,gy]
      omega
   ·rintro σ H2 ⟨⟨v,rfl,rfl⟩,hg⟩
    rw[List.length_map]at hg
    exact k2 fun j h1 h2=>hg j h1 (by omega)
theorem ok_look {f:Addr} {fd:FuncData} {tC:Tok} (F:Fun K "look_row" "look_row" s_look_row f fd) (B:Bt mg) (C:Cn mg tC):FnOk P w K mg base CX0 1 f fd ["row"] spLook:=by
 refine F.ok sc_look_row (fun vs H Q E h=>?_) (fun cdv A outer s H vs Q E hr h=>?_)
 ·obtain⟨a,r,rfl,_⟩:=h
  rfl
 ·obtain⟨a,row,rfl,ha,hrow,hlen,k⟩:=h
  refine⟨_,(pss_cons (ps_if (pt_cmpR op_gt (pe_callB call_len_seq (by rfl) B.len PySem.boot_len (pa_cons (pv 0) pa_nil)) (pe_glob (v:=.int 60) rfl C.MOST_STONES ⟨_,rfl⟩) (nomark _))
 (pss_one ps_never)
 pss_nil)
 (pss_one (ps_for PassesOwn.never rfl (pi_range2 rfl B.range (pa_cons pe_int (pa_cons (pe_callB call_len_seq (by rfl) B.len PySem.boot_len (pa_cons (pv 0) pa_nil)) pa_nil))) (pg_name (i:=1) sc_look_row.nd rfl (Or.inl rfl))
 (pss_one (ps_if (pt_cmpR op_le (pe_ix ix_list (pv 0) (pv 1) (fun _ _=>rfl)) (pe_ix ix_list (pv 0) (pe_op op_sub (pv 1) pe_int) (fun _ _=>rfl)) (nomark _))
 (pss_one ps_never)
 pss_nil))))),?_⟩
  refine⟨_,rfl,a,_,rfl,.inl (SqL.of ha),_,_,rfl,rfl,_,rfl,iteDF (by rw[List.length_map];omega) ?_⟩
  refine⟨_,rfl,a,_,rfl,.inl (SqL.of ha),_,_,rfl,⟨by decide,by decide,by omega,by rw[List.length_map];omega⟩,for_range (lo:=1) (fun i σ H2=>∃ v,σ=[some (.ref a),v]∧H2=H) ⟨none,rfl,rfl⟩ ?_ ?_⟩
  ·rintro i σ H2 hi ⟨v,rfl,rfl⟩
   rw[List.length_map]at hi
   obtain⟨x,_,hx,ex⟩:=at_mem (ns:=row) (i:=1+(i:Int)) (by omega) (by omega)
   obtain⟨y,_,hy,ey⟩:=at_mem (ns:=row) (i:=1+(i:Int) - 1) (by omega) (by omega)
   refine⟨_,rfl,_,rfl,a,_,_,_,rfl,rfl,SqL.of ha,ex,_,rfl,_,rfl,_,_,rfl,rfl,a,_,_,_,rfl,rfl,SqL.of ha,ey,_,_,rfl,rfl,_,rfl,iteDF ?_ ⟨_,rfl,rfl⟩⟩
   have:=hrow.lt (show (1+(i:Int) - 1).toNat<(1+(i:Int)).toNat by omega) hy hx
   omega
  ·rintro σ H2 ⟨v,rfl,rfl⟩
   exact k
noncomputable abbrev s_crowd:Stmt:=top 16
theorem sc_crowd:FnScope ["offsets","size"] ["offsets","size"] (defScope s_crowd):=⟨rfl,rfl,rfl,by decide +kernel,rfl,by decide +kernel,by decide +kernel⟩
theorem ok_crowd {f:Addr} {fd:FuncData} (F:Fun K "crowd" "crowd" s_crowd f fd) (B:Bt mg):FnOk P w K mg base CX0 1 f fd ["offsets","size"] spCrowdS:=by
 refine F.ok sc_crowd (fun vs H Q E h=>?_) (fun cdv A outer s H vs Q E hr h=>?_)
 ·obtain⟨d,r,j,rfl,_⟩:=h
  rfl
 ·obtain⟨d,gs,j,rfl,dg,hl,hgn,k⟩:=h
  refine⟨_,(pss_one (ps_ret (pe_op op_mul pe_int (pe_callB (call_sum rfl) (by rfl) B.sum boot_sum (pa_cons (pe_thaw (pe_comp ["other","some"] ["size"] [1] rfl (.of (show compOk (defScope s_crowd) _ ["offsets","size"] [1] ["size"]=true by decide +kernel)) (pi_items (pv 0)) (fun _ _ _=>(pg_tupK (n:=2) K rfl rfl (pgs_cons (pg_name (i:=0) (show (["other","some","size"]:List Str).Nodup by decide +kernel) rfl (Or.inl rfl)) (pgs_cons (pg_name (i:=1) (show (["other","some","size"]:List Str).Nodup by decide +kernel) rfl (Or.inl rfl)) pgs_nil)))) (kg_tup (kgs_cons (by decide) (kgs_cons (by decide) kgs_nil))) (fun _ _ _=>pif_nil) (fun _ _ _=>(pe_op op_mul (pe_callB (call_min2 rfl) (by rfl) B.min boot_min (pa_cons (pv 2) (pa_cons (pv 0) pa_nil))) (pe_callB (call_len_seqK K rfl) (by rfl) B.len PySem.boot_len (pa_cons (pv 1) pa_nil)))))) pa_nil))))),?_⟩
  refine⟨d,kvG gs,dg.at_,_,rfl,d,kvG gs,rfl,dg.at_,fun od=>?_⟩
  have gd:SameD d H (upd H d (.frz od (.dK (kvG gs)))):=fun b o n e=>by rw[upd_ne n];exact e
  have ed:(upd H d (.frz od (.dK (kvG gs)))) d=some (.frz od (.dK (kvG gs))):=upd_same
  have hlst:∀ g∈gs,(upd H d (.frz od (.dK (kvG gs)))) g.2.1=some (.lst (g.2.2.map V.int)):=fun g hg=>gd _ _ (ne_of (dg.lst g hg) dg.at_ (by intro z;cases z)) (dg.lst g hg)
  generalize upd H d (.frz od (.dK (kvG gs)))=H1 at gd ed hlst ⊢
  have hkl:(kvG gs).length=gs.length:=by simp[kvG]
  refine comp_items (d:=d) (od:=od) (kvs:=kvG gs) (fun i ys H2=>Same H1 H2∧ys=((gs.take i).map (fun g:Grp=>lesJ j g.1 * (g.2.2.length:Int))).map V.int) ⟨Same.refl _,rfl⟩ ?_ ?_ ?_
  ·rintro i ys H2 hi ⟨g2,rfl⟩
   exact⟨g2 _ _ ed,by simp only[List.length_map,List.length_take];exact line_of (by omega)⟩
  ·rintro i ky x ys H2 t hx ⟨g2,rfl⟩ ht
   obtain⟨g,hg,hgx⟩:∃ g,gs[i]?=some g∧((Sum.inl g.1:Key),V.ref g.2.1)=(ky,x):=by
    unfold kvG at hx
    rw[List.getElem?_map]at hx
    obtain⟨g,h1,h2⟩:=Option.map_eq_some_iff.mp hx
    exact⟨g,h1,h2⟩
   cases hgx
   have hgm:=List.mem_of_getElem? hg
   have g3:=g2.trans (Same.upd (o:=.tup [kV (Sum.inl g.1),V.ref g.2.1]) ht)
   refine⟨t,_,rfl,SqT.of upd_same,rfl,_,_,rfl,_,_,rfl,rfl,_,rfl,_,rfl,_,_,rfl,_,rfl,g.2.1,_,rfl,.inl (SqL.of (g3 _ _ (hlst g hgm))),_,_,rfl,rfl,.inr ⟨?_,?_⟩,g3,?_⟩
   ·have:=hgn g hgm;rw[List.length_map];omega
   ·have:=hgn g hgm;rw[List.length_map];omega
   ·rw[List.take_succ,hg]
    simp[lesJ]
  ·rintro ys H2 ⟨g2,rfl⟩ D hD
   have hnD:D≠d:=fun z=>by rw[z,g2 _ _ ed]at hD;cases hD
   refine⟨od,by rw[upd_ne (Ne.symm hnD)];exact g2 _ _ ed,D,gs.map (fun g:Grp=>lesJ j g.1 * (g.2.2.length:Int)),rfl,by rw[upd_ne hnD,upd_same,hkl,List.take_length],_,_,rfl,rfl,.inl ⟨by decide,by decide⟩,k _ fun b o e=>?_⟩
   by_cases hb:b=d
   ·subst hb
    rw[upd_same,← dg.at_]
    exact e
   ·rw[upd_ne hb]
    exact(g2.trans (Same.upd hD)) _ _ (gd b o hb e)
noncomputable abbrev s_crowds:Stmt:=top 17
theorem sc_crowds:FnScope ["offsets","found","longer","total","below","size"] ["offsets"] (defScope s_crowds):=⟨rfl,rfl,rfl,by decide +kernel,rfl,by decide +kernel,by decide +kernel⟩
inductive I1_crowds (H:Hp) (d:Addr) (e:Addr) (l:Addr) (gs:List Grp) (ms:List Int) (i:Nat) (σ:St) (H6:Hp):Prop
 | mk (kvs:List (Key×V)) (b:Int) (v:Option V) (k0_:σ=[some (.ref d),some (.ref e),some (.int (lng b gs)),some (.int (2 * wgt (lesJ b) gs)),some (.int b),v]) (k1_:Same H H6) (k2_:H6 l=some (.lst (ms.map V.int))) (k3_:H6 e=some (.dK kvs)) (k4_:kvs.length≤i) (k5_:(∀ g∈gs,b<g.1→g.1∈ms.drop i)) (k6_:(∀ m∈ms.drop i,b<m)) (k7_:∀ m∈ms.take i,valV kvs (Sum.inl m:Key)=some (.int (2 * wgt (lesJ m) gs))):I1_crowds H d e l gs ms i σ H6
theorem ok_crowds {f:Addr} {fd:FuncData} (F:Fun K "crowds" "crowds" s_crowds f fd) (B:Bt mg):FnOk P w K mg base CX0 1 f fd ["offsets"] spCrowdsV:=by
 refine F.ok sc_crowds (fun vs H Q E h=>?_) (fun cdv A outer s H vs Q E hr h=>?_)
 ·obtain⟨d,gs,rfl,_⟩:=h
  rfl
 ·obtain⟨d,gs,rfl,dg,gd0,hl,hgn,k⟩:=h
  have hu1:=hu_of hr
  refine⟨_,(pss_cons (ps_set (i:=1) sc_crowds.nd rfl (Or.inl rfl) pe_dnewK)
 (pss_cons (ps_set (i:=2) sc_crowds.nd rfl (Or.inl rfl) (pe_callB (call_sum rfl) (by rfl) B.sum boot_sum (pa_cons (pe_thaw (pe_comp ["some"] [] [] rfl (.of (show compOk (defScope s_crowds) _ ["offsets","found","longer","total","below","size"] [] []=true by decide +kernel)) (pi_values (pv 0)) (fun _ _ _=>(pg_name (i:=0) (show (["some"]:List Str).Nodup by decide +kernel) rfl (Or.inl rfl))) (kg_name (by decide)) (fun _ _ _=>pif_nil) (fun _ _ _=>(pe_callB (call_len_seqK K rfl) (by rfl) B.len PySem.boot_len (pa_cons (pv 0) pa_nil))))) pa_nil)))
 (pss_cons (ps_set (i:=3) sc_crowds.nd rfl (Or.inl rfl) pe_int)
 (pss_cons (ps_set (i:=4) sc_crowds.nd rfl (Or.inl rfl) pe_int)
 (pss_cons (ps_for PassesOwn.never rfl (pi_list (pe_callB (call_sortedD rfl) (by rfl) B.sorted boot_sorted (pa_cons (pv 0) pa_nil))) (pg_name (i:=5) sc_crowds.nd rfl (Or.inl rfl))
 (pss_cons (ps_aug (i:=3) sc_crowds.nd rfl (Or.inl rfl) (pe_op op_mul (pe_op op_mul pe_int (pv 2)) (pe_op op_sub (pv 5) (pv 4))) ip_add)
 (pss_cons (ps_dput hu1 (pv 1) (pv 5) (pv 3) rfl)
 (pss_cons (ps_aug (i:=2) sc_crowds.nd rfl (Or.inl rfl) (pe_callB call_len_seq (by rfl) B.len PySem.boot_len (pa_cons (pe_dget hu1 (pv 0) (pv 5) (fun _ _=>rfl)) pa_nil)) ip_sub)
 (pss_one (ps_set (i:=4) sc_crowds.nd rfl (Or.inl rfl) (pv 5)))))))
 (pss_one (ps_ret (pv 1)))))))),?_⟩
  refine fun e he=>?_
  have g1:=Same.upd (o:=.dK []) he
  have ee:(upd H e (.dK [])) e=some (.dK []):=upd_same
  have hed:e≠d:=fun z=>by rw[z,dg.at_]at he;cases he
  generalize upd H e (.dK [])=H1 at g1 ee ⊢
  have dg1:DG H1 d gs:=⟨g1 _ _ dg.at_,fun g hg=>g1 _ _ (dg.lst g hg),dg.adr,dg.key⟩
  refine⟨d,kvG gs,dg1.at_,_,rfl,d,kvG gs,rfl,dg1.at_,fun od=>?_⟩
  have gd:SameD d H1 (upd H1 d (.frz od (.dK (kvG gs)))):=fun b o n e=>by rw[upd_ne n];exact e
  have ed:(upd H1 d (.frz od (.dK (kvG gs)))) d=some (.frz od (.dK (kvG gs))):=upd_same
  have hlst:∀ g∈gs,(upd H1 d (.frz od (.dK (kvG gs)))) g.2.1=some (.lst (g.2.2.map V.int)):=fun g hg=>gd _ _ (ne_of (dg1.lst g hg) dg1.at_ (by intro z;cases z)) (dg1.lst g hg)
  generalize upd H1 d (.frz od (.dK (kvG gs)))=H2 at gd ed hlst ⊢
  have hkl:(kvG gs).length=gs.length:=by simp[kvG]
  refine comp_values (d:=d) (od:=od) (kvs:=kvG gs) (fun i ys H3=>H3=H2∧ys=((gs.take i).map (fun g:Grp=>(g.2.2.length:Int))).map V.int) ⟨rfl,rfl⟩ ?_ ?_ ?_
  ·rintro i ys H3 hi ⟨rfl,rfl⟩
   exact⟨ed,by simp only[List.length_map,List.length_take];exact line_of (by omega)⟩
  ·rintro i ky x ys H3 hx ⟨rfl,rfl⟩
   obtain⟨g,hg,hgx⟩:∃ g,gs[i]?=some g∧((Sum.inl g.1:Key),V.ref g.2.1)=(ky,x):=by
    unfold kvG at hx
    rw[List.getElem?_map]at hx
    obtain⟨g,h1,h2⟩:=Option.map_eq_some_iff.mp hx
    exact⟨g,h1,h2⟩
   cases hgx
   have hgm:=List.mem_of_getElem? hg
   refine⟨_,rfl,g.2.1,_,rfl,.inl (SqL.of (hlst g hgm)),rfl,?_⟩
   rw[List.take_succ,hg]
   simp
  ·rintro ys H3 ⟨rfl,rfl⟩ D hD
   have hnD:D≠d:=fun z=>by rw[z,ed]at hD;cases hD
   refine⟨od,by rw[upd_ne (Ne.symm hnD)];exact ed,D,gs.map (fun g:Grp=>(g.2.2.length:Int)),rfl,by rw[upd_ne hnD,upd_same,hkl,List.take_length],?_⟩
   have g4:Same H1 (upd (upd H3 D (.lst (((gs.take (kvG gs).length).map (fun g:Grp=>(g.2.2.length:Int))).map V.int))) d (.dK (kvG gs))):=fun b o q=>by
    by_cases hb:b=d
    ·subst hb
     rw[upd_same,← dg1.at_]
     exact q
    ·rw[upd_ne hb]
     exact(Same.upd hD) _ _ (gd b o hb q)
   generalize upd (upd H3 D (.lst (((gs.take (kvG gs).length).map (fun g:Grp=>(g.2.2.length:Int))).map V.int))) d (.dK (kvG gs))=H4 at g4 ⊢
   have hks:KeysI (kvG gs) (gs.map (·.1)):=by unfold KeysI kvG;simp[Function.comp]
   have dg4:DG H4 d gs:=⟨g4 _ _ dg1.at_,fun g hg=>g4 _ _ (dg1.lst g hg),dg.adr,dg.key⟩
   have ee4:=g4 _ _ ee
   have sm4:=g1.trans g4
   have hL0:=lng_zero gd0
   rw[← hL0]
   refine⟨_,rfl,d,kvG gs,gs.map (·.1),rfl,dg4.at_,hks,by rw[List.length_map];omega,fun l ms hnl hp hs=>?_⟩
   have g5:=Same.upd (o:=.lst (ms.map V.int)) hnl
   have el:(upd H4 l (.lst (ms.map V.int))) l=some (.lst (ms.map V.int)):=upd_same
   have hHl:H l=none:=sm4.free hnl
   have nle:l≠e:=fun z=>by rw[z,ee4]at hnl;cases hnl
   generalize upd H4 l (.lst (ms.map V.int))=H5 at g5 el ⊢
   have sm5:=sm4.trans g5
   have ee5:=g5 _ _ ee4
   have hml:ms.length=gs.length:=by rw[hp.length_eq,List.length_map]
   have hst:=strict_of hp hs dg.key
   refine⟨l,rfl,⟨_,SqL.of el⟩,for_list (K:=K) (a:=l) (xs:=ms.map V.int) (I1_crowds H d e l gs ms)
    ⟨[],0,none,by rw[les_zero gd0];rfl,sm5,el,ee5,Nat.le_refl _,fun g hg _=>hp.mem_iff.mpr (List.mem_map.mpr ⟨g,hg,rfl⟩),fun m hm=>by
     obtain⟨g,hg,e⟩:=List.mem_map.mp (hp.mem_iff.mp hm)
     have:=(gd0 g hg).1
     have e':g.1=m:=e
     omega,fun m hm=>by simp at hm⟩ (fun i σ H6 _ z_=>by obtain⟨_,_,_,_,_,q,_⟩:=z_;exact SqL.of q) ?_ ?_⟩
   ·rintro i x σ H6 hi ⟨kvs,b,v,rfl,sm6,el6,ee6,hkl6,hin,hab,hall⟩
    rw[List.getElem?_map]at hi
    obtain⟨m,hm,rfl⟩:=Option.map_eq_some_iff.mp hi
    have hil:i<ms.length:=(List.getElem?_eq_some_iff.mp hm).1
    obtain⟨g,hg,hgm⟩:=List.mem_map.mp (hp.mem_iff.mp (List.mem_of_getElem? hm))
    have hgm:g.1=m:=hgm
    subst hgm
    have hdr:ms.drop i=g.1 :: ms.drop (i+1):=by
     rw[List.drop_eq_getElem_cons hil]
     rw[List.getElem?_eq_getElem hil]at hm
     rw[Option.some.inj hm]
    have hbm:b<g.1:=hab g.1 (by rw[hdr];exact List.mem_cons_self)
    have hstd:(g.1 :: ms.drop (i+1)).Pairwise (·<·):=by rw[← hdr];exact hst.sublist (List.drop_sublist _ _)
    have hnx:∀ x∈gs,b<x.1→g.1≤x.1:=fun x hx hb=>by
     have:=hin x hx hb
     rw[hdr]at this
     rcases List.mem_cons.mp this with e | e
     ·omega
     ·have:=(List.pairwise_cons.mp hstd).1 _ e;omega
    have e1:=crowd_step (Int.le_of_lt hbm) hnx
    have e2:=lng_step hbm hnx dg.key hg rfl
    obtain⟨hb1,hb2⟩:=lng_le (b:=b) hgn
    have dg6:DG H6 d gs:=⟨sm6 _ _ dg.at_,fun g hg=>sm6 _ _ (dg.lst g hg),dg.adr,dg.key⟩
    have e3:2 * wgt (lesJ b) gs+2 * lng b gs * (g.1 - b)=2 * wgt (lesJ g.1) gs:=by
     rw[e1,Int.mul_add,Int.mul_assoc,Int.mul_comm (lng b gs)]
    refine⟨_,rfl,_,rfl,_,_,rfl,rfl,.inl ⟨by decide,by decide⟩,_,rfl,_,rfl,_,_,rfl,rfl,_,_,rfl,rfl,.inl ⟨by omega,by omega⟩,?_⟩
    refine⟨_,_,rfl,rfl,?_⟩
    refine⟨_,rfl,_,rfl,_,rfl,e,_,rfl,DPut.k (k:=Sum.inl g.1) ee6 (line_of (by omega)),?_⟩
    have dg7:DG (upd H6 e (.dK (putK kvs (Sum.inl g.1:Key) (V.int (2 * wgt (lesJ b) gs+2 * lng b gs * (g.1 - b)))))) d gs:=⟨by rw[upd_ne (Ne.symm hed)];exact dg6.at_,fun x hx=>by rw[upd_ne (ne_of (dg6.lst x hx) ee6 (by intro z;cases z))];exact dg6.lst x hx,dg.adr,dg.key⟩
    refine⟨_,rfl,_,rfl,_,rfl,d,_,rfl,dg7.get hg,g.2.1,_,rfl,.inl (SqL.of (dg7.lst g hg)),?_⟩
    refine⟨_,_,rfl,rfl,?_⟩
    refine⟨_,rfl,?_⟩
    refine⟨putK kvs (Sum.inl g.1:Key) (V.int (2 * wgt (lesJ b) gs+2 * lng b gs * (g.1 - b))),g.1,_,by rw[e2,← e3,← List.length_map (as:=g.2.2) V.int];rfl,Same.upd' he sm6,by rw[upd_ne nle];exact el6,upd_same,Nat.le_trans (length_putK ..) (by omega),fun x hx hgt=>?_,fun m' hm'=>(List.pairwise_cons.mp hstd).1 m' hm',fun m' hm'=>?_⟩
    ·have:=hin x hx (by omega)
     rw[hdr]at this
     rcases List.mem_cons.mp this with e | e
     ·omega
     ·exact e
    rw[valV_put]
    by_cases hmk:(Sum.inl m':Key)=Sum.inl g.1
    ·rw[if_pos hmk,e3]
     rw[Sum.inl.inj hmk]
    ·rw[if_neg hmk]
     rw[List.take_succ,hm]at hm'
     rcases List.mem_append.mp hm' with h | h
     ·exact hall m' h
     ·exact absurd (by have:m'=g.1:=by simpa using h
                       rw[this]) hmk
   ·rintro σ H6 ⟨kvs,b,v,rfl,sm6,el6,ee6,hkl6,_,_,hall⟩
    refine⟨_,rfl,k e kvs H6 he sm6 ee6 fun g hg=>?_⟩
    rw[List.length_map,List.take_length]at hall
    rw[hall g.1 (hp.mem_iff.mpr (List.mem_map.mpr ⟨g,hg,rfl⟩)),wgt_les]
noncomputable abbrev s_drop_last:Stmt:=top 20
theorem sc_drop_last:FnScope ["offsets","size"] ["offsets","size"] (defScope s_drop_last):=⟨rfl,rfl,rfl,by decide +kernel,rfl,by decide +kernel,by decide +kernel⟩
theorem ok_drop_last {f:Addr} {fd:FuncData} (F:Fun K "drop_last" "drop_last" s_drop_last f fd) (B:Bt mg):FnOk P w K mg base CX0 1 f fd ["offsets","size"] spDropLast:=by
 refine F.ok sc_drop_last (fun vs H Q E h=>?_) (fun cdv A outer s H vs Q E hr h=>?_)
 ·obtain⟨d,gs,g,rfl,_⟩:=h
  rfl
 ·obtain⟨d,gs,g,rfl,dg,hg,hne,k⟩:=h
  have hu1:=hu_of hr
  refine⟨_,(pss_cons (ps_expr (pe_bm0 PySem.F.plainAttrs_list PySem.F.slot_list_pop PySem.F.type_list_pop mt_pop (pe_dget hu1 (pv 0) (pv 1) (fun _ _=>rfl))))
 (pss_one (ps_if (pt_not (pt_truth (pe_dget hu1 (pv 0) (pv 1) (fun _ _=>rfl)) (fun _=>rfl)))
 (pss_one (ps_ddel (pv 0) (pv 1)))
 pss_nil))),?_⟩
  have hnn:g.2.2.map V.int≠[]:=by simpa using hne
  have hlast:(g.2.2.map V.int)[(g.2.2.map V.int).length - 1]?=some ((g.2.2.map V.int).getLast hnn):=by rw[← List.getLast?_eq_getElem?];exact List.getLast?_eq_getLast hnn
  refine⟨_,rfl,_,rfl,d,_,rfl,dg.get hg,.inl ⟨rfl,_,SqL.of (dg.lst g hg)⟩,g.2.1,_,_,rfl,rfl,dg.lst g hg,hlast,?_⟩
  rw[← List.map_dropLast]
  have dg2:=dg.pops hg
  have st2:StayG d gs H (upd H g.2.1 (.lst (g.2.2.dropLast.map V.int))):=fun b o _ n e=>by rw[upd_ne (n g hg)];exact e
  generalize upd H g.2.1 (.lst (g.2.2.dropLast.map V.int))=H2 at dg2 st2 ⊢
  have hg':(g.1,g.2.1,g.2.2.dropLast)∈pops g.1 gs:=List.mem_map.mpr ⟨g,hg,if_pos rfl⟩
  have hget:DGet H2 d (.int g.1) (some (.ref g.2.1)):=dg2.get (g:=(g.1,g.2.1,g.2.2.dropLast)) hg'
  have hls:H2 g.2.1=some (.lst (g.2.2.dropLast.map V.int)):=dg2.lst (g.1,g.2.1,g.2.2.dropLast) hg'
  refine⟨_,rfl,_,rfl,d,_,rfl,hget,_,.inl ⟨_,SqL.of hls,rfl⟩,?_⟩
  have hany:((pops g.1 gs).any (fun x=>decide (x.1=g.1) && x.2.2.isEmpty))=g.2.2.dropLast.isEmpty:=by
   cases hE:g.2.2.dropLast.isEmpty with
   | true=>exact List.any_eq_true.mpr ⟨_,hg',by simp[hE]⟩
   | false =>
    rw[List.any_eq_false]
    intro x hx
    simp only[Bool.and_eq_true,decide_eq_true_eq,not_and]
    intro e
    have:x=(g.1,g.2.1,g.2.2.dropLast):=nodup_inj (f:=fun g:Grp=>g.1) dg2.key hx hg' e
    rw[this]
    simp[hE]
  have hm:(g.2.2.dropLast.map V.int).isEmpty=g.2.2.dropLast.isEmpty:=by rw[List.isEmpty_map]
  simp only[hm]
  cases hE:g.2.2.dropLast.isEmpty with
  | true =>
   refine⟨_,rfl,_,rfl,d,_,Sum.inl g.1,rfl,dg2.at_,rfl,?_,k _ (fun b o n1 n2 e=>by rw[upd_ne n1];exact st2 b o n1 n2 e) ?_⟩
   ·rw[valV_kvG,find_key dg2.key hg']
    rfl
   ·unfold shr
    rw[hany,hE,if_pos rfl]
    exact dg2.outs g.1
  | false =>
   refine k _ st2 ?_
   unfold shr
   rw[hany,hE,if_neg Bool.false_ne_true]
   exact dg2
noncomputable abbrev s_add_train:Stmt:=top 21
theorem sc_add_train:FnScope ["offsets","size","place","offset"] ["offsets","size","place"] (defScope s_add_train):=⟨rfl,rfl,rfl,by decide +kernel,rfl,by decide +kernel,by decide +kernel⟩
theorem ok_add_train {f:Addr} {fd:FuncData} (F:Fun K "add_train" "add_train" s_add_train f fd) (B:Bt mg) (F_crowd:FnAt P w K mg base "crowd" 1 ["offsets","size"] spCrowdS):FnOk P w K mg base CX0 2 f fd ["offsets","size","place"] spAddTrainV:=by
 refine F.ok sc_add_train (fun vs H Q E h=>?_) (fun cdv A outer s H vs Q E hr h=>?_)
 ·obtain⟨d,gs,k,p,rfl,_⟩:=h
  rfl
 ·obtain⟨d,gs,k,p,rfl,dg,hl,hgn,kk⟩:=h
  refine⟨_,(pss_cons (ps_set (i:=3) sc_add_train.nd rfl (Or.inl rfl) (pe_op op_sub (pe_op op_sub (pv 2) (pe_fn F_crowd hr rfl (pa_cons (pv 0) (pa_cons (pv 1) pa_nil)))) (pe_op op_mul pe_int (pv 1))))
 (pss_one (ps_expr (pe_bm PySem.F.plainAttrs_list PySem.F.slot_list_append PySem.F.type_list_append mt_append (pe_dset (pv 0) (pv 1) (pe_lst pa_nil) ⟨rfl,rfl,rfl,rfl⟩) (pa_cons (pv 3) pa_nil))))),?_⟩
  refine⟨_,rfl,_,rfl,_,rfl,d,gs,k,rfl,dg,hl,hgn,fun H3 sm=>?_⟩
  refine⟨_,_,rfl,rfl,_,rfl,_,_,rfl,rfl,.inl ⟨by decide,by decide⟩,_,_,rfl,rfl,?_⟩
  have dg3:DG H3 d gs:=⟨sm _ _ dg.at_,fun g hg=>sm _ _ (dg.lst g hg),dg.adr,dg.key⟩
  refine⟨_,rfl,d,rfl,.inl ⟨_,.inl dg3.at_⟩,_,rfl,by decide,fun z hz=>?_⟩
  have g4:=Same.upd (o:=.lst []) hz
  have ez:(upd H3 z (.lst [])) z=some (.lst []):=upd_same
  have hHz:H z=none:=sm.free hz
  have nzd:z≠d:=fun e=>by rw[e,dg3.at_]at hz;cases hz
  generalize upd H3 z (.lst [])=H4 at g4 ez ⊢
  have sm4:=sm.trans g4
  have lst4:∀ g∈gs,H4 g.2.1=some (.lst (g.2.2.map V.int)):=fun g hg=>g4 _ _ (dg3.lst g hg)
  have nz:∀ g∈gs,g.2.1≠z:=fun g hg e=>by have:=dg3.lst g hg;rw[e,hz]at this;cases this
  have hgd:∀ g∈gs,g.2.1≠d:=fun g hg=>ne_of (dg3.lst g hg) dg3.at_ (by intro z;cases z)
  refine⟨kvG gs,Sum.inl k,g4 _ _ dg3.at_,rfl,by simp only[kvG,List.length_map];exact line_of (by omega),fun v hv=>?_,fun hv=>?_⟩
  ·rw[valV_kvG]at hv
   obtain⟨g,hg,rfl⟩:=Option.map_eq_some_iff.mp hv
   have hgm:=List.mem_of_find?_eq_some hg
   have hgk:g.1=k:=by simpa using List.find?_some hg
   have eg:=lst4 g hgm
   refine⟨.inl ⟨rfl,_,SqL.of eg⟩,_,rfl,g.2.1,_,_,rfl,rfl,eg,(by rw[List.length_map];exact line_of (by have:=hgn g hgm;omega)),?_⟩
   have hmem:∀ g'∈grow k (p - 2 * wgt (lesJ k) gs - 2 * k) gs,∃ g0∈gs,g'.2.1=g0.2.1∧g'.1=g0.1∧(g'.2.2=if g0.1=k then g0.2.2++[(p - 2 * wgt (lesJ k) gs - 2 * k)]else g0.2.2):=fun g' hg'=>by
    obtain⟨g0,h0,rfl⟩:=List.mem_map.mp hg'
    refine⟨g0,h0,?_⟩
    by_cases hk:g0.1=k
    ·rw[if_pos hk,if_pos hk];exact⟨rfl,rfl,rfl⟩
    ·rw[if_neg hk,if_neg hk];exact⟨rfl,rfl,rfl⟩
   have uniq:∀ g0∈gs,g0.2.1=g.2.1→g0=g:=fun g0 h0 e=>nodup_inj (f:=fun g:Grp=>g.2.1) dg.adr h0 hgm e
   refine kk (grow k (p - 2 * wgt (lesJ k) gs - 2 * k) gs) _ (fun b u n1 n2 e=>by rw[upd_ne (n2 g hgm)];exact sm4 b u e) ⟨by rw[kvG_grow,upd_ne (Ne.symm (hgd g hgm))];exact g4 _ _ dg3.at_,fun g' hg'=>?_,by rw[adr_grow];exact dg.adr,by rw[key_grow];exact dg.key⟩ (.inl ⟨⟨g,hgm,hgk⟩,rfl⟩)
   obtain⟨g0,h0,e1,e2,e3⟩:=hmem g' hg'
   rw[e1]
   by_cases hadr:g0.2.1=g.2.1
   ·have:=uniq g0 h0 hadr
    subst this
    rw[upd_same,e3,if_pos hgk,List.map_append]
    rfl
   ·have hk:g0.1≠k:=fun e=>hadr (by rw[nodup_inj (f:=fun g:Grp=>g.1) dg.key h0 hgm (e.trans hgk.symm)])
    rw[upd_ne hadr,e3,if_neg hk]
    exact lst4 g0 h0
  ·rw[valV_kvG]at hv
   have hno:∀ g∈gs,g.1≠k:=fun g hg e=>by
    have:=List.find?_eq_none.mp (Option.map_eq_none_iff.mp hv) g hg
    exact this (by simpa using e)
   rw[putK_new (V.ref z) (by rw[valV_kvG];exact hv)]
   have ez5:(upd H4 d (.dK (kvG gs++[((Sum.inl k:Key),V.ref z)]))) z=some (.lst []):=by rw[upd_ne nzd];exact ez
   refine⟨.inl ⟨rfl,_,SqL.of ez5⟩,_,rfl,z,_,_,rfl,rfl,ez5,(show 0<sizeLine by decide),?_⟩
   have hk6:∀ b u,b≠d→b≠z→H4 b=some u→(upd (upd H4 d (.dK (kvG gs++[((Sum.inl k:Key),V.ref z)]))) z (.lst ([]++[V.int (p - 2 * wgt (lesJ k) gs - 2 * k)]))) b=some u:=fun b u n1 n2 e=>by rw[upd_ne n2,upd_ne n1];exact e
   refine kk (gs++[(k,z,[(p - 2 * wgt (lesJ k) gs - 2 * k)])]) _ (fun b u n1 n2 e=>hk6 b u n1 (fun e'=>by rw[e',hHz]at e;cases e) (sm4 b u e)) ⟨?_,fun g hg=>?_,?_,?_⟩ (.inr ⟨hno,z,hHz,rfl⟩)
   ·rw[upd_ne (Ne.symm nzd),upd_same]
    unfold kvG
    rw[List.map_append]
    rfl
   ·rcases List.mem_append.mp hg with h | h
    ·exact hk6 _ _ (hgd g h) (nz g h) (lst4 g h)
    ·rw[List.mem_singleton.mp h];exact upd_same
   ·rw[List.map_append,List.nodup_append]
    refine⟨dg.adr,by simp,fun x hx y hy=>?_⟩
    obtain⟨g,hg,rfl⟩:=List.mem_map.mp hx
    have hy':y=z:=by simpa using hy
    rw[hy']
    exact nz g hg
   ·rw[List.map_append,List.nodup_append]
    refine⟨dg.key,by simp,fun x hx y hy=>?_⟩
    obtain⟨g,hg,rfl⟩:=List.mem_map.mp hx
    have hy':y=k:=by simpa using hy
    rw[hy']
    exact hno g hg
noncomputable abbrev s_add_stone:Stmt:=top 19
theorem sc_add_stone:FnScope ["offsets","place","crowded","ready","size"] ["offsets","place"] (defScope s_add_stone):=⟨rfl,rfl,rfl,by decide +kernel,rfl,by decide +kernel,by decide +kernel⟩
theorem ok_add_stone {f:Addr} {fd:FuncData} (F:Fun K "add_stone" "add_stone" s_add_stone f fd) (B:Bt mg) (F_crowds:FnAt P w K mg base "crowds" 1 ["offsets"] spCrowdsV)
 (F_drop_last:FnAt P w K mg base "drop_last" 1 ["offsets","size"] spDropLast) (F_add_train:FnAt P w K mg base "add_train" 2 ["offsets","size","place"] spAddTrainV):FnOk P w K mg base CX0 3 f fd ["offsets","place"] spAddStone:=by
 refine F.ok sc_add_stone (fun vs H Q E h=>?_) (fun cdv A outer s H vs Q E hr h=>?_)
 ·obtain⟨d,gs,p,H0,rfl,_⟩:=h
  rfl
 ·obtain⟨d,gs,p,H0,rfl,dg,gd,ac,hsto,bd,smH,hHd,hfr,k⟩:=h
  have hu1:=hu_of hr
  obtain⟨hb1,hb2⟩:=GoodG.bound gd
  refine⟨_,(pss_cons (ps_set (i:=2) sc_add_stone.nd rfl (Or.inr rfl) (pe_fn F_crowds hr rfl (pa_cons (pv 0) pa_nil)))
 (pss_cons (ps_thaw (ps_setc (i:=3) ["size","some"] ["place","crowded"] [1,2] rfl sc_add_stone.nd rfl rfl (.of (show compOk (defScope s_add_stone) _ ["offsets","place","crowded","ready","size"] [1,2] ["place","crowded"]=true by decide +kernel)) (pi_items (pv 0)) (fun _ _ _=>(pg_tupK (n:=2) K rfl rfl (pgs_cons (pg_name (i:=0) (show (["size","some","place","crowded"]:List Str).Nodup by decide +kernel) rfl (Or.inl rfl)) (pgs_cons (pg_name (i:=1) (show (["size","some","place","crowded"]:List Str).Nodup by decide +kernel) rfl (Or.inl rfl)) pgs_nil)))) (kg_tup (kgs_cons (by decide) (kgs_cons (by decide) kgs_nil))) (fun _ _ _=>pif_one (pt_cmpR op_eqI (pe_ix (ix_listK K rfl) (pv 1) (pe_un un_neg pe_int) (fun _ _=>rfl)) (pe_op op_sub (pe_op op_sub (pv 2) pe_int) (pe_dget hu1 (pv 3) (pv 0) (fun _ _=>rfl))) (nomark _))) (fun _ _ _=>(pv 0)) (by first | rfl | decide +kernel)))
 (pss_cons (ps_set (i:=4) sc_add_stone.nd rfl (Or.inl rfl) (pe_maxdef rfl rfl B.max (pv 3) pe_int))
 (pss_cut (ps_if (pt_cmpR op_gt (pv 4) pe_int (nomark _))
 (pss_one (ps_expr (pe_fn F_drop_last hr rfl (pa_cons (pv 0) (pa_cons (pv 4) pa_nil)))))
 pss_nil)
 (pss_one (ps_expr (pe_fn F_add_train hr rfl (pa_cons (pv 0) (pa_cons (pe_op op_add (pv 4) pe_int) (pa_cons (pv 1) pa_nil)))))))))),?_⟩
  refine⟨_,rfl,d,gs,rfl,dg,gd,by omega,fun g hg=>by have:=hb2 g hg;omega,fun e kvs H5 he sm5 ee hall=>?_⟩
  have dg5:DG H5 d gs:=⟨sm5 _ _ dg.at_,fun g hg=>sm5 _ _ (dg.lst g hg),dg.adr,dg.key⟩
  have hed:e≠d:=fun z=>by rw[z,dg.at_]at he;cases he
  refine⟨d,kvG gs,dg5.at_,_,rfl,d,kvG gs,rfl,dg5.at_,fun od=>?_⟩
  have sd:SameD d H5 (upd H5 d (.frz od (.dK (kvG gs)))):=fun b o n e=>by rw[upd_ne n];exact e
  have ed:(upd H5 d (.frz od (.dK (kvG gs)))) d=some (.frz od (.dK (kvG gs))):=upd_same
  have hlst:∀ g∈gs,(upd H5 d (.frz od (.dK (kvG gs)))) g.2.1=some (.lst (g.2.2.map V.int)):=fun g hg=>sd _ _ (ne_of (dg5.lst g hg) dg5.at_ (by intro z;cases z)) (dg5.lst g hg)
  have ee6:(upd H5 d (.frz od (.dK (kvG gs)))) e=some (.dK kvs):=sd _ _ hed ee
  generalize upd H5 d (.frz od (.dK (kvG gs)))=H6 at sd ed hlst ee6 ⊢
  have hkl:(kvG gs).length=gs.length:=by simp[kvG]
  refine comp_items (d:=d) (od:=od) (kvs:=kvG gs) (fun i ys H7=>Same H6 H7∧ys.length≤i∧∃ ns:List Int,ys=ns.map V.int∧(∀ n∈ns,∃ g∈gs,∃ hne:g.2.2≠[],n=g.1∧g.2.2.getLast hne=p - 1 - 2 * les (flat gs) g.1)∧(∀ g∈gs.take i,∀ hne:g.2.2≠[],g.2.2.getLast hne=p - 1 - 2 * les (flat gs) g.1→g.1∈ns)) ⟨Same.refl _,Nat.le_refl _,[],rfl,fun n hn=>(nomatch hn),fun g hg=>by simp at hg⟩ ?_ ?_ ?_
  ·rintro i ys H7 hi ⟨g7,hyl,_⟩
   exact⟨g7 _ _ ed,line_of (by omega)⟩
  ·rintro i ky x ys H7 t hx ⟨g7,hyl,ns,rfl,hn1,hn2⟩ htn
   obtain⟨g,hg,hgx⟩:∃ g,gs[i]?=some g∧((Sum.inl g.1:Key),V.ref g.2.1)=(ky,x):=by
    unfold kvG at hx
    rw[List.getElem?_map]at hx
    obtain⟨g,h1,h2⟩:=Option.map_eq_some_iff.mp hx
    exact⟨g,h1,h2⟩
   cases hgx
   have hgm:=List.mem_of_getElem? hg
   have g8:=g7.trans (Same.upd (o:=.tup [kV (Sum.inl g.1),V.ref g.2.1]) htn)
   have et8:(upd H7 t (.tup [kV (Sum.inl g.1),V.ref g.2.1])) t=some (.tup [kV (Sum.inl g.1),V.ref g.2.1]):=upd_same
   generalize upd H7 t (.tup [kV (Sum.inl g.1),V.ref g.2.1])=H8 at g8 et8 ⊢
   refine⟨t,_,rfl,SqT.of et8,rfl,_,_,rfl,_,_,rfl,rfl,?_⟩
   have hne2:g.2.2≠[]:=(gd g hgm).2
   have hv:atI (g.2.2.map V.int) (-1)=some (V.int (g.2.2.getLast hne2)):=last_at hne2
   have hget:DGet H8 e (.int g.1) (some (.int (2 * les (flat gs) g.1))):=by rw[← hall g hgm];exact DGet.k (k:=(Sum.inl g.1:Key)) (g8 _ _ ee6)
   refine⟨_,rfl,_,rfl,g.2.1,_,_,_,rfl,rfl,SqL.of (g8 _ _ (hlst g hgm)),hv,_,rfl,_,_,rfl,rfl,_,rfl,_,rfl,e,_,rfl,hget,_,_,rfl,rfl,_,_,rfl,rfl,_,rfl,?_⟩
   have htk:∀ x∈gs.take (i+1),x∈gs.take i∨x=g:=fun x hx=>by
    rw[List.take_succ,hg]at hx
    rcases List.mem_append.mp hx with h | h
    ·exact .inl h
    ·exact .inr (by simpa using h)
   refine iteD (fun hc=>?_) (fun hc=>?_)
   ·refine⟨_,rfl,g8,by rw[List.length_append,List.length_singleton];omega,ns++[g.1],by rw[List.map_append];rfl,fun n hn=>?_,fun x hx hne hl=>?_⟩
    ·rcases List.mem_append.mp hn with h | h
     ·exact hn1 n h
     ·exact⟨g,hgm,hne2,by simpa using h,by omega⟩
    ·rcases htk x hx with h | h
     ·exact List.mem_append_left _ (hn2 x h hne hl)
     ·rw[h];exact List.mem_append_right _ (by simp)
   ·refine⟨g8,by omega,ns,rfl,hn1,fun x hx hne hl=>?_⟩
    rcases htk x hx with h | h
    ·exact hn2 x h hne hl
    ·subst h;exact absurd (by omega) hc
  ·rintro ys H7 ⟨g7,hyl,ns,rfl,hn1,hn2⟩ D hD
   have hnD:D≠d:=fun z=>by rw[z,g7 _ _ ed]at hD;cases hD
   have edD:(upd H7 D (.lst (ns.map V.int))) d=some (.frz od (.dK (kvG gs))):=by rw[upd_ne (Ne.symm hnD)];exact g7 _ _ ed
   have eD:(upd (upd H7 D (.lst (ns.map V.int))) d (.dK (kvG gs))) D=some (.lst (ns.map V.int)):=by rw[upd_ne hnD,upd_same]
   have sm9:Same H5 (upd (upd H7 D (.lst (ns.map V.int))) d (.dK (kvG gs))):=fun b o q=>by
    by_cases hb:b=d
    ·subst hb
     rw[upd_same,← dg5.at_]
     exact q
    ·rw[upd_ne hb]
     exact(g7.trans (Same.upd hD)) _ _ (sd b o hb q)
   refine⟨od,edD,?_⟩
   generalize upd (upd H7 D (.lst (ns.map V.int))) d (.dK (kvG gs))=H9 at eD sm9 ⊢
   have dg9:DG H9 d gs:=⟨sm9 _ _ dg5.at_,fun g hg=>sm9 _ _ (dg5.lst g hg),dg.adr,dg.key⟩
   have smH9:=(smH.trans sm5).trans sm9
   rw[hkl,List.take_length]at hn2
   obtain⟨s0,es,hs0,hcase,htop⟩:=ready_top gd hn1 hn2
   refine⟨_,rfl,D,ns,rfl,SqL.of eD,?_⟩
   rw[es]
   refine⟨fun σ' H'=>∃ gs1,σ'=[some (.ref d),some (.int p),some (.ref e),some (.ref D),some (.int s0)]∧Same H0 H'∧DG H' d gs1∧GoodG gs1∧sto gs1≤59∧(∀ g∈gs1,H0 g.2.1=none)∧(s0=0∧gs1=gs∨1≤s0∧∃ g∈gs,∃ hne:g.2.2≠[],g.1=s0∧g.2.2.getLast hne=p - 1 - 2 * les (flat gs) s0∧gs1=shr s0 gs),?_,?_⟩
   ·refine⟨_,rfl,_,_,rfl,rfl,_,rfl,?_⟩
    refine iteD (fun hc=>?_) (fun hc=>?_)
    ·rcases hcase with hz | ⟨hz,g,hg,hne,e1,e2⟩
     ·omega
     ·subst e1
      refine⟨_,rfl,_,rfl,d,gs,g,rfl,dg9,hg,hne,fun H11 st11 dg11=>⟨shr g.1 gs,rfl,fun b o q=>st11 b o (fun z=>by rw[z,hHd]at q;cases q) (fun x hx z=>by rw[z,hfr x hx]at q;cases q) (smH9 b o q),dg11,gd.shr _,?_,fun x hx=>?_,.inr ⟨hz,g,hg,hne,rfl,e2,rfl⟩⟩⟩
      ·have:sto (shr g.1 gs)=sto gs - g.1:=wgt_shr _ dg.key hg hne
       omega
      ·obtain⟨y,hy,ez⟩:=shr_adr hx
       rw[ez];exact hfr y hy
    ·rcases hcase with hz | ⟨hz,_⟩
     ·exact⟨gs,rfl,smH9,dg9,gd,hsto,hfr,.inl ⟨hz,rfl⟩⟩
     ·omega
   ·rintro σ' H10 ⟨gs1,rfl,sm10,dg10,gd10,hst10,hfr10,hs⟩
    obtain⟨hc1,hc2⟩:=GoodG.bound gd10
    refine⟨_,rfl,_,rfl,_,_,rfl,rfl,_,rfl,d,gs1,s0+1,p,rfl,dg10,by omega,fun x hx=>by have:=hc2 x hx;omega,fun gs' H12 st12 dg12 hpu=>?_⟩
    rw[wgt_les]at hpu
    obtain⟨ha,hA,hG⟩:=add_groups dg.key gd ac bd hs htop hpu
    refine k gs' H12 (fun b o q=>st12 b o (fun z=>by rw[z,hHd]at q;cases q) (fun x hx z=>by rw[z,hfr10 x hx]at q;cases q) (sm10 b o q)) dg12 hG hA ha fun x hx=>?_
    rcases puts_adr hpu hx with ⟨y,hy,ez⟩ | hz
    ·rw[ez];exact hfr10 y hy
    ·exact sm10.free hz
noncomputable abbrev s_list_of:Stmt:=top 18
theorem sc_list_of:FnScope ["row","offsets","place"] ["row"] (defScope s_list_of):=⟨rfl,rfl,rfl,by decide +kernel,rfl,by decide +kernel,by decide +kernel⟩
inductive I1_list_of (H:Hp) (a:Addr) (d:Addr) (row:List Int) (i:Nat) (σ:St) (H3:Hp):Prop
 | mk (gs:List Grp) (v:Option V) (k0_:σ=[some (.ref a),some (.ref d),v]) (k1_:Same H H3) (k2_:DG H3 d gs) (k3_:GoodG gs) (k4_:Asc gs) (k5_:Lst (row.take i) (flat gs)) (k6_:∀ g∈gs,H g.2.1=none):I1_list_of H a d row i σ H3
theorem ok_list_of {f:Addr} {fd:FuncData} (F:Fun K "list_of" "list_of" s_list_of f fd) (B:Bt mg) (F_look_row:FnAt P w K mg base "look_row" 1 ["row"] spLook) (F_add_stone:FnAt P w K mg base "add_stone" 3 ["offsets","place"] spAddStone):FnOk P w K mg base CX0 4 f fd ["row"] spListOf:=by
 refine F.ok sc_list_of (fun vs H Q E h=>?_) (fun cdv A outer s H vs Q E hr h=>?_)
 ·obtain⟨a,row,rfl,_⟩:=h
  rfl
 ·obtain⟨a,row,rfl,ha,hrow,hrl,k⟩:=h
  have hu1:=hu_of hr
  refine⟨_,(pss_cons (ps_expr (pe_fn F_look_row hr rfl (pa_cons (pv 0) pa_nil)))
 (pss_cons (ps_set (i:=1) sc_list_of.nd rfl (Or.inr rfl) pe_dnewK)
 (pss_cons (ps_for PassesOwn.never rfl (pi_list (pv 0)) (pg_name (i:=2) sc_list_of.nd rfl (Or.inl rfl))
 (pss_one (ps_expr (pe_fn F_add_stone hr rfl (pa_cons (pv 1) (pa_cons (pv 2) pa_nil))))))
 (pss_one (ps_ret (pe_comp2 ["size"] ["offset"] ["offsets"] [1] rfl (.of (show compOk (defScope s_list_of) _ ["row","offsets","place"] [1] ["offsets"]=true by decide +kernel)) (pi_list (pe_callB (call_sortedD rfl) (by rfl) B.sorted boot_sorted (pa_cons (pv 1) pa_nil))) (fun _ _ _=>(pg_name (i:=0) (show (["size","offset","offsets"]:List Str).Nodup by decide +kernel) rfl (Or.inl rfl))) (kg_name (by decide)) (fun _ _ _=>pif_nil) (fun _ _ _=>(pi_listK K rfl (pe_dget hu1 (pv 2) (pv 0) (fun _ _=>rfl)))) (fun _ _ _=>(pg_name (i:=1) (show (["size","offset","offsets"]:List Str).Nodup by decide +kernel) rfl (Or.inl rfl))) (gr_name (by decide) (by decide)) (fun _ _ _=>pif_nil) (fun _ _ _=>(pe_tup (pa_cons (pv 0) (pa_cons (pv 1) pa_nil)))))))))),?_⟩
  refine⟨_,rfl,a,row,rfl,ha,hrow,hrl,?_⟩
  refine fun d hd=>?_
  have g1:=Same.upd (o:=.dK []) hd
  have ed:(upd H d (.dK [])) d=some (.dK (kvG [])):=upd_same
  generalize upd H d (.dK [])=H1 at g1 ed ⊢
  refine⟨_,rfl,a,rfl,⟨_,SqL.of (g1 _ _ ha)⟩,for_list (K:=K) (a:=a) (xs:=row.map V.int) (I1_list_of H a d row)
   ⟨[],none,rfl,g1,⟨ed,fun g hg=>(nomatch hg),List.Pairwise.nil,List.Pairwise.nil⟩,fun g hg=>(nomatch hg),fun g hg=>(nomatch hg),.nil,fun g hg=>(nomatch hg)⟩ (fun i σ H3 _ z_=>by obtain⟨_,_,_,sm,_⟩:=z_;exact SqL.of (sm _ _ ha)) ?_ ?_⟩
  ·rintro i x σ H3 hi ⟨gs,v,rfl,sm,dg,gd,ac,hl,hfr⟩
   obtain⟨z,rfl,hz⟩:=int_at hi
   have hil:i<row.length:=(List.getElem?_eq_some_iff.mp hz).1
   have htk:row.take (i+1)=row.take i++[z]:=by rw[List.take_succ,hz];rfl
   have hlt:∀ x∈row.take i,x<z:=fun x hx=>by
    have hp:(row.take i++[z]).Pairwise (·<·):=by rw[← htk];exact List.Pairwise.sublist (List.take_sublist _ _) hrow
    exact(List.pairwise_append.mp hp).2.2 x hx z (by simp)
   have hsz:sto gs=(i:Int):=by
    rw[sto_siz,hl.sizx,List.length_take]
    omega
   refine⟨_,rfl,_,rfl,d,gs,z,H,rfl,dg,gd,ac,by omega,hl.bd fun x hx=>by have:=hlt x hx;omega,sm,hd,hfr,fun gs' H' sm' dg' gd' ac' hadd hfr'=>?_⟩
   exact⟨gs',_,rfl,sm',dg',gd',ac',by rw[htk];exact .snoc hl hlt hadd,hfr'⟩
  ·rintro σ H3 ⟨gs,v,rfl,sm,dg,gd,ac,hl,hfr⟩
   rw[List.length_map,List.take_length]at hl
   obtain⟨hb1,hb2⟩:=GoodG.bound gd
   have hsz:sto gs=(row.length:Int):=by rw[sto_siz,hl.sizx]
   have hks:KeysI (kvG gs) (gs.map (·.1)):=by unfold KeysI kvG;simp[Function.comp]
   refine⟨_,rfl,d,kvG gs,gs.map (·.1),rfl,dg.at_,hks,by rw[List.length_map];omega,fun l ms hnl hp hs=>?_⟩
   have g5:=Same.upd (o:=.lst (ms.map V.int)) hnl
   have el:(upd H3 l (.lst (ms.map V.int))) l=some (.lst (ms.map V.int)):=upd_same
   generalize upd H3 l (.lst (ms.map V.int))=H5 at g5 el ⊢
   have hst:=strict_of hp hs dg.key
   have dg5:DG H5 d gs:=⟨g5 _ _ dg.at_,fun g hg=>g5 _ _ (dg.lst g hg),dg.adr,dg.key⟩
   have hsize:∀ i,(laid (ms.take i) gs).length≤60:=fun i=>by
    have h1:(laid (ms.take i) gs).length≤(laid ms gs).length:=by
     conv=>rhs;rw[← List.take_append_drop i ms,laid_append,List.length_append]
     omega
    have h2:=(laid_perm gs hp).length_eq
    rw[laid_keys dg.key]at h2
    have h3:=len_le_sum hl.pos
    have h4:(szs (flat gs)).sum=siz (flat gs):=rfl
    have h5:=sto_siz gs
    omega
   refine⟨l,rfl,⟨_,SqL.of el⟩,comp2_list (K:=K) (a:=l) (xs:=ms.map V.int) (fun i ys H6=>Same H5 H6∧Prs H6 ys (laid (ms.take i) gs)) ⟨Same.refl _,.nil⟩ ?_ ?_ ?_⟩
   ·rintro i ys H6 hi ⟨sm6,pr6⟩
    exact⟨SqL.of (sm6 _ _ el),by rw[pr6.len];exact line_of (by have:=hsize i;omega)⟩
   ·rintro i x ys H6 hi ⟨sm6,pr6⟩
    obtain⟨m,rfl,hm⟩:=int_at hi
    obtain⟨g,hg,hgm⟩:=List.mem_map.mp (hp.mem_iff.mp (List.mem_of_getElem? hm))
    have hgm:g.1=m:=hgm
    subst hgm
    have dg6:DG H6 d gs:=⟨sm6 _ _ dg5.at_,fun g hg=>sm6 _ _ (dg5.lst g hg),dg.adr,dg.key⟩
    have htk:laid (ms.take (i+1)) gs=laid (ms.take i) gs++g.2.2.map fun o=>(g.1,o):=by
     rw[List.take_succ,hm,laid_append]
     congr 1
     exact laid_one dg.key hg
    have hgl:=hsize (i+1)
    rw[htk,List.length_append,List.length_map]at hgl
    refine⟨_,rfl,_,rfl,d,_,rfl,dg6.get hg,g.2.1,rfl,⟨_,SqL.of (dg6.lst g hg)⟩,inner_list (K:=K) (a:=g.2.1) (xs:=g.2.2.map V.int) (fun j ys H7=>Same H6 H7∧Prs H7 ys (laid (ms.take i) gs++(g.2.2.take j).map fun o=>(g.1,o))) ⟨Same.refl _,by rw[List.take_zero,List.map_nil,List.append_nil];exact pr6⟩ ?_ ?_ ?_⟩
    ·rintro j ys H7 hj ⟨sm7,pr7⟩
     refine⟨SqL.of (sm7 _ _ (dg6.lst g hg)),?_⟩
     rw[pr7.len,List.length_append,List.length_map,List.length_take]
     exact line_of (by omega)
    ·rintro j x ys H7 hj ⟨sm7,pr7⟩
     obtain⟨o,rfl,ho⟩:=int_at hj
     refine⟨_,rfl,_,rfl,(show 2≤sizeLine by decide),fun t ht=>⟨sm7.trans (Same.upd ht),?_⟩⟩
     rw[List.take_succ,ho,List.map_append,← List.append_assoc]
     exact Paired.append' (pr7.mono (TupS.new ht)) (.cons ⟨t,rfl,upd_same⟩ .nil)
    ·rintro ys H7 ⟨sm7,pr7⟩
     rw[List.length_map,List.take_length]at pr7
     rw[htk]
     exact⟨sm6.trans sm7,pr7⟩
   ·rintro ys H6 ⟨sm6,pr6⟩ D hD
    rw[List.length_map,List.take_length]at pr6
    have hpm:(laid ms gs).Perm (flat gs):=by rw[← laid_keys dg.key];exact laid_perm gs hp
    have sm36:=(sm.trans g5).trans sm6
    exact k (laid ms gs) (hl.perm hpm.symm) (laid_sorted ac hst) D ys _ (sm36.free hD) (sm36.trans (Same.upd hD)) upd_same (pr6.mono (TupS.new hD))
noncomputable abbrev s_look_niches:Stmt:=top 25
theorem sc_look_niches:FnScope ["niches"] ["niches"] (defScope s_look_niches):=⟨rfl,rfl,rfl,by decide +kernel,rfl,by decide +kernel,by decide +kernel⟩
theorem ok_look_nichesX {f:Addr} {fd:FuncData} {tC:Tok} (F:Fun K "look_niches" "look_niches" s_look_niches f fd) (B:Bt mg) (C2:Cn2 mg tC) (X:Errs K mg) (R_BadNumber:RaisesAs P w K mg base "BadNumber" X.number ["self","why"] (spX0 "BadNumber" X.number)):FnOk P w K mg base (CXR P w) 4 f fd ["niches"] (spLookNX X):=by
 refine F.okX sc_look_niches (fun vs H Q E h=>?_) (fun cdv A outer s H vs Q E hfr hr h=>?_)
 ·obtain⟨n,rfl,_⟩:=h
  rfl
 ·obtain⟨n,rfl,k1,k2⟩:=h
  refine⟨_,(pss_one (ps_if (PW.pt (pw_or (pt_cmpR op_lt (pv 0) pe_int (nomark _)) (pw_or1 (pt_cmpR op_gt (pv 0) (pe_glob (v:=.int 200) rfl C2.MOST_NICHES ⟨_,rfl⟩) (nomark _)))))
 (pss_one (ps_raiseR (raiseR hfr) R_BadNumber rfl rfl hr rfl (pa_cons (pe_fstr (fps_cons (fp_str (by decide)) (fps_cons (fp_int (pe_glob (v:=.int 200) rfl C2.MOST_NICHES ⟨_,rfl⟩)) fps_nil))) pa_nil)))
 pss_nil)),?_⟩
  refine⟨_,rfl,_,_,rfl,rfl,_,rfl,iteD (fun z=>⟨200,rfl,by decide,by decide,fun _=>rd0 (k2 (.inl z))⟩) (fun z=>?_)⟩
  exact⟨_,rfl,_,_,rfl,rfl,_,rfl,iteD (fun y=>⟨200,rfl,by decide,by decide,fun _=>rd0 (k2 (.inr y))⟩) (fun y=>k1 (fun x=>x.elim z y))⟩
noncomputable abbrev s_look_sizes:Stmt:=top 26
theorem sc_look_sizes:FnScope ["sizes","at","size"] ["sizes"] (defScope s_look_sizes):=⟨rfl,rfl,rfl,by decide +kernel,rfl,by decide +kernel,by decide +kernel⟩
theorem ok_look_sizesX {f:Addr} {fd:FuncData} {tC:Tok} (F:Fun K "look_sizes" "look_sizes" s_look_sizes f fd) (B:Bt mg) (C:Cn mg tC) (X:Errs K mg) (R_TooMany:RaisesAs P w K mg base "TooMany" X.many ["self","why"] (spX0 "TooMany" X.many)) (R_BadSizes:RaisesAs P w K mg base "BadSizes" X.sizes ["self","at"] (spXI "BadSizes" X.sizes)):FnOk P w K mg base (CXR P w) 4 f fd ["sizes"] (spLookSX X):=by
 refine F.okX sc_look_sizes (fun vs H Q E h=>?_) (fun cdv A outer s H vs Q E hfr hr h=>?_)
 ·obtain⟨a,ns,rfl,_⟩:=h
  rfl
 ·obtain⟨a,ns,rfl,ha,hl,kg,kb⟩:=h
  refine⟨_,(pss_cons (ps_for passF rfl (pi_enum rfl B.enumerate (pa_cons (pv 0) pa_nil)) (pg_tup rfl (pgs_cons (pg_name (i:=1) sc_look_sizes.nd rfl (Or.inl rfl)) (pgs_cons (pg_name (i:=2) sc_look_sizes.nd rfl (Or.inl rfl)) pgs_nil)))
 (pss_one (ps_if (pt_cmpR op_lt (pv 2) pe_int (nomark _))
 (pss_one (ps_raiseR (raiseR hfr) R_BadSizes rfl rfl hr rfl (pa_cons (pv 1) pa_nil)))
 pss_nil)))
 (pss_one (ps_if (pt_cmpR op_gt (pe_callB (call_sum rfl) (by rfl) B.sum boot_sum (pa_cons (pv 0) pa_nil)) (pe_glob (v:=.int 60) rfl C.MOST_STONES ⟨_,rfl⟩) (nomark _))
 (pss_one (ps_raiseR (raiseR hfr) R_TooMany rfl rfl hr rfl (pa_cons (pe_fstr (fps_cons (fp_str (by decide)) (fps_cons (fp_int (pe_glob (v:=.int 60) rfl C.MOST_STONES ⟨_,rfl⟩)) (fps_cons (fp_str (by decide)) fps_nil)))) pa_nil)))
 pss_nil))),?_⟩
  refine⟨_,rfl,a,_,rfl,SqL.of ha,for_enum (K:=K) (a:=a) (xs:=ns.map V.int) (fun i σ H2=>∃ v1 v2,σ=[some (.ref a),v1,v2]∧Same H H2∧∀ q∈ns.take i,1≤q) ⟨none,none,rfl,Same.refl _,fun q hq=>by simp at hq⟩ (fun i σ H2 _ ⟨_,_,_,sm,_⟩=>SqL.of (sm _ _ ha)) ?_ ?_⟩
  ·rintro i x σ H2 t hi ⟨v1,v2,rfl,sm,hg⟩ hn
   obtain⟨z,rfl,hzz⟩:=int_at hi
   have hil:i<ns.length:=(List.getElem?_eq_some_iff.mp hzz).1
   have sm2:Same H (upd H2 t (.tup [.int i,.int z])):=sm.trans (Same.upd hn)
   refine⟨t,_,rfl,SqT.of upd_same,rfl,_,_,rfl,_,_,rfl,rfl,_,rfl,_,_,rfl,rfl,_,rfl,iteD (fun hb=>?_) (fun hb=>?_)⟩
   ·have e:=dueS_bad hzz hb hg
    have hk:=kb (by rw[e];exact fun z=>by cases z) _ sm2
    rw[e]at hk
    exact⟨_,rfl,rdI (smallI (by omega) (by omega)) hk⟩
   ·refine⟨_,_,rfl,sm2,fun q hq=>?_⟩
    rw[List.take_succ,hzz]at hq
    rcases List.mem_append.mp hq with h | h
    ·exact hg q h
    ·have:q=z:=by simpa using h
     rw[this];omega
  ·rintro σ H2 ⟨v1,v2,rfl,sm,hg⟩
   rw[List.length_map,List.take_length]at hg
   have e:=dueS_good hg
   refine⟨_,rfl,a,ns,rfl,sm _ _ ha,_,_,rfl,rfl,_,rfl,iteD (fun z=>?_) (fun z=>?_)⟩
   ·rw[if_pos z]at e
    rw[e]at kb
    exact⟨60,rfl,by decide,by decide,fun _=>rd0 (kb (fun z=>by cases z) _ sm)⟩
   ·rw[if_neg z]at e
    exact kg e _ sm
noncomputable abbrev s_rooms:Stmt:=top 28
theorem sc_rooms:FnScope ["niches","sizes"] ["niches","sizes"] (defScope s_rooms):=⟨rfl,rfl,rfl,by decide +kernel,rfl,by decide +kernel,by decide +kernel⟩
theorem ok_rooms {f:Addr} {fd:FuncData} (F:Fun K "rooms" "rooms" s_rooms f fd) (B:Bt mg):FnOk P w K mg base CX0 1 f fd ["niches","sizes"] spRooms:=by
 refine F.ok sc_rooms (fun vs H Q E h=>?_) (fun cdv A outer s H vs Q E hr h=>?_)
 ·obtain⟨a,niches,ns,rfl,_⟩:=h
  rfl
 ·obtain⟨a,niches,ns,rfl,ha,hz,k⟩:=h
  refine⟨_,(pss_one (ps_ret (pe_compC ["size"] ["niches","sizes"] [0,1] rfl (.of (show compOkC (defScope s_rooms) _ ["niches","sizes"] [0,1] ["niches","sizes"]=true by decide +kernel)) (pi_list (pe_sortedSet rfl (by rfl) B.sorted boot_sorted (by rfl) B.set boot_set (pa_cons (pv 1) pa_nil))) (fun _ _ _=>(pg_name (i:=0) (show (["size","niches","sizes"]:List Str).Nodup by decide +kernel) rfl (Or.inr rfl))) (kg_name (by decide)) (fun _ _ _=>pif_nil) (fun _ _ _=>(pe_tup (pa_cons (pv 0) (pa_cons (pe_op op_sub (pv 1) (pe_op op_mul pe_int (pe_callB (call_sum rfl) (by rfl) B.sum boot_sum (pa_cons (pe_comp ["other"] ["size"] [0] rfl (.of (by rfl)) (pi_listK K rfl (pv 2)) (fun _ _ _=>(pg_name (i:=0) (show (["other","size"]:List Str).Nodup by decide +kernel) rfl (Or.inl rfl))) (kg_name (by decide)) (fun _ _ _=>pif_nil) (fun _ _ _=>(pe_callB (call_min2 rfl) (by rfl) B.min boot_min (pa_cons (pv 1) (pa_cons (pv 0) pa_nil))))) pa_nil)))) pa_nil))))))),?_⟩
  refine⟨_,rfl,a,ns,rfl,ha,hz.few,fun l ms hl hp hup=>?_⟩
  have d:Dst ns ms:=⟨hp,hup⟩
  have h18:=d.len hz
  have hlen:=hz.len
  have g1:=Same.upd (o:=.lst (ms.map V.int)) hl
  have el:(upd H l (.lst (ms.map V.int))) l=some (.lst (ms.map V.int)):=upd_same
  generalize upd H l (.lst (ms.map V.int))=H1 at g1 el ⊢
  refine⟨l,rfl,⟨_,SqL.of el⟩,comp_list (K:=K) (a:=l) (xs:=ms.map V.int) (fun i ys H2=>Same H1 H2∧Prs H2 ys ((ms.take i).map (rmM niches ns))∧ys.length=i) ⟨Same.refl _,.nil,rfl⟩ ?_ ?_ ?_⟩
  ·rintro i ys H2 hi ⟨sm,pr,hyl⟩
   rw[List.length_map]at hi
   exact⟨SqL.of (sm _ _ el),by rw[hyl];exact line_of (by omega)⟩
  ·rintro i x ys H2 hi ⟨sm,pr,hyl⟩
   obtain⟨m,rfl,hm⟩:=int_at hi
   have ha2:=sm _ _ (g1 _ _ ha)
   refine⟨_,rfl,_,rfl,_,rfl,a,rfl,⟨_,SqL.of ha2⟩,comp_list (K:=K) (a:=a) (xs:=ns.map V.int) (fun j zs H3=>H3=H2∧zs=((ns.take j).map fun o=>if o<m then o else m).map V.int) ⟨rfl,rfl⟩ ?_ ?_ ?_⟩
   ·rintro j zs H3 hj ⟨rfl,rfl⟩
    exact⟨SqL.of ha2,by rw[List.length_map,List.length_map,List.length_take];exact line_of (by omega)⟩
   ·rintro j y zs H3 hj ⟨rfl,rfl⟩
    obtain⟨o,rfl,ho⟩:=int_at hj
    exact⟨_,rfl,_,rfl,_,_,rfl,rfl,snoc_map (fun o=>if o<m then o else m) ho⟩
   rintro zs H3 ⟨rfl,rfl⟩ D hD
   rw[List.length_map,List.take_length]
   refine⟨D,ns.map fun o=>if o<m then o else m,rfl,upd_same,_,_,rfl,rfl,.inl ⟨by decide,by decide⟩,_,_,rfl,rfl,(show 2≤sizeLine by decide),fun p hp2=>?_⟩
   have g2:=Same.upd (o:=.lst ((ns.map fun o=>if o<m then o else m).map V.int)) hD
   have g3:=Same.upd (o:=.tup [V.int m,V.int (roomM niches ns m)]) hp2
   have ep:(upd (upd H3 D (.lst ((ns.map fun o=>if o<m then o else m).map V.int))) p (.tup [V.int m,V.int (roomM niches ns m)])) p=some (.tup [V.int m,V.int (roomM niches ns m)]):=upd_same
   have g4:=g2.trans g3
   refine⟨sm.trans g4,?_,by rw[List.length_append,hyl];rfl⟩
   rw[List.take_succ,hm,List.map_append]
   exact Paired.snoc (Prs.mono (TupS.same g4) pr) ⟨p,rfl,ep⟩
  rintro ys H2 ⟨sm,pr,hyl⟩ D hD
  rw[List.length_map,List.take_length]at pr
  have g5:=Same.upd (o:=.lst ys) hD
  exact k ms D ys _ d ((g1.trans sm).trans g5) upd_same (Prs.mono (TupS.same g5) pr)
noncomputable abbrev s_choices:Stmt:=top 29
theorem sc_choices:FnScope ["many","room","ways","taken"] ["many","room"] (defScope s_choices):=⟨rfl,rfl,rfl,by decide +kernel,rfl,by decide +kernel,by decide +kernel⟩
theorem ok_choices {f:Addr} {fd:FuncData} (F:Fun K "choices" "choices" s_choices f fd) (B:Bt mg):FnOk P w K mg base CX0 1 f fd ["many","room"] spChoices:=by
 refine F.ok sc_choices (fun vs H Q E h=>?_) (fun cdv A outer s H vs Q E hr h=>?_)
 ·obtain⟨n,room,rfl,_⟩:=h
  rfl
 ·obtain⟨n,room,rfl,hn,hr2,k⟩:=h
  refine⟨_,(pss_cons (ps_if (pt_cmpR op_lt (pv 1) pe_int (nomark _))
 (pss_one (ps_ret pe_int))
 pss_nil)
 (pss_cons (ps_set (i:=2) sc_choices.nd rfl (Or.inl rfl) pe_int)
 (pss_cons (ps_for PassesOwn.never rfl (pi_range2 rfl B.range (pa_cons pe_int (pa_cons (pe_op op_add (pv 0) pe_int) pa_nil))) (pg_name (i:=3) sc_choices.nd rfl (Or.inl rfl))
 (pss_one (ps_set (i:=2) sc_choices.nd rfl (Or.inl rfl) (pe_op op_fdiv (pe_op op_mul (pv 2) (pe_op op_add (pv 1) (pv 3))) (pv 3)))))
 (pss_one (ps_ret (pv 2)))))),?_⟩
  refine⟨_,rfl,_,_,rfl,rfl,_,rfl,iteD (fun c=>?_) (fun c=>?_)⟩
  ·unfold chO at k
   rw[if_pos c]at k
   exact k
  ·unfold chO at k
   rw[if_neg c]at k
   refine⟨_,rfl,_,_,rfl,rfl,_,_,rfl,⟨by decide,by decide,by omega,by omega⟩,for_range (lo:=1) (fun i σ H2=>∃ v,σ=[some (.int n),some (.int room),some (.int (chW room i)),v]∧H2=H) ⟨none,rfl,rfl⟩ ?_ ?_⟩
   ·rintro i σ H2 hi ⟨v,rfl,rfl⟩
    refine⟨_,rfl,_,rfl,_,rfl,_,_,rfl,rfl,_,_,rfl,rfl,.inr ⟨by omega,by omega⟩,_,rfl,_,_,rfl,rfl,⟨by omega,by omega⟩,some (V.int (1+(i:Int))),?_,rfl⟩
    show _=[some (V.int n),some (V.int room),some (V.int (chW room i * (room+((i:Int)+1)) / ((i:Int)+1))),_]
    rw[show (1:Int)+i=(i:Int)+1 by omega]
    rfl
   ·rintro σ H2 ⟨v,rfl,rfl⟩
    have e:((n:Int)+1 - 1).toNat=n:=by omega
    rw[e]
    exact⟨_,rfl,k⟩
noncomputable abbrev s_how_many:Stmt:=top 27
theorem sc_how_many:FnScope ["niches","sizes","many","size","room"] ["niches","sizes"] (defScope s_how_many):=⟨rfl,rfl,rfl,by decide +kernel,rfl,by decide +kernel,by decide +kernel⟩
theorem ok_how_manyX {f:Addr} {fd:FuncData} (F:Fun K "how_many" "how_many" s_how_many f fd) (B:Bt mg) (X:Errs K mg) (F_look_niches:FnAtX P w K mg base "look_niches" 4 ["niches"] (spLookNX X)) (F_look_sizes:FnAtX P w K mg base "look_sizes" 4 ["sizes"] (spLookSX X))
 (F_rooms:FnAt P w K mg base "rooms" 1 ["niches","sizes"] spRooms) (F_choices:FnAt P w K mg base "choices" 1 ["many","room"] spChoices):FnOk P w K mg base (CXR P w) 5 f fd ["niches","sizes"] (spHowX X):=by
 refine F.okX sc_how_many (fun vs H Q E h=>?_) (fun cdv A outer s H vs Q E hfr hr h=>?_)
 ·obtain⟨niches,a,ns,rfl,_⟩:=h
  rfl
 ·obtain⟨niches,a,ns,rfl,ha,hl60,kg,kb⟩:=h
  refine⟨_,(pss_cons (ps_expr (pe_fnX F_look_niches hr rfl (passR hfr) (pa_cons (pv 0) pa_nil)))
 (pss_cons (ps_expr (pe_fnX F_look_sizes hr rfl (passR hfr) (pa_cons (pv 1) pa_nil)))
 (pss_cons (ps_set (i:=2) sc_how_many.nd rfl (Or.inl rfl) pe_int)
 (pss_cons (ps_for passF rfl (pi_list (pe_fn F_rooms hr rfl (pa_cons (pv 0) (pa_cons (pv 1) pa_nil)))) (pg_tup rfl (pgs_cons (pg_name (i:=3) sc_how_many.nd rfl (Or.inl rfl)) (pgs_cons (pg_name (i:=4) sc_how_many.nd rfl (Or.inl rfl)) pgs_nil)))
 (pss_one (ps_aug (i:=2) sc_how_many.nd rfl (Or.inl rfl) (pe_fn F_choices hr rfl (pa_cons (pe_bm PySem.F.plainAttrs_list PySem.F.slot_list_count PySem.F.type_list_count mt_countI (pv 1) (pa_cons (pv 3) pa_nil)) (pa_cons (pv 4) pa_nil))) ip_mulB)))
 (pss_one (ps_ret (pv 2))))))),?_⟩
  refine⟨_,rfl,niches,rfl,fun hn=>?_,fun hn=>?_⟩
  case refine_2 =>
   have e:dueH niches ns=.number:=by unfold dueH;rw[if_pos hn]
   rw[e]at kb
   exact kb (fun z=>by cases z) H (Same.refl _)
  have eH:dueH niches ns=dueS ns:=by unfold dueH;rw[if_neg hn]
  rw[eH]at kg kb
  have hn0:0≤niches:=by unfold badN at hn;omega
  have hn1:niches≤200:=by unfold badN at hn;omega
  refine⟨_,rfl,a,ns,rfl,ha,hl60,fun hok H1 g1=>?_,fun hno H1 g1=>kb hno H1 g1⟩
  have hz:=dueS_ok hok hl60
  have k:=kg hok
  have ha1:=g1 _ _ ha
  refine⟨_,rfl,_,rfl,a,niches,ns,rfl,ha1,hz,fun ms l us H2 d g2 el pr=>?_⟩
  have ha2:=g2 _ _ ha1
  have hul:us.length=ms.length:=by rw[pr.len,List.length_map]
  refine⟨l,rfl,⟨_,SqL.of el⟩,for_list (K:=K) (a:=l) (xs:=us) (fun i σ Hx=>∃ v1 v2,σ=[some (.int niches),some (.ref a),some (.int (howM niches ns (ms.take i))),v1,v2]∧Hx=H2) ⟨none,none,rfl,rfl⟩ (fun i σ Hx _ ⟨_,_,_,e⟩=>by rw[e];exact SqL.of el) ?_ ?_⟩
  ·rintro i x σ Hx hi ⟨v1,v2,rfl,rfl⟩
   obtain⟨p,t',hp,rfl,et⟩:=paired_at pr hi
   rw[List.getElem?_map]at hp
   obtain⟨m,hm,rfl⟩:∃ m,ms[i]?=some m∧rmM niches ns m=p:=by
    cases hq:ms[i]? with
    | none=>rw[hq]at hp;cases hp
    | some m=>rw[hq]at hp;exact⟨m,rfl,Option.some.inj hp⟩
   have hi':i<ms.length:=(List.getElem?_eq_some_iff.mp hm).1
   have h1:=d.pos hz m (List.mem_of_getElem? hm)
   have hc:ns.count m≤60:=Nat.le_trans List.count_le_length hz.len
   have hb:=howM_b (i:=i) hn1 hz.pos hz.len (d.pos hz) (d.len hz) (by omega) h1
   refine⟨t',_,rfl,SqT.of et,rfl,_,_,rfl,_,_,rfl,rfl,?_⟩
   refine⟨_,rfl,_,rfl,.inl ⟨rfl,_,SqL.of ha2⟩,_,rfl,a,ns,m,rfl,rfl,ha2,_,rfl,ns.count m,roomM niches ns m,rfl,hc,roomM_le hn1 hz.pos h1,_,_,rfl,rfl,hb,some (V.int m),some (V.int (roomM niches ns m)),?_,rfl⟩
   rw[howM_take hm]
   rfl
  ·rintro σ Hx ⟨v1,v2,rfl,rfl⟩
   rw[hul,List.take_length]
   exact⟨_,rfl,k ms _ d (g1.trans g2)⟩
noncomputable abbrev s_row_numbered:Stmt:=top 30
theorem sc_row_numbered:FnScope ["niches","sizes","number","many","pairs","rest","size","room","count","chosen"] ["niches","sizes","number"] (defScope s_row_numbered):=⟨rfl,rfl,rfl,by decide +kernel,rfl,by decide +kernel,by decide +kernel⟩
theorem ok_row_numberedX {f:Addr} {fd:FuncData} (F:Fun K "row_numbered" "row_numbered" s_row_numbered f fd) (B:Bt mg) (X:Errs K mg) (F_how_many:FnAtX P w K mg base "how_many" 5 ["niches","sizes"] (spHowX X)) (R_BadNumber:RaisesAs P w K mg base "BadNumber" X.number ["self","why"] (spX0 "BadNumber" X.number)):FnOk P w K mg base (CXR P w) 6 f fd ["niches","sizes","number"] (spRowNumX X):=by
 refine F.okX sc_row_numbered (fun vs H Q E h=>?_) (fun cdv A outer s H vs Q E hfr hr h=>?_)
 ·obtain⟨n,a,ns,k,rfl,_⟩:=h
  rfl
 ·obtain⟨n,a,ns,k,rfl,ha,hl,hk,kb⟩:=h
  refine⟨_,(pss_cons (ps_set (i:=3) sc_row_numbered.nd rfl (Or.inl rfl) (pe_fnX F_how_many hr rfl (passR hfr) (pa_cons (pv 0) (pa_cons (pv 1) pa_nil))))
 (pss_cons (ps_if (PW.pt (pw_or (pt_cmpR op_lt (pv 2) pe_int (nomark _)) (pw_or1 (pt_cmpR op_ge (pv 2) (pv 3) (nomark _)))))
 (pss_one (ps_raiseR (raiseR hfr) R_BadNumber rfl rfl hr rfl (pa_cons pe_str pa_nil)))
 pss_nil)
 (pss_cons ps_never
 (pss_cons ps_never
 (pss_cons ps_never
 (pss_one ps_never)))))),?_⟩
  refine⟨_,rfl,_,rfl,n,a,ns,rfl,ha,hl,fun hok ms H1 d g1=>?_,fun hno H1 g1=>by rw[dueRn_bad hno]at kb;exact kb H1 g1⟩
  rw[dueRn_ok hok]at kb
  have hn:¬ badN n:=fun z=>by unfold dueH at hok;rw[if_pos z]at hok;cases hok
  have hs:dueS ns=.ok:=by unfold dueH at hok;rw[if_neg hn]at hok;exact hok
  have hf:=howM_few (niches:=n) (by unfold badN at hn;omega) (by unfold badN at hn;omega) (dueS_ok hs hl) d
  refine⟨_,rfl,_,_,rfl,rfl,_,rfl,iteD (fun z=>rd0 (kb _ g1)) (fun z=>?_)⟩
  refine⟨_,rfl,_,rfl,_,_,rfl,rfl,_,rfl,iteDT ?_ (rd0 (kb _ g1))⟩
  rcases hk with hk | hk
  ·exact absurd hk z
  ·exact Int.le_of_lt (Int.lt_of_lt_of_le hf hk)
noncomputable abbrev s_number_of_offsets:Stmt:=top 33
theorem sc_number_of_offsets:FnScope ["offsets","room","number","least","at","offset","lesser"] ["offsets","room"] (defScope s_number_of_offsets):=⟨rfl,rfl,rfl,by decide +kernel,rfl,by decide +kernel,by decide +kernel⟩
theorem ok_number_of_offsets {f:Addr} {fd:FuncData} (F:Fun K "number_of_offsets" "number_of_offsets" s_number_of_offsets f fd) (B:Bt mg) (F_choices:FnAt P w K mg base "choices" 1 ["many","room"] spChoices):FnOk P w K mg base CX0 2 f fd ["offsets","room"] spNumOff:=by
 refine F.ok sc_number_of_offsets (fun vs H Q E h=>?_) (fun cdv A outer s H vs Q E hr h=>?_)
 ·obtain⟨a,os,room,rfl,_⟩:=h
  rfl
 ·obtain⟨a,os,room,rfl,ha,hl,hv,hr0,hr1,k⟩:=h
  refine⟨_,(pss_cons (ps_set (i:=2) sc_number_of_offsets.nd rfl (Or.inl rfl) pe_int)
 (pss_cons (ps_set (i:=3) sc_number_of_offsets.nd rfl (Or.inl rfl) pe_int)
 (pss_cons (ps_for PassesOwn.never rfl (pi_enum rfl B.enumerate (pa_cons (pv 0) pa_nil)) (pg_tup rfl (pgs_cons (pg_name (i:=4) sc_number_of_offsets.nd rfl (Or.inl rfl)) (pgs_cons (pg_name (i:=5) sc_number_of_offsets.nd rfl (Or.inl rfl)) pgs_nil)))
 (pss_cons (ps_for PassesOwn.never rfl (pi_range2 rfl B.range (pa_cons (pv 3) (pa_cons (pv 5) pa_nil))) (pg_name (i:=6) sc_number_of_offsets.nd rfl (Or.inl rfl))
 (pss_one (ps_aug (i:=2) sc_number_of_offsets.nd rfl (Or.inl rfl) (pe_fn F_choices hr rfl (pa_cons (pe_op op_sub (pe_op op_sub (pe_callB call_len_seq (by rfl) B.len PySem.boot_len (pa_cons (pv 0) pa_nil)) (pv 4)) pe_int) (pa_cons (pe_op op_sub (pv 1) (pv 6)) pa_nil))) ip_add)))
 (pss_one (ps_set (i:=3) sc_number_of_offsets.nd rfl (Or.inl rfl) (pv 5)))))
 (pss_one (ps_ret (pv 2)))))),?_⟩
  refine⟨_,rfl,a,_,rfl,SqL.of ha,for_enum (K:=K) (a:=a) (xs:=os.map V.int) (fun i σ H2=>∃ (N l:Int) (v4 v5 v6:Option V),σ=[some (.ref a),some (.int room),some (.int N),some (.int l),v4,v5,v6]∧Same H H2∧0≤l∧l≤room∧Vld room l (os.drop i)∧N+rk room l (os.drop i)=rk room 0 os)
   ⟨0,0,none,none,none,rfl,Same.refl _,Int.le_refl 0,hr0,hv,by rw[List.drop_zero,Int.zero_add]⟩ (fun i σ H2 _ ⟨_,_,_,_,_,_,sm,_⟩=>SqL.of (sm _ _ ha)) ?_ ?_⟩
  ·rintro i x σ H2 t hi ⟨N,l,v4,v5,v6,rfl,sm,hl0,hlr,hvl,hN⟩ hn
   obtain⟨o,rfl,ho⟩:=int_at hi
   have hil:i<os.length:=(List.getElem?_eq_some_iff.mp ho).1
   have hdr:os.drop i=o :: os.drop (i+1):=by
    rw[List.drop_eq_getElem_cons hil]
    congr 1
    exact(List.getElem?_eq_some_iff.mp ho).2
   rw[hdr]at hvl hN
   obtain⟨w1,w2,w3⟩:=hvl
   have g1:=Same.upd (o:=.tup [V.int i,V.int o]) hn
   have et:(upd H2 t (.tup [V.int i,V.int o])) t=some (.tup [V.int i,V.int o]):=upd_same
   generalize upd H2 t (.tup [V.int i,V.int o])=H3 at g1 et ⊢
   have ha3:=(sm.trans g1) _ _ ha
   refine⟨t,_,rfl,SqT.of et,rfl,_,_,rfl,_,_,rfl,rfl,?_⟩
   have hkl:(os.drop (i+1)).length=os.length - i - 1:=by rw[List.length_drop];omega
   refine⟨_,rfl,_,rfl,_,_,rfl,⟨by omega,by omega,by omega,by omega⟩,for_range (lo:=l) (n:=(o - l).toNat) (fun j σ H4=>∃ v6:Option V,σ=[some (.ref a),some (.int room),some (.int (N+sw room (os.drop (i+1)).length l j)),some (.int l),some (.int i),some (.int o),v6]∧H4=H3) ⟨v6,by show _=[_,_,some (V.int (N+0)),_,_,_,_];rw[Int.add_zero];rfl,rfl⟩ ?_ ?_⟩
   ·rintro j σ H4 hj ⟨v6,rfl,rfl⟩
    refine⟨_,rfl,_,rfl,a,_,rfl,.inl (SqL.of ha3),_,rfl,_,_,rfl,rfl,_,_,rfl,rfl,_,rfl,_,rfl,_,_,rfl,rfl,?_⟩
    refine⟨(os.drop (i+1)).length,room - (l+(j:Int)),?_,by omega,by omega,_,_,rfl,rfl,some (V.int (l+(j:Int))),?_,rfl⟩
    ·show [V.int (((os.map V.int).length:Int) - (i:Int) - 1),V.int (room - (l+(j:Int)))]=_
     rw[List.length_map,hkl]
     congr 2
     omega
    ·show _=[_,_,some (V.int (N+(sw room (os.drop (i+1)).length l j+chO (os.drop (i+1)).length (room - (l+(j:Int)))))),_,_,_,_]
     rw[← Int.add_assoc]
     rfl
   ·rintro σ H4 ⟨v6,rfl,rfl⟩
    refine⟨_,rfl,_,o,_,_,_,rfl,sm.trans g1,by omega,w2,w3,?_⟩
    rw[← hN]
    show _=N+(sw room (os.drop (i+1)).length l (o - l).toNat+rk room o (os.drop (i+1)))
    omega
  ·rintro σ H2 ⟨N,l,v4,v5,v6,rfl,sm,hl0,hlr,hvl,hN⟩
   rw[List.length_map,List.drop_length]at hN
   have:N=rk room 0 os:=by rw[← hN];show N=N+0;omega
   rw[this]
   exact⟨_,rfl,k _ sm⟩
noncomputable abbrev s_number_of:Stmt:=top 32
theorem sc_number_of:FnScope ["niches","row","pairs","number","sizes","size","room","offsets"] ["niches","row"] (defScope s_number_of):=⟨rfl,rfl,rfl,by decide +kernel,rfl,by decide +kernel,by decide +kernel⟩
theorem ok_number_ofX {f:Addr} {fd:FuncData} (F:Fun K "number_of" "number_of" s_number_of f fd) (B:Bt mg) (X:Errs K mg) (F_look_row:FnAtX P w K mg base "look_row" 4 ["row"] (spLookX X)) (F_look_niches:FnAtX P w K mg base "look_niches" 4 ["niches"] (spLookNX X)) (F_list_of:FnAt P w K mg base "list_of" 4 ["row"] spListOf) (F_rooms:FnAt P w K mg base "rooms" 1 ["niches","sizes"] spRooms) (F_choices:FnAt P w K mg base "choices" 1 ["many","room"] spChoices) (F_number_of_offsets:FnAt P w K mg base "number_of_offsets" 2 ["offsets","room"] spNumOff)
 (R_BadNumber:RaisesAs P w K mg base "BadNumber" X.number ["self","why"] (spX0 "BadNumber" X.number)):FnOk P w K mg base (CXR P w) 6 f fd ["niches","row"] (spNumX X):=by
 refine F.okX sc_number_of (fun vs H Q E h=>?_) (fun cdv A outer s H vs Q E hfr hr h=>?_)
 ·obtain⟨n,a,row,rfl,_⟩:=h
  rfl
 ·obtain⟨niches,a,row,rfl,ha,hl200,kg,kb⟩:=h
  refine⟨_,(pss_cons (ps_expr (pe_fnX F_look_row hr rfl (passR hfr) (pa_cons (pv 1) pa_nil)))
 (pss_cons (ps_expr (pe_fnX F_look_niches hr rfl (passR hfr) (pa_cons (pv 0) pa_nil)))
 (pss_cons (ps_set (i:=2) sc_number_of.nd rfl (Or.inl rfl) (pe_fn F_list_of hr rfl (pa_cons (pv 1) pa_nil)))
 (pss_cons (ps_set (i:=3) sc_number_of.nd rfl (Or.inl rfl) pe_int)
 (pss_cons (ps_setc (i:=4) ["size","offset"] [] [] rfl sc_number_of.nd rfl rfl (.of (show compOk (defScope s_number_of) _ ["niches","row","pairs","number","sizes","size","room","offsets"] [] []=true by decide +kernel)) (pi_list (pv 2)) (fun _ _ _=>(pg_tupK (n:=2) K rfl rfl (pgs_cons (pg_name (i:=0) (show (["size","offset"]:List Str).Nodup by decide +kernel) rfl (Or.inl rfl)) (pgs_cons (pg_name (i:=1) (show (["size","offset"]:List Str).Nodup by decide +kernel) rfl (Or.inl rfl)) pgs_nil)))) (kg_tup (kgs_cons (by decide) (kgs_cons (by decide) kgs_nil))) (fun _ _ _=>pif_nil) (fun _ _ _=>(pv 0)) (by first | rfl | decide +kernel))
 (pss_cons (ps_for passF rfl (pi_list (pe_fn F_rooms hr rfl (pa_cons (pv 0) (pa_cons (pv 4) pa_nil)))) (pg_tup rfl (pgs_cons (pg_name (i:=5) sc_number_of.nd rfl (Or.inr rfl)) (pgs_cons (pg_name (i:=6) sc_number_of.nd rfl (Or.inl rfl)) pgs_nil)))
 (pss_cons (ps_setc (i:=7) ["other","offset"] ["size"] [5] rfl sc_number_of.nd rfl rfl (.of (show compOk (defScope s_number_of) _ ["niches","row","pairs","number","sizes","size","room","offsets"] [5] ["size"]=true by decide +kernel)) (pi_list (pv 2)) (fun _ _ _=>(pg_tupK (n:=2) K rfl rfl (pgs_cons (pg_name (i:=0) (show (["other","offset","size"]:List Str).Nodup by decide +kernel) rfl (Or.inl rfl)) (pgs_cons (pg_name (i:=1) (show (["other","offset","size"]:List Str).Nodup by decide +kernel) rfl (Or.inl rfl)) pgs_nil)))) (kg_tup (kgs_cons (by decide) (kgs_cons (by decide) kgs_nil))) (fun _ _ _=>pif_one (pt_cmpR op_eqI (pv 0) (pv 2) (nomark _))) (fun _ _ _=>(pv 1)) (by first | rfl | decide +kernel))
 (pss_cons (ps_if (PW.pt (pw_or (pt_cmpR op_lt (pe_ix ix_list (pv 7) pe_int (fun _ _=>rfl)) pe_int (nomark _)) (pw_or1 (pt_cmpR op_gt (pe_ix ix_list (pv 7) (pe_un un_neg pe_int) (fun _ _=>rfl)) (pv 6) (nomark _)))))
 (pss_one (ps_raiseR (raiseR hfr) R_BadNumber rfl rfl hr rfl (pa_cons pe_str pa_nil)))
 pss_nil)
 (pss_one (ps_set (i:=3) sc_number_of.nd rfl (Or.inl rfl) (pe_op op_add (pe_op op_mulB (pv 3) (pe_fn F_choices hr rfl (pa_cons (pe_callB call_len_seq (by rfl) B.len PySem.boot_len (pa_cons (pv 7) pa_nil)) (pa_cons (pv 6) pa_nil)))) (pe_fn F_number_of_offsets hr rfl (pa_cons (pv 7) (pa_cons (pv 6) pa_nil)))))))))
 (pss_one (ps_ret (pv 3))))))))),?_⟩
  refine⟨_,rfl,a,row,rfl,ha,hl200,look_due (fun hok=>?_) (fun hbad=>?_)⟩
  case refine_2 =>
   rw[dueNm_bad hbad]at kb
   exact kb hbad H (Same.refl _)
  obtain⟨hrow,hrl⟩:=dueRow_row.mp hok
  refine⟨_,rfl,niches,rfl,fun hn=>?_,fun hn=>?_⟩
  case refine_2 =>
   have e:=dueNm_num hok (.inl hn)
   rw[e]at kb
   exact kb (fun z=>by cases z) H (Same.refl _)
  have hn0:0≤niches:=by unfold badN at hn;omega
  have hn1:niches≤200:=by unfold badN at hn;omega
  have k2:∀ ps,Lst row ps→¬ AllIn niches ps→∀ H',Same H H'→Rf0 E X.number "BadNumber" H':=fun ps hL hno H' g=>by
   have e:dueNm niches row=.number:=dueNm_num hok (.inr fun z=>hno ((hL.sober niches).mpr z))
   rw[e]at kb
   exact kb (fun z=>by cases z) H' g
  have k1:∀ ps ms,Lst row ps→ps.Pairwise ple→Dst (ps.map (·.1)) ms→AllIn niches ps→∀ H',Same H H'→Q (.int (nmM niches ps ms)) H':=fun ps ms hL _ _ hin H' g =>
   kg (dueNm_ok hok hn ((hL.sober niches).mp hin)) _ H' g
  refine⟨_,rfl,a,row,rfl,ha,hrow,hrl,fun ps hL hs l us H1 hl g1 el pr=>?_⟩
  have eul:us.length=ps.length:=pr.len
  have hpl:=Lst.few hL hrl
  have hz:=sz_ok hL hrl
  refine⟨_,rfl,l,rfl,⟨_,SqL.of el⟩,comp_list (K:=K) (a:=l) (xs:=us) (fun j ys H2=>H2=H1∧ys=((ps.take j).map (·.1)).map V.int) ⟨rfl,rfl⟩ ?_ ?_ ?_⟩
  ·rintro j ys H2 hj ⟨rfl,rfl⟩
   exact⟨SqL.of el,take_len _ _ (by omega) _⟩
  ·rintro j x ys H2 hj ⟨rfl,rfl⟩
   obtain⟨q,t',hq,rfl,et⟩:=paired_at pr hj
   exact⟨t',_,rfl,SqT.of et,rfl,_,_,rfl,_,_,rfl,rfl,_,rfl,rfl,snoc_pairs (·.1) hq⟩
  rintro ys H2 ⟨rfl,rfl⟩ D hD
  rw[eul,List.take_length]
  have g2:=Same.upd (o:=.lst ((ps.map (·.1)).map V.int)) hD
  have eD:(upd H2 D (.lst ((ps.map (·.1)).map V.int))) D=some (.lst ((ps.map (·.1)).map V.int)):=upd_same
  generalize upd H2 D (.lst ((ps.map (·.1)).map V.int))=H3 at g2 eD ⊢
  have el3:=g2 _ _ el
  have pr3:=pr.mono (TupS.same g2)
  refine⟨_,rfl,_,rfl,D,niches,ps.map (·.1),rfl,eD,hz,fun ms lr ur H4 d g4 elr prr=>?_⟩
  have eur:ur.length=ms.length:=by rw[prr.len,List.length_map]
  have s4:=(g1.trans g2).trans g4
  have el4:=g4 _ _ el3
  have pr4:=pr3.mono (TupS.same g4)
  have hne:∀ m∈ms,offs ps m≠[]:=fun m hm=>offs_mem.mpr (by
   obtain⟨q,hq,e⟩:=List.mem_map.mp (d.mem.mp hm)
   exact⟨q,hq,e⟩)
  refine⟨lr,rfl,⟨_,SqL.of elr⟩,for_list (K:=K) (a:=lr) (xs:=ur) (fun i σ Hx=>∃ v5 v6 v7:Option V,σ=[some (.int niches),some (.ref a),some (.ref l),some (.int (nmM niches ps (ms.take i))),some (.ref D),v5,v6,v7]∧Same H4 Hx∧∀ m∈ms.take i,Within niches ps m) ⟨none,none,none,rfl,Same.refl _,fun m hm=>by simp at hm⟩ (fun i σ Hx _ ⟨_,_,_,_,sm,_⟩=>SqL.of (sm _ _ elr)) ?_ ?_⟩
  ·rintro i x σ Hx hi ⟨v5,v6,v7,rfl,sm,hw⟩
   obtain⟨p,t',hp,rfl,et⟩:=paired_at prr hi
   rw[List.getElem?_map]at hp
   obtain⟨m,hm,rfl⟩:=Option.map_eq_some_iff.mp hp
   have hi':i<ms.length:=(List.getElem?_eq_some_iff.mp hm).1
   have hmm:=List.mem_of_getElem? hm
   have hm1:=d.pos hz m hmm
   obtain⟨b0,b1⟩:=nm_bound (niches:=niches) hs hne i (by omega) hw
   have hcm:=nm_mulB hn1 hz d (by omega) hm1 b0 b1
   refine⟨t',_,rfl,SqT.of (sm _ _ et),rfl,_,_,rfl,_,_,rfl,rfl,?_⟩
   have elx:=sm _ _ el4
   have prx:=pr4.mono (TupS.same sm)
   refine⟨_,rfl,l,rfl,⟨_,SqL.of elx⟩,comp_list (K:=K) (a:=l) (xs:=us) (fun j ys H5=>H5=Hx∧ys=(offs (ps.take j) m).map V.int∧ys.length≤j) ⟨rfl,rfl,Nat.le_refl _⟩ ?_ ?_ ?_⟩
   ·rintro j ys H5 hj ⟨rfl,rfl,hy⟩
    exact⟨SqL.of elx,line_of (by omega)⟩
   ·rintro j x ys H5 hj ⟨rfl,rfl,hy⟩
    obtain⟨q,t2,hq,rfl,et2⟩:=paired_at prx hj
    have so:=offs_take hq m
    refine⟨t2,_,rfl,SqT.of et2,rfl,_,_,rfl,_,_,rfl,rfl,_,rfl,_,rfl,_,_,rfl,rfl,_,rfl,iteD (fun(c:q.1=m)=>?_) (fun(c:¬ q.1=m)=>?_)⟩
    ·refine⟨_,rfl,rfl,?_,by rw[List.length_append];simp at hy ⊢;omega⟩
     rw[so,if_pos c,List.map_append]
     rfl
    ·refine⟨rfl,?_,by omega⟩
     rw[so,if_neg c,List.append_nil]
   rintro ys H5 ⟨rfl,rfl,hy⟩ D7 hD7
   rw[eul,List.take_length]
   have g5:=Same.upd (o:=.lst ((offs ps m).map V.int)) hD7
   have eD7:(upd H5 D7 (.lst ((offs ps m).map V.int))) D7=some (.lst ((offs ps m).map V.int)):=upd_same
   generalize upd H5 D7 (.lst ((offs ps m).map V.int))=H6 at g5 eD7 ⊢
   have s6:=(s4.trans sm).trans g5
   have ho60:(offs ps m).length≤60:=by unfold offs;rw[List.length_map];exact Nat.le_trans (List.length_filter_le ..) hpl
   obtain⟨x0,x1,e0,e1,i0,i1,hb⟩:=offs_at0 (hne m hmm) (offs_sorted hs m)
   have bad:¬ Within niches ps m→Rf0 E X.number "BadNumber" H6:=fun z=>k2 ps hL (fun al=>z ((within_all (ms:=ms) fun m=>d.mem).mpr al m hmm)) H6 s6
   refine⟨_,rfl,D7,_,_,_,rfl,rfl,SqL.of eD7,e0,_,_,rfl,rfl,_,rfl,iteD (fun c=>rd0 (bad fun z=>by have:=z x0 i0;omega)) (fun c=>?_)⟩
   refine⟨_,rfl,_,rfl,D7,_,_,_,rfl,rfl,SqL.of eD7,e1,_,rfl,_,_,rfl,rfl,_,rfl,iteD (fun(c2:roomM niches (ps.map (·.1)) m<x1)=>rd0 (bad fun z=>by have:=(z x1 i1).2;omega)) (fun(c2:¬ roomM niches (ps.map (·.1)) m<x1)=>?_)⟩
   have hin:Within niches ps m:=fun o ho=>by
    have:=hb o ho
    have c2':¬ roomM niches (ps.map (·.1)) m<x1:=c2
    omega
   have hr0:0≤roomM niches (ps.map (·.1)) m:=by have:=hin x0 i0;omega
   have hr1:=roomM_le (niches:=niches) (ns:=ps.map (·.1)) hn1 hz.pos hm1
   have hvs:[V.int (((offs ps m).map V.int).length:Int),V.int (roomM niches (ps.map (·.1)) m)]=[V.int ((offs ps m).length:Int),V.int (roomM niches (ps.map (·.1)) m)]:=by rw[List.length_map]
   refine⟨_,rfl,_,rfl,D7,_,rfl,.inl (SqL.of eD7),_,rfl,(offs ps m).length,_,hvs,ho60,hr1,_,_,rfl,rfl,hcm,?_⟩
   refine⟨_,rfl,_,rfl,D7,offs ps m,roomM niches (ps.map (·.1)) m,rfl,eD7,ho60,vld_of (offs_sorted hs m) fun o ho=>hin o ho,hr0,hr1,fun H7 g7=>?_⟩
   refine⟨_,_,rfl,rfl,some (V.int m),some (V.int (roomM niches (ps.map fun x=>x.1) m)),some (V.ref D7),?_,(sm.trans g5).trans g7,fun m' hm'=>?_⟩
   ·rw[nmM_take hm]
    rfl
   ·rw[List.take_succ,hm]at hm'
    rcases List.mem_append.mp hm' with z | z
    ·exact hw m' z
    ·rw[show m'=m by simpa using z];exact hin
  ·rintro σ Hx ⟨v5,v6,v7,rfl,sm,hw⟩
   rw[eur,List.take_length]at hw ⊢
   exact⟨_,rfl,k1 ps ms hL hs d ((within_all fun m=>d.mem).mp hw) Hx (s4.trans sm)⟩
noncomputable abbrev s_law_numbers:Stmt:=top 35
theorem sc_law_numbers:FnScope ["_law_script","_law_many","_law_row_here","_law_seed","_law_cell","_law_rest","_law_k"] ["_law_script","_law_many"] (defScope s_law_numbers):=⟨rfl,rfl,rfl,by decide +kernel,rfl,by decide +kernel,by decide +kernel⟩
inductive I1_law_numbers (H:Hp) (a:Addr) (l:Addr) (p:Addr) (m:Nat) (ms:List Int) (i:Nat) (σ:St) (H2:Hp):Prop
 | mk (seed:Int) (xs:List Int) (v1 v2 v3:Option V) (k0_:σ=[some (.ref a),some (.int m),some (.ref l),some (.int seed),v1,v2,v3]) (k1_:Same H H2) (k2_:H2 p=some (.lst (ms.map V.int))) (k3_:H2 l=some (.lst (xs.map V.int))) (k4_:Nums xs) (k5_:xs.length≤61 * i) (k6_:0≤seed) (k7_:seed<2147483629):I1_law_numbers H a l p m ms i σ H2
inductive I2_law_numbers (H:Hp) (a:Addr) (l:Addr) (p:Addr) (m:Nat) (ms:List Int) (i:Nat) (seed:Int) (z:Int) (v3:Option V) (σ:St) (H3:Hp):Prop
 | mk (ys:List Int) (k0_:σ=[some (.ref a),some (.int m),some (.ref l),some (.int (sd1 seed z)),some (.int z),some (.int (rs1 z)),v3]) (k1_:Same H H3) (k2_:H3 p=some (.lst (ms.map V.int))) (k3_:H3 l=some (.lst (ys.map V.int))) (k4_:Nums ys) (k5_:ys.length≤61 * i+1):I2_law_numbers H a l p m ms i seed z v3 σ H3
inductive I3_law_numbers (H:Hp) (a:Addr) (l:Addr) (p:Addr) (m:Nat) (ms:List Int) (i:Nat) (seed:Int) (z:Int) (j:Nat) (σ:St) (H4:Hp):Prop
 | mk (r:Int) (ys:List Int) (v:Option V) (k0_:σ=[some (.ref a),some (.int m),some (.ref l),some (.int (sd1 seed z)),some (.int z),some (.int r),v]) (k1_:Same H H4) (k2_:H4 p=some (.lst (ms.map V.int))) (k3_:H4 l=some (.lst (ys.map V.int))) (k4_:Nums ys) (k5_:ys.length≤61 * i+1+j):I3_law_numbers H a l p m ms i seed z j σ H4
inductive I4_law_numbers (H:Hp) (a:Addr) (l:Addr) (m:Nat) (v1:Option V) (v2:Option V) (v3:Option V) (σ:St) (H3:Hp):Prop
 | mk (seed:Int) (ys:List Int) (k0_:σ=[some (.ref a),some (.int m),some (.ref l),some (.int seed),v1,v2,v3]) (k1_:Same H H3) (k2_:H3 l=some (.lst (ys.map V.int))) (k3_:Nums ys) (k4_:ys.length≤5000) (k5_:0≤seed) (k6_:seed<2147483629):I4_law_numbers H a l m v1 v2 v3 σ H3
theorem ok_numbers {f:Addr} {fd:FuncData} (F:Fun K "_law_numbers" "_law_numbers" s_law_numbers f fd) (B:Bt mg):FnOk P w K mg base CX0 1 f fd ["_law_script","_law_many"] (spNumbers K):=by
 refine F.ok sc_law_numbers (fun vs H Q E h=>?_) (fun cdv A outer s H vs Q E hr h=>?_)
 ·obtain⟨a,sc,m,rfl,_⟩:=h
  rfl
 ·obtain⟨a,sc,m,rfl,hS,hlen,hm,k⟩:=h
  refine⟨_,(pss_consO (ps_set (i:=2) sc_law_numbers.nd rfl (Or.inl rfl) (pe_lst pa_nil))
 (pss_consO (ps_set (i:=3) sc_law_numbers.nd rfl (Or.inl rfl) pe_int)
 (pss_consO (ps_for PassesOwn.never rfl (pi_list (pe_slice sl_list (pv 0) po_none (po_some pe_int))) (pg_name (i:=4) sc_law_numbers.nd rfl (Or.inl rfl))
 (pss_consO (ps_set (i:=3) sc_law_numbers.nd rfl (Or.inl rfl) (pe_op op_mod (pe_op op_add (pe_op op_add (pe_op op_mul (pv 3) pe_int) (pe_op op_mod (pv 4) pe_int)) pe_int) pe_int))
 (pss_consO (ps_set (i:=5) sc_law_numbers.nd rfl (Or.inl rfl) (pe_op op_sub (pv 4) (pe_op op_pow pe_int pe_int)))
 (pss_cut (ps_if (pt_cmpR op_lt (pv 5) pe_int (nomark _))
 (pss_one (ps_expr (pe_bm PySem.F.plainAttrs_list PySem.F.slot_list_append PySem.F.type_list_append mt_append (pv 2) (pa_cons (pe_op op_mod (pv 4) pe_int) pa_nil))))
 pss_nil)
 (pss_one (ps_for PassesOwn.never rfl (pi_range1 rfl B.range (pa_cons pe_int pa_nil)) (pg_name (i:=6) sc_law_numbers.nd rfl (Or.inl rfl))
 (pss_one (ps_if (pt_cmpR op_gt (pv 5) pe_int (nomark _))
 (pss_consO (ps_expr (pe_bm PySem.F.plainAttrs_list PySem.F.slot_list_append PySem.F.type_list_append mt_append (pv 2) (pa_cons (pe_op op_mod (pv 5) pe_int) pa_nil)))
 (pss_one (ps_set (i:=5) sc_law_numbers.nd rfl (Or.inl rfl) (pe_op op_fdiv (pv 5) pe_int))))
 pss_nil))))))))
 (pss_cons (ps_while PassesOwn.never (pt_cmpR op_lt (pe_callB call_len_seq (by rfl) B.len PySem.boot_len (pa_cons (pv 2) pa_nil)) (pv 1) (nomark _))
 (pss_consO (ps_set (i:=3) sc_law_numbers.nd rfl (Or.inl rfl) (pe_op op_mod (pe_op op_add (pe_op op_add (pe_op op_add (pe_op op_mul (pv 3) (pv 3)) (pe_op op_mul pe_int (pv 3))) (pe_op op_mul pe_int (pe_callB call_len_seq (by rfl) B.len PySem.boot_len (pa_cons (pv 2) pa_nil)))) pe_int) pe_int))
 (pss_one (ps_expr (pe_bm PySem.F.plainAttrs_list PySem.F.slot_list_append PySem.F.type_list_append mt_append (pv 2) (pa_cons (pe_op op_mod (pe_op op_fdiv (pv 3) pe_int) pe_int) pa_nil))))))
 (pss_one (ps_ret (pe_slice sl_list (pv 2) po_none (po_some (pv 1))))))))),?_⟩
  refine fun M1 hM1=>?_
  refine⟨by decide,fun l hl=>?_⟩
  refine hM1 [some (.ref a),some (.int m),some (.ref l),none,none,none,none] _ ?_
  clear hM1 M1
  refine fun M1 hM1=>?_
  refine hM1 [some (.ref a),some (.int m),some (.ref l),some (.int 59),none,none,none] _ ?_
  clear hM1 M1
  refine fun M1 hM1=>?_
  refine⟨_,rfl,_,rfl,a,sc.map V.int,rfl,(Same.upd hl).seq hS,fun p hp=>?_⟩
  obtain⟨ms,ec,hml,hmm⟩:=cutV_ints sc none (some 63)
  rw[ec]
  have hpl:p≠l:=fun e=>by subst e;rw[upd_same]at hp;cases hp
  have hHp:H p=none:=by rw[← hp,upd_ne hpl]
  refine⟨p,rfl,⟨_,SqL.of upd_same⟩,for_list (K:=K) (a:=p) (xs:=ms.map V.int) (I1_law_numbers H a l p m ms) ?_ ?_ ?_ ?_⟩
  ·exact⟨59,[],none,none,none,rfl,Same.upd' hHp (Same.upd hl),upd_same,by rw[upd_ne (Ne.symm hpl),upd_same];rfl,fun _ h=>(by cases h),Nat.le_refl _,by decide,by decide⟩
  ·rintro i σ H2 _ ⟨seed,xs,v1,v2,v3,_,_,e,_⟩
   exact SqL.of e
  ·rintro i x σ H2 hi ⟨seed,xs,v1,v2,v3,rfl,sm,ep,el,nx,lx,s0,s1⟩
   have hil:i<ms.length:=by
    have:=(List.getElem?_eq_some_iff.mp hi).1
    simpa using this
   obtain⟨z,rfl⟩:∃ z,x=V.int z:=by
    rw[List.getElem?_map]at hi
    cases e:ms[i]? with
    | none=>rw[e]at hi;cases hi
    | some z=>rw[e]at hi;exact⟨z,(Option.some.inj hi).symm⟩
   clear hM1
   refine fun M2 hM2=>?_
   refine⟨_,rfl,_,_,rfl,rfl,.inr ⟨by decide,by decide⟩,_,rfl,_,_,rfl,rfl,(by show (0:Int)<999983;decide),_,_,rfl,rfl,_,_,rfl,rfl,_,_,rfl,rfl,(by show (0:Int)<2147483563;decide),?_⟩
   have t0:0≤sd1 seed z:=Int.emod_nonneg _ (by decide)
   have t1:sd1 seed z<2147483563:=Int.emod_lt_of_pos _ (by decide)
   refine hM2 [some (.ref a),some (.int m),some (.ref l),some (.int (sd1 seed z)),some (.int z),v2,v3] _ ?_
   clear hM2 M2
   refine fun M2 hM2=>?_
   refine⟨_,rfl,_,_,rfl,rfl,⟨by decide,by decide,by decide⟩,_,_,rfl,rfl,?_⟩
   refine hM2 [some (.ref a),some (.int m),some (.ref l),some (.int (sd1 seed z)),some (.int z),some (.int (rs1 z)),v3] _ ?_
   clear hM2 M2
   refine⟨I2_law_numbers H a l p m ms i seed z v3,?_,?_⟩
   ·refine⟨_,rfl,_,_,rfl,rfl,_,rfl,iteD (fun _=>?_) (fun _=>⟨xs,rfl,sm,ep,el,nx,by omega⟩)⟩
    refine⟨_,rfl,.inl ⟨rfl,_,SqL.of el⟩,_,rfl,_,_,rfl,rfl,(by show (0:Int)<9967;decide),l,_,_,rfl,rfl,el,(by rw[List.length_map];exact line_of (by omega)),?_⟩
    refine⟨xs++[z % 9967],rfl,Same.upd' hl sm,by rw[upd_ne hpl];exact ep,by rw[upd_same];simp,?_,by simp;omega⟩
    intro n hn
    rcases List.mem_append.mp hn with h | h
    ·exact nx n h
    ·rw[List.mem_singleton.mp h]
     exact⟨Int.emod_nonneg _ (by decide),Int.emod_lt_of_pos _ (by decide)⟩
   ·rintro σ H3 ⟨ys,rfl,sm3,ep3,el3,nx3,lx3⟩
    refine⟨60,rfl,by decide,by decide,for_range (lo:=0) (n:=60) (I3_law_numbers H a l p m ms i seed z)
     ⟨rs1 z,ys,v3,rfl,sm3,ep3,el3,nx3,by omega⟩ ?_ ?_⟩
    ·rintro j σ H4 hj ⟨r,ys,v,rfl,sm4,ep4,el4,nx4,lx4⟩
     refine⟨_,rfl,_,_,rfl,rfl,_,rfl,iteD (fun hr0=>?_) (fun _=>⟨r,ys,_,rfl,sm4,ep4,el4,nx4,by omega⟩)⟩
     refine fun M2 hM2=>?_
     refine⟨_,rfl,.inl ⟨rfl,_,SqL.of el4⟩,_,rfl,_,_,rfl,rfl,(by show (0:Int)<1013;decide),l,_,_,rfl,rfl,el4,(by rw[List.length_map];exact line_of (by omega)),?_⟩
     refine hM2 [some (.ref a),some (.int m),some (.ref l),some (.int (sd1 seed z)),some (.int z),some (.int r),some (.int (0+(j:Int)))] _ ?_
     clear hM2 M2
     refine⟨_,rfl,_,_,rfl,rfl,⟨by decide,by decide⟩,?_⟩
     refine⟨r / 1013,ys++[r % 1013],_,rfl,Same.upd' hl sm4,by rw[upd_ne hpl];exact ep4,by rw[upd_same];simp,?_,by simp;omega⟩
     intro n hn
     rcases List.mem_append.mp hn with h | h
     ·exact nx4 n h
     ·rw[List.mem_singleton.mp h]
      have a1:=Int.emod_nonneg r (show (1013:Int)≠0 by decide)
      have a2:=Int.emod_lt_of_pos r (show (0:Int)<1013 by decide)
      exact⟨a1,by omega⟩
    ·rintro σ H4 ⟨r,ys,v,rfl,sm4,ep4,el4,nx4,lx4⟩
     exact⟨sd1 seed z,ys,_,_,_,rfl,sm4,ep4,el4,nx4,by omega,t0,by omega⟩
  ·rintro σ H2 ⟨seed,xs,v1,v2,v3,rfl,sm,ep,el,nx,lx,s0,s1⟩
   have lx':xs.length≤61 * 63:=by
    have:(ms.map V.int).length≤63:=by rw[List.length_map];omega
    omega
   refine hM1 [some (.ref a),some (.int m),some (.ref l),some (.int seed),v1,v2,v3] _ ?_
   clear hM1 M1
   refine while_by (I4_law_numbers H a l m v1 v2 v3)
    (fun _ H3=>match H3 l with | some (.lst ys)=>m - ys.length | _=>0) ⟨seed,xs,rfl,sm,el,nx,by omega,s0,s1⟩ ?_ ?_
   ·rintro σ H3 ⟨seed,ys,rfl,sm3,el3,nx3,lx3,q0,q1⟩
    refine⟨_,rfl,l,_,rfl,.inl (SqL.of el3),_,rfl,_,_,rfl,rfl,_,rfl,iteD (fun hc=>?_) (fun hc=>?_)⟩
    ·rw[List.length_map]at hc
     refine fun M1 hM1=>?_
     refine⟨_,rfl,_,rfl,_,_,rfl,rfl,.inl ⟨by omega,by omega⟩,_,rfl,_,_,rfl,rfl,.inl ⟨by decide,by decide⟩,_,_,rfl,rfl,_,rfl,l,_,rfl,.inl (SqL.of el3),_,_,rfl,rfl,.inl ⟨by decide,by decide⟩,_,_,rfl,rfl,_,_,rfl,rfl,_,_,rfl,rfl,(by show (0:Int)<2147483629;decide),?_⟩
     refine hM1 [some (.ref a),some (.int m),some (.ref l),some (.int (sd2 seed ys)),v1,v2,v3] _ ?_
     clear hM1 M1
     have t0:0≤sd2 seed ys:=Int.emod_nonneg _ (by decide)
     have t1:sd2 seed ys<2147483629:=Int.emod_lt_of_pos _ (by decide)
     refine⟨_,rfl,.inl ⟨rfl,_,SqL.of el3⟩,_,rfl,_,_,rfl,rfl,⟨by decide,by decide⟩,_,_,rfl,rfl,(by show (0:Int)<9967;decide),l,_,_,rfl,rfl,el3,(by rw[List.length_map];exact line_of (by omega)),?_⟩
     refine⟨⟨sd2 seed ys,ys++[sd2 seed ys / 1019 % 9967],rfl,Same.upd' hl sm3,by rw[upd_same,List.map_append];rfl,?_,by simp;omega,t0,t1⟩,?_⟩
     ·intro n hn
      rcases List.mem_append.mp hn with h | h
      ·exact nx3 n h
      ·rw[List.mem_singleton.mp h]
       exact⟨Int.emod_nonneg _ (by decide),Int.emod_lt_of_pos _ (by decide)⟩
     ·simp only[upd_same,el3,List.length_append,List.length_map,List.length_singleton]
      omega
    ·rw[List.length_map]at hc
     refine⟨_,rfl,_,rfl,_,rfl,l,_,rfl,SqL.of el3,fun p2 hp2=>?_⟩
     rw[cut_to ys m (by omega)]
     exact k p2 (ys.take m) _ (by simp;omega) (fun n hn=>nx3 n (List.mem_of_mem_take hn)) (sm3.free hp2) (Same.upd' (sm3.free hp2) sm3) upd_same
   ·intro σ H3 Q1 Q2 hq h
    obtain⟨x,e,p2,ys,e2,hq2,z,e3,i,j,e4,e5,b,e6,q⟩:=h
    exact⟨x,e,p2,ys,e2,hq2,z,e3,i,j,e4,e5,b,e6,hq _ _ q⟩
noncomputable abbrev s_law_row:Stmt:=top 36
theorem sc_law_row:FnScope ["_law_d","_law_most","_law_place","_law_row_here","_law_k","_law_step"] ["_law_d","_law_most"] (defScope s_law_row):=⟨rfl,rfl,rfl,by decide +kernel,rfl,by decide +kernel,by decide +kernel⟩
inductive I1_law_row (H:Hp) (a:Addr) (l:Addr) (m:Nat) (i:Nat) (σ:St) (H2:Hp):Prop
 | mk (place:Int) (row:List Int) (v1 v2:Option V) (k0_:σ=[some (.ref a),some (.int m),some (.int place),some (.ref l),v1,v2]) (k1_:Same H H2) (k2_:H2 l=some (.lst (row.map V.int))) (k3_:Row row) (k4_:row.length=i) (k5_:-15≤place) (k6_:place≤15+12 * i) (k7_:∀ x∈row,-15≤x∧x≤place):I1_law_row H a l m i σ H2
theorem ok_row {f:Addr} {fd:FuncData} (F:Fun K "_law_row" "_law_row" s_law_row f fd) (B:Bt mg):FnOk P w K mg base CX0 1 f fd ["_law_d","_law_most"] spRow:=by
 refine F.ok sc_law_row (fun vs H Q E h=>?_) (fun cdv A outer s H vs Q E hr h=>?_)
 ·obtain⟨a,ns,m,rfl,_⟩:=h
  rfl
 ·obtain⟨a,ns,m,rfl,ha,hns,hlen,hm,k⟩:=h
  refine⟨_,(pss_cons (ps_set (i:=2) sc_law_row.nd rfl (Or.inl rfl) (pe_op op_sub (pe_op op_mod (pe_ix ix_list (pv 0) pe_int (fun _ _=>rfl)) pe_int) pe_int))
 (pss_cons (ps_set (i:=3) sc_law_row.nd rfl (Or.inl rfl) (pe_lst pa_nil))
 (pss_cons (ps_for PassesOwn.never rfl (pi_range1 rfl B.range (pa_cons (pe_op op_mod (pe_ix ix_list (pv 0) pe_int (fun _ _=>rfl)) (pe_op op_add (pv 1) pe_int)) pa_nil)) (pg_name (i:=4) sc_law_row.nd rfl (Or.inl rfl))
 (pss_cons (ps_set (i:=5) sc_law_row.nd rfl (Or.inl rfl) (pe_ix ix_list (pv 0) (pe_op op_add pe_int (pv 4)) (fun _ _=>rfl)))
 (pss_cons (ps_set (i:=2) sc_law_row.nd rfl (Or.inl rfl) (pe_op op_add (pe_op op_add (pv 2) pe_int) (pe_cut (pe_ifExp (pt_cmpR op_eqI (pe_op op_mod (pv 5) pe_int) pe_int (nomark _)) pe_int (pe_op op_mod (pe_op op_fdiv (pv 5) pe_int) (pe_ix ix_list (pe_lst (pa_cons pe_int (pa_cons pe_int (pa_cons pe_int (pa_cons pe_int pa_nil))))) (pe_op op_mod (pe_ix ix_list (pv 0) pe_int (fun _ _=>rfl)) pe_int) (fun _ _=>rfl)))))))
 (pss_one (ps_expr (pe_bm PySem.F.plainAttrs_list PySem.F.slot_list_append PySem.F.type_list_append mt_append (pv 3) (pa_cons (pv 2) pa_nil)))))))
 (pss_one (ps_ret (pv 3)))))),?_⟩
  obtain⟨n0,m0,_,e0⟩:=at_mem (ns:=ns) (i:=0) (by omega) (by omega)
  obtain⟨n1,m1,_,e1⟩:=at_mem (ns:=ns) (i:=1) (by omega) (by omega)
  obtain⟨n2,m2,_,e2⟩:=at_mem (ns:=ns) (i:=2) (by omega) (by omega)
  have p1:(0:Int)<(m:Int)+1:=by omega
  have q1:=Int.emod_nonneg n1 (show ((m:Int)+1)≠0 by omega)
  have q2:=Int.emod_lt_of_pos n1 p1
  have r1:=Int.emod_nonneg n0 (show (31:Int)≠0 by decide)
  have r2:=Int.emod_lt_of_pos n0 (show (0:Int)<31 by decide)
  refine⟨_,rfl,a,_,_,_,rfl,rfl,SqL.of ha,e0,_,_,rfl,rfl,(by show (0:Int)<31;decide),_,_,rfl,rfl,by decide,fun l hl=>?_⟩
  have ha':=Same.upd (o:=.lst []) hl _ _ ha
  refine⟨_,rfl,a,_,_,_,rfl,rfl,SqL.of ha',e1,_,rfl,_,_,rfl,rfl,_,_,rfl,rfl,p1,_,rfl,by omega,by omega,
   for_range (lo:=0) (n:=(n1 % ((m:Int)+1)).toNat) (I1_law_row H a l m) ⟨_,[],none,none,rfl,Same.upd hl,upd_same,List.Pairwise.nil,rfl,by omega,by omega,fun x hx=>by cases hx⟩ ?_ ?_⟩
  ·rintro i σ H2 hi ⟨place,row,v1,v2,rfl,sm,el,hrow,hrl,h1,h2,hx⟩
   obtain⟨st,ms,_,es⟩:=at_mem (ns:=ns) (i:=3+(0+(i:Int))) (by omega) (by omega)
   refine⟨_,rfl,_,rfl,_,_,rfl,rfl,a,_,_,_,rfl,rfl,SqL.of (sm _ _ ha),es,?_⟩
   refine⟨_,rfl,_,_,rfl,rfl,fun v H3=>∃ d:Int,v=.int d∧0≤d∧d≤11∧(H3=H2∨∃ p xs,H2 p=none∧H3=upd H2 p (.lst xs)),?_,?_⟩
   ·refine⟨_,rfl,_,_,rfl,rfl,(by show (0:Int)<3;decide),_,_,rfl,rfl,_,rfl,iteD (fun _=>⟨0,rfl,by decide,by decide,.inl rfl⟩) (fun _=>?_)⟩
    refine⟨_,rfl,_,_,rfl,rfl,⟨by decide,by decide⟩,(by show 4≤sizeLine;decide),fun p hp=>?_⟩
    obtain⟨w',mw,_,ew⟩:=at_mem (ns:=[2,3,5,12]) (i:=n2 % 4) (Int.emod_nonneg _ (by decide)) (Int.emod_lt_of_pos _ (by decide))
    refine⟨_,rfl,a,_,_,_,rfl,rfl,SqL.of ((Same.upd hp) _ _ (sm _ _ ha)),e2,_,_,rfl,rfl,(by show (0:Int)<4;decide),p,_,_,_,rfl,rfl,SqL.of upd_same,ew,_,_,rfl,rfl,?_,_,rfl,?_,?_,.inr ⟨p,_,hp,rfl⟩⟩
    ·simp at mw;omega
    ·exact Int.emod_nonneg _ (by simp at mw;omega)
    ·have:=Int.emod_lt_of_pos (st / 3) (show (0:Int)<w' by simp at mw;omega)
     simp at mw
     show st / 3 % w'≤11
     omega
   ·rintro v H3 ⟨d,rfl,d0,d1,hH3⟩
    have sm3:Same H H3:=by
     rcases hH3 with e | ⟨p,xs,hp,e⟩
     ·rw[e];exact sm
     ·rw[e];exact Same.upd' (sm.free hp) sm
    have el3:H3 l=some (.lst (row.map V.int)):=by
     rcases hH3 with e | ⟨p,xs,hp,e⟩
     ·rw[e];exact el
     ·rw[e,upd_ne (ne_of_none el hp)];exact el
    refine⟨_,_,rfl,rfl,_,rfl,.inl ⟨rfl,_,SqL.of el3⟩,_,rfl,l,_,_,rfl,rfl,el3,(by rw[List.length_map];exact line_of (by omega)),?_⟩
    refine⟨place+1+d,row++[place+1+d],_,_,rfl,Same.upd' hl sm3,by rw[upd_same,List.map_append];rfl,row_snoc hrow fun y hy=>?_,by simp[hrl],by omega,by omega,fun x hx'=>?_⟩
    ·have:=hx y hy;omega
    ·rcases List.mem_append.mp hx' with h | h
     ·have:=hx x h;omega
     ·rw[List.mem_singleton.mp h];omega
  ·rintro σ H2 ⟨place,row,v1,v2,rfl,sm,el,hrow,hrl,h1,h2,hx⟩
   exact⟨_,rfl,k row hrow (by omega) (fun x h=>by have:=hx x h;omega) l H2 hl sm el⟩
noncomputable abbrev s_law_why:Stmt:=top 37
theorem sc_law_why:FnScope ["_law_ask","_law_why_here","e"] ["_law_ask"] (defScope s_law_why):=⟨rfl,rfl,rfl,by decide +kernel,rfl,by decide +kernel,by decide +kernel⟩
theorem ok_why {f:Addr} {fd:FuncData} {kL:Nat} (X:Errs K mg) (Z:Sees X) (F:Fun K "_law_why" "_law_why" s_law_why f fd):FnOkS P w K mg base (CXR P w) (kL+1) f fd ["_law_ask"] (spWhy P w base X kL):=by
 refine F.okS sc_law_why (fun s o vs H Q E h=>?_) (fun cdv A outer s H vs Q E hfr hr h=>?_)
 ·obtain⟨f,D,spL,rfl,_⟩:=h
  rfl
 ·obtain⟨f,D,spL,rfl,L,mono,fo,laid,k⟩:=h
  refine⟨_,(pss_cons (ps_set (i:=1) sc_law_why.nd rfl (Or.inl rfl) (pe_tup (pa_cons pe_str (pa_cons pe_int pa_nil))))
   (pss_cons (ps_try ⟨rfl,rfl,rfl⟩ (pc_ask (i:=0) ⟨rfl,rfl,rfl⟩ hr rfl (Or.inl rfl))
    (ph_oneAs (i:=2) rfl X.m_row sc_law_why.nd rfl rfl (fun e=>(pss_one (ps_set (i:=1) sc_law_why.nd rfl (Or.inl rfl) (pe_tup (pa_cons pe_str (pa_cons (pe_xatK K rfl (pv 2) rfl) pa_nil))))))
    (ph_oneAs (i:=2) rfl X.m_trains sc_law_why.nd rfl rfl (fun e=>(pss_one (ps_set (i:=1) sc_law_why.nd rfl (Or.inl rfl) (pe_tup (pa_cons pe_str (pa_cons (pe_xatK K rfl (pv 2) rfl) pa_nil))))))
    (ph_oneAs (i:=2) rfl X.m_sizes sc_law_why.nd rfl rfl (fun e=>(pss_one (ps_set (i:=1) sc_law_why.nd rfl (Or.inl rfl) (pe_tup (pa_cons pe_str (pa_cons (pe_xatK K rfl (pv 2) rfl) pa_nil))))))
    (ph_one rfl X.m_many (fun e=>(pss_one (ps_set (i:=1) sc_law_why.nd rfl (Or.inl rfl) (pe_tup (pa_cons pe_str (pa_cons pe_int pa_nil))))))
    (ph_one rfl X.m_creel (fun e=>(pss_one (ps_set (i:=1) sc_law_why.nd rfl (Or.inl rfl) (pe_tup (pa_cons pe_str (pa_cons pe_int pa_nil))))))
    (ph_one rfl X.m_number (fun e=>(pss_one (ps_set (i:=1) sc_law_why.nd rfl (Or.inl rfl) (pe_tup (pa_cons pe_str (pa_cons pe_int pa_nil))))))
    (ph_one rfl X.m_near (fun e=>(pss_one (ps_set (i:=1) sc_law_why.nd rfl (Or.inl rfl) (pe_tup (pa_cons pe_str (pa_cons pe_int pa_nil))))))
    (ph_one rfl X.m_bare (fun e=>(pss_one (ps_set (i:=1) sc_law_why.nd rfl (Or.inl rfl) (pe_tup (pa_cons pe_str (pa_cons pe_int pa_nil))))))
    (ph_one rfl X.m_err (fun e=>(pss_one (ps_set (i:=1) sc_law_why.nd rfl (Or.inl rfl) (pe_tup (pa_cons pe_str (pa_cons pe_int pa_nil))))))
    ph_end))))))))))
   (pss_one (ps_ret (pv 1))))),?_⟩
  refine⟨by show 2≤sizeLine;decide,fun t ht=>⟨f,D,spL,rfl,L,fo,laid,mono _ _ _ _ _ (fun v H' q=>⟨_,rfl,q⟩) (fun cls od H' q e he=>?_) (k t ht)⟩⟩
  obtain⟨nm,i,W,q⟩:=q
  cases W with
  | row hd hl =>
   refine⟨true,Z.t0,?_⟩
   rw[if_pos rfl]
   exact⟨_,rfl,e,X.row,_,_,_,rfl,upd_same,(by rw[upd_ne (fun z=>by rw[z,he]at hd;cases hd)];exact hd),xg_of Z.g1,hl,(by show 2≤sizeLine;decide),fun t' ht'=>⟨_,rfl,q _ t' (sub2 he ht') upd_same⟩⟩
  | trains hd hl =>
   refine⟨false,Z.f10,?_⟩
   rw[if_neg (by decide)]
   refine⟨true,Z.t1,?_⟩
   rw[if_pos rfl]
   exact⟨_,rfl,e,X.trains,_,_,_,rfl,upd_same,(by rw[upd_ne (fun z=>by rw[z,he]at hd;cases hd)];exact hd),xg_of Z.g2,hl,(by show 2≤sizeLine;decide),fun t' ht'=>⟨_,rfl,q _ t' (sub2 he ht') upd_same⟩⟩
  | sizes hd hl =>
   refine⟨false,Z.f20,?_⟩
   rw[if_neg (by decide)]
   refine⟨false,Z.f21,?_⟩
   rw[if_neg (by decide)]
   refine⟨true,Z.t2,?_⟩
   rw[if_pos rfl]
   exact⟨_,rfl,e,X.sizes,_,_,_,rfl,upd_same,(by rw[upd_ne (fun z=>by rw[z,he]at hd;cases hd)];exact hd),xg_of Z.g3,hl,(by show 2≤sizeLine;decide),fun t' ht'=>⟨_,rfl,q _ t' (sub2 he ht') upd_same⟩⟩
  | many =>
   refine⟨false,Z.f30,?_⟩
   rw[if_neg (by decide)]
   refine⟨false,Z.f31,?_⟩
   rw[if_neg (by decide)]
   refine⟨false,Z.f32,?_⟩
   rw[if_neg (by decide)]
   refine⟨true,Z.t3,?_⟩
   rw[if_pos rfl]
   exact⟨(by show 2≤sizeLine;decide),fun t' ht'=>⟨_,rfl,q _ t' (sub1 ht') upd_same⟩⟩
  | creel =>
   refine⟨false,Z.f40,?_⟩
   rw[if_neg (by decide)]
   refine⟨false,Z.f41,?_⟩
   rw[if_neg (by decide)]
   refine⟨false,Z.f42,?_⟩
   rw[if_neg (by decide)]
   refine⟨false,Z.f43,?_⟩
   rw[if_neg (by decide)]
   refine⟨true,Z.t4,?_⟩
   rw[if_pos rfl]
   exact⟨(by show 2≤sizeLine;decide),fun t' ht'=>⟨_,rfl,q _ t' (sub1 ht') upd_same⟩⟩
  | number =>
   refine⟨false,Z.f50,?_⟩
   rw[if_neg (by decide)]
   refine⟨false,Z.f51,?_⟩
   rw[if_neg (by decide)]
   refine⟨false,Z.f52,?_⟩
   rw[if_neg (by decide)]
   refine⟨false,Z.f53,?_⟩
   rw[if_neg (by decide)]
   refine⟨false,Z.f54,?_⟩
   rw[if_neg (by decide)]
   refine⟨true,Z.t5,?_⟩
   rw[if_pos rfl]
   exact⟨(by show 2≤sizeLine;decide),fun t' ht'=>⟨_,rfl,q _ t' (sub1 ht') upd_same⟩⟩
  | near =>
   refine⟨false,Z.f60,?_⟩
   rw[if_neg (by decide)]
   refine⟨false,Z.f61,?_⟩
   rw[if_neg (by decide)]
   refine⟨false,Z.f62,?_⟩
   rw[if_neg (by decide)]
   refine⟨false,Z.f63,?_⟩
   rw[if_neg (by decide)]
   refine⟨false,Z.f64,?_⟩
   rw[if_neg (by decide)]
   refine⟨false,Z.f65,?_⟩
   rw[if_neg (by decide)]
   refine⟨true,Z.t6,?_⟩
   rw[if_pos rfl]
   exact⟨(by show 2≤sizeLine;decide),fun t' ht'=>⟨_,rfl,q _ t' (sub1 ht') upd_same⟩⟩
  | bare =>
   refine⟨false,Z.f70,?_⟩
   rw[if_neg (by decide)]
   refine⟨false,Z.f71,?_⟩
   rw[if_neg (by decide)]
   refine⟨false,Z.f72,?_⟩
   rw[if_neg (by decide)]
   refine⟨false,Z.f73,?_⟩
   rw[if_neg (by decide)]
   refine⟨false,Z.f74,?_⟩
   rw[if_neg (by decide)]
   refine⟨false,Z.f75,?_⟩
   rw[if_neg (by decide)]
   refine⟨false,Z.f76,?_⟩
   rw[if_neg (by decide)]
   refine⟨true,Z.t7,?_⟩
   rw[if_pos rfl]
   exact⟨(by show 2≤sizeLine;decide),fun t' ht'=>⟨_,rfl,q _ t' (sub1 ht') upd_same⟩⟩
noncomputable abbrev s_law_row_bad:Stmt:=top 38
theorem sc_law_row_bad:FnScope ["_law_row_here","_law_at"] ["_law_row_here"] (defScope s_law_row_bad):=⟨rfl,rfl,rfl,by decide +kernel,rfl,by decide +kernel,by decide +kernel⟩
theorem ok_row_bad {f:Addr} {fd:FuncData} (F:Fun K "_law_row_bad" "_law_row_bad" s_law_row_bad f fd) (B:Bt mg):FnOk P w K mg base CX0 1 f fd ["_law_row_here"] spRowBad:=by
 refine F.ok sc_law_row_bad (fun vs H Q E h=>?_) (fun cdv A outer s H vs Q E hr h=>?_)
 ·obtain⟨a,r,rfl,_⟩:=h
  rfl
 ·obtain⟨a,row,rfl,ha,hlen,kW⟩:=h
  have k1:=fun z=>kW _ _ (.many z)
  have k2:row.length≤60→(Good row→∀ t,H t=none→Q (.ref t) (upd H t (.tup [.str "",.int 0])))∧∀ i:Nat,BadAt row i→∀ t,H t=none→Q (.ref t) (upd H t (.tup [.str "BadRow",.int i])):=fun z=>⟨fun g=>kW _ _ (.good z g),fun i b=>kW _ _ (.bad z b)⟩
  refine⟨_,(pss_cons (ps_if (pt_cmpR op_gt (pe_callB call_len_seq (by rfl) B.len PySem.boot_len (pa_cons (pv 0) pa_nil)) pe_int (nomark _))
 (pss_one (ps_ret (pe_tup (pa_cons pe_str (pa_cons pe_int pa_nil)))))
 pss_nil)
 (pss_cons (ps_for PassesOwn.never rfl (pi_range2 rfl B.range (pa_cons pe_int (pa_cons (pe_callB call_len_seq (by rfl) B.len PySem.boot_len (pa_cons (pv 0) pa_nil)) pa_nil))) (pg_name (i:=1) sc_law_row_bad.nd rfl (Or.inl rfl))
 (pss_one (ps_if (pt_cmpR op_le (pe_ix ix_list (pv 0) (pv 1) (fun _ _=>rfl)) (pe_ix ix_list (pv 0) (pe_op op_sub (pv 1) pe_int) (fun _ _=>rfl)) (nomark _))
 (pss_one (ps_ret (pe_tup (pa_cons pe_str (pa_cons (pv 1) pa_nil)))))
 pss_nil)))
 (pss_one (ps_ret (pe_tup (pa_cons pe_str (pa_cons pe_int pa_nil))))))),?_⟩
  by_cases h60:60<row.length
  ·refine⟨_,rfl,a,_,rfl,.inl (SqL.of ha),_,_,rfl,rfl,_,rfl,iteDT (by rw[List.length_map];omega) ?_⟩
   exact⟨by show 2≤sizeLine;decide,fun t ht=>k1 h60 t ht⟩
  ·obtain⟨k2,k3⟩:=k2 (by omega)
   refine⟨_,rfl,a,_,rfl,.inl (SqL.of ha),_,_,rfl,rfl,_,rfl,iteDF (by rw[List.length_map];omega) ?_⟩
   refine⟨_,rfl,a,_,rfl,.inl (SqL.of ha),_,_,rfl,⟨by decide,by decide,by omega,by rw[List.length_map];omega⟩,for_range (lo:=1) (fun i σ H2=>(∃ v,σ=[some (.ref a),v]∧H2=H)∧∀ j,1≤j→j<1+i→row.getD (j - 1) 0<row.getD j 0) ⟨⟨none,rfl,rfl⟩,fun j h1 h2=>by omega⟩ ?_ ?_⟩
   ·rintro i σ H2 hi ⟨⟨v,rfl,rfl⟩,hg⟩
    rw[List.length_map]at hi
    obtain⟨x,_,hx,ex⟩:=at_mem (ns:=row) (i:=1+(i:Int)) (by omega) (by omega)
    obtain⟨y,_,hy,ey⟩:=at_mem (ns:=row) (i:=1+(i:Int) - 1) (by omega) (by omega)
    refine⟨_,rfl,_,rfl,a,_,_,_,rfl,rfl,SqL.of ha,ex,_,rfl,_,rfl,_,_,rfl,rfl,a,_,_,_,rfl,rfl,SqL.of ha,ey,_,_,rfl,rfl,_,rfl,?_⟩
    have gx:row.getD (1+i) 0=x:=by rw[List.getD_eq_getElem?_getD,show 1+i=(1+(i:Int)).toNat from by omega,hx];rfl
    have gy:row.getD (1+i - 1) 0=y:=by rw[List.getD_eq_getElem?_getD,show 1+i - 1=(1+(i:Int) - 1).toNat from by omega,hy];rfl
    by_cases hb:x≤y
    ·refine iteDT hb ⟨_,rfl,by show 2≤sizeLine;decide,fun t ht=>?_⟩
     have:=k3 (1+i) ⟨by omega,by omega,by rw[gx,gy];exact hb,fun j h1 h2=>hg j h1 h2⟩ t ht
     rwa [show ((1+i:Nat):Int)=1+(i:Int) from by omega]at this
    ·refine iteDF hb ⟨⟨_,rfl,rfl⟩,fun j h1 h2=>?_⟩
     by_cases hj:j<1+i
     ·exact hg j h1 hj
     ·obtain rfl:j=1+i:=by omega
      rw[gx,gy]
      omega
   ·rintro σ H2 ⟨⟨v,rfl,rfl⟩,hg⟩
    rw[List.length_map]at hg
    exact⟨by show 2≤sizeLine;decide,fun t ht=>k2 (fun j h1 h2=>hg j h1 (by omega)) t ht⟩
noncomputable abbrev s_law_spoilt_row:Stmt:=top 39
theorem sc_law_spoilt_row:FnScope ["_law_row_here","_law_d","_law_k","_law_at"] ["_law_row_here","_law_d"] (defScope s_law_spoilt_row):=⟨rfl,rfl,rfl,by decide +kernel,rfl,by decide +kernel,by decide +kernel⟩
theorem ok_spoilt {f:Addr} {fd:FuncData} (F:Fun K "_law_spoilt_row" "_law_spoilt_row" s_law_spoilt_row f fd) (B:Bt mg):FnOk P w K mg base CX0 1 f fd ["_law_row_here","_law_d"] spSpoilt:=by
 refine F.ok sc_law_spoilt_row (fun vs H Q E h=>?_) (fun cdv A outer s H vs Q E hr h=>?_)
 ·obtain⟨a,b,row,ds,rfl,_⟩:=h
  rfl
 ·obtain⟨a,b,row,ds,rfl,ha,hrl,hb,hdl,k⟩:=h
  refine⟨_,(pss_cons (ps_set (i:=0) sc_law_spoilt_row.nd rfl (Or.inl rfl) (pe_callTy call_list_of (by rfl) B.list boot_list (pa_cons (pv 0) pa_nil)))
 (pss_cut (ps_if (pt_cmpR op_eqI (pe_op op_mod (pe_ix ix_list (pv 1) pe_int (fun _ _=>rfl)) pe_int) pe_int (nomark _))
 (pss_one (ps_set (i:=0) sc_law_spoilt_row.nd rfl (Or.inl rfl) (pe_op op_cat (pv 0) (pe_comp ["_law_k"] [] [] rfl (.of (show compOk (defScope s_law_spoilt_row) _ ["_law_row_here","_law_d","_law_k","_law_at"] [] []=true by decide +kernel)) (pi_range1 rfl B.range (pa_cons (pe_op op_sub pe_int (pe_op op_mod (pe_ix ix_list (pv 1) pe_int (fun _ _=>rfl)) pe_int)) pa_nil)) (fun _ _ _=>(pg_name (i:=0) (show (["_law_k"]:List Str).Nodup by decide +kernel) rfl (Or.inl rfl))) (kg_name (by decide)) (fun _ _ _=>pif_nil) (fun _ _ _=>(pe_op op_add (pe_op op_pow pe_int pe_int) (pv 0)))))))
 pss_nil)
 (pss_cons (ps_for PassesOwn.never rfl (pi_range1 rfl B.range (pa_cons (pe_op op_mod (pe_op op_fdiv (pe_ix ix_list (pv 1) pe_int (fun _ _=>rfl)) pe_int) pe_int) pa_nil)) (pg_name (i:=2) sc_law_spoilt_row.nd rfl (Or.inl rfl))
 (pss_one (ps_if (pt_cmpR op_gt (pe_callB call_len_seq (by rfl) B.len PySem.boot_len (pa_cons (pv 0) pa_nil)) pe_int (nomark _))
 (pss_cons (ps_set (i:=3) sc_law_spoilt_row.nd rfl (Or.inl rfl) (pe_op op_mod (pe_ix ix_list (pv 1) (pe_op op_add pe_int (pe_op op_mul pe_int (pv 2))) (fun _ _=>rfl)) (pe_callB call_len_seq (by rfl) B.len PySem.boot_len (pa_cons (pv 0) pa_nil))))
 (pss_one (ps_asg (pe_ix ix_list (pe_lst (pa_cons (pe_ix ix_list (pv 0) (pe_op op_sub (pv 3) pe_int) (fun _ _=>rfl)) (pa_cons (pe_op op_sub (pe_ix ix_list (pv 0) (pv 3) (fun _ _=>rfl)) pe_int) (pa_cons (pe_ix ix_list (pv 0) (pe_un un_neg pe_int) (fun _ _=>rfl)) (pa_cons (pe_ix ix_list (pv 0) pe_int (fun _ _=>rfl)) (pa_cons (pe_op op_add (pe_ix ix_list (pv 0) (pv 3) (fun _ _=>rfl)) pe_int) pa_nil)))))) (pe_op op_mod (pe_ix ix_list (pv 1) (pe_op op_add pe_int (pe_op op_mul pe_int (pv 2))) (fun _ _=>rfl)) pe_int) (fun _ _=>rfl)) (pg_sub (pv 0) (pv 3) set_list))))
 pss_nil)))
 (pss_one (ps_ret (pv 0)))))),?_⟩
  obtain⟨d0,_,_,e0⟩:=at_mem (ns:=ds) (i:=0) (by omega) (by omega)
  obtain⟨d1,_,_,e1⟩:=at_mem (ns:=ds) (i:=1) (by omega) (by omega)
  refine⟨_,rfl,a,_,rfl,.inl (SqL.of ha),fun l hl=>?_⟩
  have g1:=Same.upd (o:=.lst (row.map V.int)) hl
  have el:(upd H l (.lst (row.map V.int))) l=some (.lst (row.map V.int)):=upd_same
  generalize upd H l (.lst (row.map V.int))=H1 at g1 el ⊢
  refine⟨fun σ H2=>∃ (l2:Addr) (r2:List Int),σ=[some (.ref l2),some (.ref b),none,none]∧Same H H2∧H l2=none∧H2 l2=some (.lst (r2.map V.int))∧r2.length≤200,?_,?_⟩
  ·refine⟨_,rfl,b,_,_,_,rfl,rfl,SqL.of (g1 _ _ hb),e0,_,_,rfl,rfl,(by show (0:Int)<7;decide),_,_,rfl,rfl,_,rfl,iteD (fun _=>?_) (fun _=>⟨l,row,rfl,g1,hl,el,by omega⟩)⟩
   have q1:=Int.emod_nonneg d1 (show (3:Int)≠0 by decide)
   have q2:=Int.emod_lt_of_pos d1 (show (0:Int)<3 by decide)
   refine⟨_,rfl,_,rfl,b,_,_,_,rfl,rfl,SqL.of (g1 _ _ hb),e1,_,_,rfl,rfl,(by show (0:Int)<3;decide),_,_,rfl,rfl,_,rfl,(by omega),(by omega),
    comp_range (lo:=0) (n:=(61 - d1 % 3).toNat) (fun i ys H2=>H2=H1∧∃ zs:List Int,ys=zs.map V.int∧zs.length=i) ⟨rfl,[],rfl,rfl⟩ ?_ ?_ ?_⟩
   ·rintro i ys H2 hi ⟨rfl,zs,rfl,hz⟩
    rw[List.length_map];exact line_of (by omega)
   ·rintro i ys H2 hi ⟨rfl,zs,rfl,hz⟩
    exact⟨_,_,rfl,rfl,⟨by decide,by decide,by decide⟩,_,rfl,_,_,rfl,rfl,rfl,zs++[(10:Int) ^ 45+(0+(i:Int))],by rw[List.map_append];rfl,by simp[hz]⟩
   ·rintro ys H2 ⟨rfl,zs,rfl,hz⟩ D hD
    have g2:=Same.upd (o:=.lst (zs.map V.int)) hD
    refine⟨l,D,_,_,rfl,rfl,g2 _ _ el,upd_same,?_,fun p hp=>?_⟩
    ·rw[List.length_map,List.length_map];exact line_le (by omega)
    rw[← List.map_append]
    have g3:=Same.upd (o:=.lst ((row++zs).map V.int)) hp
    exact⟨p,row++zs,rfl,(g1.trans g2).trans g3,(g1.trans g2).free hp,upd_same,by rw[List.length_append];omega⟩
  ·rintro σ H2 ⟨l2,r2,rfl,g2,hl2,el2,hr2⟩
   have q1:=Int.emod_nonneg (d0 / 7) (show (3:Int)≠0 by decide)
   have q2:=Int.emod_lt_of_pos (d0 / 7) (show (0:Int)<3 by decide)
   refine⟨_,rfl,b,_,_,_,rfl,rfl,SqL.of (g2 _ _ hb),e0,_,_,rfl,rfl,⟨by decide,by decide⟩,_,_,rfl,rfl,(by show (0:Int)<3;decide),_,rfl,(by omega),(by omega),
    for_range (lo:=0) (n:=(d0 / 7 % 3).toNat) (fun i σ H3=>∃ (r3:List Int) (v1 v2:Option V),σ=[some (.ref l2),some (.ref b),v1,v2]∧Same H H3∧H3 l2=some (.lst (r3.map V.int))∧r3.length≤200) ⟨r2,none,none,rfl,g2,el2,hr2⟩ ?_ ?_⟩
   ·rintro i σ H3 hi ⟨r3,v1,v2,rfl,g3,el3,hr3⟩
    refine⟨_,rfl,l2,_,rfl,.inl (SqL.of el3),_,_,rfl,rfl,_,rfl,iteD (fun hc=>?_) (fun _=>⟨r3,_,_,rfl,g3,el3,hr3⟩)⟩
    rw[List.length_map]at hc
    have hc':(1:Int)<(r3.length:Int):=hc
    obtain⟨da,_,_,ea⟩:=at_mem (ns:=ds) (i:=2+2 * (0+(i:Int))) (by omega) (by omega)
    obtain⟨db,_,_,eb⟩:=at_mem (ns:=ds) (i:=3+2 * (0+(i:Int))) (by omega) (by omega)
    have hpos:(0:Int)<(r3.length:Int):=by omega
    have c0:=Int.emod_nonneg da (Int.ne_of_gt hpos)
    have c1:=Int.emod_lt_of_pos da hpos
    obtain⟨x1,ex1⟩:=at_any (ns:=r3) (i:=da % (r3.length:Int) - 1) (by omega) (by omega)
    obtain⟨x2,ex2⟩:=at_any (ns:=r3) (i:=da % (r3.length:Int)) (by omega) (by omega)
    obtain⟨x3,ex3⟩:=at_any (ns:=r3) (i:=-1) (by omega) (by omega)
    obtain⟨x4,ex4⟩:=at_any (ns:=r3) (i:=0) (by omega) (by omega)
    refine⟨_,rfl,_,rfl,_,_,rfl,rfl,.inl ⟨by decide,by decide⟩,_,_,rfl,rfl,b,_,_,_,rfl,rfl,SqL.of (g3 _ _ hb),ea,_,rfl,l2,_,rfl,.inl (SqL.of el3),_,_,rfl,rfl,(by rw[List.length_map];exact hpos),?_⟩
    rw[show (fun i j:Int=>V.int (i % j)) da ((r3.map V.int).length:Int)=V.int (da % (r3.length:Int))by rw[List.length_map]]
    obtain⟨z,_,_,ez⟩:=at_mem (ns:=[x1,x2 - 13,x3,x4,x2+40]) (i:=db % 5) (Int.emod_nonneg _ (by decide)) (Int.emod_lt_of_pos _ (by decide))
    refine⟨_,rfl,_,rfl,_,_,rfl,rfl,l2,_,_,_,rfl,rfl,SqL.of el3,ex1,_,rfl,_,rfl,l2,_,_,_,rfl,rfl,SqL.of el3,ex2,_,_,rfl,rfl,_,rfl,_,rfl,l2,_,_,_,rfl,rfl,SqL.of el3,ex3,_,rfl,l2,_,_,_,rfl,rfl,SqL.of el3,ex4,
     _,rfl,_,rfl,l2,_,_,_,rfl,rfl,SqL.of el3,ex2,_,_,rfl,rfl,(show 5≤sizeLine by decide),fun p hp=>?_⟩
    have g4:=Same.upd (o:=.lst [V.int x1,V.int (x2 - 13),V.int x3,V.int x4,V.int (x2+40)]) hp
    have ep:(upd H3 p (.lst [V.int x1,V.int (x2 - 13),V.int x3,V.int x4,V.int (x2+40)])) p=some (.lst ([x1,x2 - 13,x3,x4,x2+40].map V.int)):=upd_same
    generalize upd H3 p (.lst [V.int x1,V.int (x2 - 13),V.int x3,V.int x4,V.int (x2+40)])=H4 at g4 ep ⊢
    have hix:ixN (r3.map V.int).length (da % (r3.length:Int))=some (da % (r3.length:Int)).toNat:=by
     unfold ixN
     rw[List.length_map,if_pos c0,if_pos c1]
    refine⟨_,rfl,_,rfl,_,_,rfl,rfl,.inl ⟨by decide,by decide⟩,_,_,rfl,rfl,b,_,_,_,rfl,rfl,SqL.of ((g3.trans g4) _ _ hb),eb,_,_,rfl,rfl,(by show (0:Int)<5;decide),p,_,_,_,rfl,rfl,SqL.of ep,ez,
     _,rfl,_,rfl,l2,_,_,_,rfl,rfl,g4 _ _ el3,hix,?_⟩
    exact⟨r3.set (da % (r3.length:Int)).toNat z,_,_,rfl,Same.upd' hl2 (g3.trans g4),by rw[upd_same,List.map_set],by rw[List.length_set];exact hr3⟩
   ·rintro σ H3 ⟨r3,v1,v2,rfl,g3,el3,hr3⟩
    exact⟨_,rfl,k r3 hr3 l2 H3 hl2 g3 el3⟩
noncomputable abbrev s_law_sober:Stmt:=top 40
theorem sc_law_sober:FnScope ["_law_niches","_law_row_here","_law_stones","_law_niche"] ["_law_niches","_law_row_here"] (defScope s_law_sober):=⟨rfl,rfl,rfl,by decide +kernel,rfl,by decide +kernel,by decide +kernel⟩
theorem ok_law_sober {f:Addr} {fd:FuncData} (F:Fun K "_law_sober" "_law_sober" s_law_sober f fd) (B:Bt mg):FnOk P w K mg base CX0 1 f fd ["_law_niches","_law_row_here"] spSoberN:=by
 refine F.ok sc_law_sober (fun vs H Q E h=>?_) (fun cdv A outer s H vs Q E hr h=>?_)
 ·obtain⟨n,a,r,rfl,_⟩:=h
  rfl
 ·obtain⟨n,a,r,rfl,ha,hrow,hl,hn0,hn1,kk⟩:=h
  refine⟨_,(pss_cons (ps_set (i:=2) sc_law_sober.nd rfl (Or.inl rfl) pe_int)
 (pss_cons (ps_for PassesOwn.never rfl (pi_range2 rfl B.range (pa_cons pe_int (pa_cons (pe_op op_add (pv 0) pe_int) pa_nil))) (pg_name (i:=3) sc_law_sober.nd rfl (Or.inl rfl))
 (pss_cons (ps_aug (i:=2) sc_law_sober.nd rfl (Or.inl rfl) (pe_callTy call_int1 (by rfl) B.int boot_int (pa_cons (pe_cmpR op_in_seq (pv 3) (pv 1) (by with_unfolding_all rfl)) pa_nil)) ip_add)
 (pss_one (ps_if (pt_cmpR op_gt (pe_op op_mul pe_int (pv 2)) (pv 3) (nomark _))
 (pss_one (ps_ret pe_bl))
 pss_nil))))
 (pss_one (ps_ret (pe_callB (call_all rfl) (by rfl) B.all boot_all (pa_cons (pe_comp ["_law_place"] ["_law_niches"] [0] rfl (.of (show compOk (defScope s_law_sober) _ ["_law_niches","_law_row_here","_law_stones","_law_niche"] [0] ["_law_niches"]=true by decide +kernel)) (pi_list (pv 1)) (fun _ _ _=>(pg_name (i:=0) (show (["_law_place","_law_niches"]:List Str).Nodup by decide +kernel) rfl (Or.inl rfl))) (kg_name (by decide)) (fun _ _ _=>pif_nil) (fun _ _ _=>(pe_chain op_le op_le pe_int (pv 0) (pv 1)))) pa_nil)))))),?_⟩
  refine⟨_,rfl,_,_,rfl,rfl,_,_,rfl,⟨by decide,by decide,by omega,by omega⟩,for_range (lo:=1) (fun i σ H2=>∃ v3:Option V,σ=[some (.int n),some (.ref a),some (.int (cS r (i:Int))),v3]∧H2=H∧∀ k:Nat,k<i→2 * (cS r ((k:Int)+1):Int)≤(k:Int)+1) ⟨none,by rw[show ((0:Nat):Int)=0 from rfl,cS_zero];rfl,rfl,fun k hk=>absurd hk (Nat.not_lt_zero k)⟩ ?_ ?_⟩
  ·rintro i σ H2 hi ⟨v3,rfl,rfl,hk⟩
   have e1:(1:Int)+(i:Int)=(i:Int)+1:=by omega
   have st:=cS_step (k:=(i:Int)) (by omega) hrow
   refine⟨_,rfl,_,rfl,_,rfl,a,_,rfl,.inl (SqL.of ha),rfl,flat_ints r,.inr ⟨_,rfl,_,_,rfl,rfl,?_⟩⟩
   have hin:inV (V.int (1+(i:Int))) (r.map V.int)=decide (((i:Int)+1)∈r):=by rw[e1];exact inV_ints _ r
   show _
   have hnew:(cS r (i:Int):Int)+(if inV (V.int (1+(i:Int))) (r.map V.int)=true then 1 else 0)=(cS r ((i:Int)+1):Int):=by
    rw[hin,st]
    by_cases c:((i:Int)+1)∈r
    ·rw[decide_eq_true c,if_pos rfl,if_pos c]
    ·rw[decide_eq_false c,if_neg (by decide),if_neg c]
   refine⟨_,rfl,_,_,rfl,rfl,.inl ⟨by decide,by decide⟩,_,rfl,_,_,rfl,rfl,_,rfl,?_⟩
   show if decide (2 * ((cS r (i:Int):Int)+(if inV (V.int (1+(i:Int))) (r.map V.int)=true then 1 else 0)) > 1+(i:Int))=true then _ else _
   rw[hnew]
   refine iteD (fun c=>?_) (fun c=>?_)
   ·refine kk false ⟨fun h=>(by cases h),fun h=>?_⟩ _ (Same.refl _)
    have:=((sober_iff hrow n).mpr h).1 i (by omega)
    omega
   ·refine⟨some (V.int (1+(i:Int))),?_,rfl,fun k hk'=>?_⟩
    ·show [_,_,some (V.int ((cS r (i:Int):Int)+(if inV (V.int (1+(i:Int))) (r.map V.int)=true then 1 else 0))),_]=_
     rw[hnew]
     rfl
    ·rcases Nat.lt_or_ge k i with z | z
     ·exact hk k z
     ·have:k=i:=by omega
      subst this
      omega
  ·rintro σ H2 ⟨v3,rfl,rfl,hk⟩
   refine⟨_,rfl,a,rfl,⟨_,SqL.of ha⟩,comp_list (K:=K) (a:=a) (xs:=r.map V.int) (fun j ys H3=>H3=H2∧ys=((r.take j).map fun x=>decide (1≤x∧x≤n)).map V.bl) ⟨rfl,rfl⟩ ?_ ?_ ?_⟩
   ·rintro j ys H3 hj ⟨rfl,rfl⟩
    rw[List.length_map]at hj
    exact⟨SqL.of ha,by rw[List.length_map,List.length_map,List.length_take];exact line_of (by omega)⟩
   ·rintro j x ys H3 hj ⟨rfl,rfl⟩
    obtain⟨z,rfl,hz⟩:=int_at hj
    have fin:∀ b:Bool,b=decide (1≤z∧z≤n)→((r.take j).map fun x=>decide (1≤x∧x≤n)).map V.bl++[V.bl b]=((r.take (j+1)).map fun x=>decide (1≤x∧x≤n)).map V.bl:=fun b hb=>by
     rw[List.take_succ,hz,hb]
     simp
    refine⟨_,rfl,_,_,rfl,rfl,_,rfl,?_⟩
    by_cases c:1≤z
    ·refine iteDT c ⟨_,rfl,_,_,rfl,rfl,rfl,fin _ ?_⟩
     by_cases c2:z≤n
     ·rw[decide_eq_true c2,decide_eq_true ⟨c,c2⟩]
     ·rw[decide_eq_false c2,decide_eq_false fun h=>c2 h.2]
    ·refine iteDF c ⟨rfl,fin _ ?_⟩
     rw[decide_eq_false fun h=>c h.1]
   ·rintro ys H3 ⟨rfl,rfl⟩ D hD
    rw[List.length_map,List.take_length]
    refine⟨D,_,rfl,upd_same,kk _ ?_ _ (Same.upd hD)⟩
    rw[← sober_iff hrow n,List.all_map,List.all_eq_true]
    constructor
    ·intro h
     refine⟨fun k hkn=>hk k (by omega),fun x hx=>?_⟩
     have:=h x hx
     simpa using this
    ·rintro ⟨_,h⟩ x hx
     have:=h x hx
     simpa using this
noncomputable abbrev s_law_due:Stmt:=top 41
theorem sc_law_due:FnScope ["_law_niches","_law_sizes","_law_bad"] ["_law_niches","_law_sizes"] (defScope s_law_due):=⟨rfl,rfl,rfl,by decide +kernel,rfl,by decide +kernel,by decide +kernel⟩
theorem ok_law_due39 {f:Addr} {fd:FuncData} (F:Fun K "_law_due" "_law_due" s_law_due f fd) (B:Bt mg):FnOk P w K mg base CX0 1 f fd ["_law_niches","_law_sizes"] spLawDueH:=by
 refine F.ok sc_law_due (fun vs H Q E h=>?_) (fun cdv A outer s H vs Q E hr h=>?_)
 ·obtain⟨n,a,ns,rfl,_⟩:=h
  rfl
 ·obtain⟨n,a,ns,rfl,ha,hl,kk⟩:=h
  have hu:=hr.units
  refine⟨_,(pss_cons (ps_if (PW.pt (pw_or (pt_cmpR op_lt (pv 0) pe_int (nomark _)) (pw_or1 (pt_cmpR op_gt (pv 0) pe_int (nomark _)))))
 (pss_one (ps_ret (pe_tup (pa_cons pe_str (pa_cons pe_int pa_nil)))))
 pss_nil)
 (pss_cons (ps_setc (i:=2) ["_law_at"] ["_law_sizes"] [1] rfl sc_law_due.nd rfl rfl (.of (show compOk (defScope s_law_due) _ ["_law_niches","_law_sizes","_law_bad"] [1] ["_law_sizes"]=true by decide +kernel)) (pi_range1 rfl B.range (pa_cons (pe_callB call_len_seq (by rfl) B.len PySem.boot_len (pa_cons (pv 1) pa_nil)) pa_nil)) (fun _ _ _=>(pg_name (i:=0) (show (["_law_at","_law_sizes"]:List Str).Nodup by decide +kernel) rfl (Or.inl rfl))) (kg_name (by decide)) (fun _ _ _=>pif_one (pt_cmpR op_lt (pe_ix (ix_listK K rfl) (pv 1) (pv 0) (fun _ _=>rfl)) pe_int (nomark _))) (fun _ _ _=>(pv 0)) (by first | rfl | decide +kernel))
 (pss_cons (ps_if (pt_cmpR (op_neD hu) (pv 2) (pe_lst pa_nil) (nomark _))
 (pss_one (ps_ret (pe_tup (pa_cons pe_str (pa_cons (pe_ix ix_list (pv 2) pe_int (fun _ _=>rfl)) pa_nil)))))
 pss_nil)
 (pss_one (ps_ret (pe_cut (pe_ifExp (pt_cmpR op_gt (pe_callB (call_sum rfl) (by rfl) B.sum boot_sum (pa_cons (pv 1) pa_nil)) pe_int (nomark _)) (pe_tup (pa_cons pe_str (pa_cons pe_int pa_nil))) (pe_tup (pa_cons pe_str (pa_cons pe_int pa_nil)))))))))),?_⟩
  refine⟨_,rfl,_,_,rfl,rfl,_,rfl,iteD (fun z=>?_) (fun z=>?_)⟩
  ·refine⟨(show 2≤sizeLine by decide),fun t ht=>kk t _ ht (Same.upd ht) ?_⟩
   rw[show dueH n ns=.number by unfold dueH;rw[if_pos (.inl z)]]
   exact upd_same
  refine⟨_,rfl,_,_,rfl,rfl,_,rfl,iteD (fun y=>?_) (fun y=>?_)⟩
  ·refine⟨(show 2≤sizeLine by decide),fun t ht=>kk t _ ht (Same.upd ht) ?_⟩
   rw[show dueH n ns=.number by unfold dueH;rw[if_pos (.inr y)]]
   exact upd_same
  have eH:dueH n ns=dueS ns:=by unfold dueH;rw[if_neg (fun x=>x.elim z y)]
  rw[eH]at kk
  refine⟨_,rfl,a,_,rfl,.inl (SqL.of ha),_,rfl,by omega,by rw[List.length_map];omega,comp_range (lo:=0) (n:=(((ns.map V.int).length:Int)).toNat) (fun i ys H7=>H7=H∧∃ bs:List Int,ys=bs.map V.int∧bs.length≤i∧((bs=[]∧∀ q∈ns.take i,1≤q)∨∃ (j:Nat) (r:List Int),bs=(j:Int) :: r∧dueS ns=.sizes (j:Nat))) ⟨rfl,[],rfl,Nat.le_refl _,.inl ⟨rfl,fun q hq=>by simp at hq⟩⟩ ?_ ?_ ?_⟩
  ·rintro i ys H7 hi ⟨rfl,bs,rfl,hbl,_⟩
   rw[List.length_map]
   rw[List.length_map]at hi
   exact line_of (by omega)
  ·rintro i ys H7 hi ⟨rfl,bs,rfl,hbl,hb⟩
   rw[List.length_map]at hi
   have hil:i<ns.length:=by omega
   have hx:ns[i]?=some ns[i]:=List.getElem?_eq_getElem hil
   have hat:atI (ns.map V.int) (0+(i:Int))=some (.int ns[i]):=by rw[Int.zero_add];exact atI_nat (by rw[List.getElem?_map,hx];rfl)
   refine⟨_,rfl,_,rfl,a,_,_,_,rfl,rfl,SqL.of ha,hat,_,_,rfl,rfl,_,rfl,iteD (fun hlt=>?_) (fun hlt=>?_)⟩
   ·refine⟨_,rfl,rfl,bs++[(i:Int)],by rw[List.map_append,Int.zero_add];rfl,by rw[List.length_append,List.length_singleton];omega,.inr ?_⟩
    rcases hb with ⟨rfl,hg⟩ | ⟨j,r,rfl,hd⟩
    ·exact⟨i,[],rfl,dueS_bad hx hlt hg⟩
    ·exact⟨j,r++[(i:Int)],rfl,hd⟩
   ·refine⟨rfl,bs,rfl,by omega,?_⟩
    rcases hb with ⟨rfl,hg⟩ | h
    ·refine .inl ⟨rfl,fun y hy=>?_⟩
     rw[List.take_succ,hx]at hy
     rcases List.mem_append.mp hy with h | h
     ·exact hg y h
     ·have:y=ns[i]:=by simpa using h
      rw[this];omega
    ·exact .inr h
  rintro ys H7 ⟨rfl,bs,rfl,hbl,hb⟩ D hD
  have g8:=Same.upd (o:=.lst (bs.map V.int)) hD
  have eD:(upd H7 D (.lst (bs.map V.int))) D=some (.lst (bs.map V.int)):=upd_same
  generalize upd H7 D (.lst (bs.map V.int))=H8 at g8 eD ⊢
  refine⟨_,rfl,by decide,fun q0 hq0=>?_⟩
  have g9:=Same.upd (o:=.lst []) hq0
  have eq0:(upd H8 q0 (.lst [])) q0=some (.lst []):=upd_same
  generalize upd H8 q0 (.lst [])=H9 at g9 eq0 ⊢
  have s9:=g8.trans g9
  refine⟨_,_,Den.ints (g9 _ _ eD),.lst eq0 .nil,shaped_ints _,rfl,_,rfl,?_⟩
  rcases hb with ⟨rfl,hg⟩ | ⟨j,r,rfl,hd⟩
  ·rw[show (((ns.map V.int).length:Int)).toNat=ns.length by rw[List.length_map];omega,List.take_length]at hg
   refine⟨fun v H'=>∃ t,v=.ref t∧H7 t=none∧Same H7 H'∧H' t=some (.tup [.str (dueS ns).nm,.int (dueS ns).at]),?_,fun v H' ⟨t,ev,h1,h2,h3⟩=>by rw[ev];exact kk t H' h1 h2 h3⟩
   refine⟨_,rfl,a,ns,rfl,s9 _ _ ha,_,_,rfl,rfl,_,rfl,iteD (fun x=>?_) (fun x=>?_)⟩
   ·refine⟨(show 2≤sizeLine by decide),fun t ht=>⟨t,rfl,s9.free ht,s9.trans (Same.upd ht),?_⟩⟩
    rw[dueS_good hg,if_pos x]
    exact upd_same
   ·refine⟨(show 2≤sizeLine by decide),fun t ht=>⟨t,rfl,s9.free ht,s9.trans (Same.upd ht),?_⟩⟩
    rw[dueS_good hg,if_neg x]
    exact upd_same
  ·refine⟨_,rfl,D,_,_,_,rfl,rfl,SqL.of (g9 _ _ eD),atI_nat (j:=0) (v:=V.int (j:Int)) rfl,(show 2≤sizeLine by decide),fun t ht=>kk t _ (s9.free ht) (s9.trans (Same.upd ht)) ?_⟩
   rw[hd]
   exact upd_same
end
end CW
namespace CW
open PySem L2
section
variable {P:Program} {w:World} {K:PySem.W.Frag} {mg:Str→Option Value} {base:Heap}
noncomputable abbrev s_law:Stmt:=top 42
theorem sc_law:FnScope ["_law_script","_law_numbers_here","_law_niches","_law_sizes","_law_k","_law_row_here","_law_handed","_law_due_here","_law_number","_law_want"] ["_law_script"] (defScope s_law):=⟨rfl,rfl,rfl,by decide +kernel,rfl,by decide +kernel,by decide +kernel⟩
theorem ok_law {f c PT:Addr} {fd:FuncData} {X:Errs K mg} (F:FunC K "law" "law" s_law f fd c) (hC:PySem.W.CodeHd base c PT) (hbm:BMain mg base) (B:Bt mg) (W:WhyAt P w K mg base X 9)
 (F_how_many:FnAtX P w K mg base "how_many" 5 ["niches","sizes"] (spHowX X)) (F_row_numbered:FnAtX P w K mg base "row_numbered" 6 ["niches","sizes","number"] (spRowNumX X)) (F_number_of:FnAtX P w K mg base "number_of" 6 ["niches","row"] (spNumX X)) (F_law_numbers:FnAt P w K mg base "_law_numbers" 1 ["_law_script","_law_many"] (spNumbers K)) (F_law_row:FnAt P w K mg base "_law_row" 1 ["_law_d","_law_most"] spRow)
 (F_law_spoilt_row:FnAt P w K mg base "_law_spoilt_row" 1 ["_law_row_here","_law_d"] spSpoilt) (F_law_row_bad:FnAt P w K mg base "_law_row_bad" 1 ["_law_row_here"] spRowBad) (F_law_due:FnAt P w K mg base "_law_due" 1 ["_law_niches","_law_sizes"] spLawDueH) (F_law_sober:FnAt P w K mg base "_law_sober" 1 ["_law_niches","_law_row_here"] spSoberN) :
 FnOk P w K mg base CX0 11 f fd ["_law_script"] (spLawT K PT):=by
 refine F.ok sc_law (fun vs H Q E h=>?_) (fun A outer s H vs Q E hr h=>?_)
 ·obtain⟨a,ns,rfl,_⟩:=h
  rfl
 ·obtain⟨a,sc,rfl,hP,hS,hlen,kk⟩:=h
  have hu:=hr.units
  refine⟨_,(pss_consO (ps_set (i:=1) sc_law.nd rfl (Or.inr rfl) (pe_fn F_law_numbers hr rfl (pa_cons (pv 0) (pa_cons pe_int pa_nil))))
 (pss_consO (ps_set (i:=2) sc_law.nd rfl (Or.inr rfl) (pe_ix ix_list (pe_lst (pa_cons (pe_op op_mod (pe_ix ix_list (pv 1) pe_int (fun _ _=>rfl)) pe_int) (pa_cons (pe_un un_neg pe_int) (pa_cons pe_int (pa_cons pe_int (pa_cons pe_int (pa_cons (pe_un un_neg (pe_op op_pow pe_int pe_int)) (pa_cons (pe_op op_pow pe_int pe_int) pa_nil)))))))) (pe_op op_mod (pe_ix ix_list (pv 1) pe_int (fun _ _=>rfl)) pe_int) (fun _ _=>rfl)))
 (pss_consO (ps_setc (i:=3) ["_law_k"] ["_law_numbers_here"] [1] rfl sc_law.nd rfl rfl (.of (show compOk (defScope s_law) _ ["_law_script","_law_numbers_here","_law_niches","_law_sizes","_law_k","_law_row_here","_law_handed","_law_due_here","_law_number","_law_want"] [1] ["_law_numbers_here"]=true by decide +kernel)) (pi_range1 rfl B.range (pa_cons (pe_op op_mod (pe_ix ix_list (pv 1) pe_int (fun _ _=>rfl)) pe_int) pa_nil)) (fun _ _ _=>(pg_name (i:=0) (show (["_law_k","_law_numbers_here"]:List Str).Nodup by decide +kernel) rfl (Or.inl rfl))) (kg_name (by decide)) (fun _ _ _=>pif_nil) (fun _ _ _=>(pe_op op_add pe_int (pe_op op_mod (pe_ix (ix_listK K rfl) (pv 1) (pe_op op_add pe_int (pv 0)) (fun _ _=>rfl)) pe_int))) (by first | rfl | decide +kernel))
 (pss_cons (ps_for PassesOwn.never rfl (pi_range1 rfl B.range (pa_cons (pe_op op_mod (pe_ix ix_list (pv 1) pe_int (fun _ _=>rfl)) pe_int) pa_nil)) (pg_name (i:=4) sc_law.nd rfl (Or.inl rfl))
 (pss_one (ps_if (pt_cmpR (op_neD hu) (pv 3) (pe_lst pa_nil) (nomark _))
 (pss_one (ps_asg (pe_ix ix_list (pe_lst (pa_cons pe_int (pa_cons (pe_un un_neg pe_int) (pa_cons (pe_un un_neg (pe_op op_pow pe_int pe_int)) (pa_cons (pe_op op_pow pe_int pe_int) (pa_cons pe_int pa_nil)))))) (pe_op op_mod (pe_ix ix_list (pv 1) (pe_op op_add pe_int (pv 4)) (fun _ _=>rfl)) pe_int) (fun _ _=>rfl)) (pg_sub (pv 3) (pe_op op_mod (pe_ix ix_list (pv 1) (pe_op op_add pe_int (pv 4)) (fun _ _=>rfl)) (pe_callB call_len_seq (by rfl) B.len PySem.boot_len (pa_cons (pv 3) pa_nil))) set_list)))
 pss_nil)))
 (pss_cut (ps_if (pt_cmpR op_eqI (pe_op op_mod (pe_ix ix_list (pv 1) pe_int (fun _ _=>rfl)) pe_int) pe_int (nomark _))
 (pss_one (ps_set (i:=3) sc_law.nd rfl (Or.inl rfl) (pe_op op_cat (pv 3) (pe_lst (pa_cons (pe_op op_sub (pe_op op_add pe_int (pe_op op_mod (pe_ix ix_list (pv 1) pe_int (fun _ _=>rfl)) pe_int)) (pe_callB (call_sum rfl) (by rfl) B.sum boot_sum (pa_cons (pv 3) pa_nil))) pa_nil)))))
 pss_nil)
 (pss_consO (ps_set (i:=5) sc_law.nd rfl (Or.inl rfl) (pe_fn F_law_spoilt_row hr rfl (pa_cons (pe_fn F_law_row hr rfl (pa_cons (pe_slice sl_list (pv 1) (po_some pe_int) po_none) (pa_cons (pe_ix ix_list (pe_lst (pa_cons pe_int (pa_cons pe_int (pa_cons pe_int pa_nil)))) (pe_op op_mod (pe_ix ix_list (pv 1) pe_int (fun _ _=>rfl)) pe_int) (fun _ _=>rfl)) pa_nil))) (pa_cons (pe_slice sl_list (pv 1) (po_some pe_int) po_none) pa_nil))))
 (pss_consO (ps_set (i:=6) sc_law.nd rfl (Or.inr rfl) (pe_lst (pa_cons (pe_callTy call_list_of (by rfl) B.list boot_list (pa_cons (pv 3) pa_nil)) (pa_cons (pe_callTy call_list_of (by rfl) B.list boot_list (pa_cons (pv 5) pa_nil)) pa_nil))))
 (pss_consO (ps_set (i:=7) sc_law.nd rfl (Or.inl rfl) (pe_fn F_law_due hr rfl (pa_cons (pv 2) (pa_cons (pv 3) pa_nil))))
 (pss_consO (ps_if (pt_cmpR (op_neD hu) (pe_whyL (k:=8) ["_law_niches","_law_handed"] [2,6] ⟨rfl,rfl,rfl⟩ W hr rfl rfl hC hbm rfl ⟨rfl,rfl,rfl,by decide +kernel,rfl,(by repeat first | exact CW.fm0 | refine CW.fm1 ⟨rfl,rfl⟩ ?_),CW.has_of (by repeat first | exact CW.fm0 | refine CW.fm1 (fun _=>rfl) ?_ | refine CW.fm1 (fun h=>nomatch h) ?_),(by repeat first | exact CW.ix_nil | refine CW.ix_cons ⟨_,rfl,rfl,Or.inr (Or.inl rfl),(show some PySem.NameKind.cell≠some PySem.NameKind.local by decide),rfl⟩ ?_),rfl⟩ (fun _ _ _=>rfl) (fun _ _ _ _ _ _ _ _ _ hfr hr h=>⟨_,(pe_fnX F_how_many hr rfl (passL hfr) (pa_cons (pv 0) (pa_cons (pe_ix (ix_listK K rfl) (pv 1) pe_int (fun _ _=>rfl)) pa_nil))),h⟩)) (pv 7) (nomark _))
 (pss_one (ps_ret pe_bl))
 pss_nil)
 (pss_consO (ps_set (i:=8) sc_law.nd rfl (Or.inr rfl) (pe_ix ix_list (pe_lst (pa_cons (pe_un un_neg pe_int) (pa_cons (pe_op op_pow pe_int pe_int) pa_nil))) (pe_op op_mod (pe_ix ix_list (pv 1) pe_int (fun _ _=>rfl)) pe_int) (fun _ _=>rfl)))
 (pss_cons (ps_set (i:=9) sc_law.nd rfl (Or.inl rfl) (pe_cut (pe_ifExp (pt_cmpR (op_neD hu) (pe_ix ix_tup (pv 7) pe_int (fun _ _=>rfl)) pe_str (nomark _)) (pv 7) (pe_tup (pa_cons pe_str (pa_cons pe_int pa_nil))))))
 (pss_consO (ps_if (pt_cmpR (op_neD hu) (pe_whyL (k:=8) ["_law_niches","_law_number","_law_handed"] [2,8,6] ⟨rfl,rfl,rfl⟩ W hr rfl rfl hC hbm rfl ⟨rfl,rfl,rfl,by decide +kernel,rfl,(by repeat first | exact CW.fm0 | refine CW.fm1 ⟨rfl,rfl⟩ ?_),CW.has_of (by repeat first | exact CW.fm0 | refine CW.fm1 (fun _=>rfl) ?_ | refine CW.fm1 (fun h=>nomatch h) ?_),(by repeat first | exact CW.ix_nil | refine CW.ix_cons ⟨_,rfl,rfl,Or.inr (Or.inl rfl),(show some PySem.NameKind.cell≠some PySem.NameKind.local by decide),rfl⟩ ?_),rfl⟩ (fun _ _ _=>rfl) (fun _ _ _ _ _ _ _ _ _ hfr hr h=>⟨_,(pe_fnX F_row_numbered hr rfl (passL hfr) (pa_cons (pv 0) (pa_cons (pe_ix (ix_listK K rfl) (pv 2) pe_int (fun _ _=>rfl)) (pa_cons (pv 1) pa_nil)))),h⟩)) (pv 9) (nomark _))
 (pss_one (ps_ret pe_bl))
 pss_nil)
 (pss_consO (ps_set (i:=9) sc_law.nd rfl (Or.inl rfl) (pe_fn F_law_row_bad hr rfl (pa_cons (pv 5) pa_nil)))
 (pss_cut (ps_if (PW.pt (pw_and (pt_cmpR (op_eqD hu) (pe_ix ix_tup (pv 9) pe_int (fun _ _=>rfl)) pe_str (nomark _)) (pw_and1 (PW.pt (pw_or (pt_not (pt_chain op_le op_le pe_int (pv 2) pe_int)) (pw_or1 (pt_not (pt_truth (pe_fn F_law_sober hr rfl (pa_cons (pv 2) (pa_cons (pv 5) pa_nil))) (fun _=>rfl)))))))))
 (pss_one (ps_set (i:=9) sc_law.nd rfl (Or.inl rfl) (pe_tup (pa_cons pe_str (pa_cons pe_int pa_nil)))))
 pss_nil)
 (pss_one (ps_ret (pe_and (pe_cmpR (op_eqD hu) (pe_whyL (k:=8) ["_law_niches","_law_handed"] [2,6] ⟨rfl,rfl,rfl⟩ W hr rfl rfl hC hbm rfl ⟨rfl,rfl,rfl,by decide +kernel,rfl,(by repeat first | exact CW.fm0 | refine CW.fm1 ⟨rfl,rfl⟩ ?_),CW.has_of (by repeat first | exact CW.fm0 | refine CW.fm1 (fun _=>rfl) ?_ | refine CW.fm1 (fun h=>nomatch h) ?_),(by repeat first | exact CW.ix_nil | refine CW.ix_cons ⟨_,rfl,rfl,Or.inr (Or.inl rfl),(show some PySem.NameKind.cell≠some PySem.NameKind.local by decide),rfl⟩ ?_),rfl⟩ (fun _ _ _=>rfl) (fun _ _ _ _ _ _ _ _ _ hfr hr h=>⟨_,(pe_fnX F_number_of hr rfl (passL hfr) (pa_cons (pv 0) (pa_cons (pe_ix (ix_listK K rfl) (pv 1) pe_int (fun _ _=>rfl)) pa_nil))),h⟩)) (pv 9) (nomark _)) (pe_one (pe_cmpR (op_eqD hu) (pv 6) (pe_lst (pa_cons (pv 3) (pa_cons (pv 5) pa_nil))) (nomark _)))))))))))))))))))),?_⟩
  refine fun M1 hM1=>?_
  refine⟨_,rfl,a,sc,90,rfl,hS,hlen,by decide,fun l1 nums H1 hnl hnums hl1 sm1 el1=>?_⟩
  have hP1:=sm1 _ _ hP
  refine hM1 [some (.ref a),some (.ref l1),none,none,none,none,none,none,none,none] _ ?_
  clear hM1 M1
  obtain⟨n0,m0,_,e0⟩:=at_mem (ns:=nums) (i:=0) (by omega) (by omega)
  obtain⟨n1,m1,_,e1⟩:=at_mem (ns:=nums) (i:=1) (by omega) (by omega)
  obtain⟨n2,m2,_,e2⟩:=at_mem (ns:=nums) (i:=2) (by omega) (by omega)
  obtain⟨n3,m3,_,e3⟩:=at_mem (ns:=nums) (i:=3) (by omega) (by omega)
  obtain⟨n17,m17,_,e17⟩:=at_mem (ns:=nums) (i:=17) (by omega) (by omega)
  obtain⟨n18,m18,_,e18⟩:=at_mem (ns:=nums) (i:=18) (by omega) (by omega)
  obtain⟨n19,m19,_,e19⟩:=at_mem (ns:=nums) (i:=19) (by omega) (by omega)
  obtain⟨n29,m29,_,e29⟩:=at_mem (ns:=nums) (i:=29) (by omega) (by omega)
  refine fun M1 hM1=>?_
  refine⟨_,rfl,l1,_,_,_,rfl,rfl,SqL.of el1,e0,_,_,rfl,rfl,(by show (0:Int)<201;decide),_,rfl,_,_,rfl,rfl,⟨by decide,by decide,by decide⟩,_,rfl,_,_,rfl,rfl,⟨by decide,by decide,by decide⟩,(show 7≤sizeLine by decide),fun pc hpc=>?_⟩
  show tOp _ _ _ _ (upd H1 pc (HO.lst [V.int (n0 % 201),V.int (-1),V.int 201,V.int 200,V.int 0,V.int (-((10:Int) ^ (40:Int).toNat)),V.int ((10:Int) ^ (40:Int).toNat)])) _
  obtain⟨cl,hcl⟩:∃ cl:List Int,cl=[n0 % 201,-1,201,200,0,-((10:Int) ^ (40:Int).toNat),(10:Int) ^ (40:Int).toNat]:=⟨_,rfl⟩
  rw[show HO.lst [V.int (n0 % 201),V.int (-1),V.int 201,V.int 200,V.int 0,V.int (-((10:Int) ^ (40:Int).toNat)),V.int ((10:Int) ^ (40:Int).toNat)]=HO.lst (cl.map V.int)by rw[hcl];rfl]
  have g2:=Same.upd (o:=.lst (cl.map V.int)) hpc
  have epc:(upd H1 pc (.lst (cl.map V.int))) pc=some (.lst (cl.map V.int)):=upd_same
  obtain⟨N,_,_,eN⟩:=at_mem (ns:=cl) (i:=n1 % 7) (Int.emod_nonneg _ (by decide)) (by rw[hcl];exact Int.emod_lt_of_pos _ (by decide))
  clear hcl
  generalize upd H1 pc (.lst (cl.map V.int))=H2 at g2 epc ⊢
  refine⟨_,rfl,l1,_,_,_,rfl,rfl,SqL.of (g2 _ _ el1),e1,_,_,rfl,rfl,(by show (0:Int)<7;decide),pc,_,_,_,rfl,rfl,SqL.of epc,eN,?_⟩
  refine hM1 [some (.ref a),some (.ref l1),some (.int N),none,none,none,none,none,none,none] _ ?_
  clear hM1 M1
  have el2:=g2 _ _ el1
  have hP2:=g2 _ _ hP1
  clear g2 epc hpc eN
  refine fun M1 hM1=>?_
  have d1:=Int.emod_nonneg n2 (show (9:Int)≠0 by decide)
  have d2:=Int.emod_lt_of_pos n2 (show (0:Int)<9 by decide)
  refine⟨_,rfl,l1,_,_,_,rfl,rfl,SqL.of el2,e2,_,_,rfl,rfl,(by show (0:Int)<9;decide),_,rfl,by omega,by omega,?_⟩
  refine comp_range (lo:=0) (n:=(n2 % 9).toNat) (fun i ys Hx=>Hx=H2∧∃ ss:List Int,ys=ss.map V.int∧ss.length=i) ⟨rfl,[],rfl,rfl⟩ ?_ ?_ ?_
  ·rintro i ys Hx hi ⟨rfl,ss,rfl,hl⟩
   rw[List.length_map]
   exact line_of (by omega)
  ·rintro i ys Hx hi ⟨rfl,ss,rfl,hl⟩
   obtain⟨y1,w1,_,ey1⟩:=at_mem (ns:=nums) (i:=6+(0+(i:Int))) (by omega) (by omega)
   exact⟨_,rfl,_,rfl,_,_,rfl,rfl,l1,_,_,_,rfl,rfl,SqL.of el2,ey1,_,_,rfl,rfl,(by show (0:Int)<9;decide),_,_,rfl,rfl,rfl,ss++[1+y1 % 9],by rw[List.map_append];rfl,by rw[List.length_append];simp;omega⟩
  rintro ys Hx ⟨rfl,zs0,rfl,hzl0⟩ l3 hl3
  have g3:=Same.upd (o:=.lst (zs0.map V.int)) hl3
  have el30:(upd Hx l3 (.lst (zs0.map V.int))) l3=some (.lst (zs0.map V.int)):=upd_same
  generalize upd Hx l3 (.lst (zs0.map V.int))=H3 at g3 el30 ⊢
  refine hM1 [some (.ref a),some (.ref l1),some (.int N),some (.ref l3),none,none,none,none,none,none] _ ?_
  clear hM1 M1
  have q0:=Int.emod_nonneg n3 (show (3:Int)≠0 by decide)
  have q1:=Int.emod_lt_of_pos n3 (show (0:Int)<3 by decide)
  refine⟨_,rfl,l1,_,_,_,rfl,rfl,SqL.of (g3 _ _ el2),e3,_,_,rfl,rfl,(by show (0:Int)<3;decide),_,rfl,by omega,by omega,
   for_range (lo:=0) (n:=(n3 % 3).toNat) (fun i σ H4=>∃ (zs:List Int) (v4:Option V),σ=[some (.ref a),some (.ref l1),some (.int N),some (.ref l3),v4,none,none,none,none,none]∧Same Hx H4∧H4 l3=some (.lst (zs.map V.int))∧zs.length≤8) ⟨zs0,none,rfl,g3,el30,by omega⟩ ?_ ?_⟩
  ·rintro i σ H4 hi ⟨zs,v4,rfl,sm4,elz,hzl⟩
   obtain⟨x1,_,_,y1⟩:=at_mem (ns:=nums) (i:=4+(0+(i:Int))) (by omega) (by omega)
   obtain⟨x3,_,_,y3⟩:=at_mem (ns:=nums) (i:=15+(0+(i:Int))) (by omega) (by omega)
   refine⟨_,rfl,by decide,fun q0 hq0=>?_⟩
   have g5:=Same.upd (o:=.lst []) hq0
   have eq0:(upd H4 q0 (.lst [])) q0=some (.lst []):=upd_same
   generalize upd H4 q0 (.lst [])=H5 at g5 eq0 ⊢
   have sm5:=sm4.trans g5
   have elz5:=g5 _ _ elz
   refine⟨_,_,Den.ints elz5,Den.ints (ns:=[]) eq0,shaped_ints _,shaped_ints [],_,rfl,?_⟩
   rw[eqv_ints2]
   by_cases hz0:zs=[]
   ·exact iteNS hz0 ⟨zs,_,rfl,sm5,elz5,hzl⟩
   rw[decide_eq_false hz0]
   show (if (!false)=true then _ else _)
   rw[if_pos (show (!false)=true from rfl)]
   have hpos:(0:Int)<(zs.length:Int):=by have:=List.length_pos_iff.mpr hz0;omega
   have c0:=Int.emod_nonneg x1 (Int.ne_of_gt hpos)
   have c1:=Int.emod_lt_of_pos x1 hpos
   obtain⟨c,hc⟩:∃ c:Nat,x1 % (zs.length:Int)=(c:Int):=⟨(x1 % (zs.length:Int)).toNat,by omega⟩
   have el15:=sm5 _ _ el2
   obtain⟨cl,hcl'⟩:∃ cl:List Int,cl=[0,-1,-((10:Int) ^ (40:Int).toNat),(10:Int) ^ (40:Int).toNat,5]:=⟨_,rfl⟩
   refine⟨_,rfl,_,_,rfl,rfl,⟨by decide,by decide,by decide⟩,_,rfl,_,_,rfl,rfl,⟨by decide,by decide,by decide⟩,(show 5≤sizeLine by decide),fun pc hpc=>?_⟩
   rw[show HO.lst [V.int 0,V.int (-1),V.int (-((10:Int) ^ (40:Int).toNat)),V.int ((10:Int) ^ (40:Int).toNat),V.int 5]=HO.lst (cl.map V.int)by rw[hcl'];rfl]
   have g6:=Same.upd (o:=.lst (cl.map V.int)) hpc
   have epc:(upd H5 pc (.lst (cl.map V.int))) pc=some (.lst (cl.map V.int)):=upd_same
   obtain⟨z,_,_,ez⟩:=at_mem (ns:=cl) (i:=x3 % 5) (Int.emod_nonneg _ (by decide)) (by rw[hcl'];exact Int.emod_lt_of_pos _ (by decide))
   clear hcl'
   generalize upd H5 pc (.lst (cl.map V.int))=H6 at g6 epc ⊢
   have elz6:=g6 _ _ elz5
   refine⟨_,rfl,_,rfl,_,_,rfl,rfl,l1,_,_,_,rfl,rfl,SqL.of (g6 _ _ el15),y3,_,_,rfl,rfl,(by show (0:Int)<5;decide),pc,_,_,_,rfl,rfl,SqL.of epc,ez,?_⟩
   have hix:ixN (zs.map V.int).length (x1 % ((zs.map V.int).length:Int))=some c:=by
    rw[List.length_map,hc]
    unfold ixN
    rw[if_pos (by omega),if_pos (by omega)]
    rfl
   refine⟨_,rfl,_,rfl,_,rfl,_,_,rfl,rfl,l1,_,_,_,rfl,rfl,SqL.of (g6 _ _ el15),y1,_,rfl,l3,_,rfl,.inl (SqL.of elz6),_,_,rfl,rfl,(by rw[List.length_map];exact hpos),l3,_,_,_,rfl,rfl,elz6,hix,?_⟩
   refine⟨zs.set c z,_,rfl,Same.upd' hl3 (sm5.trans g6),by rw[upd_same,List.map_set],by rw[List.length_set];exact hzl⟩
  rintro σ H4 ⟨zs1,v4,rfl,sm4,elz1,hzl1⟩
  refine⟨fun σ' H'=>∃ (lz:Addr) (zs:List Int),σ'=[some (.ref a),some (.ref l1),some (.int N),some (.ref lz),v4,none,none,none,none,none]∧Same Hx H'∧H' lz=some (.lst (zs.map V.int))∧zs.length≤9,?_,?_⟩
  ·refine⟨_,rfl,l1,_,_,_,rfl,rfl,SqL.of (sm4 _ _ el2),e17,_,_,rfl,rfl,(by show (0:Int)<4;decide),_,_,rfl,rfl,_,rfl,iteD (fun _=>?_) (fun _=>⟨l3,zs1,rfl,sm4,elz1,by omega⟩)⟩
   refine⟨_,rfl,_,rfl,l1,_,_,_,rfl,rfl,SqL.of (sm4 _ _ el2),e18,_,_,rfl,rfl,(by show (0:Int)<2;decide),_,_,rfl,rfl,_,rfl,l3,zs1,rfl,elz1,_,_,rfl,rfl,(show 1≤sizeLine by decide),fun lb hlb=>?_⟩
   have g7:=Same.upd (o:=.lst [V.int (60+n18 % 2 - zs1.sum)]) hlb
   have elb:(upd H4 lb (.lst [V.int (60+n18 % 2 - zs1.sum)])) lb=some (.lst [V.int (60+n18 % 2 - zs1.sum)]):=upd_same
   refine⟨l3,lb,_,_,rfl,rfl,g7 _ _ elz1,elb,line_le (by rw[List.length_map];simp;omega),fun lq hlq=>⟨lq,zs1++[60+n18 % 2 - zs1.sum],rfl,(sm4.trans g7).trans (Same.upd hlq),?_,by rw[List.length_append];simp;omega⟩⟩
   rw[upd_same,List.map_append]
   rfl
  rintro σ' H5 ⟨lz,zs,rfl,s5,elz,hzl⟩
  have el5:=s5 _ _ el2
  have hP5:=s5 _ _ hP2
  clear g3 el30 sm4 elz1 el2 hP2 hzl1 hzl0
  refine fun M1 hM1=>?_
  refine⟨_,rfl,_,rfl,l1,_,rfl,SqL.of el5,fun p1 hp1=>?_⟩
  rw[show cutV (nums.map V.int) (some 30) none=(nums.drop 30).map V.int from cut_from nums 30 (by omega)]
  have g6:=Same.upd (o:=.lst ((nums.drop 30).map V.int)) hp1
  have ep1:(upd H5 p1 (.lst ((nums.drop 30).map V.int))) p1=some (.lst ((nums.drop 30).map V.int)):=upd_same
  generalize upd H5 p1 (.lst ((nums.drop 30).map V.int))=H6 at g6 ep1 ⊢
  refine⟨(show 3≤sizeLine by decide),fun p2 hp2=>?_⟩
  have g7:=Same.upd (o:=.lst [V.int 5,V.int 12,V.int 40]) hp2
  have ep2:(upd H6 p2 (.lst [V.int 5,V.int 12,V.int 40])) p2=some (.lst ([5,12,40].map V.int)):=upd_same
  generalize upd H6 p2 (.lst [V.int 5,V.int 12,V.int 40])=H7 at g7 ep2 ⊢
  obtain⟨mm,hmm,_,em⟩:=at_mem (ns:=[5,12,40]) (i:=n19 % 3) (Int.emod_nonneg _ (by decide)) (Int.emod_lt_of_pos _ (by decide))
  obtain⟨m,rfl,hm⟩:∃ m:Nat,mm=(m:Int)∧m≤40:=⟨mm.toNat,by simp at hmm;omega,by simp at hmm;omega⟩
  have s57:=g6.trans g7
  refine⟨_,rfl,l1,_,_,_,rfl,rfl,SqL.of (s57 _ _ el5),e19,_,_,rfl,rfl,(by show (0:Int)<3;decide),p2,_,_,_,rfl,rfl,SqL.of ep2,em,?_⟩
  refine⟨p1,nums.drop 30,m,rfl,g7 _ _ ep1,fun n hn=>hnums n (List.mem_of_mem_drop hn),by simp;omega,by omega,fun r0 _ hr0l _ lr0 H8 hlr0 g8 elr0=>?_⟩
  have s58:=s57.trans g8
  refine⟨_,rfl,_,rfl,l1,_,rfl,SqL.of (s58 _ _ el5),fun p3 hp3=>?_⟩
  rw[show cutV (nums.map V.int) (some 20) none=(nums.drop 20).map V.int from cut_from nums 20 (by omega)]
  have g9:=Same.upd (o:=.lst ((nums.drop 20).map V.int)) hp3
  have ep3:(upd H8 p3 (.lst ((nums.drop 20).map V.int))) p3=some (.lst ((nums.drop 20).map V.int)):=upd_same
  generalize upd H8 p3 (.lst ((nums.drop 20).map V.int))=H9 at g9 ep3 ⊢
  refine⟨lr0,p3,r0,nums.drop 20,rfl,g9 _ _ elr0,by omega,ep3,by simp;omega,fun row hrl lr H10 hlr g10 elr=>?_⟩
  refine hM1 [some (.ref a),some (.ref l1),some (.int N),some (.ref lz),v4,some (.ref lr),none,none,none,none] _ ?_
  clear hM1 M1
  have s510:=(s58.trans g9).trans g10
  have el10:=s510 _ _ el5
  have elz10:=s510 _ _ elz
  have hP10:=s510 _ _ hP5
  clear g6 g7 g8 g9 g10 s57 s58 s510 ep1 ep2 ep3 elr0 hp1 hp2 hp3 hlr0 hlr el5 elz hP5
  refine fun M1 hM1=>?_
  refine⟨_,rfl,lz,_,rfl,.inl (SqL.of elz10),fun h1 hh1=>?_⟩
  have g1:=Same.upd (o:=.lst (zs.map V.int)) hh1
  have eh1:(upd H10 h1 (.lst (zs.map V.int))) h1=some (.lst (zs.map V.int)):=upd_same
  generalize upd H10 h1 (.lst (zs.map V.int))=H11 at g1 eh1 ⊢
  refine⟨_,rfl,lr,_,rfl,.inl (SqL.of (g1 _ _ elr)),fun h2 hh2=>?_⟩
  have g2:=Same.upd (o:=.lst (row.map V.int)) hh2
  have eh2:(upd H11 h2 (.lst (row.map V.int))) h2=some (.lst (row.map V.int)):=upd_same
  generalize upd H11 h2 (.lst (row.map V.int))=H12 at g2 eh2 ⊢
  refine⟨(show 2≤sizeLine by decide),fun lh hlh=>?_⟩
  have g3:=Same.upd (o:=.lst [V.ref h1,V.ref h2]) hlh
  have elh:(upd H12 lh (.lst [V.ref h1,V.ref h2])) lh=some (.lst [V.ref h1,V.ref h2]):=upd_same
  generalize upd H12 lh (.lst [V.ref h1,V.ref h2])=H13 at g3 elh ⊢
  refine hM1 [some (.ref a),some (.ref l1),some (.int N),some (.ref lz),v4,some (.ref lr),some (.ref lh),none,none,none] _ ?_
  clear hM1 M1
  have s1013:=(g1.trans g2).trans g3
  have el13:=s1013 _ _ el10
  have elz13:=s1013 _ _ elz10
  have elr13:=s1013 _ _ elr
  have hP13:=s1013 _ _ hP10
  have eh113:=(g2.trans g3) _ _ eh1
  have eh213:=g3 _ _ eh2
  clear g1 g2 g3 s1013 eh1 eh2 hh1 hh2 hlh el10 elz10 elr hP10
  refine fun M1 hM1=>?_
  refine⟨_,rfl,_,rfl,N,lz,zs,rfl,elz13,by omega,fun td H14 htd g14 etd=>?_⟩
  refine hM1 [some (.ref a),some (.ref l1),some (.int N),some (.ref lz),v4,some (.ref lr),some (.ref lh),some (.ref td),none,none] _ ?_
  clear hM1 M1
  have hP14:=g14 _ _ hP13
  have ne:∀ {Hq:Hp} {b:Addr} {vs:List V} {psq:Array Value},Hq PT=some (.tbl psq)→Hq b=some (.lst vs)→b≠PT:=fun hp e=>tbl_ne hp e fun _ z=>by cases z
  have n1:=ne hP13 el13
  have nz:=ne hP13 elz13
  have nr:=ne hP13 elr13
  have nh:=ne hP13 elh
  have nh1:=ne hP13 eh113
  have nh2:=ne hP13 eh213
  have ntd:td≠PT:=tbl_ne hP14 etd fun _ z=>by cases z
  have el14:=g14 _ _ el13
  have elz14:=g14 _ _ elz13
  have elr14:=g14 _ _ elr13
  have elh14:=g14 _ _ elh
  have eh114:=g14 _ _ eh113
  have eh214:=g14 _ _ eh213
  clear g14 el13 elz13 elr13 hP13 elh eh113 eh213
  have hshr:∀ r:Ref,SeqAt.shaped (.tuple [.str r.nm,.int r.at])=true:=fun r=>shaped_why r.at (Ref.strOk r)
  have dt:∀ {r:Ref} {H:Hp} {t:Addr},H t=some (.tup [.str r.nm,.int r.at])→Den H (.ref t) (.tuple [.str r.nm,.int r.at]):=fun e=>.tup e (.cons (.str _) (.cons (.int _) .nil))
  refine fun M1 hM1=>?_
  refine⟨_,hP14,True.intro,rfl,why_got (dueH N zs).nm (dueH N zs).at ?_ (fun H' t0 Q' g et0 kk=>⟨_,rfl,_,rfl,lh,_,_,_,rfl,rfl,SqL.of (g _ _ nh elh14),rfl,how_why (g _ _ nh1 eh114) (by omega) et0 kk⟩) fun t1 H15 c1 ps1 g15 hP15 hps1 et1=>?_⟩
  ·rintro H Q Q' E E' hQ hE ⟨v,hv,v2,hv2,b1,b2,b3,b4,b5,b6,b7,b8,h⟩
   exact⟨v,hv,v2,hv2,b1,b2,b3,b4,b5,b6,b7,b8,monoHowX _ _ _ _ _ _ hQ hE h⟩
  refine⟨_,rfl,_,_,dt et1,dt (g15 _ _ ntd etd),hshr _,hshr _,_,rfl,?_⟩
  rw[eqv_self (hshr _)]
  have tr1:=triples_snoc (ps:=#[]) (ps':=ps1) True.intro hps1
  refine hM1 [some (.ref a),some (.ref l1),some (.int N),some (.ref lz),v4,some (.ref lr),some (.ref lh),some (.ref td),none,none] _ ?_
  clear hM1 M1
  have el15:=g15 _ _ n1 el14
  have elz15:=g15 _ _ nz elz14
  have elr15:=g15 _ _ nr elr14
  have elh15:=g15 _ _ nh elh14
  have eh115:=g15 _ _ nh1 eh114
  have eh215:=g15 _ _ nh2 eh214
  have etd15:=g15 _ _ ntd etd
  clear g15 el14 elz14 elr14 elh14 eh114 eh214 etd hP14 et1
  refine fun M1 hM1=>?_
  refine⟨_,rfl,_,_,rfl,rfl,⟨by decide,by decide,by decide⟩,(show 2≤sizeLine by decide),fun pk hpk=>?_⟩
  show tOp _ _ _ _ (upd H15 pk (HO.lst [V.int (-1),V.int ((10:Int) ^ (55:Int).toNat)])) _
  obtain⟨cl,hcl⟩:∃ cl:List Int,cl=[-1,(10:Int) ^ (55:Int).toNat]:=⟨_,rfl⟩
  rw[show HO.lst [V.int (-1),V.int ((10:Int) ^ (55:Int).toNat)]=HO.lst (cl.map V.int)by rw[hcl];rfl]
  have g16:=Same.upd (o:=.lst (cl.map V.int)) hpk
  have epk:(upd H15 pk (.lst (cl.map V.int))) pk=some (.lst (cl.map V.int)):=upd_same
  obtain⟨kn,hkm,_,ekn⟩:=at_mem (ns:=cl) (i:=n29 % 2) (Int.emod_nonneg _ (by decide)) (by rw[hcl];exact Int.emod_lt_of_pos _ (by decide))
  have hkn:kn<0∨10 ^ 55≤kn:=by
   rw[hcl]at hkm
   rcases List.mem_cons.mp hkm with e | e
   ·left;rw[e];decide
   ·right;rw[List.mem_singleton.mp e];exact Int.le_refl _
  clear hcl hkm
  generalize upd H15 pk (.lst (cl.map V.int))=H16 at g16 epk ⊢
  refine⟨_,rfl,l1,_,_,_,rfl,rfl,SqL.of (g16 _ _ el15),e29,_,_,rfl,rfl,(by show (0:Int)<2;decide),pk,_,_,_,rfl,rfl,SqL.of epk,ekn,?_⟩
  refine hM1 [some (.ref a),some (.ref l1),some (.int N),some (.ref lz),v4,some (.ref lr),some (.ref lh),some (.ref td),some (.int kn),none] _ ?_
  clear hM1 M1 epk ekn
  have etd16:=g16 _ _ etd15
  refine⟨fun v H'=>∃ tw:Addr,v=.ref tw∧Same H16 H'∧H' tw=some (.tup [.str (dueRn N zs).nm,.int (dueRn N zs).at]),?_,?_⟩
  ·refine⟨_,rfl,td,_,_,_,rfl,rfl,SqT.of etd16,rfl,_,_,.str _,.str _,shaped_str (Ref.strOk _),(by decide +kernel),_,rfl,?_⟩
   rw[Ref.eqv_ok]
   by_cases hnm:(dueH N zs).nm=""
   ·rw[decide_eq_true hnm]
    refine⟨(show 2≤sizeLine by decide),fun t ht=>⟨t,rfl,Same.upd ht,?_⟩⟩
    rw[dueRn_ok (Ref.nm_ok.mp hnm)]
    exact upd_same
   ·rw[decide_eq_false hnm]
    refine⟨_,rfl,td,rfl,Same.refl _,?_⟩
    rw[dueRn_bad (fun z=>hnm (Ref.nm_ok.mpr z))]
    exact etd16
  rintro v H17 ⟨tw,rfl,g17,etw⟩
  have s1517:=g16.trans g17
  have hP17:=s1517 _ _ hP15
  have ntw:tw≠PT:=tbl_ne hP17 etw fun _ z=>by cases z
  have elz17:=s1517 _ _ elz15
  have elr17:=s1517 _ _ elr15
  have elh17:=s1517 _ _ elh15
  have eh117:=s1517 _ _ eh115
  have eh217:=s1517 _ _ eh215
  clear g16 g17 s1517 el15 elz15 elr15 elh15 eh115 eh215 etd15 etd16 hP15
  refine fun M1 hM1=>?_
  refine⟨_,hP17,tr1,(by rw[hps1];rfl),why_got (dueRn N zs).nm (dueRn N zs).at ?_ (fun H' t0 Q' g et0 kk=>⟨_,rfl,_,rfl,lh,_,_,_,rfl,rfl,SqL.of (g _ _ nh elh17),rfl,_,rfl,rown_why (t0:=t0) (g _ _ nh1 eh117) (by omega) hkn kk⟩) fun t2 H18 c2 ps2 g18 hP18 hps2 et2=>?_⟩
  ·rintro H Q Q' E E' hQ hE ⟨v,hv,v2,hv2,b1,b2,b3,b4,b5,b6,b7,b8,v3,hv3,h⟩
   exact⟨v,hv,v2,hv2,b1,b2,b3,b4,b5,b6,b7,b8,v3,hv3,monoRowNumX _ _ _ _ _ _ hQ hE h⟩
  refine⟨_,rfl,_,_,dt et2,dt (g18 _ _ ntw etw),hshr _,hshr _,_,rfl,?_⟩
  rw[eqv_self (hshr _)]
  have tr2:=triples_snoc (ps:=ps1) (ps':=ps2) tr1 hps2
  refine hM1 [some (.ref a),some (.ref l1),some (.int N),some (.ref lz),v4,some (.ref lr),some (.ref lh),some (.ref td),some (.int kn),some (.ref tw)] _ ?_
  clear hM1 M1
  have elz18:=g18 _ _ nz elz17
  have elr18:=g18 _ _ nr elr17
  have elh18:=g18 _ _ nh elh17
  have eh118:=g18 _ _ nh1 eh117
  have eh218:=g18 _ _ nh2 eh217
  clear g18 elz17 elr17 elh17 eh117 eh217 etw hP17 et2
  refine fun M1 hM1=>?_
  refine⟨_,rfl,lr,row,rfl,elr18,hrl,fun nm i hw tb htb=>?_⟩
  obtain⟨rfl,rfl⟩:=whyRow_uniq hw (dueRow_why row)
  have g19:=Same.upd (o:=.tup [.str (dueRow row).nm,.int (dueRow row).at]) htb
  have etb:(upd H18 tb (.tup [.str (dueRow row).nm,.int (dueRow row).at])) tb=some (.tup [.str (dueRow row).nm,.int (dueRow row).at]):=upd_same
  generalize upd H18 tb (.tup [.str (dueRow row).nm,.int (dueRow row).at])=H19 at g19 etb ⊢
  refine hM1 [some (.ref a),some (.ref l1),some (.int N),some (.ref lz),v4,some (.ref lr),some (.ref lh),some (.ref td),some (.int kn),some (.ref tb)] _ ?_
  clear hM1 M1
  refine⟨fun σ' H'=>∃ tv:Addr,σ'=[some (.ref a),some (.ref l1),some (.int N),some (.ref lz),v4,some (.ref lr),some (.ref lh),some (.ref td),some (.int kn),some (.ref tv)]∧Same H19 H'∧H' tv=some (.tup [.str (dueNm N row).nm,.int (dueNm N row).at]),?_,?_⟩
  ·refine⟨_,rfl,tb,_,_,_,rfl,rfl,SqT.of etb,rfl,_,_,.str _,.str _,shaped_str (Ref.strOk _),(by decide +kernel),_,rfl,?_⟩
   rw[Ref.eqv_ok]
   by_cases hnm:(dueRow row).nm=""
   ·rw[decide_eq_true hnm]
    have hok:=Ref.nm_ok.mp hnm
    obtain⟨hrow,hr60⟩:=dueRow_row.mp hok
    have bad:∀ {Hq:Hp},Same H19 Hq→badN N∨¬ (Sob row∧∀ x∈row,x≤N)→∀ t,Hq t=none→∃ tv:Addr,[some (V.ref a),some (.ref l1),some (.int N),some (.ref lz),v4,some (.ref lr),some (.ref lh),some (.ref td),some (.int kn),some (.ref t)]=[some (V.ref a),some (.ref l1),some (.int N),some (.ref lz),v4,some (.ref lr),some (.ref lh),some (.ref td),some (.int kn),some (.ref tv)]∧Same H19 (upd Hq t (.tup [.str "BadNumber",.int 0]))∧(upd Hq t (.tup [.str "BadNumber",.int 0])) tv=some (.tup [.str (dueNm N row).nm,.int (dueNm N row).at]):=fun g hb t ht=>⟨t,rfl,g.trans (Same.upd ht),by rw[dueNm_num hok hb];exact upd_same⟩
    refine⟨_,rfl,_,_,rfl,rfl,_,rfl,?_⟩
    by_cases c1:0≤N
    ·refine iteDT c1 ⟨_,_,rfl,rfl,_,rfl,?_⟩
     by_cases c2:N≤200
     ·rw[decide_eq_true c2]
      refine⟨_,rfl,_,rfl,N,lr,row,rfl,g19 _ _ elr18,hrow,hr60,c1,by omega,fun b hb Hq gq=>?_⟩
      cases b with
      | true=>exact⟨_,rfl,tb,rfl,gq,by rw[dueNm_ok hok (fun z=>by unfold badN at z;omega) (hb.mp rfl),hok.symm];exact gq _ _ etb⟩
      | false=>exact⟨_,rfl,(show 2≤sizeLine by decide),fun t ht=>bad gq (.inr fun z=>by have:=hb.mpr z;cases this) t ht⟩
     ·rw[decide_eq_false c2]
      exact⟨(show 2≤sizeLine by decide),fun t ht=>bad (Same.refl _) (.inl (.inr (by omega))) t ht⟩
    ·refine iteDF c1 ⟨_,rfl,?_⟩
     exact⟨(show 2≤sizeLine by decide),fun t ht=>bad (Same.refl _) (.inl (.inl (by omega))) t ht⟩
   ·rw[decide_eq_false hnm]
    exact⟨tb,rfl,Same.refl _,by rw[dueNm_bad (fun z=>hnm (Ref.nm_ok.mpr z))];exact etb⟩
  rintro σ' H20 ⟨tv,rfl,g20,etv⟩
  have s20:=g19.trans g20
  have hP20:=s20 _ _ hP18
  have ntv:tv≠PT:=tbl_ne hP20 etv fun _ z=>by cases z
  have elz20:=s20 _ _ elz18
  have elr20:=s20 _ _ elr18
  have elh20:=s20 _ _ elh18
  have eh120:=s20 _ _ eh118
  have eh220:=s20 _ _ eh218
  refine⟨_,hP20,tr2,(by rw[hps2,hps1];rfl),why_got (dueNm N row).nm (dueNm N row).at ?_ (fun H' t0 Q' g et0 kk=>⟨_,rfl,_,rfl,lh,_,_,_,rfl,rfl,SqL.of (g _ _ nh elh20),rfl,numx_why (g _ _ nh2 eh220) hrl et0 kk⟩) fun t3 H21 c3 ps3 g21 hP21 hps3 et3=>?_⟩
  ·rintro H Q Q' E E' hQ hE ⟨v,hv,v2,hv2,b1,b2,b3,b4,b5,b6,b7,b8,h⟩
   exact⟨v,hv,v2,hv2,b1,b2,b3,b4,b5,b6,b7,b8,monoNumX _ _ _ _ _ _ hQ hE h⟩
  refine⟨_,rfl,_,_,dt et3,dt (g21 _ _ ntv etv),hshr _,hshr _,?_⟩
  rw[eqv_self (hshr _)]
  have elz21:=g21 _ _ nz elz20
  have elr21:=g21 _ _ nr elr20
  have elh21:=g21 _ _ nh elh20
  have eh121:=g21 _ _ nh1 eh120
  have eh221:=g21 _ _ nh2 eh220
  have hsh2:=shaped_2i zs row
  refine⟨_,rfl,_,rfl,_,rfl,_,rfl,(show 2≤sizeLine by decide),fun q hq=>?_⟩
  have g22:=Same.upd (o:=.lst [V.ref lz,V.ref lr]) hq
  refine⟨_,_,.lst (g22 _ _ elh21) (.cons (Den.ints (g22 _ _ eh121)) (.cons (Den.ints (g22 _ _ eh221)) .nil)),.lst upd_same (.cons (Den.ints (g22 _ _ elz21)) (.cons (Den.ints (g22 _ _ elr21)) .nil)),hsh2,hsh2,?_⟩
  rw[eqv_self hsh2]
  exact kk _
end
end CW
namespace CW
open PySem L2
theorem all_mk {l:PySem.W.OpenLaw} {w:World} {K:PySem.W.Frag} {h:Heap} {mg:Str→Option Value} {fa:Addr} {ts:List Addr} {PT:Addr} (hts:PT∈ts) (X:K.In h) (G:h.Ns mainGlobals mg) (hfa:mg "law"=some (.ref fa))
 {C_BadRow:Addr}
 {C_BadTrains:Addr}
 {C_BadSizes:Addr}
 {C_TooMany:Addr}
 {C_BadCreel:Addr}
 {C_BadNumber:Addr}
 {C_TooNear:Addr}
 {C_Bare:Addr}
 {C_CreelError:Addr}
 {I_CreelError:Addr} {od_CreelError an_CreelError:Option Addr} {sl_CreelError:Array (Option Value)} {oc_CreelError kV_CreelError dc_CreelError pm_CreelError cd_CreelError ct_CreelError:Value}
 {T_CreelError:Addr} {uc_CreelError:Value} {ud_CreelError:Option Addr} {un_CreelError:Nat} {us_CreelError:Array (Option Value)} {ta_CreelError:Tok} {tb_CreelError:Tok}
 {I_TooMany:Addr} {od_TooMany an_TooMany:Option Addr} {sl_TooMany:Array (Option Value)} {oc_TooMany kV_TooMany dc_TooMany pm_TooMany cd_TooMany ct_TooMany:Value}
 {T_TooMany:Addr} {uc_TooMany:Value} {ud_TooMany:Option Addr} {un_TooMany:Nat} {us_TooMany:Array (Option Value)} {ta_TooMany:Tok}
 {I_BadRow:Addr} {od_BadRow an_BadRow:Option Addr} {sl_BadRow:Array (Option Value)} {oc_BadRow kV_BadRow dc_BadRow pm_BadRow cd_BadRow ct_BadRow:Value}
 {I_BadSizes:Addr} {od_BadSizes an_BadSizes:Option Addr} {sl_BadSizes:Array (Option Value)} {oc_BadSizes kV_BadSizes dc_BadSizes pm_BadSizes cd_BadSizes ct_BadSizes:Value}
 {I_BadNumber:Addr} {od_BadNumber an_BadNumber:Option Addr} {sl_BadNumber:Array (Option Value)} {oc_BadNumber kV_BadNumber dc_BadNumber pm_BadNumber cd_BadNumber ct_BadNumber:Value}
 {T_BadNumber:Addr} {uc_BadNumber:Value} {ud_BadNumber:Option Addr} {un_BadNumber:Nat} {us_BadNumber:Array (Option Value)} {ta_BadNumber:Tok}
 {f0:Addr} {od0 an0:Option Addr} {sl0:Array (Option Value)} {oc0 kV0 dc0 pm0 ct0:Value} {cd0:Value}
 {f1:Addr} {od1 an1:Option Addr} {sl1:Array (Option Value)} {oc1 kV1 dc1 pm1 ct1:Value} {cd1:Value}
 {f2:Addr} {od2 an2:Option Addr} {sl2:Array (Option Value)} {oc2 kV2 dc2 pm2 ct2:Value} {cd2:Value}
 {f3:Addr} {od3 an3:Option Addr} {sl3:Array (Option Value)} {oc3 kV3 dc3 pm3 ct3:Value} {cd3:Value}
 {f4:Addr} {od4 an4:Option Addr} {sl4:Array (Option Value)} {oc4 kV4 dc4 pm4 ct4:Value} {cd4:Value}
 {f5:Addr} {od5 an5:Option Addr} {sl5:Array (Option Value)} {oc5 kV5 dc5 pm5 ct5:Value} {cd5:Value}
 {f6:Addr} {od6 an6:Option Addr} {sl6:Array (Option Value)} {oc6 kV6 dc6 pm6 ct6:Value} {cd6:Value}
 {f7:Addr} {od7 an7:Option Addr} {sl7:Array (Option Value)} {oc7 kV7 dc7 pm7 ct7:Value} {cd7:Value}
 {f8:Addr} {od8 an8:Option Addr} {sl8:Array (Option Value)} {oc8 kV8 dc8 pm8 ct8:Value} {cd8:Value}
 {f9:Addr} {od9 an9:Option Addr} {sl9:Array (Option Value)} {oc9 kV9 dc9 pm9 ct9:Value} {cd9:Value}
 {f10:Addr} {od10 an10:Option Addr} {sl10:Array (Option Value)} {oc10 kV10 dc10 pm10 ct10:Value} {cd10:Value}
 {f11:Addr} {od11 an11:Option Addr} {sl11:Array (Option Value)} {oc11 kV11 dc11 pm11 ct11:Value} {cd11:Value}
 {f12:Addr} {od12 an12:Option Addr} {sl12:Array (Option Value)} {oc12 kV12 dc12 pm12 ct12:Value} {cd12:Value}
 {f13:Addr} {od13 an13:Option Addr} {sl13:Array (Option Value)} {oc13 kV13 dc13 pm13 ct13:Value} {cd13:Value}
 {f14:Addr} {od14 an14:Option Addr} {sl14:Array (Option Value)} {oc14 kV14 dc14 pm14 ct14:Value} {cd14:Value}
 {f15:Addr} {od15 an15:Option Addr} {sl15:Array (Option Value)} {oc15 kV15 dc15 pm15 ct15:Value} {cd15:Value}
 {f16:Addr} {od16 an16:Option Addr} {sl16:Array (Option Value)} {oc16 kV16 dc16 pm16 ct16:Value} {cd16:Value}
 {f17:Addr} {od17 an17:Option Addr} {sl17:Array (Option Value)} {oc17 kV17 dc17 pm17 ct17:Value} {cd17:Value}
 {f18:Addr} {od18 an18:Option Addr} {sl18:Array (Option Value)} {oc18 kV18 dc18 pm18 ct18:Value} {cd18:Value}
 {f19:Addr} {od19 an19:Option Addr} {sl19:Array (Option Value)} {oc19 kV19 dc19 pm19 ct19:Value} {cd19:Value}
 {f20:Addr} {od20 an20:Option Addr} {sl20:Array (Option Value)} {oc20 kV20 dc20 pm20 ct20:Value} {cd20:Value}
 {f21:Addr} {od21 an21:Option Addr} {sl21:Array (Option Value)} {oc21 kV21 dc21 pm21 ct21:Value} {cd21:Value}
 {cC:Addr}
 {f22:Addr} {od22 an22:Option Addr} {sl22:Array (Option Value)} {oc22 kV22 dc22 pm22 ct22:Value}
 {t_MOST_STONES:Tok}
 {t_MOST_NICHES:Tok}
 (ac_BadRow:PySem.W.nsIn K mainGlobals "BadRow"=some (some (.ref C_BadRow)))
 (ac_BadTrains:PySem.W.nsIn K mainGlobals "BadTrains"=some (some (.ref C_BadTrains)))
 (ac_BadSizes:PySem.W.nsIn K mainGlobals "BadSizes"=some (some (.ref C_BadSizes)))
 (ac_TooMany:PySem.W.nsIn K mainGlobals "TooMany"=some (some (.ref C_TooMany)))
 (ac_BadCreel:PySem.W.nsIn K mainGlobals "BadCreel"=some (some (.ref C_BadCreel)))
 (ac_BadNumber:PySem.W.nsIn K mainGlobals "BadNumber"=some (some (.ref C_BadNumber)))
 (ac_TooNear:PySem.W.nsIn K mainGlobals "TooNear"=some (some (.ref C_TooNear)))
 (ac_Bare:PySem.W.nsIn K mainGlobals "Bare"=some (some (.ref C_Bare)))
 (ac_CreelError:PySem.W.nsIn K mainGlobals "CreelError"=some (some (.ref C_CreelError)))
 (ai_CreelError:PySem.W.findIn K (.ref C_CreelError) "__init__"=some (some (.ref I_CreelError)))
 (li_CreelError:K.lookup I_CreelError=some ⟨oc_CreelError,od_CreelError,.func (PySem.W.fnOf "__init__" "CreelError.__init__" (defArgs s_CreelError_init) (defBody s_CreelError_init) (defScope s_CreelError_init) (.ref T_CreelError) kV_CreelError dc_CreelError pm_CreelError an_CreelError cd_CreelError ct_CreelError),sl_CreelError⟩)
 (co_CreelError:PySem.W.codeIn K cd_CreelError "CreelError.__init__"=true)
 (ke_CreelError:PySem.W.keepIn K (.ref I_CreelError)=true)
 (lt_CreelError:K.lookup T_CreelError=some ⟨uc_CreelError,ud_CreelError,.seq #[.str "" ta_CreelError,.str "CreelError" tb_CreelError] un_CreelError,us_CreelError⟩)
 (ai_TooMany:PySem.W.findIn K (.ref C_TooMany) "__init__"=some (some (.ref I_TooMany)))
 (li_TooMany:K.lookup I_TooMany=some ⟨oc_TooMany,od_TooMany,.func (PySem.W.fnOf "__init__" "TooMany.__init__" (defArgs s_TooMany_init) (defBody s_TooMany_init) (defScope s_TooMany_init) (.ref T_TooMany) kV_TooMany dc_TooMany pm_TooMany an_TooMany cd_TooMany ct_TooMany),sl_TooMany⟩)
 (co_TooMany:PySem.W.codeIn K cd_TooMany "TooMany.__init__"=true)
 (ke_TooMany:PySem.W.keepIn K (.ref I_TooMany)=true)
 (lt_TooMany:K.lookup T_TooMany=some ⟨uc_TooMany,ud_TooMany,.seq #[.str "" ta_TooMany] un_TooMany,us_TooMany⟩)
 (fi_TooMany:PySem.W.isFn K (.ref I_TooMany)=true)
 (xi_TooMany:excInI K C_TooMany (some (.ref I_TooMany))=true)
 (xw_TooMany:xsIn K C_TooMany C_CreelError "word"=true)
 (ai_BadRow:PySem.W.findIn K (.ref C_BadRow) "__init__"=some (some (.ref I_BadRow)))
 (li_BadRow:K.lookup I_BadRow=some ⟨oc_BadRow,od_BadRow,.func (PySem.W.fnOf "__init__" "BadRow.__init__" (defArgs s_BadRow_init) (defBody s_BadRow_init) (defScope s_BadRow_init) .none kV_BadRow dc_BadRow pm_BadRow an_BadRow cd_BadRow ct_BadRow),sl_BadRow⟩)
 (co_BadRow:PySem.W.codeIn K cd_BadRow "BadRow.__init__"=true)
 (ke_BadRow:PySem.W.keepIn K (.ref I_BadRow)=true)
 (fi_BadRow:PySem.W.isFn K (.ref I_BadRow)=true)
 (xi_BadRow:excInI K C_BadRow (some (.ref I_BadRow))=true)
 (xw_BadRow:xsIn K C_BadRow C_CreelError "word"=true)
 (xa_BadRow:xsIn K C_BadRow C_CreelError "at"=true)
 (ai_BadSizes:PySem.W.findIn K (.ref C_BadSizes) "__init__"=some (some (.ref I_BadSizes)))
 (li_BadSizes:K.lookup I_BadSizes=some ⟨oc_BadSizes,od_BadSizes,.func (PySem.W.fnOf "__init__" "BadSizes.__init__" (defArgs s_BadSizes_init) (defBody s_BadSizes_init) (defScope s_BadSizes_init) .none kV_BadSizes dc_BadSizes pm_BadSizes an_BadSizes cd_BadSizes ct_BadSizes),sl_BadSizes⟩)
 (co_BadSizes:PySem.W.codeIn K cd_BadSizes "BadSizes.__init__"=true)
 (ke_BadSizes:PySem.W.keepIn K (.ref I_BadSizes)=true)
 (fi_BadSizes:PySem.W.isFn K (.ref I_BadSizes)=true)
 (xi_BadSizes:excInI K C_BadSizes (some (.ref I_BadSizes))=true)
 (xw_BadSizes:xsIn K C_BadSizes C_CreelError "word"=true)
 (xa_BadSizes:xsIn K C_BadSizes C_CreelError "at"=true)
 (ai_BadNumber:PySem.W.findIn K (.ref C_BadNumber) "__init__"=some (some (.ref I_BadNumber)))
 (li_BadNumber:K.lookup I_BadNumber=some ⟨oc_BadNumber,od_BadNumber,.func (PySem.W.fnOf "__init__" "BadNumber.__init__" (defArgs s_BadNumber_init) (defBody s_BadNumber_init) (defScope s_BadNumber_init) (.ref T_BadNumber) kV_BadNumber dc_BadNumber pm_BadNumber an_BadNumber cd_BadNumber ct_BadNumber),sl_BadNumber⟩)
 (co_BadNumber:PySem.W.codeIn K cd_BadNumber "BadNumber.__init__"=true)
 (ke_BadNumber:PySem.W.keepIn K (.ref I_BadNumber)=true)
 (lt_BadNumber:K.lookup T_BadNumber=some ⟨uc_BadNumber,ud_BadNumber,.seq #[.str "" ta_BadNumber] un_BadNumber,us_BadNumber⟩)
 (fi_BadNumber:PySem.W.isFn K (.ref I_BadNumber)=true)
 (xi_BadNumber:excInI K C_BadNumber (some (.ref I_BadNumber))=true)
 (xw_BadNumber:xsIn K C_BadNumber C_CreelError "word"=true)
 (oga:PySem.W.specialIn K (.ref C_CreelError) "__getattribute__"=some (some (.builtin "type.__getattribute__")))
 (ore:PySem.W.readsIn K C_CreelError (.type "type")=true)
 (ofi:PySem.W.findCls K (.ref C_CreelError) (.type "type") "__init__"=some (.val (.ref I_CreelError)))
 (met:metIn K [C_BadRow,C_BadTrains,C_BadSizes,C_TooMany,C_BadCreel,C_BadNumber,C_TooNear,C_Bare]=true)
 (g1:xgIn K C_BadRow "at"=true)
 (g2:xgIn K C_BadTrains "at"=true)
 (g3:xgIn K C_BadSizes "at"=true)
 (ex1:PySem.W.exmOne K (.ref C_BadRow) (.ref C_CreelError)=some true)
 (ex4:PySem.W.exmOne K (.ref C_TooMany) (.ref C_CreelError)=some true)
 (z_VE:PySem.W.nsIn K mainGlobals "ValueError"=some none)
 (a0:PySem.W.nsIn K mainGlobals "look_row"=some (some (.ref f0)))
 (l0:K.lookup f0=some ⟨oc0,od0,.func (PySem.W.fnOf "look_row" "look_row" (defArgs s_look_row) (defBody s_look_row) (defScope s_look_row) .none kV0 dc0 pm0 an0 cd0 ct0),sl0⟩)
 (c0:PySem.W.codeIn K cd0 "look_row"=true)
 (k0:PySem.W.keepIn K (.ref f0)=true)
 (a1:PySem.W.nsIn K mainGlobals "crowd"=some (some (.ref f1)))
 (l1:K.lookup f1=some ⟨oc1,od1,.func (PySem.W.fnOf "crowd" "crowd" (defArgs s_crowd) (defBody s_crowd) (defScope s_crowd) .none kV1 dc1 pm1 an1 cd1 ct1),sl1⟩)
 (c1:PySem.W.codeIn K cd1 "crowd"=true)
 (k1:PySem.W.keepIn K (.ref f1)=true)
 (a2:PySem.W.nsIn K mainGlobals "crowds"=some (some (.ref f2)))
 (l2:K.lookup f2=some ⟨oc2,od2,.func (PySem.W.fnOf "crowds" "crowds" (defArgs s_crowds) (defBody s_crowds) (defScope s_crowds) .none kV2 dc2 pm2 an2 cd2 ct2),sl2⟩)
 (c2:PySem.W.codeIn K cd2 "crowds"=true)
 (k2:PySem.W.keepIn K (.ref f2)=true)
 (a3:PySem.W.nsIn K mainGlobals "drop_last"=some (some (.ref f3)))
 (l3:K.lookup f3=some ⟨oc3,od3,.func (PySem.W.fnOf "drop_last" "drop_last" (defArgs s_drop_last) (defBody s_drop_last) (defScope s_drop_last) .none kV3 dc3 pm3 an3 cd3 ct3),sl3⟩)
 (c3:PySem.W.codeIn K cd3 "drop_last"=true)
 (k3:PySem.W.keepIn K (.ref f3)=true)
 (a4:PySem.W.nsIn K mainGlobals "add_train"=some (some (.ref f4)))
 (l4:K.lookup f4=some ⟨oc4,od4,.func (PySem.W.fnOf "add_train" "add_train" (defArgs s_add_train) (defBody s_add_train) (defScope s_add_train) .none kV4 dc4 pm4 an4 cd4 ct4),sl4⟩)
 (c4:PySem.W.codeIn K cd4 "add_train"=true)
 (k4:PySem.W.keepIn K (.ref f4)=true)
 (a5:PySem.W.nsIn K mainGlobals "add_stone"=some (some (.ref f5)))
 (l5:K.lookup f5=some ⟨oc5,od5,.func (PySem.W.fnOf "add_stone" "add_stone" (defArgs s_add_stone) (defBody s_add_stone) (defScope s_add_stone) .none kV5 dc5 pm5 an5 cd5 ct5),sl5⟩)
 (c5:PySem.W.codeIn K cd5 "add_stone"=true)
 (k5:PySem.W.keepIn K (.ref f5)=true)
 (a6:PySem.W.nsIn K mainGlobals "list_of"=some (some (.ref f6)))
 (l6:K.lookup f6=some ⟨oc6,od6,.func (PySem.W.fnOf "list_of" "list_of" (defArgs s_list_of) (defBody s_list_of) (defScope s_list_of) .none kV6 dc6 pm6 an6 cd6 ct6),sl6⟩)
 (c6:PySem.W.codeIn K cd6 "list_of"=true)
 (k6:PySem.W.keepIn K (.ref f6)=true)
 (a7:PySem.W.nsIn K mainGlobals "look_niches"=some (some (.ref f7)))
 (l7:K.lookup f7=some ⟨oc7,od7,.func (PySem.W.fnOf "look_niches" "look_niches" (defArgs s_look_niches) (defBody s_look_niches) (defScope s_look_niches) .none kV7 dc7 pm7 an7 cd7 ct7),sl7⟩)
 (c7:PySem.W.codeIn K cd7 "look_niches"=true)
 (k7:PySem.W.keepIn K (.ref f7)=true)
 (a8:PySem.W.nsIn K mainGlobals "look_sizes"=some (some (.ref f8)))
 (l8:K.lookup f8=some ⟨oc8,od8,.func (PySem.W.fnOf "look_sizes" "look_sizes" (defArgs s_look_sizes) (defBody s_look_sizes) (defScope s_look_sizes) .none kV8 dc8 pm8 an8 cd8 ct8),sl8⟩)
 (c8:PySem.W.codeIn K cd8 "look_sizes"=true)
 (k8:PySem.W.keepIn K (.ref f8)=true)
 (a9:PySem.W.nsIn K mainGlobals "rooms"=some (some (.ref f9)))
 (l9:K.lookup f9=some ⟨oc9,od9,.func (PySem.W.fnOf "rooms" "rooms" (defArgs s_rooms) (defBody s_rooms) (defScope s_rooms) .none kV9 dc9 pm9 an9 cd9 ct9),sl9⟩)
 (c9:PySem.W.codeIn K cd9 "rooms"=true)
 (k9:PySem.W.keepIn K (.ref f9)=true)
 (a10:PySem.W.nsIn K mainGlobals "choices"=some (some (.ref f10)))
 (l10:K.lookup f10=some ⟨oc10,od10,.func (PySem.W.fnOf "choices" "choices" (defArgs s_choices) (defBody s_choices) (defScope s_choices) .none kV10 dc10 pm10 an10 cd10 ct10),sl10⟩)
 (c10:PySem.W.codeIn K cd10 "choices"=true)
 (k10:PySem.W.keepIn K (.ref f10)=true)
 (a11:PySem.W.nsIn K mainGlobals "how_many"=some (some (.ref f11)))
 (l11:K.lookup f11=some ⟨oc11,od11,.func (PySem.W.fnOf "how_many" "how_many" (defArgs s_how_many) (defBody s_how_many) (defScope s_how_many) .none kV11 dc11 pm11 an11 cd11 ct11),sl11⟩)
 (c11:PySem.W.codeIn K cd11 "how_many"=true)
 (k11:PySem.W.keepIn K (.ref f11)=true)
 (a12:PySem.W.nsIn K mainGlobals "row_numbered"=some (some (.ref f12)))
 (l12:K.lookup f12=some ⟨oc12,od12,.func (PySem.W.fnOf "row_numbered" "row_numbered" (defArgs s_row_numbered) (defBody s_row_numbered) (defScope s_row_numbered) .none kV12 dc12 pm12 an12 cd12 ct12),sl12⟩)
 (c12:PySem.W.codeIn K cd12 "row_numbered"=true)
 (k12:PySem.W.keepIn K (.ref f12)=true)
 (a13:PySem.W.nsIn K mainGlobals "number_of_offsets"=some (some (.ref f13)))
 (l13:K.lookup f13=some ⟨oc13,od13,.func (PySem.W.fnOf "number_of_offsets" "number_of_offsets" (defArgs s_number_of_offsets) (defBody s_number_of_offsets) (defScope s_number_of_offsets) .none kV13 dc13 pm13 an13 cd13 ct13),sl13⟩)
 (c13:PySem.W.codeIn K cd13 "number_of_offsets"=true)
 (k13:PySem.W.keepIn K (.ref f13)=true)
 (a14:PySem.W.nsIn K mainGlobals "number_of"=some (some (.ref f14)))
 (l14:K.lookup f14=some ⟨oc14,od14,.func (PySem.W.fnOf "number_of" "number_of" (defArgs s_number_of) (defBody s_number_of) (defScope s_number_of) .none kV14 dc14 pm14 an14 cd14 ct14),sl14⟩)
 (c14:PySem.W.codeIn K cd14 "number_of"=true)
 (k14:PySem.W.keepIn K (.ref f14)=true)
 (a15:PySem.W.nsIn K mainGlobals "_law_numbers"=some (some (.ref f15)))
 (l15:K.lookup f15=some ⟨oc15,od15,.func (PySem.W.fnOf "_law_numbers" "_law_numbers" (defArgs s_law_numbers) (defBody s_law_numbers) (defScope s_law_numbers) .none kV15 dc15 pm15 an15 cd15 ct15),sl15⟩)
 (c15:PySem.W.codeIn K cd15 "_law_numbers"=true)
 (k15:PySem.W.keepIn K (.ref f15)=true)
 (a16:PySem.W.nsIn K mainGlobals "_law_row"=some (some (.ref f16)))
 (l16:K.lookup f16=some ⟨oc16,od16,.func (PySem.W.fnOf "_law_row" "_law_row" (defArgs s_law_row) (defBody s_law_row) (defScope s_law_row) .none kV16 dc16 pm16 an16 cd16 ct16),sl16⟩)
 (c16:PySem.W.codeIn K cd16 "_law_row"=true)
 (k16:PySem.W.keepIn K (.ref f16)=true)
 (a17:PySem.W.nsIn K mainGlobals "_law_why"=some (some (.ref f17)))
 (l17:K.lookup f17=some ⟨oc17,od17,.func (PySem.W.fnOf "_law_why" "_law_why" (defArgs s_law_why) (defBody s_law_why) (defScope s_law_why) .none kV17 dc17 pm17 an17 cd17 ct17),sl17⟩)
 (c17:PySem.W.codeIn K cd17 "_law_why"=true)
 (k17:PySem.W.keepIn K (.ref f17)=true)
 (a18:PySem.W.nsIn K mainGlobals "_law_row_bad"=some (some (.ref f18)))
 (l18:K.lookup f18=some ⟨oc18,od18,.func (PySem.W.fnOf "_law_row_bad" "_law_row_bad" (defArgs s_law_row_bad) (defBody s_law_row_bad) (defScope s_law_row_bad) .none kV18 dc18 pm18 an18 cd18 ct18),sl18⟩)
 (c18:PySem.W.codeIn K cd18 "_law_row_bad"=true)
 (k18:PySem.W.keepIn K (.ref f18)=true)
 (a19:PySem.W.nsIn K mainGlobals "_law_spoilt_row"=some (some (.ref f19)))
 (l19:K.lookup f19=some ⟨oc19,od19,.func (PySem.W.fnOf "_law_spoilt_row" "_law_spoilt_row" (defArgs s_law_spoilt_row) (defBody s_law_spoilt_row) (defScope s_law_spoilt_row) .none kV19 dc19 pm19 an19 cd19 ct19),sl19⟩)
 (c19:PySem.W.codeIn K cd19 "_law_spoilt_row"=true)
 (k19:PySem.W.keepIn K (.ref f19)=true)
 (a20:PySem.W.nsIn K mainGlobals "_law_sober"=some (some (.ref f20)))
 (l20:K.lookup f20=some ⟨oc20,od20,.func (PySem.W.fnOf "_law_sober" "_law_sober" (defArgs s_law_sober) (defBody s_law_sober) (defScope s_law_sober) .none kV20 dc20 pm20 an20 cd20 ct20),sl20⟩)
 (c20:PySem.W.codeIn K cd20 "_law_sober"=true)
 (k20:PySem.W.keepIn K (.ref f20)=true)
 (a21:PySem.W.nsIn K mainGlobals "_law_due"=some (some (.ref f21)))
 (l21:K.lookup f21=some ⟨oc21,od21,.func (PySem.W.fnOf "_law_due" "_law_due" (defArgs s_law_due) (defBody s_law_due) (defScope s_law_due) .none kV21 dc21 pm21 an21 cd21 ct21),sl21⟩)
 (c21:PySem.W.codeIn K cd21 "_law_due"=true)
 (k21:PySem.W.keepIn K (.ref f21)=true)
 (a22:PySem.W.nsIn K mainGlobals "law"=some (some (.ref f22)))
 (l22:K.lookup f22=some ⟨oc22,od22,.func (PySem.W.fnOf "law" "law" (defArgs s_law) (defBody s_law) (defScope s_law) .none kV22 dc22 pm22 an22 (.ref cC) ct22),sl22⟩)
 (c22:PySem.W.codeIn K (.ref cC) "law"=true)
 (k22:PySem.W.keepIn K (.ref f22)=true)
 (z_len:PySem.W.nsIn K mainGlobals "len"=some none)
 (z_range:PySem.W.nsIn K mainGlobals "range"=some none)
 (z_list:PySem.W.nsIn K mainGlobals "list"=some none)
 (z_tuple:PySem.W.nsIn K mainGlobals "tuple"=some none)
 (z_bool:PySem.W.nsIn K mainGlobals "bool"=some none)
 (z_str:PySem.W.nsIn K mainGlobals "str"=some none)
 (z_int:PySem.W.nsIn K mainGlobals "int"=some none)
 (z_isinstance:PySem.W.nsIn K mainGlobals "isinstance"=some none)
 (z_all:PySem.W.nsIn K mainGlobals "all"=some none)
 (z_sorted:PySem.W.nsIn K mainGlobals "sorted"=some none)
 (z_max:PySem.W.nsIn K mainGlobals "max"=some none)
 (z_min:PySem.W.nsIn K mainGlobals "min"=some none)
 (z_set:PySem.W.nsIn K mainGlobals "set"=some none)
 (z_reversed:PySem.W.nsIn K mainGlobals "reversed"=some none)
 (z_sum:PySem.W.nsIn K mainGlobals "sum"=some none)
 (z_enumerate:PySem.W.nsIn K mainGlobals "enumerate"=some none)
 (z_zip:PySem.W.nsIn K mainGlobals "zip"=some none)
 (z_any:PySem.W.nsIn K mainGlobals "any"=some none)
 (z_abs:PySem.W.nsIn K mainGlobals "abs"=some none)
 (y_MOST_STONES:PySem.W.nsIn K mainGlobals "MOST_STONES"=some (some (.int 60 t_MOST_STONES)))
 (y_MOST_NICHES:PySem.W.nsIn K mainGlobals "MOST_NICHES"=some (some (.int 200 t_MOST_NICHES)))
 (hcp:PySem.W.codeHdIn K cC PT=true)
 (hlp:K.lookup PT=none) :
 ∃ (fd:FuncData) (c P:Addr),P∈ts∧PySem.W.codeHdIn K c P=true∧K.lookup P=none∧(∀ (s:Shared) (v:Value),BindsTo s fd ⟨[v],[]⟩ [("_law_script",v)])∧∀ base:Heap,K.In base→base.Ns mainGlobals mg→BMain mg base→PySem.W.CodeHd base c P→FnOk l.prog w K mg base CX0 11 fa fd ["_law_script"] (spLawT K P):=by
 have e:=hfa.symm.trans (PySem.W.mg_of X G a22)
 cases e
 have B:Bt mg:=⟨PySem.W.mg_none_of X G z_len,PySem.W.mg_none_of X G z_range,PySem.W.mg_none_of X G z_list,PySem.W.mg_none_of X G z_tuple,PySem.W.mg_none_of X G z_bool,PySem.W.mg_none_of X G z_str,PySem.W.mg_none_of X G z_int,PySem.W.mg_none_of X G z_isinstance,PySem.W.mg_none_of X G z_all,PySem.W.mg_none_of X G z_sorted,PySem.W.mg_none_of X G z_max,PySem.W.mg_none_of X G z_min,PySem.W.mg_none_of X G z_set,PySem.W.mg_none_of X G z_reversed,PySem.W.mg_none_of X G z_sum,PySem.W.mg_none_of X G z_enumerate,PySem.W.mg_none_of X G z_zip,PySem.W.mg_none_of X G z_any,PySem.W.mg_none_of X G z_abs⟩
 have mV:=PySem.W.mg_none_of X G z_VE
 have C:Cn mg t_MOST_STONES:=⟨PySem.W.mg_of X G y_MOST_STONES⟩
 have C2:Cn2 mg t_MOST_NICHES:=⟨PySem.W.mg_of X G y_MOST_NICHES⟩
 have FI_CreelError:=funD_mk (st:=s_CreelError_init) li_CreelError co_CreelError ke_CreelError
 have BI_CreelError:Binds K (PySem.W.fnOf "__init__" "CreelError.__init__" (defArgs s_CreelError_init) (defBody s_CreelError_init) (defScope s_CreelError_init) (.ref T_CreelError) kV_CreelError dc_CreelError pm_CreelError an_CreelError cd_CreelError ct_CreelError) ["self","why","word"] []:=fun s us kin hl=>match us,hl with | [_,_,_],_=>PySem.W.binds_K (T:=T_CreelError) kin rfl lt_CreelError rfl rfl rfl
 have FI_TooMany:=funD_mk (st:=s_TooMany_init) li_TooMany co_TooMany ke_TooMany
 have BI_TooMany:Binds K (PySem.W.fnOf "__init__" "TooMany.__init__" (defArgs s_TooMany_init) (defBody s_TooMany_init) (defScope s_TooMany_init) (.ref T_TooMany) kV_TooMany dc_TooMany pm_TooMany an_TooMany cd_TooMany ct_TooMany) ["self","why"] []:=fun s us kin hl=>match us,hl with | [_,_],_=>PySem.W.binds_K (T:=T_TooMany) kin rfl lt_TooMany rfl rfl rfl
 have FI_BadRow:=fun_mk (st:=s_BadRow_init) li_BadRow co_BadRow ke_BadRow
 have BI_BadRow:=FI_BadRow.binds2 (p1:="self") (p2:="at") fun _ _ _ _ _ _ _ _=>rfl
 have FI_BadSizes:=fun_mk (st:=s_BadSizes_init) li_BadSizes co_BadSizes ke_BadSizes
 have BI_BadSizes:=FI_BadSizes.binds2 (p1:="self") (p2:="at") fun _ _ _ _ _ _ _ _=>rfl
 have FI_BadNumber:=funD_mk (st:=s_BadNumber_init) li_BadNumber co_BadNumber ke_BadNumber
 have BI_BadNumber:Binds K (PySem.W.fnOf "__init__" "BadNumber.__init__" (defArgs s_BadNumber_init) (defBody s_BadNumber_init) (defScope s_BadNumber_init) (.ref T_BadNumber) kV_BadNumber dc_BadNumber pm_BadNumber an_BadNumber cd_BadNumber ct_BadNumber) ["self","why"] []:=fun s us kin hl=>match us,hl with | [_,_],_=>PySem.W.binds_K (T:=T_BadNumber) kin rfl lt_BadNumber rfl rfl rfl
 let E:Errs K mg:=⟨C_BadRow,C_BadTrains,C_BadSizes,C_TooMany,C_BadCreel,C_BadNumber,C_TooNear,C_Bare,C_CreelError,PySem.W.mg_of X G ac_BadRow,PySem.W.mg_of X G ac_BadTrains,PySem.W.mg_of X G ac_BadSizes,PySem.W.mg_of X G ac_TooMany,PySem.W.mg_of X G ac_BadCreel,PySem.W.mg_of X G ac_BadNumber,PySem.W.mg_of X G ac_TooNear,PySem.W.mg_of X G ac_Bare,PySem.W.mg_of X G ac_CreelError⟩
 have Z:Sees E:=⟨met,g1,g2,g3,ex1,ex4⟩
 have OI:OInit K C_CreelError I_CreelError:=⟨oga,ore,ofi,ke_CreelError⟩
 have F0:=fun_mk (st:=s_look_row) l0 c0 k0
 have b0:=F0.binds1 (p1:="row") fun _ _ _ _ _ _ _=>rfl
 have m0:=PySem.W.mg_of X G a0
 have F1:=fun_mk (st:=s_crowd) l1 c1 k1
 have b1:=F1.binds2 (p1:="offsets") (p2:="size") fun _ _ _ _ _ _ _ _=>rfl
 have m1:=PySem.W.mg_of X G a1
 have F2:=fun_mk (st:=s_crowds) l2 c2 k2
 have b2:=F2.binds1 (p1:="offsets") fun _ _ _ _ _ _ _=>rfl
 have m2:=PySem.W.mg_of X G a2
 have F3:=fun_mk (st:=s_drop_last) l3 c3 k3
 have b3:=F3.binds2 (p1:="offsets") (p2:="size") fun _ _ _ _ _ _ _ _=>rfl
 have m3:=PySem.W.mg_of X G a3
 have F4:=fun_mk (st:=s_add_train) l4 c4 k4
 have b4:=F4.binds3 (p1:="offsets") (p2:="size") (p3:="place") fun _ _ _ _ _ _ _ _ _=>rfl
 have m4:=PySem.W.mg_of X G a4
 have F5:=fun_mk (st:=s_add_stone) l5 c5 k5
 have b5:=F5.binds2 (p1:="offsets") (p2:="place") fun _ _ _ _ _ _ _ _=>rfl
 have m5:=PySem.W.mg_of X G a5
 have F6:=fun_mk (st:=s_list_of) l6 c6 k6
 have b6:=F6.binds1 (p1:="row") fun _ _ _ _ _ _ _=>rfl
 have m6:=PySem.W.mg_of X G a6
 have F7:=fun_mk (st:=s_look_niches) l7 c7 k7
 have b7:=F7.binds1 (p1:="niches") fun _ _ _ _ _ _ _=>rfl
 have m7:=PySem.W.mg_of X G a7
 have F8:=fun_mk (st:=s_look_sizes) l8 c8 k8
 have b8:=F8.binds1 (p1:="sizes") fun _ _ _ _ _ _ _=>rfl
 have m8:=PySem.W.mg_of X G a8
 have F9:=fun_mk (st:=s_rooms) l9 c9 k9
 have b9:=F9.binds2 (p1:="niches") (p2:="sizes") fun _ _ _ _ _ _ _ _=>rfl
 have m9:=PySem.W.mg_of X G a9
 have F10:=fun_mk (st:=s_choices) l10 c10 k10
 have b10:=F10.binds2 (p1:="many") (p2:="room") fun _ _ _ _ _ _ _ _=>rfl
 have m10:=PySem.W.mg_of X G a10
 have F11:=fun_mk (st:=s_how_many) l11 c11 k11
 have b11:=F11.binds2 (p1:="niches") (p2:="sizes") fun _ _ _ _ _ _ _ _=>rfl
 have m11:=PySem.W.mg_of X G a11
 have F12:=fun_mk (st:=s_row_numbered) l12 c12 k12
 have b12:=F12.binds3 (p1:="niches") (p2:="sizes") (p3:="number") fun _ _ _ _ _ _ _ _ _=>rfl
 have m12:=PySem.W.mg_of X G a12
 have F13:=fun_mk (st:=s_number_of_offsets) l13 c13 k13
 have b13:=F13.binds2 (p1:="offsets") (p2:="room") fun _ _ _ _ _ _ _ _=>rfl
 have m13:=PySem.W.mg_of X G a13
 have F14:=fun_mk (st:=s_number_of) l14 c14 k14
 have b14:=F14.binds2 (p1:="niches") (p2:="row") fun _ _ _ _ _ _ _ _=>rfl
 have m14:=PySem.W.mg_of X G a14
 have F15:=fun_mk (st:=s_law_numbers) l15 c15 k15
 have b15:=F15.binds2 (p1:="_law_script") (p2:="_law_many") fun _ _ _ _ _ _ _ _=>rfl
 have m15:=PySem.W.mg_of X G a15
 have F16:=fun_mk (st:=s_law_row) l16 c16 k16
 have b16:=F16.binds2 (p1:="_law_d") (p2:="_law_most") fun _ _ _ _ _ _ _ _=>rfl
 have m16:=PySem.W.mg_of X G a16
 have F17:=fun_mk (st:=s_law_why) l17 c17 k17
 have b17:=F17.binds1 (p1:="_law_ask") fun _ _ _ _ _ _ _=>rfl
 have m17:=PySem.W.mg_of X G a17
 have F18:=fun_mk (st:=s_law_row_bad) l18 c18 k18
 have b18:=F18.binds1 (p1:="_law_row_here") fun _ _ _ _ _ _ _=>rfl
 have m18:=PySem.W.mg_of X G a18
 have F19:=fun_mk (st:=s_law_spoilt_row) l19 c19 k19
 have b19:=F19.binds2 (p1:="_law_row_here") (p2:="_law_d") fun _ _ _ _ _ _ _ _=>rfl
 have m19:=PySem.W.mg_of X G a19
 have F20:=fun_mk (st:=s_law_sober) l20 c20 k20
 have b20:=F20.binds2 (p1:="_law_niches") (p2:="_law_row_here") fun _ _ _ _ _ _ _ _=>rfl
 have m20:=PySem.W.mg_of X G a20
 have F21:=fun_mk (st:=s_law_due) l21 c21 k21
 have b21:=F21.binds2 (p1:="_law_niches") (p2:="_law_sizes") fun _ _ _ _ _ _ _ _=>rfl
 have m21:=PySem.W.mg_of X G a21
 refine⟨PySem.W.fnOf "law" "law" (defArgs s_law) (defBody s_law) (defScope s_law) .none kV22 dc22 pm22 an22 (.ref cC) ct22,cC,PT,hts,hcp,hlp,fun s v=>.of_eq rfl,fun base _ _ hbm hC=>?_⟩
 have OB:=ok_CreelError_init (P:=l.prog) (w:=w) (mg:=mg) (base:=base) FI_CreelError mV
 have R_TooMany:RaisesAs l.prog w K mg base "TooMany" E.many ["self","why"] (spX0 "TooMany" C_TooMany):=⟨E.m_many,I_TooMany,_,xcls_of xi_TooMany,fi_TooMany,ok_TooMany_init FI_TooMany OI OB BI_CreelError E.m_err (xcls_of xi_TooMany) (xs_of xw_TooMany),BI_TooMany⟩
 have R_BadRow:RaisesAs l.prog w K mg base "BadRow" E.row ["self","at"] (spXI "BadRow" C_BadRow):=⟨E.m_row,I_BadRow,_,xcls_of xi_BadRow,fi_BadRow,ok_BadRow_init FI_BadRow OI OB BI_CreelError E.m_err (xcls_of xi_BadRow) (xs_of xw_BadRow) (xs_of xa_BadRow),BI_BadRow⟩
 have R_BadSizes:RaisesAs l.prog w K mg base "BadSizes" E.sizes ["self","at"] (spXI "BadSizes" C_BadSizes):=⟨E.m_sizes,I_BadSizes,_,xcls_of xi_BadSizes,fi_BadSizes,ok_BadSizes_init FI_BadSizes OI OB BI_CreelError E.m_err (xcls_of xi_BadSizes) (xs_of xw_BadSizes) (xs_of xa_BadSizes),BI_BadSizes⟩
 have R_BadNumber:RaisesAs l.prog w K mg base "BadNumber" E.number ["self","why"] (spX0 "BadNumber" C_BadNumber):=⟨E.m_number,I_BadNumber,_,xcls_of xi_BadNumber,fi_BadNumber,ok_BadNumber_init FI_BadNumber OI OB BI_CreelError E.m_err (xcls_of xi_BadNumber) (xs_of xw_BadNumber),BI_BadNumber⟩
 have A0_look_row:FnAt l.prog w K mg base "look_row" 1 ["row"] spLook:=⟨f0,_,ok_look F0 B C,m0,k0,b0⟩
 have A_look_row:FnAtX l.prog w K mg base "look_row" 4 ["row"] (spLookX E):=⟨f0,_,ok_lookX F0 B C E R_TooMany R_BadRow,m0,k0,b0⟩
 have A_crowd:FnAt l.prog w K mg base "crowd" 1 ["offsets","size"] spCrowdS:=⟨f1,_,ok_crowd F1 B,m1,k1,b1⟩
 have A_crowds:FnAt l.prog w K mg base "crowds" 1 ["offsets"] spCrowdsV:=⟨f2,_,ok_crowds F2 B,m2,k2,b2⟩
 have A_drop_last:FnAt l.prog w K mg base "drop_last" 1 ["offsets","size"] spDropLast:=⟨f3,_,ok_drop_last F3 B,m3,k3,b3⟩
 have A_add_train:FnAt l.prog w K mg base "add_train" 2 ["offsets","size","place"] spAddTrainV:=⟨f4,_,ok_add_train F4 B A_crowd,m4,k4,b4⟩
 have A_add_stone:FnAt l.prog w K mg base "add_stone" 3 ["offsets","place"] spAddStone:=⟨f5,_,ok_add_stone F5 B A_crowds A_drop_last A_add_train,m5,k5,b5⟩
 have A_list_of:FnAt l.prog w K mg base "list_of" 4 ["row"] spListOf:=⟨f6,_,ok_list_of F6 B A0_look_row A_add_stone,m6,k6,b6⟩
 have A_look_niches:FnAtX l.prog w K mg base "look_niches" 4 ["niches"] (spLookNX E):=⟨f7,_,ok_look_nichesX F7 B C2 E R_BadNumber,m7,k7,b7⟩
 have A_look_sizes:FnAtX l.prog w K mg base "look_sizes" 4 ["sizes"] (spLookSX E):=⟨f8,_,ok_look_sizesX F8 B C E R_TooMany R_BadSizes,m8,k8,b8⟩
 have A_rooms:FnAt l.prog w K mg base "rooms" 1 ["niches","sizes"] spRooms:=⟨f9,_,ok_rooms F9 B,m9,k9,b9⟩
 have A_choices:FnAt l.prog w K mg base "choices" 1 ["many","room"] spChoices:=⟨f10,_,ok_choices F10 B,m10,k10,b10⟩
 have A_how_many:FnAtX l.prog w K mg base "how_many" 5 ["niches","sizes"] (spHowX E):=⟨f11,_,ok_how_manyX F11 B E A_look_niches A_look_sizes A_rooms A_choices,m11,k11,b11⟩
 have A_row_numbered:FnAtX l.prog w K mg base "row_numbered" 6 ["niches","sizes","number"] (spRowNumX E):=⟨f12,_,ok_row_numberedX F12 B E A_how_many R_BadNumber,m12,k12,b12⟩
 have A_number_of_offsets:FnAt l.prog w K mg base "number_of_offsets" 2 ["offsets","room"] spNumOff:=⟨f13,_,ok_number_of_offsets F13 B A_choices,m13,k13,b13⟩
 have A_number_of:FnAtX l.prog w K mg base "number_of" 6 ["niches","row"] (spNumX E):=⟨f14,_,ok_number_ofX F14 B E A_look_row A_look_niches A_list_of A_rooms A_choices A_number_of_offsets R_BadNumber,m14,k14,b14⟩
 have A_law_numbers:FnAt l.prog w K mg base "_law_numbers" 1 ["_law_script","_law_many"] (spNumbers K):=⟨f15,_,ok_numbers F15 B,m15,k15,b15⟩
 have A_law_row:FnAt l.prog w K mg base "_law_row" 1 ["_law_d","_law_most"] spRow:=⟨f16,_,ok_row F16 B,m16,k16,b16⟩
 have W:WhyAt l.prog w K mg base E 9:=⟨f17,_,ok_why E Z F17,m17,k17,b17⟩
 have A_law_row_bad:FnAt l.prog w K mg base "_law_row_bad" 1 ["_law_row_here"] spRowBad:=⟨f18,_,ok_row_bad F18 B,m18,k18,b18⟩
 have A_law_spoilt_row:FnAt l.prog w K mg base "_law_spoilt_row" 1 ["_law_row_here","_law_d"] spSpoilt:=⟨f19,_,ok_spoilt F19 B,m19,k19,b19⟩
 have A_law_sober:FnAt l.prog w K mg base "_law_sober" 1 ["_law_niches","_law_row_here"] spSoberN:=⟨f20,_,ok_law_sober F20 B,m20,k20,b20⟩
 have A_law_due:FnAt l.prog w K mg base "_law_due" 1 ["_law_niches","_law_sizes"] spLawDueH:=⟨f21,_,ok_law_due39 F21 B,m21,k21,b21⟩
 exact ok_law ⟨⟨_,_,_,_,_,_,_,_,rfl,l22,c22⟩⟩ hC hbm B W A_how_many A_row_numbered A_number_of A_law_numbers A_law_row A_law_spoilt_row A_law_row_bad A_law_due A_law_sober
theorem walk {l:PySem.W.OpenLaw} {q:Program} {loose:List Str} {XP:(Str→Option Value)→Heap→Prop} {YP:World→Heap→Prop} {d:DefRec} {K:Params→PySem.W.Frag} (hn:l.most=some 63) (hdf:d.params.defaults=[]) {ts:List Addr}
 (hY:∀ (w:World) (h:Heap),YP w h→(K w.params).In h) (hTab:∀ (w:World) (h:Heap),YP w h→∀ P∈ts,h.get? P=some (PySem.W.tabObj #[]))
 (F:∀ (w:World) (mg:Str→Option Value) (fa:Addr) (h:Heap),(K w.params).In h→h.Ns mainGlobals mg→mg d.name=some (.ref fa) →
  ∃ (fd:FuncData) (c P:Addr),P∈ts∧PySem.W.codeHdIn (K w.params) c P=true∧(K w.params).lookup P=none∧(∀ (s:Shared) (v:Value),BindsTo s fd ⟨[v],[]⟩ [("_law_script",v)])∧∀ base:Heap,(K w.params).In base→base.Ns mainGlobals mg→BMain mg base→PySem.W.CodeHd base c P→FnOk l.prog w (K w.params) mg base CX0 11 fa fd ["_law_script"] (spLawT (K w.params) P)) :
 PySem.W.WalkO q loose XP YP l.row.toRowW d [] (fun f vs=>PySem.call f vs) :=
 L2.walk_ofT (n:=63) (k:=11) (x:="_law_script") (CX:=fun _=>CX0) (sp:=fun w P=>spLawT (K w.params) P) hn (by decide) hdf ⟨rfl,by decide,by decide⟩ hY hTab F (fun _ P H a ns hl hP hS=>⟨a,ns,rfl,hP,hS,hl,fun _=>rfl⟩) fun _ _ _ _ _ z=>z
end CW
def PySem.W.Fast.tw792199766254297308:Unit:=()
def PySem.W.Fast.tw13769211565162502128:Unit:=()
def PySem.W.Fast.tw2496085363713612237:Unit:=()
def PySem.W.Fast.tw8146788669074292885:Unit:=()
def PySem.W.Fast.tw687702900507406819:Unit:=()
def PySem.W.Fast.tw933929492452080848:Unit:=()
def PySem.W.Fast.tw15396799606997433735:Unit:=()
def PySem.W.Fast.tw9770821231757354577:Unit:=()
def PySem.W.Fast.tw9116863917403405032:Unit:=()
def PySem.W.Fast.tw12426365320853719583:Unit:=()
def PySem.W.Fast.tw16165280352582622299:Unit:=()
def PySem.W.Fast.tw9949932184251221131:Unit:=()
def PySem.W.Fast.tw6596630063527598193:Unit:=()
def PySem.W.Fast.tw121306095775696627:Unit:=()
def PySem.W.Fast.tw7749475986264389477:Unit:=()
def PySem.W.Fast.tw4698660054563002991:Unit:=()
def PySem.W.Fast.tw15317623127982687837:Unit:=()
def PySem.W.Fast.tw2237602168141310412:Unit:=()
def PySem.W.Fast.tw9030128332675677386:Unit:=()
def PySem.W.Fast.tw2196782111710864869:Unit:=()
def PySem.W.Fast.tw16355296527307380084:Unit:=()
def PySem.W.Fast.tw4915490608815427399:Unit:=()
def PySem.W.Fast.tw12523978660143173304:Unit:=()
def PySem.W.Fast.tw13300188427178113947:Unit:=()
def PySem.W.Fast.tw1466578427131260315:Unit:=()
def PySem.W.Fast.tw17270659467480741969:Unit:=()
def PySem.W.Fast.tw18340227539321606021:Unit:=()
def PySem.W.Fast.tw511743263269968481:Unit:=()
def PySem.W.Fast.tw16865881093052177779:Unit:=()
def PySem.W.Fast.tw9391773524395359872:Unit:=()
def PySem.W.Fast.tw6943413629011538099:Unit:=()
def PySem.W.Fast.tw5032007351849277676:Unit:=()
def PySem.W.Fast.tw17142060240667731697:Unit:=()
def PySem.W.Fast.tw13605828917437639946:Unit:=()
def PySem.W.Fast.tw4663595600684127520:Unit:=()
def PySem.W.Fast.tw16963281907923510442:Unit:=()
def PySem.W.Fast.tw15634454720709536358:Unit:=()
def PySem.W.Fast.tw1057701633722738745:Unit:=()
def PySem.W.Fast.tw16164163562830894524:Unit:=()
def PySem.W.Fast.tw1149885172249775965:Unit:=()
def PySem.W.Fast.tw11918568670910476253:Unit:=()
def PySem.W.Fast.tw3945330548723688701:Unit:=()
def PySem.W.Fast.tw421156797321363178:Unit:=()
def PySem.W.Fast.tw11836522437729900844:Unit:=()
def PySem.W.Fast.tw442576623406675362:Unit:=()
def PySem.W.Fast.tw568000567924741168:Unit:=()
def PySem.W.Fast.tw15723600976741391039:Unit:=()
def PySem.W.Fast.tw18188735861873609571:Unit:=()
def PySem.W.Fast.tw15350700061596414071:Unit:=()
def PySem.W.Fast.tw200748912206773838:Unit:=()
def PySem.W.Fast.tw1718290046865619517:Unit:=()
def PySem.W.Fast.tw1641152700650429229:Unit:=()
def PySem.W.Fast.tw4070955029579366981:Unit:=()
def PySem.W.Fast.tw2472302902642398455:Unit:=()
def PySem.W.Fast.tw5513430237517784676:Unit:=()
def PySem.W.Fast.tw15874483496291686980:Unit:=()
def PySem.W.Fast.tw1206891330331436121:Unit:=()
def PySem.W.Fast.tw10855457207735716500:Unit:=()
def PySem.W.Fast.tw1344566453668481735:Unit:=()
def PySem.W.Fast.tw871145748095035024:Unit:=()
def PySem.W.Fast.tw17965761987555600409:Unit:=()
def PySem.W.Fast.tw7461913495289185762:Unit:=()
def PySem.W.Fast.tw11362374418919787095:Unit:=()
def PySem.W.Fast.tw1441967494326826547:Unit:=()
def PySem.W.Fast.tw12877285962022335381:Unit:=()
def PySem.W.Fast.tw8472664548185474105:Unit:=()
def PySem.W.Fast.tw4311349864283163981:Unit:=()
def PySem.W.Fast.tw964672662272456024:Unit:=()
def PySem.W.Fast.tw8159405261687556150:Unit:=()
def PySem.W.Fast.tw5136241312212310908:Unit:=()
def PySem.W.Fast.tw10160556780331127219:Unit:=()
def PySem.W.Fast.tw17177370464024339476:Unit:=()
def PySem.W.Fast.tw3998607995902470096:Unit:=()
def PySem.W.Fast.tw16705410701896688530:Unit:=()
def PySem.W.Fast.tw16833215928165127390:Unit:=()
def PySem.W.Fast.tw5353591542843688055:Unit:=()
def PySem.W.Fast.tw5594184127501146803:Unit:=()
def PySem.W.Fast.tw14691896783551903324:Unit:=()
def PySem.W.Fast.tw17037960860604889934:Unit:=()
def PySem.W.Fast.tw6006700894058927163:Unit:=()
def PySem.W.Fast.tw3456697810906349785:Unit:=()
def PySem.W.Fast.tw5519653426166087409:Unit:=()
def PySem.W.Fast.tw9471377385615556046:Unit:=()
def PySem.W.Fast.tw13381201667954810996:Unit:=()
def PySem.W.Fast.tw11258253071947864066:Unit:=()
def PySem.W.Fast.tw14735480077527099884:Unit:=()
def PySem.W.Fast.tw2532260705265511113:Unit:=()
def PySem.W.Fast.tw3633860806864360199:Unit:=()
def PySem.W.Fast.tw4786019683673564300:Unit:=()
def PySem.W.Fast.tw1915505456037519155:Unit:=()
def PySem.W.Fast.tw5449378866930304906:Unit:=()
def PySem.W.Fast.tw5265444261986825310:Unit:=()
def PySem.W.Fast.tw12748562547469862304:Unit:=()
def PySem.W.Fast.tw4412867042569956708:Unit:=()
def PySem.W.Fast.tw15766610054399191261:Unit:=()
def PySem.W.Fast.tw14313183833103894579:Unit:=()
def PySem.W.Fast.tw11227771818503839149:Unit:=()
def PySem.W.Fast.tw941077559817185172:Unit:=()
def PySem.W.Fast.tw6402225513593325564:Unit:=()
def PySem.W.Fast.tw1525440401560065165:Unit:=()
def PySem.W.Fast.tw4704364896803479004:Unit:=()
def PySem.W.Fast.tw3988417928200489549:Unit:=()
def PySem.W.Fast.tw1746332206004028349:Unit:=()
def PySem.W.Fast.tw4443415843138615864:Unit:=()
def PySem.W.Fast.tw7499502358083295098:Unit:=()
def PySem.W.Fast.tw16179777865786420172:Unit:=()
def PySem.W.Fast.tw1676217572888015102:Unit:=()
def PySem.W.Fast.tw3771601908321680165:Unit:=()
def PySem.W.Fast.tw10263897472765773744:Unit:=()
def PySem.W.Fast.tw5005890610095558634:Unit:=()
def PySem.W.Fast.tw12549676818918384167:Unit:=()
def PySem.W.Fast.tw17566029790094790234:Unit:=()
def PySem.W.Fast.tw6129201234504915709:Unit:=()
def PySem.W.Fast.tw705152849500725334:Unit:=()
def PySem.W.Fast.tw8573063023373451257:Unit:=()
def PySem.W.Fast.tw2049209622751469668:Unit:=()
def PySem.W.Fast.tw9588940116955022532:Unit:=()
def PySem.W.Fast.tw3743755010422853438:Unit:=()
def PySem.W.Fast.tw13035371699566062571:Unit:=()
def PySem.W.Fast.tw17410148853288654719:Unit:=()
def PySem.W.Fast.tw12723032967314705215:Unit:=()
def PySem.W.Fast.tw14488654603486458357:Unit:=()
def PySem.W.Fast.tw12403166047847426481:Unit:=()
def PySem.W.Fast.tw2244547572149899904:Unit:=()
def PySem.W.Fast.tw17120071248540280547:Unit:=()
def PySem.W.Fast.tw9993819912375655364:Unit:=()
def PySem.W.Fast.tw16895138932407020942:Unit:=()
def PySem.W.Fast.tw9366592132972480855:Unit:=()
def PySem.W.Fast.tw12536305303531265830:Unit:=()
def PySem.W.Fast.tw46739644679426591:Unit:=()
def PySem.W.Fast.tw10450308562901995604:Unit:=()
def PySem.W.Fast.tw9284703479340358397:Unit:=()
def PySem.W.Fast.tw9759527724522736302:Unit:=()
def PySem.W.Fast.tw729355793986108588:Unit:=()
def PySem.W.Fast.tw11577127551723466777:Unit:=()
def PySem.W.Fast.tw14286735330112782058:Unit:=()
def PySem.W.Fast.tw10101832310349742494:Unit:=()
def PySem.W.Fast.tw11662762338859202962:Unit:=()
def PySem.W.Fast.tw7670704762811378756:Unit:=()
def PySem.W.Fast.tw13392781659880624207:Unit:=()
def PySem.W.Fast.tw5915458529796062703:Unit:=()
def PySem.W.Fast.tw14111180274063593434:Unit:=()
def PySem.W.Fast.tw2415438278230930557:Unit:=()
def PySem.W.Fast.tw17892778464689478806:Unit:=()
def PySem.W.Fast.tw351779400512883060:Unit:=()
def PySem.W.Fast.tw16735773608051201053:Unit:=()
def PySem.W.Fast.tw15515396215166071361:Unit:=()
def PySem.W.Fast.tw4900511925166382150:Unit:=()
def PySem.W.Fast.tw1748143107881444248:Unit:=()
def PySem.W.Fast.tw4203605957721400948:Unit:=()
def PySem.W.Fast.tw14643780286858088548:Unit:=()
open PySem PySem.W PyProof.Rows
set_option maxRecDepth 100000 in
set_option maxHeartbeats 0 in
theorem PySem.Challenge.cw_creelway_k39_counted_refused_in_order_holds : PySem.Challenge.rw_creelway_k39_counted_refused_in_order.Holds := by
 w_on;o_law;k_head;(case hw=>w_witness2)
 k_fill
 refine CW.walk (l:=PySem.Challenge.rw_creelway_k39_counted_refused_in_order) rfl rfl (fun w h Y=>PySem.W.km_in_of Y) (fun w h Y=>PySem.W.km_tabs_of Y) ?F
 case F =>
  intro w mg fa h KX G hmg
  refine' CW.all_mk (List.Mem.head _) KX G hmg ?ac_BadRow ?ac_BadTrains ?ac_BadSizes ?ac_TooMany ?ac_BadCreel ?ac_BadNumber ?ac_TooNear ?ac_Bare ?ac_CreelError ?ai_CreelError ?li_CreelError ?co_CreelError ?ke_CreelError ?lt_CreelError ?ai_TooMany ?li_TooMany ?co_TooMany ?ke_TooMany ?lt_TooMany ?fi_TooMany ?xi_TooMany ?xw_TooMany ?ai_BadRow ?li_BadRow ?co_BadRow ?ke_BadRow ?fi_BadRow ?xi_BadRow ?xw_BadRow ?xa_BadRow ?ai_BadSizes ?li_BadSizes ?co_BadSizes ?ke_BadSizes ?fi_BadSizes ?xi_BadSizes ?xw_BadSizes ?xa_BadSizes ?ai_BadNumber ?li_BadNumber ?co_BadNumber ?ke_BadNumber ?lt_BadNumber ?fi_BadNumber ?xi_BadNumber ?xw_BadNumber ?oga ?ore ?ofi ?met ?g1 ?g2 ?g3 ?ex1 ?ex4 ?z_VE ?a0 ?l0 ?c0 ?k0 ?a1 ?l1 ?c1 ?k1 ?a2 ?l2 ?c2 ?k2 ?a3 ?l3 ?c3 ?k3 ?a4 ?l4 ?c4 ?k4 ?a5 ?l5 ?c5 ?k5 ?a6 ?l6 ?c6 ?k6 ?a7 ?l7 ?c7 ?k7 ?a8 ?l8 ?c8 ?k8 ?a9 ?l9 ?c9 ?k9 ?a10 ?l10 ?c10 ?k10 ?a11 ?l11 ?c11 ?k11 ?a12 ?l12 ?c12 ?k12 ?a13 ?l13 ?c13 ?k13 ?a14 ?l14 ?c14 ?k14 ?a15 ?l15 ?c15 ?k15 ?a16 ?l16 ?c16 ?k16 ?a17 ?l17 ?c17 ?k17 ?a18 ?l18 ?c18 ?k18 ?a19 ?l19 ?c19 ?k19 ?a20 ?l20 ?c20 ?k20 ?a21 ?l21 ?c21 ?k21 ?a22 ?l22 ?c22 ?k22 ?z_len ?z_range ?z_list ?z_tuple ?z_bool ?z_str ?z_int ?z_isinstance ?z_all ?z_sorted ?z_max ?z_min ?z_set ?z_reversed ?z_sum ?z_enumerate ?z_zip ?z_any ?z_abs ?y_MOST_STONES ?y_MOST_NICHES ?hcp ?hlp
  (case ac_BadRow=>k_is)
  (case ac_BadTrains=>k_is)
  (case ac_BadSizes=>k_is)
  (case ac_TooMany=>k_is)
  (case ac_BadCreel=>k_is)
  (case ac_BadNumber=>k_is)
  (case ac_TooNear=>k_is)
  (case ac_Bare=>k_is)
  (case ac_CreelError=>k_is)
  (case ai_CreelError=>k_is)
  (case li_CreelError=>k_is)
  (case co_CreelError=>k_is)
  (case ke_CreelError=>k_is)
  (case lt_CreelError=>k_is)
  (case ai_TooMany=>k_is)
  (case li_TooMany=>k_is)
  (case co_TooMany=>k_is)
  (case ke_TooMany=>k_is)
  (case lt_TooMany=>k_is)
  (case fi_TooMany=>k_is)
  (case xi_TooMany=>kernel_rfl)
  (case xw_TooMany=>kernel_rfl)
  (case ai_BadRow=>k_is)
  (case li_BadRow=>k_is)
  (case co_BadRow=>k_is)
  (case ke_BadRow=>k_is)
  (case fi_BadRow=>k_is)
  (case xi_BadRow=>kernel_rfl)
  (case xw_BadRow=>kernel_rfl)
  (case xa_BadRow=>kernel_rfl)
  (case ai_BadSizes=>k_is)
  (case li_BadSizes=>k_is)
  (case co_BadSizes=>k_is)
  (case ke_BadSizes=>k_is)
  (case fi_BadSizes=>k_is)
  (case xi_BadSizes=>kernel_rfl)
  (case xw_BadSizes=>kernel_rfl)
  (case xa_BadSizes=>kernel_rfl)
  (case ai_BadNumber=>k_is)
  (case li_BadNumber=>k_is)
  (case co_BadNumber=>k_is)
  (case ke_BadNumber=>k_is)
  (case lt_BadNumber=>k_is)
  (case fi_BadNumber=>k_is)
  (case xi_BadNumber=>kernel_rfl)
  (case xw_BadNumber=>kernel_rfl)
  (case oga=>k_is)
  (case ore=>k_is)
  (case ofi=>k_is)
  (case met=>kernel_rfl)
  (case g1=>kernel_rfl)
  (case g2=>kernel_rfl)
  (case g3=>kernel_rfl)
  (case ex1=>kernel_rfl)
  (case ex4=>kernel_rfl)
  (case z_VE=>k_is)
  (case a0=>k_is)
  (case l0=>k_is)
  (case c0=>k_is)
  (case k0=>k_is)
  (case a1=>k_is)
  (case l1=>k_is)
  (case c1=>k_is)
  (case k1=>k_is)
  (case a2=>k_is)
  (case l2=>k_is)
  (case c2=>k_is)
  (case k2=>k_is)
  (case a3=>k_is)
  (case l3=>k_is)
  (case c3=>k_is)
  (case k3=>k_is)
  (case a4=>k_is)
  (case l4=>k_is)
  (case c4=>k_is)
  (case k4=>k_is)
  (case a5=>k_is)
  (case l5=>k_is)
  (case c5=>k_is)
  (case k5=>k_is)
  (case a6=>k_is)
  (case l6=>k_is)
  (case c6=>k_is)
  (case k6=>k_is)
  (case a7=>k_is)
  (case l7=>k_is)
  (case c7=>k_is)
  (case k7=>k_is)
  (case a8=>k_is)
  (case l8=>k_is)
  (case c8=>k_is)
  (case k8=>k_is)
  (case a9=>k_is)
  (case l9=>k_is)
  (case c9=>k_is)
  (case k9=>k_is)
  (case a10=>k_is)
  (case l10=>k_is)
  (case c10=>k_is)
  (case k10=>k_is)
  (case a11=>k_is)
  (case l11=>k_is)
  (case c11=>k_is)
  (case k11=>k_is)
  (case a12=>k_is)
  (case l12=>k_is)
  (case c12=>k_is)
  (case k12=>k_is)
  (case a13=>k_is)
  (case l13=>k_is)
  (case c13=>k_is)
  (case k13=>k_is)
  (case a14=>k_is)
  (case l14=>k_is)
  (case c14=>k_is)
  (case k14=>k_is)
  (case a15=>k_is)
  (case l15=>k_is)
  (case c15=>k_is)
  (case k15=>k_is)
  (case a16=>k_is)
  (case l16=>k_is)
  (case c16=>k_is)
  (case k16=>k_is)
  (case a17=>k_is)
  (case l17=>k_is)
  (case c17=>k_is)
  (case k17=>k_is)
  (case a18=>k_is)
  (case l18=>k_is)
  (case c18=>k_is)
  (case k18=>k_is)
  (case a19=>k_is)
  (case l19=>k_is)
  (case c19=>k_is)
  (case k19=>k_is)
  (case a20=>k_is)
  (case l20=>k_is)
  (case c20=>k_is)
  (case k20=>k_is)
  (case a21=>k_is)
  (case l21=>k_is)
  (case c21=>k_is)
  (case k21=>k_is)
  (case a22=>k_is)
  (case l22=>k_is)
  (case c22=>k_is)
  (case k22=>k_is)
  (case z_len=>k_is)
  (case z_range=>k_is)
  (case z_list=>k_is)
  (case z_tuple=>k_is)
  (case z_bool=>k_is)
  (case z_str=>k_is)
  (case z_int=>k_is)
  (case z_isinstance=>k_is)
  (case z_all=>k_is)
  (case z_sorted=>k_is)
  (case z_max=>k_is)
  (case z_min=>k_is)
  (case z_set=>k_is)
  (case z_reversed=>k_is)
  (case z_sum=>k_is)
  (case z_enumerate=>k_is)
  (case z_zip=>k_is)
  (case z_any=>k_is)
  (case z_abs=>k_is)
  (case y_MOST_STONES=>k_is)
  (case y_MOST_NICHES=>k_is)
  (case hcp=>kernel_rfl)
  (case hlp=>kernel_rfl)
