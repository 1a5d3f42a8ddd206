import PyProof.Rows.All
import Wide.All
import OpenK.AllK
import Wide.FinOn
import Lean
import PyProof.EqAt
import PyProof.EqKinds
import PyProof.TupleCall
import PySem.Challenge.RW_creelway_k33_whole_walks_alike_or_parted
set_option Elab.async false
set_option linter.all false
set_option maxRecDepth 100000
namespace L2
open PySem PySem.Spec PyProof.Rows
noncomputable abbrev Key:=Sum Int Str
noncomputable def keyIs:Key→Value→Bool
 | .inl k,v=>Value.isInt k v
 | .inr x,v=>Value.isStrOf x v
noncomputable def keyH (w:World):Key→Int
 | .inl k=>hashInt k
 | .inr x=>hashStr w x
theorem keyIs_shape:∀ {k:Key} {v:Value},keyIs k v=true→(∃ i t,k=Sum.inl i∧v=Value.int i t)∨(∃ x t,k=Sum.inr x∧v=Value.str x t)
 | .inl i,v,h=>by
  obtain⟨t,e⟩:=Value.isInt_shape (k:=i) (v:=v) h
  exact .inl ⟨i,t,rfl,e⟩
 | .inr x,v,h=>by
  obtain⟨t,e⟩:=Value.isStrOf_shape (x:=x) (v:=v) h
  exact .inr ⟨x,t,rfl,e⟩
theorem keyIs_int (i:Int) (t:Tok):keyIs (.inl i) (.int i t)=true:=by simp[keyIs,Value.isInt]
theorem keyIs_str (x:Str) (t:Tok):keyIs (.inr x) (.str x t)=true:=by simp[keyIs,Value.isStrOf]
theorem key_ll (a b:Int):decide ((Sum.inl a:Key)=Sum.inl b)=(a == b):=by
 by_cases e:a=b
 ·subst e;simp
 ·have h:¬ (Sum.inl a:Key)=Sum.inl b:=fun q=>e (Sum.inl.inj q)
  rw[decide_eq_false h]
  exact(beq_eq_false_iff_ne.mpr e).symm
theorem key_rr (a b:Str):decide ((Sum.inr a:Key)=Sum.inr b)=decide (a=b):=by
 by_cases e:a=b
 ·subst e;simp
 ·have h:¬ (Sum.inr a:Key)=Sum.inr b:=fun q=>e (Sum.inr.inj q)
  rw[decide_eq_false h,decide_eq_false e]
theorem key_lr (a:Int) (b:Str):decide ((Sum.inl a:Key)=Sum.inr b)=false:=decide_eq_false (fun q=>nomatch q)
theorem key_rl (a:Str) (b:Int):decide ((Sum.inr a:Key)=Sum.inl b)=false:=decide_eq_false (fun q=>nomatch q)
noncomputable def mixKind (prog:Program) (w:World):PySem.KeyKind prog w Key where
 is:=keyIs
 hash:=keyH w
 inj:=fun v a b ha hb=>by
  rcases keyIs_shape ha with ⟨i,t,rfl,rfl⟩ | ⟨x,t,rfl,rfl⟩
  ·rcases keyIs_shape hb with ⟨j,u,rfl,e⟩ | ⟨y,u,rfl,e⟩
   ·injection e with e1 _;rw[e1]
   ·exact nomatch e
  ·rcases keyIs_shape hb with ⟨j,u,rfl,e⟩ | ⟨y,u,rfl,e⟩
   ·exact nomatch e
   ·injection e with e1 _;rw[e1]
 byValue:=fun k v h=>by
  rcases keyIs_shape h with ⟨i,t,rfl,rfl⟩ | ⟨x,t,rfl,rfl⟩ <;> rfl
 pyHash:=fun hv h=>by
  rcases keyIs_shape hv with ⟨i,t,rfl,rfl⟩ | ⟨x,t,rfl,rfl⟩
  ·exact wpAny_pyHash_int h
  ·exact wpAny_pyHash_str h
 eqBool:=fun hu hv h=>by
  rcases keyIs_shape hu with ⟨i,t,rfl,rfl⟩ | ⟨x,t,rfl,rfl⟩
  ·rcases keyIs_shape hv with ⟨j,u,rfl,rfl⟩ | ⟨y,u,rfl,rfl⟩
   ·rw[key_ll]at h;exact wpAny_eqBool_int h
   ·rw[key_lr]at h;exact SeqAt.EqAt.int_str i t y u _ _ _ _ h
  ·rcases keyIs_shape hv with ⟨j,u,rfl,rfl⟩ | ⟨y,u,rfl,rfl⟩
   ·rw[key_rl]at h;exact SeqAt.EqAt.str_int x t j u _ _ _ _ h
   ·rw[key_rr]at h;exact wpAny_eqBool_str h
 «strs»:=fun k x t v h=>by
  rcases keyIs_shape h with ⟨i,u,rfl,e⟩ | ⟨y,u,rfl,e⟩
  ·exact nomatch e
  ·injection e with e1 _
   subst e1
   cases v <;> rfl
theorem mixKind_is (prog:Program) (w:World) (k:Key) (v:Value):(mixKind prog w).is k v=keyIs k v:=rfl
theorem mixKind_int (prog:Program) (w:World) (i:Int) (t:Tok):(mixKind prog w).is (.inl i) (.int i t)=true:=keyIs_int i t
theorem mixKind_str (prog:Program) (w:World) (x:Str) (t:Tok):(mixKind prog w).is (.inr x) (.str x t)=true:=keyIs_str x t
end L2
namespace L2
open PySem PySem.Spec PyProof.Rows
inductive V where
 | non | bl (b:Bool) | int (i:Int) | str (x:Str) | byt (b:Array UInt8) | flt (b:UInt64) | ref (a:Addr) | ty (n:String)
 deriving DecidableEq
noncomputable def RelV:V→Value→Prop
 | .non,u=>u=Value.none
 | .bl b,u=>u=Value.bool b
 | .int i,u=>∃ t,u=Value.int i t
 | .str x,u=>∃ t,u=Value.str x t
 | .byt b,u=>∃ t,u=Value.bytes b t
 | .flt b,u=>∃ t,u=Value.float b t
 | .ref a,u=>u=Value.ref a
 | .ty n,u=>u=Value.type n
noncomputable abbrev Vals:List V→List Value→Prop:=Paired RelV
theorem Vals.length {xs:List V} {us:List Value} (r:Vals xs us):xs.length=us.length:=Paired.length r
theorem Vals.get:∀ {xs:List V} {us:List Value} {i:Nat} {x:V},Vals xs us→xs[i]?=some x→∃ u,us[i]?=some u∧RelV x u
 | _,_,_,_,.nil,e=>by simp at e
 | _,_,0,_,.cons r _,e=>by simp at e;subst e;exact⟨_,rfl,r⟩
 | _,_,i+1,x,.cons _ t,e=>by
  obtain⟨u,h1,h2⟩:=Vals.get (i:=i) (x:=x) t (by simpa using e)
  exact⟨u,by simpa using h1,h2⟩
theorem Vals.set {x:V} {u:Value} (r:RelV x u):∀ {xs:List V} {us:List Value} (i:Nat),Vals xs us→Vals (xs.set i x) (us.set i u)
 | _,_,_,.nil=>.nil
 | _,_,0,.cons _ t=>.cons r t
 | _,_,i+1,.cons q t=>.cons q (Vals.set r i t)
theorem Vals.append:∀ {xs ys:List V} {us ws:List Value},Vals xs us→Vals ys ws→Vals (xs++ys) (us++ws)
 | _,_,_,_,.nil,s=>s
 | _,_,_,_,.cons r t,s=>.cons r (Vals.append t s)
theorem Vals.take:∀ {xs:List V} {us:List Value} (n:Nat),Vals xs us→Vals (xs.take n) (us.take n)
 | _,_,0,_=>.nil
 | _,_,_+1,.nil=>.nil
 | _,_,n+1,.cons r t=>.cons r (Vals.take n t)
theorem Vals.drop:∀ {xs:List V} {us:List Value} (n:Nat),Vals xs us→Vals (xs.drop n) (us.drop n)
 | _,_,0,r=>r
 | _,_,_+1,.nil=>.nil
 | _,_,n+1,.cons _ t=>Vals.drop n t
noncomputable def RelO:Option V→Option Value→Prop
 | some v,some u=>RelV v u
 | none,none=>True
 | _,_=>False
noncomputable def KV {κ:Type}:List (κ×V)→List (κ×Value)→Prop:=Paired fun(p:κ×V) (q:κ×Value)=>p.1=q.1∧RelV p.2 q.2
noncomputable def kV:Key→V
 | .inl i=>.int i
 | .inr x=>.str x
inductive HO where
 | lst (xs:List V)
 | tup (xs:List V)
 | dK (kvs:List (Key×V)) | dT (kvs:List (List Key×V))
 | set (S:Int→Bool) (n:Nat)
 | ins (C dx:Addr) (fs:List (Str×V))
 | own (x:Addr)
 | xd (fs:List (Str×V))
 | met (f x:Addr)
 | rng (lo hi:Int)
 | frz (o:Obj) (u:HO)
 | tbl (ps:Array Value)
 | ext (φ:Heap→Prop)
noncomputable abbrev Hp:=Addr→Option HO
noncomputable def upd (H:Hp) (a:Addr) (o:HO):Hp:=fun b=>if b=a then some o else H b
theorem upd_same {H:Hp} {a:Addr} {o:HO}:upd H a o a=some o:=by unfold upd;rw[if_pos rfl]
theorem upd_ne {H:Hp} {a b:Addr} {o:HO} (h:b≠a):upd H a o b=H b:=by unfold upd;rw[if_neg h]
theorem ne_of {H:Hp} {a b:Addr} {o u:HO} (h:H a=some o) (h':H b=some u) (d:o≠u):a≠b:=by
 intro e;subst e;rw[h]at h';exact d (Option.some.inj h')
theorem ne_of_none {H:Hp} {a b:Addr} {o:HO} (h:H a=some o) (h':H b=none):a≠b:=by
 intro e;subst e;rw[h]at h';cases h'
section
variable (P:Program) (w:World)
noncomputable def ObjOk (H:Hp) (h:Heap) (a:Addr):HO→Prop
 | .lst xs=>xs.length≤sizeLine∧∃ (its:List Value) (n:Nat),Vals xs its∧h.get? a=some { cls:=.type "list",data:=.seq its.toArray n }
 | .tup xs=>xs.length≤sizeLine∧∃ its:List Value,Vals xs its∧IsTup h a its.toArray
 | .dK kvs=>kvs.length≤sizeLine∧(a == sysModules)=false∧∃ vs,KV kvs vs∧h.DictOf (mixKind P w) a vs
 | .dT kvs=>kvs.length≤sizeLine∧(a == sysModules)=false∧∃ xs:List (List Key×Addr×Value),
  Paired (fun(p:List Key×V) (q:List Key×Addr×Value)=>p.1=q.1∧H q.2.1=some (.tup (p.1.map kV))∧RelV p.2 q.2.2) kvs xs ∧
  ∃ o es ep,h.get? a=some o∧o.ExactDict∧o.data=.dict es ep∧es.toList=xs.map (entryOfKey (tupleKind (mixKind P w)))∧(xs.map (·.1)).Nodup
 | .set S n=>h.SetOf (intKind P w) a S n
 | .ins C dx fs=>H dx=some (.own a)∧fs.length≤1000∧dx≠a∧h.get? a=some (PySem.W.instObj C dx) ∧
  ∃ mA,h.Ns1 dx mA∧(∀ f,RelO (fs.lookup f) (mA f))∧PySem.Within mA (fs.map (·.1))
 | .own _=>∃ o,h.get? a=some o
 | .xd fs=>∃ mA,h.Ns1 a mA∧∀ f,RelO (fs.lookup f) (mA f)
 | .rng lo hi=>∃ t u v,h.get? a=some { cls:=.type "range",data:=.fields #[.int lo t,.int hi u,.int 1 v] }
 | .frz o u=>h.get? a=some o∧ObjOk H h a u
 | .tbl ps=>h.get? a=some { cls:=.none,data:=.fields ps }
 | .met f x=>h.get? a=some (PySem.W.methodObj (.ref f) (.ref x))
 | .ext φ=>φ h∧(∃ o,h.get? a=some o)∧∀ h1 h2:Heap,φ h1→(∀ o,h1.get? a=some o→h2.get? a=some o)→φ h2
noncomputable def HOk (H:Hp) (h:Heap):Prop:=∀ a o,H a=some o→ObjOk P w H h a o
end
section
variable {P:Program} {w:World} {H H':Hp} {h h':Heap} {a:Addr} {o:HO}
theorem ObjOk.lt (x:ObjOk P w H h a o):a<h.objs.size:=by
 cases o with
 | lst xs=>obtain⟨_,_,_,_,e⟩:=x;exact Heap.lt_size e
 | tup xs=>obtain⟨_,_,_,p⟩:=x;exact p.lt
 | dK kvs=>obtain⟨_,_,_,_,o,_,_,e,_⟩:=x;exact Heap.lt_size e
 | dT kvs=>obtain⟨_,_,_,_,o,_,_,e,_⟩:=x;exact Heap.lt_size e
 | set S n=>obtain⟨o,_,_,_,e,_⟩:=x;exact Heap.lt_size e
 | ins C dx fs=>obtain⟨_,_,_,e,_⟩:=x;exact Heap.lt_size e
 | own y=>obtain⟨_,e⟩:=x;exact Heap.lt_size e
 | xd fs=>obtain⟨_,⟨_,_,_,e,_⟩,_⟩:=x;exact Heap.lt_size e
 | rng lo hi=>obtain⟨_,_,_,e⟩:=x;exact Heap.lt_size e
 | frz ob u=>obtain⟨e,_⟩:=x;exact Heap.lt_size e
 | tbl ps=>exact Heap.lt_size (show h.get? a=some _ from x)
 | met f y=>exact Heap.lt_size (show h.get? a=some _ from x)
 | ext φ=>obtain⟨_,⟨_,e⟩,_⟩:=x;exact Heap.lt_size e
theorem Paired.mapP {α β:Type} {F G:α→β→Prop}:∀ {l₁:List α} {l₂:List β},Paired F l₁ l₂→(∀ a b,F a b→G a b)→Paired G l₁ l₂
 | _,_,.nil,_=>.nil
 | _,_,.cons r t,f=>.cons (f _ _ r) (Paired.mapP t f)
theorem ObjOk.stay (x:ObjOk P w H h a o) (k:∀ b u,(b=a∨H b=some (.own a))→h.get? b=some u→h'.get? b=some u)
 (ho:∀ b,H b=some (.own a)→H' b=some (.own a)) (ht:∀ b xs,H b=some (.tup xs)→H' b=some (.tup xs)):ObjOk P w H' h' a o:=by
 induction o with
 | lst xs=>obtain⟨z,its,n,r,e⟩:=x;exact⟨z,its,n,r,k _ _ (.inl rfl) e⟩
 | tup xs=>obtain⟨z,its,r,ob,e,c⟩:=x;exact⟨z,its,r,ob,k _ _ (.inl rfl) e,c⟩
 | dK kvs=>obtain⟨z,y,vs,r,ob,es,ep,e,c⟩:=x;exact⟨z,y,vs,r,ob,es,ep,k _ _ (.inl rfl) e,c⟩
 | dT kvs =>
  obtain⟨z,y,xs,r,ob,es,ep,e,c⟩:=x
  exact⟨z,y,xs,Paired.mapP r fun p q z=>⟨z.1,ht _ _ z.2.1,z.2.2⟩,ob,es,ep,k _ _ (.inl rfl) e,c⟩
 | set S n=>obtain⟨ob,es,ep,t,e,c⟩:=x;exact⟨ob,es,ep,t,k _ _ (.inl rfl) e,c⟩
 | ins C dx fs =>
  obtain⟨d,z,ne,e,mA,⟨od,es,ep,e2,c⟩,r⟩:=x
  exact⟨ho _ d,z,ne,k _ _ (.inl rfl) e,mA,⟨od,es,ep,k _ _ (.inr d) e2,c⟩,r⟩
 | own y=>obtain⟨ob,e⟩:=x;exact⟨ob,k _ _ (.inl rfl) e⟩
 | xd fs=>obtain⟨mA,⟨od,es,ep,e,c⟩,r⟩:=x;exact⟨mA,⟨od,es,ep,k _ _ (.inl rfl) e,c⟩,r⟩
 | rng lo hi=>obtain⟨t,u,v,e⟩:=x;exact⟨t,u,v,k _ _ (.inl rfl) e⟩
 | frz ob u ih=>obtain⟨e,q⟩:=x;exact⟨k _ _ (.inl rfl) e,ih q⟩
 | tbl ps =>
  have e:h.get? a=some { cls:=.none,data:=.fields ps }:=x
  show h'.get? a=some { cls:=.none,data:=.fields ps }
  exact k a _ (.inl rfl) e
 | met f y =>
  have e:h.get? a=some (PySem.W.methodObj (.ref f) (.ref y)):=x
  show h'.get? a=some (PySem.W.methodObj (.ref f) (.ref y))
  exact k a _ (.inl rfl) e
 | ext φ=>obtain⟨p,⟨o,e⟩,st⟩:=x;exact⟨st _ _ p fun o q=>k _ _ (.inl rfl) q,⟨o,k _ _ (.inl rfl) e⟩,st⟩
theorem HOk.lt (x:HOk P w H h) (e:H a=some o):a<h.objs.size:=(x a o e).lt
theorem HOk.fresh (x:HOk P w H h) (e:h.objs.size≤a):H a=none:=by
 cases q:H a with
 | none=>rfl
 | some u=>exact absurd (Nat.lt_of_lt_of_le (x.lt q) e) (Nat.lt_irrefl _)
theorem HOk.kept (x:HOk P w H h) (k:∀ b u,h.get? b=some u→h'.get? b=some u):HOk P w H h':=fun a o e =>
 (x a o e).stay (fun b u _ q=>k b u q) (fun _ q=>q) fun _ _ q=>q
theorem HOk.laid (x:HOk P w H h) (k:∀ b u,h.get? b=some u→h'.get? b=some u) (hp:h.objs.size≤a) (new:ObjOk P w (upd H a o) h' a o):HOk P w (upd H a o) h':=fun b u e=>by
 have hn:=x.fresh hp
 by_cases hb:b=a
 ·subst hb;rw[upd_same]at e;cases e;exact new
 ·rw[upd_ne hb]at e
  exact(x b u e).stay (fun c v _ q=>k c v q) (fun c q=>by rw[upd_ne (ne_of_none q hn)];exact q) fun c xs q=>by rw[upd_ne (ne_of_none q hn)];exact q
end
noncomputable def Rd (H:Hp) (a:Addr) (u:HO):Prop:=H a=some u∨∃ o,H a=some (.frz o u)
theorem Rd.ok {P:Program} {w:World} {H:Hp} {h:Heap} {a:Addr} {u:HO} (r:Rd H a u) (x:HOk P w H h):ObjOk P w H h a u:=by
 rcases r with r | ⟨o,r⟩
 ·exact x a u r
 ·obtain⟨_,q⟩:=x a _ r
  exact q
noncomputable def Mut:Option HO→Prop
 | some (.lst _)=>True
 | some (.dK _)=>True
 | some (.dT _)=>True
 | some (.set _ _)=>True
 | some (.ins _ _ _)=>True
 | some (.ext _)=>True
 | _=>False
section
variable {P:Program} {w:World} {H:Hp} {h h':Heap} {x e:Addr} {o':HO}
theorem HOk.write (ok:HOk P w H h) (mu:Mut (H x)) (he:e=x∨H e=some (.own x)) (k:∀ b u,b≠e→h.get? b=some u→h'.get? b=some u) (heo:∃ u,h'.get? e=some u)
 (new:ObjOk P w (upd H x o') h' x o'):HOk P w (upd H x o') h':=fun b u q=>by
 have nown:∀ c y,H c=some (.own y)→c≠x:=fun c y r z=>by subst z;rw[r]at mu;exact mu
 have ntup:∀ c xs,H c=some (.tup xs)→c≠x:=fun c xs r z=>by subst z;rw[r]at mu;exact mu
 by_cases hb:b=x
 ·subst hb;rw[upd_same]at q;cases q;exact new
 ·rw[upd_ne hb]at q
  by_cases hbe:b=e
  ·have q':H b=some (.own x):=by
    rcases he with z | z
    ·exact absurd (hbe.trans z) hb
    ·rw[hbe];exact z
   rw[q]at q';cases q'
   obtain⟨v,hv⟩:=heo
   exact⟨v,by rw[hbe];exact hv⟩
  ·refine(ok b u q).stay (fun c v hc r=>k c v ?_ r) (fun c r=>by rw[upd_ne (nown c b r)];exact r) fun c xs r=>by rw[upd_ne (ntup c xs r)];exact r
   rcases hc with rfl | hc
   ·exact hbe
   ·rintro rfl
    rcases he with z | z
    ·exact nown c b hc z
    ·rw[hc]at z;cases z;exact hb rfl
end
structure Un (fs ex:List Addr) (H H':Hp) (h h':Heap):Prop where
 keep:∀ b o,h.get? b=some o→H b=none→b∉fs→b∉ex→h'.get? b=some o
 slot:∀ b o,h.get? b=some o→H b=none→b∈fs→b∉ex→∃ sl,h'.get? b=some { o with slots:=sl }
 free:∀ b o,h.get? b=some o→H b=none→b∉ex→H' b=none
 there:∀ b o,h.get? b=some o→b∉ex→∃ o',h'.get? b=some o'
 tups:∀ b xs,H b=some (.tup xs)→H' b=some (.tup xs)
 frzs:∀ b o u,H b=some (.frz o u)→H' b=some (.frz o u)
 tbls:∀ b ps,H b=some (.tbl ps)→∃ more,H' b=some (.tbl (ps++more))
section
variable {fs fs' ex ex':List Addr} {H H1 H2:Hp} {h h1 h2 h':Heap} {a x e:Addr} {o:HO}
theorem Un.any (u:Un fs ex H H1 h h1) {b:Addr} {ob:Obj} (q:h.get? b=some ob) (n:H b=none) (hx:b∉ex):∃ sl,h1.get? b=some { ob with slots:=sl }:=by
 by_cases hb:b∈fs
 ·exact u.slot b ob q n hb hx
 ·exact⟨ob.slots,u.keep b ob q n hb hx⟩
theorem Un.kept (k:∀ b u,h.get? b=some u→h'.get? b=some u):Un fs ex H H h h' :=
 ⟨fun b ob q _ _ _=>k b ob q,fun b ob q _ _ _=>⟨ob.slots,k b ob q⟩,fun _ _ _ n _=>n,fun b ob q _=>⟨ob,k b ob q⟩,fun _ _ q=>q,fun _ _ _ q=>q,fun _ ps q=>⟨#[],by rw[q];simp⟩⟩
theorem Un.refl:Un fs ex H H h h:=Un.kept fun _ _ q=>q
theorem Un.laid (k:∀ b u,h.get? b=some u→h'.get? b=some u) (hp:h.objs.size≤a) (hn:H a=none):Un fs ex H (upd H a o) h h' where
 keep:=fun b u q _ _ _=>k b u q
 slot:=fun b u q _ _ _=>⟨u.slots,k b u q⟩
 free:=fun b u q n _=>by rw[upd_ne (Nat.ne_of_lt (Nat.lt_of_lt_of_le (Heap.lt_size q) hp))];exact n
 there:=fun b u q _=>⟨u,k b u q⟩
 tups:=fun b xs q=>by rw[upd_ne (ne_of_none q hn)];exact q
 frzs:=fun b u xs q=>by rw[upd_ne (ne_of_none q hn)];exact q
 tbls:=fun b ps q=>⟨#[],by rw[upd_ne (ne_of_none q hn),q];simp⟩
theorem Un.write (mu:Mut (H x)) (he:e=x∨H e=some (.own x)) (k:∀ b u,b≠e→h.get? b=some u→h'.get? b=some u) (heo:∃ u,h'.get? e=some u):Un fs ex H (upd H x o) h h':=by
 have hx:∀ b,H b=none→b≠x:=fun b n z=>by subst z;rw[n]at mu;exact mu
 have hb:∀ b,H b=none→b≠e:=fun b n z=>by
  subst z
  rcases he with r | r
  ·exact hx b n r
  ·rw[n]at r;cases r
 have hm:∀ b u,H b=some u→¬ Mut (some u)→b≠x:=fun b u q nm z=>by subst z;rw[q]at mu;exact nm mu
 refine⟨fun b u q n _ _=>k b u (hb b n) q,fun b u q n _ _=>⟨u.slots,k b u (hb b n) q⟩,fun b u q n _=>by rw[upd_ne (hx b n)];exact n,fun b u q _=>?_,
  fun b xs q=>by rw[upd_ne (hm b _ q fun z=>z)];exact q,fun b u xs q=>by rw[upd_ne (hm b _ q fun z=>z)];exact q,fun b ps q=>⟨#[],by rw[upd_ne (hm b _ q fun z=>z),q];simp⟩⟩
 by_cases hbe:b=e
 ·subst hbe;exact heo
 ·exact⟨u,k b u hbe q⟩
end
noncomputable def trk (h:Heap) (H:Hp):List Addr:=(List.range h.objs.size).filter fun a=>(H a).isSome
noncomputable def hidT (h:Heap) (H:Hp):Heap:=PySem.W.hideAll h (trk h H)
theorem hidT_size (h:Heap) (H:Hp):(hidT h H).objs.size=h.objs.size:=PySem.W.hideAll_size _ _
theorem hidT_get {h:Heap} {H:Hp} {b:Addr} {o:Obj} (e:h.get? b=some o) (n:H b=none):(hidT h H).get? b=some o :=
 PySem.W.hideAll_get _ e fun hm=>by
  have q:(H b).isSome=true:=(List.mem_filter.mp hm).2
  rw[n]at q;simp at q
theorem of_hidT {h:Heap} {H:Hp} {b:Addr} {o:Obj} (e:(hidT h H).get? b=some o):h.get? b=some o∧H b=none:=by
 have e':h.get? b=some o:=PySem.W.of_hideAll (trk h H) e
 refine⟨e',?_⟩
 cases q:H b with
 | none=>rfl
 | some x =>
  have hm:b∈trk h H:=List.mem_filter.mpr ⟨List.mem_range.mpr (Heap.lt_size e'),by simp[q]⟩
  have z:(hidT h H).get? b=none:=PySem.W.hideAll_none (trk h H) hm
  rw[z]at e;cases e
noncomputable def allNews (g h:Heap) (L:Addr):List (Addr×Obj):=(List.range h.objs.size).filterMap fun a=>if a=L∨(g.get? a).isSome=true then none else (h.get? a).map fun o=>(a,o)
noncomputable def rest (g h:Heap) (L d:Addr):List (Addr×Obj):=(allNews g h L).filter fun p=>decide (p.1≠d)
end L2
namespace L2
open PySem PySem.Spec PyProof.Rows
structure Mod (K:PySem.W.Frag) (mg:Str→Option Value) (base:Heap):Prop where
 kin:K.In base
 glob:base.Ns mainGlobals mg
 blt:∃ mb,base.Ns builtinsNs mb∧∀ x:Str,x≠"__name__"→mb x=bootBuiltins x
 nolimit:base.NoLimit
structure Cx where
 prog:Program
 w:World
 K:PySem.W.Frag
 mg:Str→Option Value
 base:Heap
 A:Around
 N:List Str
 s₀:Shared
 H₀:Hp
 env:Env
 outer:List Env
 stack:List Env
 ex:List Addr
 fn:Str→Bool
 calm:Bool
 pn:List (Addr×Obj)
 xe:Value→Shared→Prop
noncomputable def frs (l:List Env):List Addr:=l.filterMap (·.frame)
noncomputable abbrev Cx.fs (X:Cx):List Addr:=frs X.outer
noncomputable def Vis (sc:Scope) (x:Str):Prop:=sc.names.lookup x=some .local∨sc.names.lookup x=some .cell∨sc.names.lookup x=some .free
noncomputable def Loc (sc:Scope) (x:Str):Prop:=sc.names.lookup x=some .local∨sc.names.lookup x=some .cell
noncomputable def Look (env:Env) (h:Heap) (m:Str→Option Value) (x:Str) (u:Value):Prop :=
 (env.kindOf x=some .local∧m x=some u)∨((env.kindOf x=some .cell∨env.kindOf x=some .free)∧∃ c,env.cells.lookup x=some c∧h.IsCell c (some u))
structure Cx.Ok (X:Cx):Prop where
 mod:Mod X.K X.mg X.base
 kind:X.env.scope.kind=.function
 glob:X.env.globals=mainGlobals
 blt:X.env.builtins=builtinsNs
 above:X.s₀.heap.objs.size≤X.env.locals
 inj:∀ x y c,X.env.cells.lookup x=some c→X.env.cells.lookup y=some c→x=y
 has:∀ x,(X.env.kindOf x=some .cell∨X.env.kindOf x=some .free)→∃ c,X.env.cells.lookup x=some c
 cab:∀ x c,X.fn x=true→X.env.cells.lookup x=some c→X.s₀.heap.objs.size≤c
 hd:X.calm=true→X.A.handled=none
 frames:X.A.frames=some X.stack
 stk:X.stack=X.outer∨(X.stack=X.env :: X.outer∧X.env.frame=some X.env.locals)
 exf:∀ b∈X.ex,b≠X.env.locals∧∀ x c,X.env.cells.lookup x=some c→c≠b
 bs:∀ b o,X.base.get? b=some o→X.s₀.heap.get? b=some o∧X.H₀ b=none
 bsz:X.base.objs.size≤X.s₀.heap.objs.size
 noex:∀ b o,X.base.get? b=some o→b∉X.ex
 exfs:∀ b∈X.ex,b∉X.fs
 funs:X.s₀.heap.FunFrames X.base X.outer
 frf:∀ b∈X.fs,X.H₀ b=none
structure Inv (X:Cx) (pins:List (Addr×Obj)) (σ:List (Option V)) (H:Hp) (s:Shared):Prop where
 ok:X.Ok
 os:s.os=X.s₀.os
 bare:AllBare s.gens
 base:Un X.fs X.ex X.H₀ H X.s₀.heap s.heap
 loc:∃ m,s.heap.Ns X.env.locals m∧∀ (i:Nat) (x:Str) (v:V),X.N[i]?=some x→σ[i]?=some (some v)→Vis X.env.scope x→∃ u,RelV v u∧Look X.env s.heap m x u
 cell:∀ x c,X.env.cells.lookup x=some c→∃ v,s.heap.IsCell c v
 free:H X.env.locals=none
 freeC:∀ x c,X.env.cells.lookup x=some c→H c=none
 pin:∀ p∈X.pn++pins,s.heap.get? p.1=some p.2∧H p.1=none∧p.1≠X.env.locals∧p.1∉X.fs∧∀ v,p.2.data≠.cell v
 hok:HOk X.prog X.w H s.heap
 len:σ.length=X.N.length
section
variable {X:Cx} {pins:List (Addr×Obj)} {σ:List (Option V)} {H H':Hp} {s:Shared} {h':Heap}
theorem Cx.Ok.nofr (ok:X.Ok) {b:Addr} {o:Obj} (e:X.base.get? b=some o):b∉X.fs:=fun hb=>by
 have:=(ok.funs.mem hb).1
 rw[e]at this;cases this
theorem Inv.bs (I:Inv X pins σ H s):∀ b o,X.base.get? b=some o→s.heap.get? b=some o∧H b=none:=fun b o e =>
 ⟨I.base.keep b o (I.ok.bs b o e).1 (I.ok.bs b o e).2 (I.ok.nofr e) (I.ok.noex b o e),I.base.free b o (I.ok.bs b o e).1 (I.ok.bs b o e).2 (I.ok.noex b o e)⟩
theorem Inv.bk (I:Inv X pins σ H s):∀ b o,X.base.get? b=some o→s.heap.get? b=some o:=fun b o e=>(I.bs b o e).1
theorem Inv.mod (I:Inv X pins σ H s):Mod X.K X.mg X.base:=I.ok.mod
theorem Inv.kIn (I:Inv X pins σ H s):X.K.In s.heap:=I.ok.mod.kin.keeps I.bk
theorem Inv.nolimit (I:Inv X pins σ H s):s.heap.NoLimit:=I.ok.mod.nolimit.keeps I.bk
theorem Inv.fr (I:Inv X pins σ H s):∃ m,Fr X.base X.env.locals s.heap m :=
 let ⟨m,hn,_⟩:=I.loc
 ⟨m,hn,I.bk,Nat.le_trans I.ok.bsz I.ok.above⟩
theorem Inv.lt (I:Inv X pins σ H s):X.env.locals<s.heap.objs.size:=let ⟨_,hn,_⟩:=I.loc;hn.lt
theorem Inv.sz (I:Inv X pins σ H s):X.s₀.heap.objs.size≤s.heap.objs.size:=Nat.le_trans I.ok.above (Nat.le_of_lt I.lt)
theorem Inv.nofs (I:Inv X pins σ H s) {a:Addr} (h:s.heap.objs.size≤a):a∉X.fs:=fun hb=>by
 obtain⟨_,o,ho,_⟩:=I.ok.funs.mem hb
 exact absurd (Nat.lt_of_lt_of_le (Heap.lt_size ho) (Nat.le_trans I.sz h)) (Nat.lt_irrefl _)
theorem Inv.cne (I:Inv X pins σ H s):∀ x c,X.env.cells.lookup x=some c→c≠X.env.locals:=fun x c e z=>by
 obtain⟨v,o,ho,hd⟩:=I.cell x c e
 obtain⟨m,⟨o',es,ep,ho',hd',_⟩,_⟩:=I.loc
 rw[z,ho']at ho;cases ho;rw[hd']at hd;cases hd
theorem Inv.funs (I:Inv X pins σ H s):s.heap.FunFrames X.base X.outer:=by
 have all:∀ (l:List Env),(∀ b∈frs l,b∈X.fs)→X.s₀.heap.FunFrames X.base l→s.heap.FunFrames X.base l:=by
  intro l
  induction l with
  | nil=>intro _ _;trivial
  | cons env r ih =>
   intro hs hl
   obtain⟨hk,⟨L,o,hf,hn,ho,hd⟩,hr⟩:=hl
   have hL:L∈X.fs:=hs L (by unfold frs;rw[List.filterMap_cons,hf];exact List.mem_cons_self)
   obtain⟨sl,e⟩:=I.base.slot L o ho (I.ok.frf L hL) hL fun z=>I.ok.exfs L z hL
   exact⟨hk,⟨L,_,hf,hn,e,hd⟩,ih (fun b hb=>hs b (by unfold frs;rw[List.filterMap_cons,hf];exact List.mem_cons_of_mem _ hb)) hr⟩
 exact all X.outer (fun _ hb=>hb) I.ok.funs
theorem Inv.stack (I:Inv X pins σ H s):s.heap.FunFrames X.base X.stack:=by
 rcases I.ok.stk with e | ⟨e,hf⟩
 ·rw[e];exact I.funs
 ·rw[e]
  obtain⟨m,hn,_⟩:=I.loc
  refine .cons (by rw[I.ok.kind];decide) hf hn ?_ I.funs
  exact Heap.get?_none_of_le (Nat.le_trans I.ok.bsz I.ok.above)
theorem Inv.stkSub (I:Inv X pins σ H s):∀ b∈frs X.stack,b∈X.env.locals :: X.fs:=fun b hb=>by
 rcases I.ok.stk with e | ⟨e,hf⟩
 ·rw[e]at hb;exact List.mem_cons_of_mem _ hb
 ·rw[e]at hb
  unfold frs at hb
  rw[List.filterMap_cons,hf]at hb
  exact hb
theorem Inv.stkFree (I:Inv X pins σ H s):∀ b∈frs X.stack,H b=none:=fun b hb=>by
 rcases List.mem_cons.mp (I.stkSub b hb)with e | hb
 ·rw[e];exact I.free
 ·obtain⟨_,o,ho,_⟩:=I.ok.funs.mem hb
  exact I.base.free b o ho (I.ok.frf b hb) fun z=>I.ok.exfs b z hb
theorem Inv.step {g':Array GenState} {t':Nat} {d':Drawn} {ch:List Addr} (I:Inv X pins σ H s)
 (hch:∀ b∈ch,(b∈X.ex∨X.s₀.heap.objs.size≤b)∧b≠X.env.locals∧(∀ x c,X.env.cells.lookup x=some c→c≠b)∧∀ p∈X.pn++pins,p.1≠b)
 (keep:∀ b o,b≠X.env.locals→b∉X.fs→b∉ch→s.heap.get? b=some o→H b=none→h'.get? b=some o)
 (slot:∀ b o,b≠X.env.locals→b∈X.fs→b∉ch→s.heap.get? b=some o→H b=none→∃ sl,h'.get? b=some { o with slots:=sl }) (free:∀ b o,b∉ch→s.heap.get? b=some o→H b=none→H' b=none)
 (there:∀ b o,b∉ch→s.heap.get? b=some o→∃ o',h'.get? b=some o')
 (tups:∀ b xs,H b=some (.tup xs)→H' b=some (.tup xs)) (frzs:∀ b o u,H b=some (.frz o u)→H' b=some (.frz o u)) (tbls:∀ b ps,H b=some (.tbl ps)→∃ more,H' b=some (.tbl (ps++more)))
 (ns:∀ m,s.heap.Ns X.env.locals m→h'.Ns X.env.locals m) (hok:HOk X.prog X.w H' h') (hg:AllBare g') :
 Inv X pins σ H' { s with heap:=h',gens:=g',drawn:=d',toks:=t' }:=by
 have neL:∀ b o,X.s₀.heap.get? b=some o→b≠X.env.locals:=fun b o e=>Nat.ne_of_lt (Nat.lt_of_lt_of_le (Heap.lt_size e) I.ok.above)
 have neC:∀ b o,X.s₀.heap.get? b=some o→b∉X.ex→b∉ch:=fun b o e hx hb=>by
  rcases (hch b hb).1 with z | z
  ·exact hx z
  ·exact absurd (Nat.lt_of_lt_of_le (Heap.lt_size e) z) (Nat.lt_irrefl _)
 have cellK:∀ x c,X.env.cells.lookup x=some c→∀ v,s.heap.IsCell c v→h'.IsCell c v:=fun x c e v ⟨o,ho,hd⟩=>by
  have nch:c∉ch:=fun z=>(hch c z).2.2.1 x c e rfl
  by_cases hc:c∈X.fs
  ·obtain⟨sl,q⟩:=slot c o (I.cne x c e) hc nch ho (I.freeC x c e)
   exact⟨_,q,hd⟩
  ·exact⟨o,keep c o (I.cne x c e) hc nch ho (I.freeC x c e),hd⟩
 refine⟨I.ok,I.os,hg,⟨fun b o e n hb hx=>?_,fun b o e n hb hx=>?_,fun b o e n hx=>?_,fun b o e hx=>?_,fun b xs e=>tups b xs (I.base.tups b xs e),fun b o xs e=>frzs b o xs (I.base.frzs b o xs e),fun b ps e=>?_⟩,?_,fun x c e=>?_,?_,fun x c e=>?_,fun p hp=>?_,hok,I.len⟩
 ·exact keep b o (neL b o e) hb (neC b o e hx) (I.base.keep b o e n hb hx) (I.base.free b o e n hx)
 ·obtain⟨sl,e1⟩:=I.base.slot b o e n hb hx
  obtain⟨sl',e2⟩:=slot b _ (neL b o e) hb (neC b o e hx) e1 (I.base.free b o e n hx)
  exact⟨sl',e2⟩
 ·obtain⟨o',e1⟩:=I.base.there b o e hx
  exact free b o' (neC b o e hx) e1 (I.base.free b o e n hx)
 ·obtain⟨o',e1⟩:=I.base.there b o e hx
  exact there b o' (neC b o e hx) e1
 ·obtain⟨m1,e1⟩:=I.base.tbls b ps e
  obtain⟨m2,e2⟩:=tbls b _ e1
  exact⟨m1++m2,by rw[e2,Array.append_assoc]⟩
 ·obtain⟨m,hn,hl⟩:=I.loc
  refine⟨m,ns m hn,fun i x v e1 e2 e3=>?_⟩
  obtain⟨u,r,l⟩:=hl i x v e1 e2 e3
  refine⟨u,r,?_⟩
  rcases l with l | ⟨k,c,e,z⟩
  ·exact .inl l
  ·exact .inr ⟨k,c,e,cellK x c e _ z⟩
 ·obtain⟨v,z⟩:=I.cell x c e
  exact⟨v,cellK x c e v z⟩
 ·obtain⟨m,⟨o,_,_,ho,_⟩,_⟩:=I.loc
  exact free _ o (fun z=>(hch _ z).2.1 rfl) ho I.free
 ·obtain⟨v,o,ho,hd⟩:=I.cell x c e
  exact free c o (fun z=>(hch c z).2.2.1 x c e rfl) ho (I.freeC x c e)
 ·obtain⟨e,n,ne,nf,d⟩:=I.pin p hp
  have nch:p.1∉ch:=fun z=>(hch p.1 z).2.2.2 p hp rfl
  exact⟨keep p.1 p.2 ne nf nch e n,free p.1 p.2 nch e n,ne,nf,d⟩
theorem Inv.un {t':Nat} (I:Inv X pins σ H s) (u:Un X.fs [] H H' s.heap h') (hok:HOk X.prog X.w H' h'):Inv X pins σ H' { s with heap:=h',toks:=t' }:=by
 obtain⟨m,⟨o,es,ep,ho,r⟩,_⟩:=id I.loc
 obtain⟨sl,hL⟩:=u.any ho I.free (by simp)
 exact I.step (g':=s.gens) (d':=s.drawn) (ch:=[]) (fun _ z=>nomatch z) (fun b o _ hb _ e n=>u.keep b o e n hb (by simp)) (fun b o _ hb _ e n=>u.slot b o e n hb (by simp)) (fun b o _ e n=>u.free b o e n (by simp)) (fun b o _ e=>u.there b o e (by simp)) u.tups u.frzs u.tbls (fun m' hm=>by
  obtain⟨o',es',ep',ho',r'⟩:=hm
  rw[ho]at ho';cases ho'
  exact⟨_,es',ep',hL,r'⟩) hok I.bare
theorem Inv.call {g':Array GenState} {t':Nat} {d':Drawn} {ch:List Addr} (I:Inv X pins σ H s) (u:Un (frs X.stack) ch H H' s.heap h') (hok:HOk X.prog X.w H' h') (hg:AllBare g')
 (hch:∀ b∈ch,(b∈X.ex∨X.s₀.heap.objs.size≤b)∧b≠X.env.locals∧(∀ x c,X.env.cells.lookup x=some c→c≠b)∧∀ p∈X.pn++pins,p.1≠b) :
 Inv X pins σ H' { s with heap:=h',gens:=g',drawn:=d',toks:=t' }:=by
 obtain⟨m,⟨o,es,ep,ho,r⟩,_⟩:=id I.loc
 obtain⟨sl,hL⟩:=u.any ho I.free fun z=>(hch _ z).2.1 rfl
 exact I.step (ch:=ch) hch (fun b o hL hb hc e n=>u.keep b o e n (fun z=>(List.mem_cons.mp (I.stkSub b z)).elim hL hb) hc) (fun b o _ _ hc e n=>u.any e n hc) (fun b o hc e n=>u.free b o e n hc) (fun b o hc e=>u.there b o e hc) u.tups u.frzs u.tbls (fun m' hm=>by
  obtain⟨o',es',ep',ho',r'⟩:=hm
  rw[ho]at ho';cases ho'
  exact⟨_,es',ep',hL,r'⟩) hok hg
theorem Inv.turned {t':Nat} {it:Addr} (I:Inv X pins σ H s) (k:∀ b o,b≠it→s.heap.get? b=some o→h'.get? b=some o) (hn:H it=none) (hL:it≠X.env.locals)
 (h1:it∈X.ex∨X.s₀.heap.objs.size≤it) (h2:∀ x c,X.env.cells.lookup x=some c→c≠it) (h3:∀ p∈X.pn++pins,p.1≠it):Inv X pins σ H { s with heap:=h',toks:=t' }:=by
 have nit:∀ b u,H b=some u→b≠it:=fun b u e z=>by rw[z,hn]at e;cases e
 refine I.step (g':=s.gens) (d':=s.drawn) (ch:=[it]) (fun b hb=>?_) (fun b o _ _ hc e _=>k b o (fun z=>hc (by simp[z])) e) (fun b o _ _ hc e _=>⟨o.slots,k b o (fun z=>hc (by simp[z])) e⟩) (fun _ _ _ _ n=>n)
  (fun b o hc e=>⟨o,k b o (fun z=>hc (by simp[z])) e⟩) (fun _ _ e=>e) (fun _ _ _ e=>e) (fun b ps e=>⟨#[],by rw[e];simp⟩) (fun m hm=>?_) (fun b u e=>?_) I.bare
 ·have e:b=it:=by simpa using hb
  subst e
  exact⟨h1,hL,h2,h3⟩
 ·obtain⟨o,es,ep,ho,r⟩:=hm
  exact⟨o,es,ep,k _ o (Ne.symm hL) ho,r⟩
 ·refine(I.hok b u e).stay (fun c v hc q=>k c v ?_ q) (fun _ q=>q) fun _ _ q=>q
  rcases hc with z | z
  ·rw[z];exact nit b u e
  ·exact nit c _ z
theorem Inv.tok (I:Inv X pins σ H s) (t:Nat):Inv X pins σ H { s with toks:=t }:=I.un (h':=s.heap) (t':=t) Un.refl I.hok
theorem Inv.kept {t':Nat} (I:Inv X pins σ H s) (k:∀ b u,s.heap.get? b=some u→h'.get? b=some u):Inv X pins σ H { s with heap:=h',toks:=t' }:=I.un (Un.kept k) (I.hok.kept k)
theorem Inv.laid {a:Addr} {o:HO} {t':Nat} (I:Inv X pins σ H s) (k:∀ b u,s.heap.get? b=some u→h'.get? b=some u) (hp:s.heap.objs.size≤a) (new:ObjOk X.prog X.w (upd H a o) h' a o) :
 Inv X pins σ (upd H a o) { s with heap:=h',toks:=t' }:=I.un (Un.laid k hp (I.hok.fresh hp)) (I.hok.laid k hp new)
theorem Inv.write {x e:Addr} {o:HO} {t':Nat} (I:Inv X pins σ H s) (mu:Mut (H x)) (he:e=x∨H e=some (.own x)) (k:∀ b u,b≠e→s.heap.get? b=some u→h'.get? b=some u) (heo:∃ u,h'.get? e=some u)
 (new:ObjOk X.prog X.w (upd H x o) h' x o):Inv X pins σ (upd H x o) { s with heap:=h',toks:=t' }:=I.un (Un.write mu he k heo) (I.hok.write mu he k heo new)
theorem Inv.weak {σ':List (Option V)} (I:Inv X pins σ H s) (hl:σ'.length=σ.length) (w:∀ (i:Nat) v,σ'[i]?=some (some v)→σ[i]?=some (some v)):Inv X pins σ' H s :=
 ⟨I.ok,I.os,I.bare,I.base,let ⟨m,hn,hl'⟩:=I.loc;⟨m,hn,fun i x v e1 e2 e3=>hl' i x v e1 (w i v e2) e3⟩,I.cell,I.free,I.freeC,I.pin,I.hok,hl.trans I.len⟩
theorem Inv.pins_of {pins':List (Addr×Obj)} (I:Inv X pins σ H s) (h:∀ p∈pins',s.heap.get? p.1=some p.2∧H p.1=none∧p.1≠X.env.locals∧p.1∉X.fs∧∀ v,p.2.data≠.cell v):Inv X pins' σ H s :=
 ⟨I.ok,I.os,I.bare,I.base,I.loc,I.cell,I.free,I.freeC,fun p hp=>(List.mem_append.mp hp).elim (fun z=>I.pin p (List.mem_append_left _ z)) (h p),I.hok,I.len⟩
theorem nodup_ix {N:List Str} (hN:N.Nodup) {i j:Nat} {x:Str} (a:N[i]?=some x) (b:N[j]?=some x):i=j:=by
 obtain⟨h1,e1⟩:=List.getElem?_eq_some_iff.mp a
 obtain⟨h2,e2⟩:=List.getElem?_eq_some_iff.mp b
 exact(List.getElem_inj hN).mp (e1.trans e2.symm)
theorem store_ok2 {M:Model} {A:Around} {E:Value→Shared→Prop} {i:Nat} {x:Str} {v:V} {u:Value} {Q:Unit→Shared→Prop} (I:Inv X pins σ H s) (hN:X.N.Nodup) (hi:X.N[i]?=some x) (hx:Loc X.env.scope x) (r:RelV v u)
 (h:∀ s',Inv X pins (σ.set i (some v)) H s'→(∃ a,Heap.SameBut a s.heap s'.heap∧(a=X.env.locals∨X.env.cells.lookup x=some a))→Q () s') (hf:X.fn x=true∨X.env.scope.names.lookup x=some .local:=by first | exact .inl rfl | exact .inr rfl | assumption):wpAny M A (storeName X.env x u) Q E s:=by
 obtain⟨m,hn,hl⟩:=id I.loc
 have hcls:(X.env.scope.kind == .class || (X.env.scope.kind == .module && X.env.locals != X.env.globals))=false:=by rw[I.ok.kind];rfl
 have hiσ:i<σ.length:=by rw[I.len];exact(List.getElem?_eq_some_iff.mp hi).1
 have cne:=I.cne
 have tracked:∀ {a:Addr} {h':Heap},(∃ o,s.heap.get? a=some o∧H a=none)→Heap.SameBut a s.heap h'→HOk X.prog X.w H h':=fun {a h'} ha hs b ob e=>by
  obtain⟨_,_,hfree⟩:=ha
  refine(I.hok b ob e).stay (fun c w' hc q=>(hs.2 c ?_).trans q) (fun _ q=>q) fun _ _ q=>q
  rintro rfl
  rcases hc with rfl | hc
  ·rw[hfree]at e;cases e
  ·rw[hfree]at hc;cases hc
 rcases hx with hk | hk
 ·refine wpAny_storeName_local hk hn (fun h' hn' hs=>?_) hcls
  obtain⟨oL,_,_,hoL,_⟩:=id hn
  refine h _ ⟨I.ok,I.os,I.bare,⟨fun b o e n hb hx=>?_,fun b o e n hb hx=>?_,I.base.free,fun b o e hx=>?_,I.base.tups,I.base.frzs,I.base.tbls⟩,⟨_,hn',fun j y v' e1 e2 e3=>?_⟩,fun y c e=>?_,I.free,I.freeC,fun p hp=>?_,tracked ⟨oL,hoL,I.free⟩ hs,by simpa using I.len⟩ ⟨_,hs,.inl rfl⟩
  ·exact(hs.2 b (Nat.ne_of_lt (Nat.lt_of_lt_of_le (Heap.lt_size e) I.ok.above))).trans (I.base.keep b o e n hb hx)
  ·obtain⟨sl,e1⟩:=I.base.slot b o e n hb hx
   exact⟨sl,(hs.2 b (Nat.ne_of_lt (Nat.lt_of_lt_of_le (Heap.lt_size e) I.ok.above))).trans e1⟩
  ·obtain⟨o',e1⟩:=I.base.there b o e hx
   exact⟨o',(hs.2 b (Nat.ne_of_lt (Nat.lt_of_lt_of_le (Heap.lt_size e) I.ok.above))).trans e1⟩
  ·by_cases hj:j=i
   ·subst hj
    rw[hi]at e1;cases e1
    rw[List.getElem?_set_self hiσ]at e2
    cases e2
    exact⟨u,r,.inl ⟨hk,by simp⟩⟩
   ·rw[List.getElem?_set_ne (Ne.symm hj)]at e2
    obtain⟨u',r',q⟩:=hl j y v' e1 e2 e3
    refine⟨u',r',?_⟩
    rcases q with ⟨k,e⟩ | ⟨k,c,e,z⟩
    ·refine .inl ⟨k,?_⟩
     have:y≠x:=fun e=>hj (nodup_ix hN e1 (e ▸ hi))
     simp[this,e]
    ·exact .inr ⟨k,c,e,z.sameBut hs (cne y c e)⟩
  ·obtain⟨w',z⟩:=I.cell y c e
   exact⟨w',z.sameBut hs (cne y c e)⟩
  ·obtain⟨e,n,ne,nf,d⟩:=I.pin p hp
   exact⟨(hs.2 p.1 ne).trans e,n,ne,nf,d⟩
 ·have hfn:X.fn x=true:=by
   rcases hf with z | z
   ·exact z
   ·rw[z]at hk;cases hk
  obtain⟨c,hc⟩:=I.ok.has x (.inl hk)
  obtain⟨w',z⟩:=I.cell x c hc
  refine wpAny_storeName_cell I.ok.kind hk hc z (fun h' hc' hs=>?_)
  obtain⟨oc,hoc,hocd⟩:=id z
  refine h { s with heap:=h' } ⟨I.ok,I.os,I.bare,⟨fun b o e n hb hx=>?_,fun b o e n hb hx=>?_,I.base.free,fun b o e hx=>?_,I.base.tups,I.base.frzs,I.base.tbls⟩,⟨m,hn.sameBut hs (Ne.symm (cne x c hc)),fun j y v' e1 e2 e3=>?_⟩,fun y c' e=>?_,I.free,I.freeC,fun p hp=>?_,tracked ⟨oc,hoc,I.freeC x c hc⟩ hs,by simpa using I.len⟩ ⟨c,hs,.inr hc⟩
  ·exact(hs.2 b (Nat.ne_of_lt (Nat.lt_of_lt_of_le (Heap.lt_size e) (I.ok.cab x c hfn hc)))).trans (I.base.keep b o e n hb hx)
  ·obtain⟨sl,e1⟩:=I.base.slot b o e n hb hx
   exact⟨sl,(hs.2 b (Nat.ne_of_lt (Nat.lt_of_lt_of_le (Heap.lt_size e) (I.ok.cab x c hfn hc)))).trans e1⟩
  ·obtain⟨o',e1⟩:=I.base.there b o e hx
   exact⟨o',(hs.2 b (Nat.ne_of_lt (Nat.lt_of_lt_of_le (Heap.lt_size e) (I.ok.cab x c hfn hc)))).trans e1⟩
  ·by_cases hj:j=i
   ·subst hj
    rw[hi]at e1;cases e1
    rw[List.getElem?_set_self hiσ]at e2
    cases e2
    exact⟨u,r,.inr ⟨.inl hk,c,hc,hc'⟩⟩
   ·rw[List.getElem?_set_ne (Ne.symm hj)]at e2
    obtain⟨u',r',q⟩:=hl j y v' e1 e2 e3
    refine⟨u',r',?_⟩
    rcases q with q | ⟨k,c',e,z'⟩
    ·exact .inl q
    ·refine .inr ⟨k,c',e,z'.sameBut hs ?_⟩
     rintro rfl
     exact hj (nodup_ix hN e1 (I.ok.inj _ _ _ e hc ▸ hi))
  ·by_cases hcc:c'=c
   ·subst hcc;exact⟨_,hc'⟩
   ·obtain⟨w2,z2⟩:=I.cell y c' e
    exact⟨w2,z2.sameBut hs hcc⟩
  ·obtain⟨e,n,ne,nf,d⟩:=I.pin p hp
   refine⟨(hs.2 p.1 ?_).trans e,n,ne,nf,d⟩
   intro q
   rw[q,hoc]at e
   have q':oc=p.2:=Option.some.inj e
   exact d w' (by rw[← q'];exact hocd)
theorem store_ok {M:Model} {A:Around} {E:Value→Shared→Prop} {i:Nat} {x:Str} {v:V} {u:Value} {Q:Unit→Shared→Prop} (I:Inv X pins σ H s) (hN:X.N.Nodup) (hi:X.N[i]?=some x) (hx:Loc X.env.scope x) (r:RelV v u)
 (h:∀ s',Inv X pins (σ.set i (some v)) H s'→Q () s') (hf:X.fn x=true∨X.env.scope.names.lookup x=some .local:=by first | exact .inl rfl | exact .inr rfl | assumption):wpAny M A (storeName X.env x u) Q E s :=
 store_ok2 I hN hi hx r (fun s' I' _=>h s' I') hf
theorem Inv.call' {s':Shared} {ch:List Addr} (I:Inv X pins σ H s) (ho:s'.os=s.os) (u:Un (frs X.stack) ch H H' s.heap s'.heap) (hok:HOk X.prog X.w H' s'.heap) (hg:AllBare s'.gens)
 (hch:∀ b∈ch,(b∈X.ex∨X.s₀.heap.objs.size≤b)∧b≠X.env.locals∧(∀ x c,X.env.cells.lookup x=some c→c≠b)∧∀ p∈X.pn++pins,p.1≠b):Inv X pins σ H' s':=by
 obtain⟨h',g',d',t',o'⟩:=s'
 have e:o'=s.os:=ho
 subst e
 exact I.call (g':=g') (t':=t') (d':=d') u hok hg hch
end
noncomputable abbrev XK:=Value→Option Addr→Hp→Prop
noncomputable abbrev St:=List (Option V)
noncomputable abbrev VK:=V→Hp→Prop
noncomputable abbrev TE:=St→Hp→VK→Prop
noncomputable abbrev TT:=St→Hp→(Bool→Hp→Prop)→Prop
noncomputable abbrev TA:=St→Hp→(List V→Hp→Prop)→Prop
structure Ends where
 nx:St→Hp→Prop
 rt:VK
 bk:St→Hp→Prop:=fun _ _=>False
 ct:St→Hp→Prop:=fun _ _=>False
noncomputable abbrev TS:=Ends→St→Hp→Prop
noncomputable def EP (X:Cx) (pins:List (Addr×Obj)) (σ:St) (Q:VK) (u:Value) (s':Shared):Prop:=∃ v H',Inv X pins σ H' s'∧RelV v u∧Q v H'
noncomputable def TP (X:Cx) (pins:List (Addr×Obj)) (σ:St) (Q:Bool→Hp→Prop) (b:Bool) (s':Shared):Prop:=∃ H',Inv X pins σ H' s'∧Q b H'
noncomputable def AP (X:Cx) (pins:List (Addr×Obj)) (σ:St) (Q:List V→Hp→Prop) (us:List Value) (s':Shared):Prop:=∃ vs H',Inv X pins σ H' s'∧Vals vs us∧Q vs H'
noncomputable def SP (X:Cx) (pins:List (Addr×Obj)) (D:Ends) (f:Flow) (s':Shared):Prop :=
 match f with
 | .next=>∃ σ' H',Inv X pins σ' H' s'∧D.nx σ' H'
 | .brk=>∃ σ' H',Inv X pins σ' H' s'∧D.bk σ' H'
 | .cont=>∃ σ' H',Inv X pins σ' H' s'∧D.ct σ' H'
 | .ret u=>∃ v σ' H',Inv X pins σ' H' s'∧RelV v u∧D.rt v H'
noncomputable def PE (X:Cx) (e:Expr) (t:TE):Prop :=
 ∀ (pins:List (Addr×Obj)) (s:Shared) (σ:St) (H:Hp) (Q:VK),Inv X pins σ H s→t σ H Q→wpAny (model X.prog X.w) X.A (eval e X.env) (EP X pins σ Q) X.xe s
noncomputable def PT (X:Cx) (e:Expr) (t:TT):Prop :=
 ∀ (pins:List (Addr×Obj)) (s:Shared) (σ:St) (H:Hp) (Q:Bool→Hp→Prop),Inv X pins σ H s→t σ H Q→wpAny (model X.prog X.w) X.A (isTrue e X.env (eval e X.env)) (TP X pins σ Q) X.xe s
noncomputable def PW (X:Cx) (e:Expr) (t:TT):Prop :=
 ∀ (whole:Sem Value) (pins:List (Addr×Obj)) (s:Shared) (σ:St) (H:Hp) (Q:Bool→Hp→Prop),Inv X pins σ H s→t σ H Q→wpAny (model X.prog X.w) X.A (isTrue e X.env whole) (TP X pins σ Q) X.xe s
theorem PW.pt {X:Cx} {e:Expr} {t:TT} (h:PW X e t):PT X e t:=h _
noncomputable def PA (X:Cx) (es:List Expr) (t:TA):Prop :=
 ∀ (pos:Pos) (pins:List (Addr×Obj)) (s:Shared) (σ:St) (H:Hp) (Q:List V→Hp→Prop),Inv X pins σ H s→t σ H Q→wpAny (model X.prog X.w) X.A (spliced (backTo pos (starEach es X.env))) (AP X pins σ Q) X.xe s
noncomputable def PS (X:Cx) (st:Stmt) (t:TS):Prop :=
 ∀ (pins:List (Addr×Obj)) (s:Shared) (σ:St) (H:Hp) (D:Ends),Inv X pins σ H s→t D σ H→wpAny (model X.prog X.w) X.A (exec st X.env) (SP X pins D) X.xe s
noncomputable def PSs (X:Cx) (st:List Stmt) (t:TS):Prop :=
 ∀ (pins:List (Addr×Obj)) (s:Shared) (σ:St) (H:Hp) (D:Ends),Inv X pins σ H s→t D σ H→wpAny (model X.prog X.w) X.A (execs st X.env) (SP X pins D) X.xe s
theorem thn {α:Type} {t:Sem α} {Q Q':α→Shared→Prop} {M:Model} {A:Around} {E:Value→Shared→Prop} {s:Shared} (h:wpAny M A t Q E s) (hQ:∀ a s,Q a s→Q' a s):wpAny M A t Q' E s:=wpAny_mono h hQ fun _ _ x=>x
end L2
namespace L2
open PySem PySem.Spec PyProof.Rows
section
variable {X:Cx}
noncomputable def tVar (i:Nat):TE:=fun σ H Q=>∃ v,σ[i]?=some (some v)∧Q v H
noncomputable def tC (v:V):TE:=fun _ H Q=>Q v H
theorem pe_var {i:Nat} {x:Str} {pos:Pos} (hN:X.N[i]?=some x) (hv:Vis X.env.scope x) (hd:(x == ("__debug__":Str))=false:=by decide) (hcd:(x == ("__classdict__":Str))=false:=by decide):PE X (.Name x pos) (tVar i):=by
 intro pins s σ H Q I h
 obtain⟨v,e,h⟩:=h
 obtain⟨m,hn,hl⟩:=I.loc
 obtain⟨u,r,l⟩:=hl i x v hN e hv
 have fin:EP X pins σ Q u s:=⟨v,H,I,r,h⟩
 rcases l with ⟨hk,hm⟩ | ⟨hk,c,hc,hcell⟩
 ·exact wpAny_Name (wpAny_loadName_local I.ok.kind hk hn hm fin) hd
 ·rcases hk with hk | hk
  ·exact wpAny_Name (wpAny_loadName_cell I.ok.kind hk hc hcell fin) hd
  ·exact wpAny_Name (wpAny_loadName_free I.ok.kind hk hc hcell fin hcd) hd
theorem pe_int {i j pos}:PE X (.Constant (.int i) j pos) (tC (.int i)):=fun _ _ _ H _ I h=>wpAny_Constant_int ⟨.int i,H,I.tok _,⟨_,rfl⟩,h⟩
theorem pe_bl {b j pos}:PE X (.Constant (.bool b) j pos) (tC (.bl b)):=fun _ _ _ H _ I h=>Constant_bool ⟨.bl b,H,I,rfl,h⟩
theorem pe_non {j pos}:PE X (.Constant .none j pos) (tC .non):=fun _ _ _ H _ I h=>Constant_none ⟨.non,H,I,rfl,h⟩
theorem pe_str {x j pos}:PE X (.Constant (.str x) j pos) (tC (.str x)):=fun _ _ _ H _ I h=>Calls.Constant_str ⟨.str x,H,I.tok _,⟨_,rfl⟩,h⟩
noncomputable def Gl (X:Cx) (x:Str):Prop:=X.env.kindOf x=some .globalImplicit
theorem ld_glob {E:Value→Shared→Prop} {pins:List (Addr×Obj)} {s:Shared} {σ:St} {H:Hp} {x:Str} {u:Value} {pos:Pos} {Q:Value→Shared→Prop} (I:Inv X pins σ H s) (hg:Gl X x) (hm:X.mg x=some u) (h:Q u s)
 (hd:(x == ("__debug__":Str))=false:=by decide):wpAny (model X.prog X.w) X.A (eval (.Name x pos) X.env) Q E s :=
 Calls.Name_function_global I.ok.kind hg (Calls.loadGlobal_global (by rw[I.ok.glob];exact I.mod.glob.keeps I.bk) hm h) hd
theorem ld_blt {E:Value→Shared→Prop} {pins:List (Addr×Obj)} {s:Shared} {σ:St} {H:Hp} {x:Str} {u:Value} {pos:Pos} {Q:Value→Shared→Prop} (I:Inv X pins σ H s) (hg:Gl X x) (hm:X.mg x=none) (hv:bootBuiltins x=some u) (h:Q u s)
 (hn:x≠"__name__":=by decide) (hd:(x == ("__debug__":Str))=false:=by decide):wpAny (model X.prog X.w) X.A (eval (.Name x pos) X.env) Q E s:=by
 obtain⟨mb,h1,h2⟩:=I.mod.blt
 exact Calls.Name_function_global I.ok.kind hg (Calls.loadGlobal_builtin (by rw[I.ok.glob];exact I.mod.glob.keeps I.bk) hm (by rw[I.ok.blt];exact h1.keeps I.bk) ((h2 x hn).trans hv) h) hd
theorem pe_glob {x:Str} {v:V} {u:Value} {pos:Pos} (hg:Gl X x) (hm:X.mg x=some u) (r:RelV v u) (hd:(x == ("__debug__":Str))=false:=by decide):PE X (.Name x pos) (tC v) :=
 fun _ _ _ H _ I h=>ld_glob I hg hm ⟨v,H,I,r,h⟩ hd
theorem pe_bltn {x:Str} {v:V} {u:Value} {pos:Pos} (hg:Gl X x) (hm:X.mg x=none) (hv:bootBuiltins x=some u) (r:RelV v u) (hn:x≠"__name__":=by decide) (hd:(x == ("__debug__":Str))=false:=by decide):PE X (.Name x pos) (tC v) :=
 fun _ _ _ H _ I h=>ld_blt I hg hm hv ⟨v,H,I,r,h⟩ hn hd
variable {a b:Expr} {ta tb:TE} {pos:Pos}
variable {tA tB':TT} {rest:List Expr}
noncomputable def tAnd (t u:TT):TT:=fun σ H Q=>t σ H fun c H1=>if c=true then u σ H1 Q else Q false H1
noncomputable def tOr (t u:TT):TT:=fun σ H Q=>t σ H fun c H1=>if c=true then Q true H1 else u σ H1 Q
noncomputable def tNot (t:TT):TT:=fun σ H Q=>t σ H fun c H1=>Q (!c) H1
theorem pw_and1 (ha:PT X a tA):PW X (.BoolOp .And [a] pos) tA:=by
 intro wh pins s σ H Q I h
 refine isTrue_and (thn (ha pins s σ H Q I h) fun c s1 e=>?_)
 cases c with
 | true=>exact isTrue_and_nil e
 | false=>exact e
theorem pw_or1 (ha:PT X a tA):PW X (.BoolOp .Or [a] pos) tA:=by
 intro wh pins s σ H Q I h
 refine isTrue_or (thn (ha pins s σ H Q I h) fun c s1 e=>?_)
 cases c with
 | false=>exact isTrue_or_nil e
 | true=>exact e
theorem pw_and (ha:PT X a tA) (hb:PW X (.BoolOp .And (b :: rest) pos) tB'):PW X (.BoolOp .And (a :: b :: rest) pos) (tAnd tA tB'):=by
 intro wh pins s σ H Q I h
 refine isTrue_and (thn (ha pins s σ H _ I h) fun c s1 ⟨H1,I1,q1⟩=>?_)
 cases c with
 | true=>exact hb wh pins s1 σ H1 Q I1 q1
 | false=>exact⟨H1,I1,q1⟩
theorem pw_or (ha:PT X a tA) (hb:PW X (.BoolOp .Or (b :: rest) pos) tB'):PW X (.BoolOp .Or (a :: b :: rest) pos) (tOr tA tB'):=by
 intro wh pins s σ H Q I h
 refine isTrue_or (thn (ha pins s σ H _ I h) fun c s1 ⟨H1,I1,q1⟩=>?_)
 cases c with
 | true=>exact⟨H1,I1,q1⟩
 | false=>exact hb wh pins s1 σ H1 Q I1 q1
theorem pt_not (ha:PT X a tA):PT X (.UnaryOp .Not a pos) (tNot tA):=by
 intro pins s σ H Q I h
 exact isTrue_not (ha pins s σ H (fun c H1=>Q (!c) H1) I h)
noncomputable def tAndV (ta tb:TE):TE:=fun σ H Q=>ta σ H fun x H1=>∃ c,x=.bl c∧if c=true then tb σ H1 Q else Q (.bl false) H1
theorem pe_one {op} {t:TE} (h:PE X a t):PE X (.BoolOp op [a] pos) t:=fun pins s σ H Q I hw=>BoolOp_one (h pins s σ H Q I hw)
theorem pe_and (ha:PE X a ta) (hb:PE X (.BoolOp .And (b :: rest) pos) tb):PE X (.BoolOp .And (a :: b :: rest) pos) (tAndV ta tb):=by
 intro pins s σ H Q I h
 refine BoolOp_and (thn (ha pins s σ H _ I h) fun v s1 ⟨x,H1,I1,r1,q1⟩=>?_)
 obtain⟨c,rfl,q1⟩:=q1
 cases r1
 refine wpAny_truthy_bool ?_
 cases c with
 | true=>exact hb pins s1 σ H1 Q I1 q1
 | false=>exact⟨.bl false,H1,I1,rfl,q1⟩
noncomputable def tIf (t:TT) (ta tb:TE):TE:=fun σ H Q=>t σ H fun c H1=>if c=true then ta σ H1 Q else tb σ H1 Q
theorem pe_ifExp {c:Expr} (hc:PT X c tA) (ha:PE X a ta) (hb:PE X b tb):PE X (.IfExp c a b pos) (tIf tA ta tb):=by
 intro pins s σ H Q I h
 refine wpAny_IfExp (thn (hc pins s σ H _ I h) fun d s1 ⟨H1,I1,q1⟩=>?_)
 cases d with
 | true=>exact ha pins s1 σ H1 Q I1 q1
 | false=>exact hb pins s1 σ H1 Q I1 q1
end
end L2
namespace L2
open PySem PySem.Spec PyProof.Rows
noncomputable def SqL (K:PySem.W.Frag) (H:Hp) (a:Addr) (xs:List V):Prop :=
 Rd H a (.lst xs) ∨
  ∃ (o:Obj) (its:Array Value) (n:Nat),K.lookup a=some o∧o.cls=.type "list"∧o.dict=none∧o.data=.seq its n∧its.size≤sizeLine∧Vals xs its.toList
noncomputable def SqT (K:PySem.W.Frag) (H:Hp) (a:Addr) (xs:List V):Prop :=
 Rd H a (.tup xs) ∨
  ∃ (o:Obj) (its:Array Value) (n:Nat),K.lookup a=some o∧o.cls=.type "tuple"∧o.data=.seq its n∧its.size≤sizeLine∧Vals xs its.toList
noncomputable def absV:Value→Option V
 | .none=>some .non
 | .bool b=>some (.bl b)
 | .int i _=>some (.int i)
 | .str x _=>some (.str x)
 | .bytes b _=>some (.byt b)
 | .float b _=>some (.flt b)
 | .ref a=>some (.ref a)
 | .type n=>some (.ty n)
 | _=>none
theorem RelV.abs {x:V} {u:Value} (r:RelV x u):absV u=some x:=by
 cases x with
 | non=>cases r;rfl
 | bl _=>cases r;rfl
 | int _=>obtain⟨t,rfl⟩:=r;rfl
 | str _=>obtain⟨t,rfl⟩:=r;rfl
 | byt _=>obtain⟨t,rfl⟩:=r;rfl
 | flt _=>obtain⟨t,rfl⟩:=r;rfl
 | ref _=>cases r;rfl
 | ty _=>cases r;rfl
theorem RelV.inj {x y:V} {u:Value} (r:RelV x u) (q:RelV y u):x=y:=Option.some.inj (r.abs.symm.trans q.abs)
theorem Vals.inj:∀ {xs ys:List V} {us:List Value},Vals xs us→Vals ys us→xs=ys
 | _,_,_,.nil,.nil=>rfl
 | _,_,_,.cons r t,.cons r' t'=>by rw[r.inj r',Vals.inj t t']
section
variable {X:Cx} {pins:List (Addr×Obj)} {σ:St} {H:Hp} {s:Shared} {a:Addr} {xs ys:List V}
theorem SqL.of {K:PySem.W.Frag} (h:H a=some (.lst xs)):SqL K H a xs:=.inl (.inl h)
theorem SqT.of {K:PySem.W.Frag} (h:H a=some (.tup xs)):SqT K H a xs:=.inl (.inl h)
theorem Inv.list (I:Inv X pins σ H s) (h:SqL X.K H a xs):∃ its:List Value,Vals xs its∧PlainL s.heap a its.toArray∧xs.length≤sizeLine:=by
 rcases h with h | ⟨o,its,n,hk,hc,hd,hs,hz,r⟩
 ·obtain⟨z,its,n,r,e⟩:=h.ok I.hok
  exact⟨its,r,⟨_,n,e,rfl,rfl,rfl⟩,z⟩
 ·refine⟨its.toList,r,⟨o,n,I.kIn a o hk,hc,hd,by simpa using hs⟩,?_⟩
  have e:=r.length
  simp only[Array.length_toList]at e
  omega
theorem Inv.tuple (I:Inv X pins σ H s) (h:SqT X.K H a xs):∃ its:List Value,Vals xs its∧IsTup s.heap a its.toArray∧xs.length≤sizeLine:=by
 rcases h with h | ⟨o,its,n,hk,hc,hs,hz,r⟩
 ·obtain⟨z,its,r,p⟩:=h.ok I.hok
  exact⟨its,r,p,z⟩
 ·refine⟨its.toList,r,⟨o,I.kIn a o hk,hc,n,by simpa using hs⟩,?_⟩
  have e:=r.length
  simp only[Array.length_toList]at e
  omega
theorem Inv.list_inj (I:Inv X pins σ H s) (h:SqL X.K H a xs) (h':SqL X.K H a ys):xs=ys:=by
 obtain⟨its,r,⟨o,n,e,_,_,d⟩,_⟩:=I.list h
 obtain⟨its',r',⟨o',n',e',_,_,d'⟩,_⟩:=I.list h'
 rw[e]at e';cases e'
 rw[d]at d'
 injection d' with d1 _
 have:its=its':=by simpa using congrArg Array.toList d1
 subst this
 exact r.inj r'
end
noncomputable abbrev Cx.wish (X:Cx) (E:Value→Shared→Prop):Cx:={ X with xe:=E }
noncomputable abbrev Cx.nox (X:Cx):Cx:=X.wish fun _ _=>False
theorem Cx.Ok.wish {X:Cx} (ok:X.Ok) (E:Value→Shared→Prop):(X.wish E).Ok :=
 ⟨ok.mod,ok.kind,ok.glob,ok.blt,ok.above,ok.inj,ok.has,ok.cab,ok.hd,ok.frames,ok.stk,ok.exf,ok.bs,ok.bsz,ok.noex,ok.exfs,ok.funs,ok.frf⟩
theorem Cx.Ok.unwish {X:Cx} {E:Value→Shared→Prop} (ok:(X.wish E).Ok):X.Ok :=
 ⟨ok.mod,ok.kind,ok.glob,ok.blt,ok.above,ok.inj,ok.has,ok.cab,ok.hd,ok.frames,ok.stk,ok.exf,ok.bs,ok.bsz,ok.noex,ok.exfs,ok.funs,ok.frf⟩
section
variable {X:Cx} {pins:List (Addr×Obj)} {σ:St} {H:Hp} {s:Shared} {E:Value→Shared→Prop}
theorem Inv.wish (I:Inv X pins σ H s) (E:Value→Shared→Prop):Inv (X.wish E) pins σ H s:=⟨I.ok.wish E,I.os,I.bare,I.base,I.loc,I.cell,I.free,I.freeC,I.pin,I.hok,I.len⟩
theorem Inv.unwish (I:Inv (X.wish E) pins σ H s):Inv X pins σ H s:=⟨I.ok.unwish,I.os,I.bare,I.base,I.loc,I.cell,I.free,I.freeC,I.pin,I.hok,I.len⟩
theorem SP.unwish {D:Ends} {f:Flow} {s':Shared} (h:SP (X.wish E) pins D f s'):SP X pins D f s':=by
 cases f with
 | next=>obtain⟨σ',H',I,q⟩:=h;exact⟨σ',H',I.unwish,q⟩
 | brk=>obtain⟨σ',H',I,q⟩:=h;exact⟨σ',H',I.unwish,q⟩
 | cont=>obtain⟨σ',H',I,q⟩:=h;exact⟨σ',H',I.unwish,q⟩
 | ret u=>obtain⟨v,σ',H',I,r,q⟩:=h;exact⟨v,σ',H',I.unwish,r,q⟩
theorem PSs.nox {st:List Stmt} {t:TS} (h:PSs X.nox st t):PSs X st t:=fun pins s σ H D I hw =>
 wpAny_mono (h pins s σ H D (I.wish _) hw) (fun _ _ q=>q.unwish) fun _ _ z=>False.elim z
end
section
variable {X:Cx} {st:Stmt} {rest:List Stmt} {t u:TS} {e:Expr} {te:TE} {pos:Pos}
noncomputable def tNext:TS:=fun D σ H=>D.nx σ H
noncomputable def tSeq (t u:TS):TS:=fun D σ H=>t { D with nx:=u D } σ H
theorem pss_nil:PSs X [] tNext:=fun _ _ σ H _ I h=>wpAny_execs_nil ⟨σ,H,I,h⟩
theorem pss_cons (h1:PS X st t) (h2:PSs X rest u):PSs X (st :: rest) (tSeq t u):=by
 intro pins s σ H D I h
 refine wpAny_execs_cons (thn (h1 pins s σ H { D with nx:=u D } I h) fun f s1 q=>?_)
 cases f with
 | next =>
  obtain⟨σ',H',I',q⟩:=q
  exact h2 pins s1 σ' H' D I' q
 | ret v=>exact q
 | brk=>exact q
 | cont=>exact q
theorem pss_one (h1:PS X st t):PSs X [st] t:=by
 intro pins s σ H D I h
 refine wpAny_execs_cons (thn (h1 pins s σ H D I h) fun f s1 q=>?_)
 cases f with
 | next=>exact wpAny_execs_nil q
 | ret v=>exact q
 | brk=>exact q
 | cont=>exact q
theorem Inv.quiet {pins:List (Addr×Obj)} {σ:St} {H:Hp} {s:Shared} (I:Inv X pins σ H s):interactive X.env=false:=by simp[interactive,I.ok.kind]
noncomputable def tDrop (te:TE):TS:=fun D σ H=>te σ H fun _ H1=>D.nx σ H1
theorem ps_expr (he:PE X e te) (hs:swapsWith e none pos.line X.env=pure false:=by rfl):PS X (.Expr e pos) (tDrop te):=by
 intro pins s σ H D I h
 exact wpAny_Expr_any (thn (he pins s σ H _ I h) fun v s1 ⟨x,H1,I1,r1,q1⟩=>⟨σ,H1,I1,q1⟩) I.quiet hs
noncomputable def tRet (te:TE):TS:=fun D σ H=>te σ H D.rt
theorem ps_ret (he:PE X e te):PS X (.Return (some e) pos) (tRet te):=by
 intro pins s σ H D I h
 exact wpAny_Return_some (thn (he pins s σ H _ I h) fun v s1 ⟨x,H1,I1,r1,q1⟩=>⟨x,σ,H1,I1,r1,q1⟩)
noncomputable def tIfS (c:TT) (t u:TS):TS:=fun D σ H=>c σ H fun b H1=>if b=true then t D σ H1 else u D σ H1
theorem ps_if {c:Expr} {a b:List Stmt} {tc:TT} (hc:PT X c tc) (ha:PSs X a t) (hb:PSs X b u):PS X (.If c a b pos) (tIfS tc t u):=by
 intro pins s σ H D I h
 refine wpAny_If (thn (hc pins s σ H _ I h) fun d s1 ⟨H1,I1,q1⟩=>?_)
 cases d with
 | true=>exact ha pins s1 σ H1 D I1 q1
 | false=>exact hb pins s1 σ H1 D I1 q1
noncomputable def tNever:TS:=fun _ _ _=>False
theorem ps_never:PS X st tNever:=fun _ _ _ _ _ _ h=>h.elim
end
noncomputable abbrev TG:=V→St→Hp→(St→Hp→Prop)→Prop
noncomputable abbrev TGs:=List V→St→Hp→(St→Hp→Prop)→Prop
noncomputable def PG (X:Cx) (target:Expr) (t:TG):Prop :=
 ∀ (pins:List (Addr×Obj)) (s:Shared) (σ:St) (H:Hp) (v:V) (u:Value) (Q:St→Hp→Prop),Inv X pins σ H s→RelV v u→t v σ H Q →
  wpAny (model X.prog X.w) X.A (assign target X.env u) (fun _ s'=>∃ σ' H',Inv X pins σ' H' s'∧Q σ' H') X.xe s
noncomputable def PGs (X:Cx) (ts:List Expr) (t:TGs):Prop :=
 ∀ (pins:List (Addr×Obj)) (s:Shared) (σ:St) (H:Hp) (vs:List V) (us:List Value) (Q:St→Hp→Prop),Inv X pins σ H s→Vals vs us→t vs σ H Q →
  wpAny (model X.prog X.w) X.A (assignInOrder ((assignEach ts X.env).map (·.2)) us) (fun _ s'=>∃ σ' H',Inv X pins σ' H' s'∧Q σ' H') X.xe s
noncomputable abbrev TSet:=V→V→V→Hp→(Hp→Prop)→Prop
noncomputable def PSet (X:Cx) (t:TSet):Prop :=
 ∀ (pins:List (Addr×Obj)) (s:Shared) (σ:St) (H:Hp) (o i v:V) (ov iv u:Value) (Q:Hp→Prop),Inv X pins σ H s→RelV o ov→RelV i iv→RelV v u→t o i v H Q →
  wpAny (model X.prog X.w) X.A (setItem ov iv u) (fun _ s'=>∃ H',Inv X pins σ H' s'∧Q H') X.xe s
noncomputable abbrev TIp:=V→V→Hp→VK→Prop
noncomputable def PIp (X:Cx) (op:Operator) (t:TIp):Prop :=
 ∀ (pins:List (Addr×Obj)) (s:Shared) (σ:St) (H:Hp) (x y:V) (v u:Value) (Q:VK),Inv X pins σ H s→RelV x v→RelV y u→t x y H Q →
  wpAny (model X.prog X.w) X.A (inplaceOp op v u) (EP X pins σ Q) X.xe s
section
variable {X:Cx} {pos:Pos}
noncomputable def gName (i:Nat):TG:=fun v σ H Q=>Q (σ.set i (some v)) H
theorem pg_name {i:Nat} {x:Str} (hN:X.N.Nodup) (hi:X.N[i]?=some x) (hx:Loc X.env.scope x) (hf:X.fn x=true∨X.env.scope.names.lookup x=some .local:=by first | exact .inl rfl | exact .inr rfl | assumption):PG X (.Name x pos) (gName i):=by
 intro pins s σ H v u Q I r h
 exact wpAny_assign_Name (store_ok I hN hi hx r (fun s' I'=>⟨_,H,I',h⟩) hf)
noncomputable def gNil:TGs:=fun vs σ H Q=>vs=[]∧Q σ H
noncomputable def gCons (t:TG) (u:TGs):TGs:=fun vs σ H Q=>∃ v r,vs=v :: r∧t v σ H fun σ' H'=>u r σ' H' Q
theorem pgs_nil:PGs X [] gNil:=by
 intro pins s σ H vs us Q I r h
 obtain⟨e,h⟩:=h
 subst e
 cases r
 exact assignInOrder_nil ⟨σ,H,I,h⟩
theorem pgs_cons {e:Expr} {es:List Expr} {t:TG} {u:TGs} (h1:PG X e t) (h2:PGs X es u)
 (hs:(assignEach (e :: es) X.env).map (·.2)=assign e X.env :: (assignEach es X.env).map (·.2):=by rfl):PGs X (e :: es) (gCons t u):=by
 intro pins s σ H vs us Q I r h
 obtain⟨v,vr,e1,h⟩:=h
 subst e1
 cases r with
 | cons r rr =>
  rw[hs]
  refine assignInOrder_cons (thn (h1 pins s σ H _ _ _ I r h) fun _ s1 ⟨σ1,H1,I1,q1⟩=>?_)
  exact h2 pins s1 σ1 H1 _ _ Q I1 rr q1
noncomputable def gTup (K:PySem.W.Frag) (n:Nat) (t:TGs):TG:=fun v σ H Q=>∃ a xs,v=.ref a∧SqT K H a xs∧xs.length=n∧t xs σ H Q
theorem pg_tup {es:List Expr} {k:Nat} {t:TGs} {n:Nat} (hc:X.calm=true) (h:PGs X es t)
 (hn:(assignEach es X.env).length=n:=by rfl) (hst:(assignEach es X.env).findIdx? (·.1)=none:=by rfl):PG X (.Tuple es k pos) (gTup X.K n t):=by
 intro pins s σ H v u Q I r hw
 obtain⟨a,xs,e1,hq,hl,hw⟩:=hw
 subst e1
 cases r
 obtain⟨its,rv,ht,hz⟩:=I.tuple hq
 refine assign_Tuple_tuple (I.ok.hd hc) ht (by simp[hn,← hl,rv.length]) hst fun h' hx=>?_
 have I1:Inv X pins σ H { s with heap:=h' }:=I.kept (t':=s.toks) fun b o e=>hx b o (Nat.ne_of_lt (Heap.lt_size e)) e
 exact h pins _ σ H xs _ Q I1 (by simpa using rv) hw
noncomputable def gSub (to ti:TE) (t:TSet):TG:=fun v σ H Q=>to σ H fun o H1=>ti σ H1 fun i H2=>t o i v H2 fun H3=>Q σ H3
theorem pg_sub {o i:Expr} {to ti:TE} {t:TSet} (ho:PE X o to) (hi:PE X i ti) (hs:PSet X t)
 (ha:∀ v,assign (.Subscript o i pos) X.env v=(do
  let ov ← holding [v] (eval o X.env)
  let iv ← holding [v,ov] (eval i X.env)
  standAt pos
  holding [v,ov,iv] (setItem ov iv v)
  release [v,ov,iv] []):=by intro _;rfl):PG X (.Subscript o i pos) (gSub to ti t):=by
 intro pins s σ H v u Q I r h
 rw[ha]
 refine wpAny_bind (wpAny_holding (thn (ho pins s σ H _ I h) fun ov s1 ⟨x,H1,I1,r1,q1⟩=>?_))
 refine wpAny_bind (wpAny_holding (thn (hi pins s1 σ H1 _ I1 q1) fun iv s2 ⟨y,H2,I2,r2,q2⟩=>?_))
 refine wpAny_bind (wpAny_standAt (wpAny_bind (wpAny_holding (thn (hs pins s2 σ H2 x y v ov iv u _ I2 r1 r2 r q2) fun _ s3 ⟨H3,I3,q3⟩=>?_))))
 exact wpAny_release ⟨σ,H3,I3,q3⟩
noncomputable def tAsg (te:TE) (g:TG):TS:=fun D σ H=>te σ H fun x H1=>g x σ H1 D.nx
theorem ps_asg {tg e:Expr} {te:TE} {g:TG} (he:PE X e te) (hg:PG X tg g) (hs:swapsWithSole [tg] e pos.line X.env=pure false:=by rfl) (hw:swappedStores [tg] e X.env=pure none:=by rfl)
 (h1:(assignEach [tg] X.env).map (·.2)=[assign tg X.env]:=by rfl):PS X (.Assign [tg] e pos) (tAsg te g):=by
 intro pins s σ H D I h
 refine wpAny_Assign_stores (thn (he pins s σ H _ I h) fun v s1 ⟨x,H1,I1,r1,q1⟩=>?_) hs hw
 rw[h1]
 exact thn (hg pins s1 σ H1 x v _ I1 r1 q1) fun _ s2 q=>q
theorem ps_set {i:Nat} {x:Str} {e:Expr} {te:TE} {pos':Pos} (hN:X.N.Nodup) (hi:X.N[i]?=some x) (hx:Loc X.env.scope x) (he:PE X e te) (hs:swapsWith e (some (.Name x pos')) pos.line X.env=pure false:=by rfl) (hf:X.fn x=true∨X.env.scope.names.lookup x=some .local:=by first | exact .inl rfl | exact .inr rfl | assumption) :
 PS X (.Assign [.Name x pos'] e pos) (tAsg te (gName i)):=by
 intro pins s σ H D I h
 refine wpAny_Assign_Name (thn (he pins s σ H _ I h) fun v s1 ⟨y,H1,I1,r1,q1⟩=>?_) hs
 exact store_ok I1 hN hi hx r1 (fun s2 I2=>⟨_,H1,I2,q1⟩) hf
noncomputable def tAug (i:Nat) (te:TE) (ti:TIp):TS:=fun D σ H=>∃ x,σ[i]?=some (some x)∧te σ H fun y H1=>ti x y H1 fun z H2=>D.nx (σ.set i (some z)) H2
theorem ps_aug {i:Nat} {x:Str} {e:Expr} {te:TE} {op:Operator} {ti:TIp} {pos':Pos} (hN:X.N.Nodup) (hi:X.N[i]?=some x) (hx:Loc X.env.scope x) (he:PE X e te) (ho:PIp X op ti) (hf:X.fn x=true∨X.env.scope.names.lookup x=some .local:=by first | exact .inl rfl | exact .inr rfl | assumption) :
 PS X (.AugAssign (.Name x pos') op e pos) (tAug i te ti):=by
 intro pins s σ H D I h
 obtain⟨v,e1,h⟩:=h
 obtain⟨m,hn,hl⟩:=I.loc
 have vis:Vis X.env.scope x:=by rcases hx with k | k;exact .inl k;exact .inr (.inl k)
 obtain⟨u,r,l⟩:=hl i x v hi e1 vis
 refine wpAny_AugAssign_Name ?_
 have go:wpAny (model X.prog X.w) X.A (eval e X.env) (fun w s₂=>wpAny (model X.prog X.w) X.A (inplaceOp op u w) (fun r s₃=>wpAny (model X.prog X.w) X.A (storeName X.env x r) (fun _=>SP X pins D .next) X.xe s₃) X.xe s₂) X.xe s:=by
  refine thn (he pins s σ H _ I h) fun w s1 ⟨y,H1,I1,r1,q1⟩=>?_
  refine thn (ho pins s1 σ H1 v y u w _ I1 r r1 q1) fun z s2 ⟨zv,H2,I2,r2,q2⟩=>?_
  exact store_ok I2 hN hi hx r2 (fun s3 I3=>⟨_,H2,I3,q2⟩) hf
 rcases l with ⟨hk,hm⟩ | ⟨hk,c,hc,hcell⟩
 ·exact wpAny_loadName_local I.ok.kind hk hn hm go
 ·rcases hk with hk | hk
  ·exact wpAny_loadName_cell I.ok.kind hk hc hcell go
  ·rcases hx with k | k
   ·have:X.env.scope.names.lookup x=some .free:=hk
    rw[k]at this;cases this
   ·have:X.env.scope.names.lookup x=some .free:=hk
    rw[k]at this;cases this
noncomputable def ipI (f:Int→Int→Int):TIp:=fun x y H Q=>∃ i j,x=.int i∧y=.int j∧Q (.int (f i j)) H
theorem ip_add:PIp X .Add (ipI fun i j=>i+j):=by
 intro pins s σ H x y v u Q I r1 r2 h
 obtain⟨i,j,e1,e2,q⟩:=h
 subst e1;subst e2
 obtain⟨t,rfl⟩:=r1
 obtain⟨t',rfl⟩:=r2
 exact iadd_int ⟨.int _,H,I.tok _,⟨_,rfl⟩,q⟩
theorem ip_sub:PIp X .Sub (ipI fun i j=>i - j):=by
 intro pins s σ H x y v u Q I r1 r2 h
 obtain⟨i,j,e1,e2,q⟩:=h
 subst e1;subst e2
 obtain⟨t,rfl⟩:=r1
 obtain⟨t',rfl⟩:=r2
 exact isub_int ⟨.int _,H,I.tok _,⟨_,rfl⟩,q⟩
end
section
variable {X:Cx} {pos:Pos}
noncomputable def tWhile (c:TT) (tb:TS):TS:=fun D σ H=>∃ W:Nat→St→Hp→Prop,(∃ m,W m σ H)∧∀ m σ H,W m σ H →
 c σ H fun b H1=>if b=true then ∃ N:St→Hp→Prop,(∀ σ' H',N σ' H'→∃ m',m'<m∧W m' σ' H')∧tb { D with nx:=N,ct:=N,bk:=D.nx } σ H1 else D.nx σ H1
theorem ps_while {c:Expr} {body:List Stmt} {tc:TT} {tb:TS} (hp:PassesOwn (model X.prog X.w) X.A X.env X.xe) (hc:PT X c tc) (hb:PSs X body tb):PS X (.While c body [] pos) (tWhile tc tb):=by
 intro pins s σ H D I h
 obtain⟨W,⟨m0,w0⟩,turn⟩:=h
 refine wpAny_While (codeAny_whileLoop (fun n s'=>∃ σ' H',Inv X pins σ' H' s'∧W n σ' H') ?_ m0 ⟨σ,H,I,w0⟩)
 rintro n s1 ⟨σ1,H1,I1,w1⟩
 refine wpAny_passesOwn hp (thn (hc pins s1 σ1 H1 _ I1 (turn n σ1 H1 w1)) fun b s2 ⟨H2,I2,q2⟩=>?_)
 cases b with
 | true =>
  obtain⟨N,hN,q2⟩:=q2
  rw[if_pos rfl]
  refine wpAny_passesOwn hp (thn (hb pins s2 σ1 H2 _ I2 q2) fun f s3 q3=>?_)
  cases f with
  | next =>
   obtain⟨σ3,H3,I3,n3⟩:=q3
   obtain⟨m',hm,w3⟩:=hN σ3 H3 n3
   exact⟨m',hm,σ3,H3,I3,w3⟩
  | cont =>
   obtain⟨σ3,H3,I3,n3⟩:=q3
   obtain⟨m',hm,w3⟩:=hN σ3 H3 n3
   exact⟨m',hm,σ3,H3,I3,w3⟩
  | brk=>exact q3
  | ret v=>exact q3
 | false =>
  rw[if_neg Bool.false_ne_true]
  exact wpAny_execs_nil ⟨σ1,H2,I2,q2⟩
end
structure It where
 go:Nat→Hp→Prop
 yld:Nat→Hp→V→Hp→Prop
 stop:Nat→Hp→Prop
noncomputable def FpOk (X:Cx) (pins:List (Addr×Obj)) (H:Hp) (b:Addr):Prop :=
 H b=none∧b≠X.env.locals∧b∉X.fs∧(b∈X.ex∨X.s₀.heap.objs.size≤b)∧(∀ x c,X.env.cells.lookup x=some c→c≠b)∧∀ p∈X.pn++pins,p.1≠b
theorem Inv.fpOk {X:Cx} {pins:List (Addr×Obj)} {σ:St} {H H':Hp} {s:Shared} {b:Addr} (I:Inv X pins σ H s) (hb:s.heap.objs.size≤b) (hn:H' b=none):FpOk X pins H' b:=by
 refine⟨hn,Nat.ne_of_gt (Nat.lt_of_lt_of_le I.lt hb),I.nofs hb,.inr (Nat.le_trans I.sz hb),fun x c e z=>?_,fun p hp z=>?_⟩
 ·obtain⟨v,q⟩:=I.cell x c e
  exact absurd (Nat.lt_of_lt_of_le q.lt (by rw[z];exact hb)) (Nat.lt_irrefl _)
 ·exact absurd (Nat.lt_of_lt_of_le (Heap.lt_size (I.pin p hp).1) (by rw[z];exact hb)) (Nat.lt_irrefl _)
structure Turn (P:Program) (w:World) (K:PySem.W.Frag) (tg:Expr) (J:It) (fp:List Addr) (it:Addr) (tn:Nat→Heap→Prop):Prop where
 mem:it∈fp
 obj:∀ i h,tn i h→∀ b∈fp,∃ o,h.get? b=some o∧∀ v,o.data≠.cell v
 keep:∀ i h h',tn i h→(∀ b∈fp,∀ o,h.get? b=some o→h'.get? b=some o)→tn i h'
 item:∀ (X:Cx),X.prog=P→X.w=w→X.K=K→X.calm=true→∀ (i:Nat) (pins:List (Addr×Obj)) (s:Shared) (σ:St) (H:Hp) (E:Value→Shared→Prop),Inv X pins σ H s→(∀ b∈fp,FpOk X pins H b)→tn i s.heap→J.go i H →
  wpAny (model P w) X.A (pyNext (.ref it)) (fun r s1=>∃ u,r=some u ∧
   wpAny (model P w) X.A (letOwnedTupleGo tg (.ref it) u) (fun _ s2=>∃ x H',Inv X pins σ H' s2∧RelV x u∧J.yld i H x H'∧tn (i+1) s2.heap∧∀ b∈fp,H' b=none) E s1) E s
 done:∀ (X:Cx),X.prog=P→X.w=w→X.K=K→X.calm=true→∀ (i:Nat) (pins:List (Addr×Obj)) (s:Shared) (σ:St) (H:Hp) (E:Value→Shared→Prop),Inv X pins σ H s→(∀ b∈fp,FpOk X pins H b)→tn i s.heap→J.stop i H →
  wpAny (model P w) X.A (pyNext (.ref it)) (fun r s1=>r=none∧Inv X pins σ H s1) E s
 self:∀ (A:Around) (i:Nat) (s:Shared) (Q:Value→Shared→Prop) (E:Value→Shared→Prop),tn i s.heap→Q (.ref it) s→wpAny (model P w) A (pyIter (.ref it)) Q E s
noncomputable abbrev TI:=St→Hp→(It→Hp→Prop)→Prop
noncomputable def PIE (X:Cx) (pins:List (Addr×Obj)) (σ:St) (tg:Expr) (R:It→Hp→Prop) (itv:Value) (s2:Shared):Prop :=
 ∃ (it:Addr) (fp:List Addr) (tn:Nat→Heap→Prop) (J:It) (H':Hp),itv=.ref it∧Inv X pins σ H' s2∧Turn X.prog X.w X.K tg J fp it tn∧tn 0 s2.heap∧(∀ b∈fp,FpOk X pins H' b)∧R J H'
noncomputable def PI (X:Cx) (tg iter:Expr) (wi:TI):Prop :=
 ∀ (pins:List (Addr×Obj)) (s:Shared) (σ:St) (H:Hp) (R:It→Hp→Prop),Inv X pins σ H s→wi σ H R →
  wpAny (model X.prog X.w) X.A (eval iter X.env) (fun v s1=>wpAny (model X.prog X.w) X.A (pyIter v) (PIE X pins σ tg R) X.xe s1) X.xe s
theorem go_of {M:Model} {A:Around} {E:Value→Shared→Prop} {s:Shared} {tg:Expr} {it:Addr} {u:Value} {o:Obj} {n:String} {vs:Array Value} {Q:Unit→Shared→Prop} (ho:s.heap.get? it=some o) (hc:o.cls=.type n) (hd:o.data=.fields vs)
 (hn:["enumerate","zip","dict_itemiterator","dict_reverseitemiterator","odict_iterator","itertools.zip_longest","itertools.pairwise"].contains n=false) (hQ:Q () s):wpAny M A (letOwnedTupleGo tg (.ref it) u) Q E s:=by
 unfold letOwnedTupleGo
 cases tg <;> first
  | exact wpAny_pure hQ
  | (cases u <;> first
   | exact wpAny_pure hQ
   | (refine wpAny_bind (wpAny_load ho ?_)
      rw[hc,hd]
      show wpAny M A (if (["enumerate","zip","dict_itemiterator","dict_reverseitemiterator","odict_iterator","itertools.zip_longest","itertools.pairwise"].contains n && vs[0]? == some (rawInt _))=true then _ else _) Q E s
      rw[if_neg (by intro h;rw[hn,Bool.false_and]at h;cases h)]
      exact wpAny_pure hQ))
noncomputable def Itl (K:PySem.W.Frag) (a:Addr):It :=
 ⟨fun i H=>∃ xs x,SqL K H a xs∧xs[i]?=some x,fun i H x H'=>H'=H∧∀ xs,SqL K H a xs→xs[i]?=some x,fun i H=>∃ xs,SqL K H a xs∧xs.length≤i⟩
noncomputable def Itr (lo:Int) (n:Nat):It:=⟨fun i _=>i<n,fun i H x H'=>H'=H∧x=.int (lo+i),fun i _=>n≤i⟩
theorem turn_list {P:Program} {w:World} {K:PySem.W.Frag} {tg:Expr} (a it:Addr):Turn P w K tg (Itl K a) [it] it (fun i h=>h.IsListIter it a i) where
 mem:=by simp
 obj:=fun i h st b hb=>by
  have e:b=it:=by simpa using hb
  subst e
  obtain⟨o,e,c,d⟩:=st
  exact⟨o,e,fun v z=>by rw[d]at z;cases z⟩
 keep:=fun i h h' st k=>st.at fun o e=>k it (by simp) o e
 item:=by
  intro X hP hw hK hc i pins s σ H E I hf st hg
  subst hP hw hK
  obtain⟨xs,x,hq,hx⟩:=hg
  obtain⟨its,rv,p,hz⟩:=I.list hq
  obtain⟨u,hu,ru⟩:=rv.get hx
  obtain⟨f0,f1,f2,f3,f4,f5⟩:=hf it (by simp)
  refine wpAny_pyNext_list_item st p.isList (x:=u) (by simpa using hu) fun h' st' sb=>?_
  have I1:Inv X pins σ H { s with heap:=h' }:=I.turned (t':=s.toks) (fun b o hb e=>(sb.2 b hb).trans e) f0 f1 f3 f4 f5
  obtain⟨o,e,c,d⟩:=id st'
  exact⟨u,rfl,go_of (s:={ s with heap:=h' }) e c d (by decide) ⟨x,H,I1,ru,⟨rfl,fun ys hy=>by rw[I.list_inj hy hq];exact hx⟩,st',fun b hb=>(hf b hb).1⟩⟩
 done:=by
  intro X hP hw hK hc i pins s σ H E I hf st hg
  subst hP hw hK
  obtain⟨xs,hq,hx⟩:=hg
  obtain⟨its,rv,p,hz⟩:=I.list hq
  obtain⟨f0,f1,f2,f3,f4,f5⟩:=hf it (by simp)
  have hl:=rv.length
  exact wpAny_pyNext_list_end (I.ok.hd hc) st p.isList (by simp;omega) fun h' eb=>⟨rfl,I.turned (t':=s.toks) (fun b o hb e=>eb b o hb e) f0 f1 f3 f4 f5⟩
 self:=fun _ _ _ _ _ st h=>wpAny_pyIter_listiter st h
theorem turn_range {P:Program} {w:World} {K:PySem.W.Frag} {tg:Expr} (it:Addr) (lo:Int) (n:Nat):Turn P w K tg (Itr lo n) [it] it (fun i h=>IsRangeIter h it (lo+(i:Nat) * 1) ((n:Int) - (i:Nat)) 1) where
 mem:=by simp
 obj:=fun i h st b hb=>by
  have e:b=it:=by simpa using hb
  subst e
  exact⟨_,st,fun v z=>by
   have z':Data.fields _=Data.cell v:=z
   cases z'⟩
 keep:=fun i h h' st k=>k it (by simp) _ st
 item:=by
  intro X hP hw hK hc i pins s σ H E I hf st hg
  subst hP hw hK
  obtain⟨f0,f1,f2,f3,f4,f5⟩:=hf it (by simp)
  have W:=Walks.range (prog:=X.prog) (w:=X.w) (I.ok.hd hc) it lo 1 n
  refine W.item i s _ _ hg st fun v h' tk hv st' kk=>?_
  obtain⟨t,rfl⟩:=hv
  have I1:Inv X pins σ H { s with heap:=h',toks:=tk }:=I.turned (fun b o hb e=>kk b o (by simpa using hb) e) f0 f1 f3 f4 f5
  refine⟨_,rfl,go_of (s:={ s with heap:=h',toks:=tk }) (n:="range_iterator") st' rfl rfl (by decide) ⟨.int (lo+i),H,I1,⟨t,?_⟩,⟨rfl,rfl⟩,st',fun b hb=>(hf b hb).1⟩⟩
  rw[Int.mul_one]
 done:=by
  intro X hP hw hK hc i pins s σ H E I hf st hg
  subst hP hw hK
  obtain⟨f0,f1,f2,f3,f4,f5⟩:=hf it (by simp)
  exact wpAny_pyNext_range_end (I.ok.hd hc) st (by have:n≤i:=hg;omega) fun h' eb=>⟨rfl,I.turned (t':=s.toks) (fun b o hb e=>eb b o hb e) f0 f1 f3 f4 f5⟩
 self:=fun _ _ _ _ _ st h=>wpAny_pyIter_rangeiter st h
end L2
namespace L2
open PySem PySem.Spec PyProof.Rows
section
variable {X:Cx} {tg:Expr}
noncomputable def iList (K:PySem.W.Frag) (tl:TE):TI:=fun σ H R=>tl σ H fun x H1=>∃ a,x=.ref a∧(∃ xs,SqL K H1 a xs)∧R (Itl K a) H1
theorem pi_list {l:Expr} {tl:TE} (hl:PE X l tl):PI X tg l (iList X.K tl):=by
 intro pins s σ H R I h
 refine thn (hl pins s σ H _ I h) fun v s1 ⟨x,H1,I1,r1,q1⟩=>?_
 obtain⟨a,e,⟨xs,hq⟩,q⟩:=q1
 subst e
 cases r1
 obtain⟨its,rv,p,hz⟩:=I1.list hq
 refine wpAny_pyIter_list p.isList ?_
 refine⟨s1.heap.objs.size,[s1.heap.objs.size],_,_,H1,rfl,I1.kept (t':=s1.toks) fun b o e=>Heap.get?_push_of_some _ e,turn_list a _,⟨_,Heap.get?_push_size _ rfl,rfl,rfl⟩,fun b hb=>?_,q⟩
 have e:b=s1.heap.objs.size:=by simpa using hb
 subst e
 exact I1.fpOk (Nat.le_refl _) (I1.hok.fresh (Nat.le_refl _))
theorem range_it {pins:List (Addr×Obj)} {σ:St} {H:Hp} {s:Shared} {R:It→Hp→Prop} {E:Value→Shared→Prop} {lo hi:Int} {t u v:Tok} {tk:Nat} (I:Inv X pins σ H s) (h1:-(2 ^ 62)≤lo) (h2:lo<2 ^ 62) (h3:-(2 ^ 62)≤hi) (h4:hi<2 ^ 62)
 (q:R (Itr lo (hi - lo).toNat) H):wpAny (model X.prog X.w) X.A (pyIter (.ref s.heap.objs.size)) (PIE X pins σ tg R) E { s with heap:=s.heap.push { cls:=.type "range",data:=.fields #[.int lo t,.int hi u,.int 1 v] },toks:=tk }:=by
 refine wpAny_pyIter_range (IsRange.new ..) (small_one h1 h2 h3 h4) ?_
 have I1:Inv X pins σ H { s with heap:=s.heap.push { cls:=.type "range",data:=.fields #[.int lo t,.int hi u,.int 1 v] },toks:=tk }:=I.kept fun b o e=>Heap.get?_push_of_some _ e
 refine⟨(s.heap.push { cls:=.type "range",data:=.fields #[.int lo t,.int hi u,.int 1 v] }).objs.size,[(s.heap.push { cls:=.type "range",data:=.fields #[.int lo t,.int hi u,.int 1 v] }).objs.size],_,_,H,rfl,
  I1.kept (t':=tk) fun b o e=>Heap.get?_push_of_some _ e,turn_range _ lo (hi - lo).toNat,?_,fun b hb=>?_,q⟩
 ·have e1:lo+((0:Nat):Int) * 1=lo:=by simp
  have e2:(((hi - lo).toNat:Nat):Int) - ((0:Nat):Int)=Builtin.Range.rangeSize lo hi 1:=by rw[rangeSize_one];split <;> omega
  show IsRangeIter _ _ (lo+((0:Nat):Int) * 1) ((((hi - lo).toNat:Nat):Int) - ((0:Nat):Int)) 1
  rw[e1,e2]
  exact Heap.get?_push_size _ rfl
 ·have e:b=(s.heap.push { cls:=.type "range",data:=.fields #[.int lo t,.int hi u,.int 1 v] }).objs.size:=by simpa using hb
  subst e
  exact I1.fpOk (Nat.le_refl _) (I1.hok.fresh (Nat.le_refl _))
noncomputable def iRng1 (ta:TA):TI:=fun σ H R=>ta σ H fun vs H1=>∃ j:Int,vs=[.int j]∧-(2 ^ 62)≤j∧j<2 ^ 62∧R (Itr 0 j.toNat) H1
noncomputable def iRng2 (ta:TA):TI:=fun σ H R=>ta σ H fun vs H1=>∃ i j:Int,vs=[.int i,.int j]∧(-(2 ^ 62)≤i∧i<2 ^ 62∧-(2 ^ 62)≤j∧j<2 ^ 62)∧R (Itr i (j - i).toNat) H1
theorem pi_range1 {a:Expr} {ta:TA} {p pos:Pos} (hg:Gl X "range") (hm:X.mg "range"=none) (ha:PA X [a] ta) (hs:starEach [a] X.env=[(false,eval a X.env)]:=by rfl):PI X tg (.Call (.Name "range" p) [a] [] pos) (iRng1 ta):=by
 intro pins s σ H R I h
 refine Call_ (ld_blt I hg hm boot_range (PyProof.Rows.callWith_type1 (thn (ha pos pins s σ H _ I h) fun us s1 ⟨vs,H1,I1,r1,q1⟩=>?_) hs rfl))
 obtain⟨j,e,q1,q2,q⟩:=q1
 subst e
 cases r1 with
 | cons r rr =>
  cases rr
  obtain⟨t,rfl⟩:=r
  exact call_range_1 (range_it I1 (by omega) (by omega) q1 q2 (by simpa using q))
theorem pi_range2 {a b:Expr} {ta:TA} {p pos:Pos} (hg:Gl X "range") (hm:X.mg "range"=none) (ha:PA X [a,b] ta) (hs:starEach [a,b] X.env=[(false,eval a X.env),(false,eval b X.env)]:=by rfl) (hs2:starEach [b] X.env=[(false,eval b X.env)]:=by rfl) :
 PI X tg (.Call (.Name "range" p) [a,b] [] pos) (iRng2 ta):=by
 intro pins s σ H R I h
 refine Call_ (ld_blt I hg hm boot_range (PyProof.Rows.callWith_type1 (thn (ha pos pins s σ H _ I h) fun us s1 ⟨vs,H1,I1,r1,q1⟩=>?_) (by rw[hs,hs2]) (by rw[hs2];rfl)))
 obtain⟨i,j,e,⟨q1,q2,q3,q4⟩,q⟩:=q1
 subst e
 cases r1 with
 | cons r rr =>
  cases rr with
  | cons r' rr =>
   cases rr
   obtain⟨t,rfl⟩:=r
   obtain⟨t',rfl⟩:=r'
   exact call_range_2 (range_it I1 q1 q2 q3 q4 q)
noncomputable def tFor (wi:TI) (g:TG) (tb:TS):TS:=fun D σ H=>wi σ H fun J H1=>∃ W:Nat→Nat→St→Hp→Prop,(∃ m,W 0 m σ H1)∧∀ i m σ H,W i m σ H →
 (J.stop i H∧D.nx σ H)∨(J.go i H∧∃ N:St→Hp→Prop,(∀ σ' H',N σ' H'→∃ m',m'<m∧W (i+1) m' σ' H')∧∀ x H',J.yld i H x H'→g x σ H' fun σ2 H2=>tb { D with nx:=N,ct:=N,bk:=D.nx } σ2 H2)
noncomputable def pinsAt (fp:List Addr) (h:Heap):List (Addr×Obj):=fp.filterMap fun b=>(h.get? b).map fun o=>(b,o)
theorem mem_pinsAt {fp:List Addr} {h:Heap} {b:Addr} {o:Obj} (hb:b∈fp) (e:h.get? b=some o):(b,o)∈pinsAt fp h:=List.mem_filterMap.mpr ⟨b,hb,by rw[e];rfl⟩
theorem of_pinsAt {fp:List Addr} {h:Heap} {p:Addr×Obj} (hp:p∈pinsAt fp h):p.1∈fp∧h.get? p.1=some p.2:=by
 obtain⟨b,hb,e⟩:=List.mem_filterMap.mp hp
 cases q:h.get? b with
 | none=>rw[q]at e;cases e
 | some o =>
  rw[q]at e
  have e':(b,o)=p:=Option.some.inj e
  subst e'
  exact⟨hb,q⟩
theorem Inv.pinned {pins:List (Addr×Obj)} {σ:St} {H:Hp} {s:Shared} {fp:List Addr} (I:Inv X pins σ H s) (hf:∀ b∈fp,FpOk X pins H b) (ho:∀ b∈fp,∃ o,s.heap.get? b=some o∧∀ v,o.data≠.cell v):Inv X (pins++pinsAt fp s.heap) σ H s :=
 I.pins_of fun p hp=>(List.mem_append.mp hp).elim (fun z=>I.pin p (List.mem_append_right _ z)) fun z=>by
  obtain⟨hb,e⟩:=of_pinsAt z
  obtain⟨f0,f1,f2,_⟩:=hf p.1 hb
  obtain⟨o,e',d⟩:=ho p.1 hb
  rw[e]at e';cases e'
  exact⟨e,f0,f1,f2,d⟩
theorem Inv.unpinned {pins pl:List (Addr×Obj)} {σ:St} {H:Hp} {s:Shared} (I:Inv X (pins++pl) σ H s):Inv X pins σ H s:=I.pins_of fun p hp=>I.pin p (List.mem_append_right _ (List.mem_append_left _ hp))
theorem ps_for {iter:Expr} {body:List Stmt} {wi:TI} {g:TG} {tb:TS} {pos:Pos} (hp:PassesOwn (model X.prog X.w) X.A X.env X.xe) (hc:X.calm=true) (hi:PI X tg iter wi) (hg:PG X tg g) (hb:PSs X body tb)
 (hs:∀ x,foldedSetIterable iter X.env x=pure x:=by intro _;rfl):PS X (.For tg iter body [] pos) (tFor wi g tb):=by
 intro pins s σ H D I h
 refine wpAny_For (thn (hi pins s σ H _ I h) fun v s1 h1=>thn h1 fun itv s2 h2=>?_) hs
 obtain⟨it,fp,tn,J,H2,e,I2,T,st2,f2,W,⟨m0,w0⟩,turn⟩:=h2
 subst e
 have stat:∀ {H':Hp},(∀ b∈fp,H' b=none)→∀ b∈fp,FpOk X pins H' b:=fun hn b hb=>⟨hn b hb,(f2 b hb).2⟩
 refine codeAny_forLoop_any (fun n s'=>∃ i σ' H',Inv X pins σ' H' s'∧tn i s'.heap∧(∀ b∈fp,H' b=none)∧W i n σ' H') ?_ m0 ⟨0,σ,H2,I2,st2,fun b hb=>(f2 b hb).1,w0⟩
 rintro n s3 ⟨i,σ3,H3,I3,st3,fr3,w3⟩
 rcases turn i n σ3 H3 w3 with ⟨stop,qn⟩ | ⟨go,N,hN,step⟩
 ·refine wpAny_passesOwn hp (thn (T.done X rfl rfl rfl hc i pins s3 σ3 H3 X.xe I3 (stat fr3) st3 stop) fun r s4 ⟨hr,I4⟩=>?_)
  subst hr
  exact wpAny_execs_nil ⟨σ3,H3,I4,qn⟩
 ·refine wpAny_passesOwn hp (thn (T.item X rfl rfl rfl hc i pins s3 σ3 H3 X.xe I3 (stat fr3) st3 go) fun r s4 ⟨u,hr,h4⟩=>?_)
  subst hr
  refine wpAny_passesOwn hp (thn h4 fun _ s5 ⟨x,H5,I5,r5,y5,st5,fr5⟩=>?_)
  have I5':=I5.pinned (stat fr5) (T.obj _ _ st5)
  refine wpAny_passesOwn hp (thn (hg _ s5 σ3 H5 x u _ I5' r5 (step x H5 y5)) fun _ s6 ⟨σ6,H6,I6,q6⟩=>?_)
  refine wpAny_passesOwn hp (thn (hb _ s6 σ6 H6 _ I6 q6) fun f s7 q7=>?_)
  have again:∀ {σ7:St} {H7:Hp},Inv X (pins++pinsAt fp s5.heap) σ7 H7 s7→N σ7 H7→∃ m,m<n∧∃ i σ' H',Inv X pins σ' H' s7∧tn i s7.heap∧(∀ b∈fp,H' b=none)∧W i m σ' H':=fun {σ7 H7} I7 n7=>by
   obtain⟨m',hm,w7⟩:=hN σ7 H7 n7
   refine⟨m',hm,i+1,σ7,H7,I7.unpinned,T.keep _ _ _ st5 fun b hb o e=>(I7.pin (b,o) (List.mem_append_right _ (List.mem_append_right _ (mem_pinsAt hb e)))).1,fun b hb=>?_,w7⟩
   obtain⟨o,e,d⟩:=T.obj _ _ st5 b hb
   exact(I7.pin (b,o) (List.mem_append_right _ (List.mem_append_right _ (mem_pinsAt hb e)))).2.1
  cases f with
  | next=>obtain⟨σ7,H7,I7,n7⟩:=q7;exact again I7 n7
  | cont=>obtain⟨σ7,H7,I7,n7⟩:=q7;exact again I7 n7
  | brk=>obtain⟨σ7,H7,I7,q7⟩:=q7;exact⟨σ7,H7,I7.unpinned,q7⟩
  | ret v=>obtain⟨x7,σ7,H7,I7,r7,q7⟩:=q7;exact⟨x7,σ7,H7,I7.unpinned,r7,q7⟩
end
theorem for_list {K:PySem.W.Frag} {a:Addr} {xs:List V} {g:TG} {tb:TS} {D:Ends} {σ:St} {H:Hp} (Pv:Nat→St→Hp→Prop) (h0:Pv 0 σ H) (hl:∀ i σ H,i≤xs.length→Pv i σ H→SqL K H a xs)
 (hs:∀ i x σ H,xs[i]?=some x→Pv i σ H→g x σ H fun σ2 H2=>tb { D with nx:=Pv (i+1),ct:=Pv (i+1),bk:=D.nx } σ2 H2) (hd:∀ σ H,Pv xs.length σ H→D.nx σ H) :
 ∃ W:Nat→Nat→St→Hp→Prop,(∃ m,W 0 m σ H)∧∀ i m σ H,W i m σ H →
  ((Itl K a).stop i H∧D.nx σ H)∨((Itl K a).go i H∧∃ N:St→Hp→Prop,(∀ σ' H',N σ' H'→∃ m',m'<m∧W (i+1) m' σ' H')∧∀ x H',(Itl K a).yld i H x H'→g x σ H' fun σ2 H2=>tb { D with nx:=N,ct:=N,bk:=D.nx } σ2 H2):=by
 refine⟨fun i m σ H=>m=xs.length - i∧i≤xs.length∧Pv i σ H,⟨xs.length,by simp,Nat.zero_le _,h0⟩,?_⟩
 rintro i m σ H ⟨rfl,hi,p⟩
 have q:=hl i σ H hi p
 by_cases hlt:i<xs.length
 ·refine .inr ⟨⟨xs,xs[i],q,by simp[hlt]⟩,Pv (i+1),fun σ' H' p'=>⟨xs.length - (i+1),by omega,rfl,hlt,p'⟩,fun x H' y=>?_⟩
  obtain⟨e,y⟩:=y
  subst e
  exact hs i x σ _ (y xs q) p
 ·have e:i=xs.length:=by omega
  subst e
  exact .inl ⟨⟨xs,q,Nat.le_refl _⟩,hd σ H p⟩
theorem for_range {lo:Int} {n:Nat} {g:TG} {tb:TS} {D:Ends} {σ:St} {H:Hp} (Pv:Nat→St→Hp→Prop) (h0:Pv 0 σ H)
 (hs:∀ i σ H,i<n→Pv i σ H→g (.int (lo+i)) σ H fun σ2 H2=>tb { D with nx:=Pv (i+1),ct:=Pv (i+1),bk:=D.nx } σ2 H2) (hd:∀ σ H,Pv n σ H→D.nx σ H) :
 ∃ W:Nat→Nat→St→Hp→Prop,(∃ m,W 0 m σ H)∧∀ i m σ H,W i m σ H →
  ((Itr lo n).stop i H∧D.nx σ H)∨((Itr lo n).go i H∧∃ N:St→Hp→Prop,(∀ σ' H',N σ' H'→∃ m',m'<m∧W (i+1) m' σ' H')∧∀ x H',(Itr lo n).yld i H x H'→g x σ H' fun σ2 H2=>tb { D with nx:=N,ct:=N,bk:=D.nx } σ2 H2):=by
 refine⟨fun i m σ H=>m=n - i∧i≤n∧Pv i σ H,⟨n,by simp,Nat.zero_le _,h0⟩,?_⟩
 rintro i m σ H ⟨rfl,hi,p⟩
 by_cases hlt:i<n
 ·refine .inr ⟨hlt,Pv (i+1),fun σ' H' p'=>⟨n - (i+1),by omega,rfl,hlt,p'⟩,fun x H' y=>?_⟩
  obtain⟨e,y⟩:=y
  subst e y
  exact hs i σ _ hlt p
 ·have e:i=n:=by omega
  subst e
  exact .inl ⟨Nat.le_refl _,hd σ H p⟩
theorem while_by {c:TT} {tb:TS} {D:Ends} {σ:St} {H:Hp} (Pv:St→Hp→Prop) (μ:St→Hp→Nat) (h0:Pv σ H)
 (hs:∀ σ H,Pv σ H→c σ H fun b H1=>if b=true then tb { D with nx:=fun σ' H'=>Pv σ' H'∧μ σ' H'<μ σ H,ct:=fun σ' H'=>Pv σ' H'∧μ σ' H'<μ σ H,bk:=D.nx } σ H1 else D.nx σ H1)
 (mono:∀ σ H Q Q',(∀ b H1,Q b H1→Q' b H1)→c σ H Q→c σ H Q'):tWhile c tb D σ H:=by
 refine⟨fun m σ H=>m=μ σ H∧Pv σ H,⟨_,rfl,h0⟩,?_⟩
 rintro m σ H ⟨rfl,p⟩
 refine mono σ H _ _ (fun b H1 q=>?_) (hs σ H p)
 cases b with
 | true=>exact⟨_,fun σ' H' ⟨p',l⟩=>⟨_,l,rfl,p'⟩,q⟩
 | false=>exact q
end L2
namespace L2
open PySem PySem.Spec PyProof.Rows
noncomputable abbrev R2:=V→V→Hp→VK→Prop
noncomputable def OpR (X:Cx) (f:Value→Value→Sem Value) (r:R2):Prop :=
 ∀ (pins:List (Addr×Obj)) (s:Shared) (σ:St) (H:Hp) (x y:V) (v u:Value) (Q:VK),Inv X pins σ H s→RelV x v→RelV y u→r x y H Q →
  wpAny (model X.prog X.w) X.A (f v u) (EP X pins σ Q) X.xe s
noncomputable def UnR (X:Cx) (f:Value→Sem Value) (r:V→Hp→VK→Prop):Prop :=
 ∀ (pins:List (Addr×Obj)) (s:Shared) (σ:St) (H:Hp) (x:V) (v:Value) (Q:VK),Inv X pins σ H s→RelV x v→r x H Q →
  wpAny (model X.prog X.w) X.A (f v) (EP X pins σ Q) X.xe s
noncomputable def CallR (X:Cx) (f:Value) (r:List V→Hp→VK→Prop):Prop :=
 ∀ (pins:List (Addr×Obj)) (s:Shared) (σ:St) (H:Hp) (xs:List V) (us:List Value) (Q:VK),Inv X pins σ H s→Vals xs us→r xs H Q →
  wpAny (model X.prog X.w) X.A (call f us) (EP X pins σ Q) X.xe s
noncomputable def TruR (X:Cx) (r:V→Hp→(Bool→Hp→Prop)→Prop):Prop :=
 ∀ (pins:List (Addr×Obj)) (s:Shared) (σ:St) (H:Hp) (x:V) (v:Value) (Q:Bool→Hp→Prop),Inv X pins σ H s→RelV x v→r x H Q →
  wpAny (model X.prog X.w) X.A (truthy v) (TP X pins σ Q) X.xe s
noncomputable def tOp (r:R2) (ta tb:TE):TE:=fun σ H Q=>ta σ H fun x H1=>tb σ H1 fun y H2=>r x y H2 Q
noncomputable def tUn (r:V→Hp→VK→Prop) (ta:TE):TE:=fun σ H Q=>ta σ H fun x H1=>r x H1 Q
noncomputable def rI (C:Int→Int→Prop) (g:Int→Int→V):R2:=fun x y H Q=>∃ i j,x=.int i∧y=.int j∧C i j∧Q (g i j) H
noncomputable def rI0 (g:Int→Int→V):R2:=fun x y H Q=>∃ i j,x=.int i∧y=.int j∧Q (g i j) H
noncomputable def rU (g:Int→V):V→Hp→VK→Prop:=fun x H Q=>∃ i,x=.int i∧Q (g i) H
section
variable {X:Cx} {a b c:Expr} {ta tb tc:TE} {pos:Pos}
theorem binT (ha:PE X a ta) (hb:PE X b tb) {pins:List (Addr×Obj)} {s:Shared} {σ:St} {H:Hp} {R:V→V→Hp→Prop} (I:Inv X pins σ H s)
 (h:ta σ H fun x H1=>tb σ H1 fun y H2=>R x y H2) {Q:Value→Shared→Prop} {f:Value→Value→Sem Value}
 (hf:∀ v u s2 x y H2,Inv X pins σ H2 s2→RelV x v→RelV y u→R x y H2→wpAny (model X.prog X.w) X.A (f v u) Q X.xe s2) :
 wpAny (model X.prog X.w) X.A (eval a X.env) (fun v s₁=>wpAny (model X.prog X.w) X.A (eval b X.env) (fun u s₂=>wpAny (model X.prog X.w) X.A (f v u) Q X.xe s₂) X.xe s₁) X.xe s:=by
 refine thn (ha pins s σ H _ I h) fun v s1 ⟨x,H1,I1,r1,q1⟩=>?_
 refine thn (hb pins s1 σ H1 _ I1 q1) fun u s2 ⟨y,H2,I2,r2,q2⟩=>?_
 exact hf v u s2 x y H2 I2 r1 r2 q2
theorem pe_op {op:Operator} {r:R2} (ho:OpR X (binaryOp op) r) (ha:PE X a ta) (hb:PE X b tb):PE X (.BinOp a op b pos) (tOp r ta tb):=by
 intro pins s σ H Q I h
 exact wpAny_BinOp (binT ha hb I h fun v u s2 x y H2 I2 rx ry q=>ho pins s2 σ H2 x y v u Q I2 rx ry q)
theorem pe_un {op:UnaryOp} {r:V→Hp→VK→Prop} (ho:UnR X (unaryOp op) r) (ha:PE X a ta):PE X (.UnaryOp op a pos) (tUn r ta):=by
 intro pins s σ H Q I h
 exact UnaryOp_ (thn (ha pins s σ H _ I h) fun v s1 ⟨x,H1,I1,r1,q1⟩=>ho pins s1 σ H1 x v Q I1 r1 q1)
theorem opI {f:Value→Value→Sem Value} {C:Int→Int→Prop} {g:Int→Int→Int}
 (rule:∀ (i j:Int) (t u:Tok) (s:Shared) (Q:Value→Shared→Prop) (E:Value→Shared→Prop),C i j→Q (.int (g i j) s.toks) { s with toks:=s.toks+1 }→wpAny (model X.prog X.w) X.A (f (.int i t) (.int j u)) Q E s) :
 OpR X f (rI C fun i j=>.int (g i j)):=by
 intro pins s σ H x y v u Q I rx ry h
 obtain⟨i,j,rfl,rfl,hc,q⟩:=h
 obtain⟨t,rfl⟩:=rx
 obtain⟨t',rfl⟩:=ry
 exact rule i j t t' s _ _ hc ⟨.int (g i j),H,I.tok _,⟨_,rfl⟩,q⟩
theorem opI0 {f:Value→Value→Sem Value} {g:Int→Int→Int}
 (rule:∀ (i j:Int) (t u:Tok) (s:Shared) (Q:Value→Shared→Prop) (E:Value→Shared→Prop),Q (.int (g i j) s.toks) { s with toks:=s.toks+1 }→wpAny (model X.prog X.w) X.A (f (.int i t) (.int j u)) Q E s) :
 OpR X f (rI0 fun i j=>.int (g i j)):=by
 intro pins s σ H x y v u Q I rx ry h
 obtain⟨i,j,rfl,rfl,q⟩:=h
 obtain⟨t,rfl⟩:=rx
 obtain⟨t',rfl⟩:=ry
 exact rule i j t t' s _ _ ⟨.int (g i j),H,I.tok _,⟨_,rfl⟩,q⟩
theorem opB0 {f:Value→Value→Sem Value} {g:Int→Int→Bool}
 (rule:∀ (i j:Int) (t u:Tok) (s:Shared) (Q:Value→Shared→Prop) (E:Value→Shared→Prop),Q (.bool (g i j)) s→wpAny (model X.prog X.w) X.A (f (.int i t) (.int j u)) Q E s) :
 OpR X f (rI0 fun i j=>.bl (g i j)):=by
 intro pins s σ H x y v u Q I rx ry h
 obtain⟨i,j,rfl,rfl,q⟩:=h
 obtain⟨t,rfl⟩:=rx
 obtain⟨t',rfl⟩:=ry
 exact rule i j t t' s _ _ ⟨.bl (g i j),H,I,rfl,q⟩
noncomputable def CDiv (i j:Int):Prop:=0<j∧j<1073741824
noncomputable def CPow (i j:Int):Prop:=0≤j∧j≤1000000∧i.natAbs<2 ^ 64
noncomputable def CMul (i j:Int):Prop:=(-(2 ^ 64)<i∧i<2 ^ 64)∨(-(2 ^ 64)<j∧j<2 ^ 64)
theorem CMul.ok {i j:Int} (h:CMul i j):IntMulOk i j:=by
 rcases h with ⟨h1,h2⟩ | ⟨h1,h2⟩
 ·exact .of_left (intBits_le_64 h1 h2)
 ·exact .of_right (intBits_le_64 h1 h2)
theorem op_add:OpR X (binaryOp .Add) (rI0 fun i j=>.int (i+j)):=opI0 fun _ _ _ _ _ _ _ q=>add_int q
theorem op_sub:OpR X (binaryOp .Sub) (rI0 fun i j=>.int (i - j)):=opI0 fun _ _ _ _ _ _ _ q=>sub_int q
theorem op_mul:OpR X (binaryOp .Mult) (rI CMul fun i j=>.int (i * j)):=opI fun _ _ _ _ _ _ _ hc q=>mul_int q hc.ok
theorem op_fdiv:OpR X (binaryOp .FloorDiv) (rI CDiv fun i j=>.int (i / j)):=opI fun i j _ _ _ _ _ hc q=>by
 have h1:(0:Int)<j:=hc.1
 have h2:j<1073741824:=hc.2
 exact floordiv_int (by omega) (by rw[Int.fdiv_eq_ediv_of_nonneg i (by omega)];exact q) (.inl (PyProof.noPylong_small (by omega)))
theorem op_mod:OpR X (binaryOp .Mod) (rI (fun _ j=>0<j) fun i j=>.int (i % j)):=opI fun i j _ _ _ _ _ hc q=>by
 have h1:(0:Int)<j:=hc
 exact mod_int' (by omega) (by rw[Int.fmod_eq_emod_of_nonneg i (by omega)];exact q)
theorem op_pow:OpR X (binaryOp .Pow) (rI CPow fun i j=>.int (i ^ j.toNat)):=opI fun _ _ _ _ _ _ _ hc q=>pow_int_small hc.1 hc.2.1 hc.2.2 q
theorem unI {f:Value→Sem Value} {g:Int→Int}
 (rule:∀ (i:Int) (t:Tok) (s:Shared) (Q:Value→Shared→Prop) (E:Value→Shared→Prop),Q (.int (g i) s.toks) { s with toks:=s.toks+1 }→wpAny (model X.prog X.w) X.A (f (.int i t)) Q E s) :
 UnR X f (rU fun i=>.int (g i)):=by
 intro pins s σ H x v Q I rx h
 obtain⟨i,rfl,q⟩:=h
 obtain⟨t,rfl⟩:=rx
 exact rule i t s _ _ ⟨.int (g i),H,I.tok _,⟨_,rfl⟩,q⟩
theorem un_neg:UnR X (unaryOp .USub) (rU fun i=>.int (-i)):=unI fun _ _ _ _ _ q=>neg_int q
end
noncomputable def scal:V→V→Bool
 | .non,.non=>true | .non,.int _=>true | .int _,.non=>true | .non,.bl _=>true | .bl _,.non=>true | .non,.str _=>true | .str _,.non=>true
 | .int _,.int _=>true | .bl _,.bl _=>true | .str _,.str _=>true | .byt _,.byt _=>true
 | .int _,.str _=>true | .str _,.int _=>true | .bl _,.str _=>true | .str _,.bl _=>true
 | _,_=>false
noncomputable def rEq:R2:=fun x y H Q=>scal x y=true∧Q (.bl (decide (x=y))) H
noncomputable def rNe:R2:=fun x y H Q=>scal x y=true∧Q (.bl (!decide (x=y))) H
theorem dec_int {i j:Int}:decide (V.int i=V.int j)=(i == j):=by
 rw[Bool.eq_iff_iff]
 simp
theorem dec_bl {i j:Bool}:decide (V.bl i=V.bl j)=(i == j):=by
 rw[Bool.eq_iff_iff]
 simp
theorem dec_str {i j:Str}:decide (V.str i=V.str j)=(i == j):=by
 rw[Bool.eq_iff_iff]
 simp
theorem dec_byt {i j:Array UInt8}:decide (V.byt i=V.byt j)=(i.toList == j.toList):=by
 rw[Bool.eq_iff_iff]
 cases i
 cases j
 simp
section
variable {X:Cx} {a b c:Expr} {ta tb tc:TE} {pos:Pos}
theorem fin_bl {pins:List (Addr×Obj)} {σ:St} {H:Hp} {s:Shared} {Q:VK} {k k':Bool} (I:Inv X pins σ H s) (q:Q (.bl k) H) (e:k=k'):EP X pins σ Q (.bool k') s:=by
 subst e
 exact⟨.bl k,H,I,rfl,q⟩
theorem op_eq:OpR X (compareOp .Eq) rEq:=by
 intro pins s σ H x y v u Q I rx ry h
 obtain⟨hs,q⟩:=h
 cases x with
 | non =>
  cases rx
  cases y with
  | non=>cases ry;exact PySem.EqNone.eq_none_none (fin_bl I q (by simp))
  | bl j=>cases ry;exact PySem.EqNone.eq_none_bool (fin_bl I q (by simp))
  | int j=>obtain⟨t',rfl⟩:=ry;exact PySem.EqNone.eq_none_int (fin_bl I q (by simp))
  | str j=>obtain⟨t',rfl⟩:=ry;exact PySem.EqNone.eq_none_str (fin_bl I q (by simp))
  | _=>exact absurd (show false=true from hs) Bool.false_ne_true
 | bl i =>
  cases rx
  cases y with
  | non=>cases ry;exact PySem.EqNone.eq_bool_none (fin_bl I q (by simp))
  | bl j=>cases ry;exact eq_bool (fin_bl I q dec_bl)
  | str j=>obtain⟨t',rfl⟩:=ry;exact PySem.EqMixed.eq_bool_str (fin_bl I q (by simp))
  | _=>exact absurd (show false=true from hs) Bool.false_ne_true
 | int i =>
  obtain⟨t,rfl⟩:=rx
  cases y with
  | non=>cases ry;exact PySem.EqNone.eq_int_none (fin_bl I q (by simp))
  | int j=>obtain⟨t',rfl⟩:=ry;exact eq_int (fin_bl I q dec_int)
  | str j=>obtain⟨t',rfl⟩:=ry;exact PySem.EqMixed.eq_int_str (fin_bl I q (by simp))
  | _=>exact absurd (show false=true from hs) Bool.false_ne_true
 | str i =>
  obtain⟨t,rfl⟩:=rx
  cases y with
  | non=>cases ry;exact PySem.EqNone.eq_str_none (fin_bl I q (by simp))
  | bl j=>cases ry;exact PySem.EqMixed.eq_str_bool (fin_bl I q (by simp))
  | int j=>obtain⟨t',rfl⟩:=ry;exact PySem.EqMixed.eq_str_int (fin_bl I q (by simp))
  | str j=>obtain⟨t',rfl⟩:=ry;exact eq_str (fin_bl I q dec_str)
  | _=>exact absurd (show false=true from hs) Bool.false_ne_true
 | byt i =>
  obtain⟨t,rfl⟩:=rx
  cases y with
  | byt j=>obtain⟨t',rfl⟩:=ry;exact PySem.W.eq_bytes (fin_bl I q dec_byt)
  | _=>exact absurd (show false=true from hs) Bool.false_ne_true
 | _=>cases y <;> exact absurd (show false=true from hs) Bool.false_ne_true
theorem op_ne:OpR X (compareOp .NotEq) rNe:=by
 intro pins s σ H x y v u Q I rx ry h
 obtain⟨hs,q⟩:=h
 cases x with
 | non =>
  cases rx
  cases y with
  | non=>cases ry;exact PySem.EqNone.ne_none_none (fin_bl I q (by simp))
  | bl j=>cases ry;exact PySem.EqNone.ne_none_bool (fin_bl I q (by simp))
  | int j=>obtain⟨t',rfl⟩:=ry;exact PySem.EqNone.ne_none_int (fin_bl I q (by simp))
  | str j=>obtain⟨t',rfl⟩:=ry;exact PySem.EqNone.ne_none_str (fin_bl I q (by simp))
  | _=>exact absurd (show false=true from hs) Bool.false_ne_true
 | bl i =>
  cases rx
  cases y with
  | non=>cases ry;exact PySem.EqNone.ne_bool_none (fin_bl I q (by simp))
  | bl j=>cases ry;exact ne_bool (fin_bl I q (congrArg not dec_bl))
  | str j=>obtain⟨t',rfl⟩:=ry;exact PySem.EqMixed.ne_bool_str (fin_bl I q (by simp))
  | _=>exact absurd (show false=true from hs) Bool.false_ne_true
 | int i =>
  obtain⟨t,rfl⟩:=rx
  cases y with
  | non=>cases ry;exact PySem.EqNone.ne_int_none (fin_bl I q (by simp))
  | int j=>obtain⟨t',rfl⟩:=ry;exact ne_int (fin_bl I q (congrArg not dec_int))
  | str j=>obtain⟨t',rfl⟩:=ry;exact PySem.EqMixed.ne_int_str (fin_bl I q (by simp))
  | _=>exact absurd (show false=true from hs) Bool.false_ne_true
 | str i =>
  obtain⟨t,rfl⟩:=rx
  cases y with
  | non=>cases ry;exact PySem.EqNone.ne_str_none (fin_bl I q (by simp))
  | bl j=>cases ry;exact PySem.EqMixed.ne_str_bool (fin_bl I q (by simp))
  | int j=>obtain⟨t',rfl⟩:=ry;exact PySem.EqMixed.ne_str_int (fin_bl I q (by simp))
  | str j=>obtain⟨t',rfl⟩:=ry;exact ne_str (fin_bl I q (congrArg not dec_str))
  | _=>exact absurd (show false=true from hs) Bool.false_ne_true
 | byt i =>
  obtain⟨t,rfl⟩:=rx
  cases y with
  | byt j=>obtain⟨t',rfl⟩:=ry;exact PySem.W.ne_bytes (fin_bl I q (congrArg not dec_byt))
  | _=>exact absurd (show false=true from hs) Bool.false_ne_true
 | _=>cases y <;> exact absurd (show false=true from hs) Bool.false_ne_true
theorem op_lt:OpR X (compareOp .Lt) (rI0 fun i j=>.bl (decide (i<j))):=opB0 fun _ _ _ _ _ _ _ q=>lt_int q
theorem op_le:OpR X (compareOp .LtE) (rI0 fun i j=>.bl (decide (i≤j))):=opB0 fun _ _ _ _ _ _ _ q=>le_int q
theorem op_gt:OpR X (compareOp .Gt) (rI0 fun i j=>.bl (decide (j<i))):=opB0 fun _ _ _ _ _ _ _ q=>gt_int q
theorem op_isN:OpR X (compareOp .Is) (fun x y H Q=>y=.non∧Q (.bl (decide (x=.non))) H):=by
 intro pins s σ H x y v u Q I rx ry h
 obtain⟨rfl,q⟩:=h
 cases ry
 refine is_none_gen (fin_bl I q ?_)
 cases x <;> first
  | (cases rx;rfl)
  | (obtain⟨t,rfl⟩:=rx;rfl)
theorem nomark (b:Expr) {op:CmpOp} (h:op≠.In:=by decide) (h2:op≠.NotIn:=by decide):behindInMarks op b=false:=by
 have e1:(op == CmpOp.In)=false:=by cases op <;> first | rfl | exact absurd rfl h
 have e2:(op == CmpOp.NotIn)=false:=by cases op <;> first | rfl | exact absurd rfl h2
 cases b <;> simp[behindInMarks,e1,e2]
theorem pe_cmpR {op:CmpOp} {r:R2} (ho:OpR X (compareOp op) r) (ha:PE X a ta) (hb:PE X b tb) (hm:behindInMarks op b=false):PE X (.Compare a [op] [b] pos) (tOp r ta tb):=by
 intro pins s σ H Q I h
 exact wpAny_Compare1 (binT ha hb I h fun v u s2 x y H2 I2 rx ry q=>ho pins s2 σ H2 x y v u Q I2 rx ry q) hm
noncomputable def tTest (t:TE):TT:=fun σ H Q=>t σ H fun x H'=>∃ k,x=.bl k∧Q k H'
theorem pt_cmpR {op:CmpOp} {r:R2} (ho:OpR X (compareOp op) r) (ha:PE X a ta) (hb:PE X b tb) (hm:behindInMarks op b=false):PT X (.Compare a [op] [b] pos) (tTest (tOp r ta tb)):=by
 intro pins s σ H Q I h
 refine wpAny_isTrue_Compare1 (thn (ha pins s σ H _ I h) fun v s1 ⟨x,H1,I1,r1,q1⟩=>thn (hb pins s1 σ H1 _ I1 q1) fun u s2 ⟨y,H2,I2,r2,q2⟩ =>
  thn (ho pins s2 σ H2 x y v u _ I2 r1 r2 q2) fun c s3 ⟨z,H3,I3,r3,k,e,q3⟩=>?_) hm
 subst e
 cases r3
 exact wpAny_truthy_bool ⟨H3,I3,q3⟩
noncomputable def tChain (r r':R2) (ta tb tc:TE):TE:=fun σ H Q=>ta σ H fun x H1=>tb σ H1 fun y H2=>r x y H2 fun z H3=>∃ k,z=.bl k ∧
 (if k=true then tc σ H3 fun w' H4=>r' y w' H4 Q else Q (.bl false) H3)
theorem pt_chain {op op':CmpOp} {r r':R2} (ho:OpR X (compareOp op) r) (ho':OpR X (compareOp op') r') (ha:PE X a ta) (hb:PE X b tb) (hc:PE X c tc)
 (hm:lastMarks [op,op'] [b,c]=false:=by with_unfolding_all rfl):PT X (.Compare a [op,op'] [b,c] pos) (tTest (tChain r r' ta tb tc)):=by
 intro pins s σ H Q I h
 refine isTrue_chain (thn (ha pins s σ H _ I h) fun v s1 ⟨x,H1,I1,r1,q1⟩=>test_link (thn (hb pins s1 σ H1 _ I1 q1) fun u s2 ⟨y,H2,I2,r2,q2⟩ =>
  thn (ho pins s2 σ H2 x y v u _ I2 r1 r2 q2) fun d s3 ⟨z,H3,I3,r3,k,e,q3⟩=>?_)) hm
 subst e
 cases r3
 refine wpAny_truthy_bool ?_
 cases k with
 | false =>
  obtain⟨k',e',q'⟩:=q3
  cases e'
  exact ite_ff ⟨H3,I3,q'⟩
 | true =>
  refine ite_tt (test_last (thn (hc pins s3 σ H3 _ I3 q3) fun w' s4 ⟨z',H4,I4,r4,q4⟩=>thn (ho' pins s4 σ H4 y z' u w' _ I4 r2 r4 q4) fun d' s5 ⟨z2,H5,I5,r5,k2,e2,q5⟩=>?_))
  subst e2
  cases r5
  exact wpAny_truthy_bool ⟨H5,I5,q5⟩
noncomputable def TruV (K:PySem.W.Frag) (x:V) (H:Hp) (k:Bool):Prop :=
 match x with
 | .non=>k=false
 | .bl b=>k=b
 | .int i=>k=(i != 0)
 | .str y=>y.length≤sizeLine∧k=((y.length:Int) != 0)
 | .byt y=>y.size≤sizeLine∧k=((y.size:Int) != 0)
 | .ref p=>(∃ xs,SqL K H p xs∧k=!xs.isEmpty)∨(∃ xs,SqT K H p xs∧k=!xs.isEmpty)∨∃ kvs,H p=some (.dK kvs)∧k=!kvs.isEmpty
 | _=>False
theorem isEmpty_kv {κ:Type} {kvs:List (κ×V)} {vs:List (κ×Value)} (r:KV kvs vs):(!vs.isEmpty)=!kvs.isEmpty:=by
 cases r <;> rfl
theorem isEmpty_of {xs:List V} {its:List Value} (r:Vals xs its):(!its.toArray.isEmpty)=!xs.isEmpty:=by
 cases r <;> simp
theorem line63:(sizeLine:Nat)<2 ^ 63:=by rw[sizeLine_eq];decide
theorem tru_ok:TruR X (fun x H Q=>∃ k,TruV X.K x H k∧Q k H):=by
 intro pins s σ H x v Q I rx h
 obtain⟨k,e,q⟩:=h
 have hl:=line63
 have hs:sizeLine=16777216:=sizeLine_eq
 cases x with
 | non =>
  cases rx
  have e':k=false:=e
  subst e'
  exact truthy_none ⟨H,I,q⟩
 | bl b =>
  cases rx
  have e':k=b:=e
  subst e'
  exact wpAny_truthy_bool ⟨H,I,q⟩
 | int i =>
  obtain⟨t,rfl⟩:=rx
  have e':k=(i != 0):=e
  subst e'
  exact PySem.P.truthy_int ⟨H,I,q⟩
 | str y =>
  obtain⟨t,rfl⟩:=rx
  obtain⟨hy,e'⟩:y.length≤sizeLine∧k=((y.length:Int) != 0):=e
  subst e'
  exact PySem.P.truthy_str (by omega) ⟨H,I.tok _,q⟩
 | byt y =>
  obtain⟨t,rfl⟩:=rx
  obtain⟨hy,e'⟩:y.size≤sizeLine∧k=((y.size:Int) != 0):=e
  subst e'
  exact PySem.W.truthy_bytes (by omega) ⟨H,I.tok _,q⟩
 | ref p =>
  cases rx
  have e':(∃ xs,SqL X.K H p xs∧k=!xs.isEmpty)∨(∃ xs,SqT X.K H p xs∧k=!xs.isEmpty)∨∃ kvs,H p=some (.dK kvs)∧k=!kvs.isEmpty:=e
  rcases e' with ⟨xs,hx,e'⟩ | ⟨xs,hx,e'⟩ | ⟨kvs,hx,e'⟩
  ·subst e'
   obtain⟨its,r,pl,hz⟩:=I.list hx
   have hlen:=r.length
   exact wpAny_truthy_list pl.isList (by simp only[List.size_toArray];omega) ⟨H,I.tok _,by rw[isEmpty_of r];exact q⟩
  ·subst e'
   obtain⟨its,r,pl,hz⟩:=I.tuple hx
   have hlen:=r.length
   exact truthy_tuple pl (by simp only[List.size_toArray];omega) ⟨H,I.tok _,by rw[isEmpty_of r];exact q⟩
  ·subst e'
   obtain⟨hz,hS,vs,r,m⟩:kvs.length≤sizeLine∧(p == sysModules)=false∧∃ vs,KV kvs vs∧s.heap.DictOf (mixKind X.prog X.w) p vs:=I.hok p _ hx
   have hlen:kvs.length=vs.length:=Paired.length r
   exact wpAny_truthy_dict hS m (by omega) ⟨H,I.tok _,by rw[isEmpty_kv r];exact q⟩
 | _=>exact(show False from e).elim
theorem pt_truth (ha:PE X a ta) (he:∀ whole,isTrue a X.env whole=(do let v ← whole;standAt a.pos;holding [v] (truthy v))) :
 PT X a (fun σ H Q=>ta σ H fun x H'=>∃ k,TruV X.K x H' k∧Q k H'):=by
 intro pins s σ H Q I h
 exact isTrue_plain (thn (ha pins s σ H _ I h) fun v s1 ⟨x,H1,I1,r1,q1⟩=>tru_ok pins s1 σ H1 x v Q I1 r1 q1) (he _)
theorem vals1 {x:V} {us:List Value} (r:Vals [x] us):∃ u,us=[u]∧RelV x u:=by
 cases r with
 | cons r1 r2=>cases r2;exact⟨_,rfl,r1⟩
theorem vals2 {x y:V} {us:List Value} (r:Vals [x,y] us):∃ u w',us=[u,w']∧RelV x u∧RelV y w':=by
 cases r with
 | cons r1 r2 =>
  cases r2 with
  | cons r3 r4=>cases r4;exact⟨_,_,rfl,r1,r3⟩
theorem call_min2 (hc:X.calm=true):CallR X (.builtin "min") (fun xs H Q=>∃ i j,xs=[.int i,.int j]∧Q (.int (if j<i then j else i)) H):=by
 intro pins s σ H xs us Q I r h
 obtain⟨i,j,rfl,q⟩:=h
 obtain⟨u,w',rfl,⟨t,rfl⟩,⟨t',rfl⟩⟩:=vals2 r
 refine min_two_ints (I.ok.hd hc) fun h' tk k=>⟨_,H,I.kept k,?_,q⟩
 by_cases hj:j<i
 ·rw[if_pos hj,if_pos hj];exact⟨_,rfl⟩
 ·rw[if_neg hj,if_neg hj];exact⟨_,rfl⟩
end
end L2
namespace L2
open PySem PySem.Spec PyProof.Rows
structure ObjM (h:Heap) (x dx C:Addr) (mA:Str→Option Value):Prop where
 obj:h.get? x=some (PySem.W.instObj C dx)
 ns:h.Ns1 dx mA
 ne:dx≠x
theorem lookIn_ns {h:Heap} {dx:Addr} {mA:Str→Option Value} (n:h.Ns1 dx mA):∃ od,h.get? dx=some od∧∀ name,PySem.W.lookIn name od=some (mA name):=by
 obtain⟨o,es,ep,ho,hd,hk,_,hm⟩:=n
 refine⟨o,ho,fun name=>?_⟩
 have e:=hm name
 unfold nsFind findBy at e
 rw[← Array.find?_toList]at e
 unfold PySem.W.lookIn
 rw[hd]
 dsimp only
 split
 ·rename_i y q
  rw[q]at e
  exact congrArg some e
 ·rename_i q
  rw[q]at e
  have a:es.toList.any (·.refKey)=false:=by
   rw[List.any_eq_false]
   intro y hy
   obtain⟨z,t,hkey⟩:=hk y (Array.mem_toList_iff.mp hy)
   simp[DictEntry.refKey,hkey]
  have a':¬ es.toList.any (·.refKey)=true:=by rw[a];exact Bool.false_ne_true
  rw[if_neg a']
  exact congrArg some e
theorem ObjM.look {h:Heap} {x dx C:Addr} {mA:Str→Option Value} (I:ObjM h x dx C mA):∃ od,PySem.W.InstAt h x (PySem.W.instObj C dx) C (some od)∧∀ name,PySem.W.lookIn name od=some (mA name) :=
 let ⟨od,ho,hl⟩:=lookIn_ns I.ns
 ⟨od,⟨I.obj,rfl,rfl,ho⟩,hl⟩
section
variable {prog:Program} {w:World} {A:Around} {E:Value→Shared→Prop} {s:Shared} {K:PySem.W.Frag} {x dx C f:Addr} {mA:Str→Option Value} {name:Str} {v:Value}
end
theorem RelO.some_of {v:V} {o:Option Value} (r:RelO (some v) o):∃ u,o=some u∧RelV v u:=by
 cases o with
 | none=>exact(show False from r).elim
 | some u=>exact⟨u,rfl,r⟩
theorem handed_of {v:V} {u:Value} (r:RelV v u):PySem.W.handedIn u=true:=by
 cases v with
 | non=>cases (show u=Value.none from r);rfl
 | bl b=>cases (show u=Value.bool b from r);rfl
 | int i=>obtain⟨t,e⟩:=(show ∃ t,u=Value.int i t from r);cases e;rfl
 | str x=>obtain⟨t,e⟩:=(show ∃ t,u=Value.str x t from r);cases e;rfl
 | byt b=>obtain⟨t,e⟩:=(show ∃ t,u=Value.bytes b t from r);cases e;rfl
 | flt b=>obtain⟨t,e⟩:=(show ∃ t,u=Value.float b t from r);cases e;rfl
 | ref a=>cases (show u=Value.ref a from r);rfl
 | ty n=>cases (show u=Value.type n from r);rfl
section
variable {P:Program} {w:World} {H H':Hp} {h h':Heap} {a C dx:Addr} {fs fs':List (Str×V)}
theorem ins_get (hok:HOk P w H h) (e:H a=some (.ins C dx fs)):∃ mA,ObjM h a dx C mA∧(∀ f,RelO (fs.lookup f) (mA f))∧PySem.Within mA (fs.map (·.1))∧fs.length≤1000∧H dx=some (.own a):=by
 obtain⟨d,z,ne,ob,mA,n,r,q⟩:=(show ObjOk P w H h a (.ins C dx fs) from hok a _ e)
 exact⟨mA,⟨ob,n,ne⟩,r,q,z,d⟩
end
structure Cls (K:PySem.W.Frag) (C:Addr):Prop where
 pg:PySem.W.plainGet K C Str.empty=true
 hd:PySem.W.hasDictIn K C=true
 po:PySem.W.plainOver K C=true
 sa:PySem.W.findIn K (.ref C) "__setattr__"=some (some (.builtin "object.__setattr__"))
theorem Cls.get {K:PySem.W.Frag} {C:Addr} (c:Cls K C) (f:Str):PySem.W.plainGet K C f=true:=c.pg
section
variable {X:Cx} {pins:List (Addr×Obj)} {σ:St} {H:Hp} {s:Shared} {a C dx:Addr} {fs:List (Str×V)} {f:Str} {v:V} {A:Around} {E:Value→Shared→Prop}
theorem attr_of {prog:Program} {w:World} {env:Env} {e:Expr} {f:Str} {pos:Pos} {s:Shared} {Q:Value→Shared→Prop} (hb:attributeBase e f env (eval e env)=eval e env)
 (h:wpAny (model prog w) A (eval e env) (fun o s₁=>wpAny (model prog w) A (getAttr o f true) Q E s₁) E s):wpAny (model prog w) A (eval (.Attribute e f pos) env) Q E s :=
 Attribute_any_ h (by rw[arm_eval_Attribute,hb])
end
section
variable {X:Cx} {o e value:Expr} {f:Str} {pos pos' tpos:Pos} {ta tv:TE}
end
section
variable {X:Cx} {pins:List (Addr×Obj)} {σ:St} {H:Hp} {s:Shared} {A:Around} {E:Value→Shared→Prop} {Q:Value→Shared→Prop} {c:Value} {b:Bool}
inductive TyOf (K:PySem.W.Frag) (H:Hp):V→Value→Prop where
 | non:TyOf K H .non (.type "NoneType")
 | bl (x:Bool):TyOf K H (.bl x) (.type "bool")
 | int (i:Int):TyOf K H (.int i) (.type "int")
 | str (x:Str):TyOf K H (.str x) (.type "str")
 | flt (x:UInt64):TyOf K H (.flt x) (.type "float")
 | lst {a:Addr} {xs:List V} (e:H a=some (.lst xs)):TyOf K H (.ref a) (.type "list")
 | frz {a:Addr} {o:Obj} {xs:List V} (e:H a=some (.frz o (.lst xs))):TyOf K H (.ref a) (.type "list")
 | tup {a:Addr} {xs:List V} (e:H a=some (.tup xs)):TyOf K H (.ref a) (.type "tuple")
 | dK {a:Addr} {kvs:List (Key×V)} (e:H a=some (.dK kvs)):TyOf K H (.ref a) (.type "dict")
 | dT {a:Addr} {kvs:List (List Key×V)} (e:H a=some (.dT kvs)):TyOf K H (.ref a) (.type "dict")
 | ins {a C dx:Addr} {fs:List (Str×V)} (e:H a=some (.ins C dx fs)) (cl:Cls K C) (ha:PySem.W.findIn K (.ref C) "__class__"=some (some (.builtin "object.__class__")))
  (hn:PySem.W.specialIn K (.builtin "object.__class__") "__get__"=some (some (.builtin "getset_descriptor.__get__"))) (htk:PySem.W.takesIn K (.builtin "object.__class__")=some true)
  (hm:PySem.W.mroIn K C (.type "object")=some true):TyOf K H (.ref a) (.ref C)
theorem isinst_ok {x:V} {u t:Value} (I:Inv X pins σ H s) (rx:RelV x u) (ty:TyOf X.K H x t) (e:PySem.W.kitOne X.K t c=some b) (h:∀ tk,Q (.bool b) { s with toks:=tk }) :
 wpAny (model X.prog X.w) A (call (.builtin "isinstance") [u,c]) Q E s:=by
 cases ty with
 | non=>cases (show u=Value.none from rx);exact PySem.W.kia_one PySem.W.kitx_none I.kIn True.intro e (fun z=>nomatch z) h
 | bl y=>cases (show u=Value.bool y from rx);exact PySem.W.kia_one PySem.W.kitx_bool I.kIn True.intro e (fun z=>nomatch z) h
 | int i=>obtain⟨t,q⟩:=(show ∃ t,u=Value.int i t from rx);cases q;exact PySem.W.kia_one PySem.W.kitx_int I.kIn True.intro e (fun z=>nomatch z) h
 | str y=>obtain⟨t,q⟩:=(show ∃ t,u=Value.str y t from rx);cases q;exact PySem.W.kia_one PySem.W.kitx_str I.kIn True.intro e (fun z=>nomatch z) h
 | flt y=>obtain⟨t,q⟩:=(show ∃ t,u=Value.float y t from rx);cases q;exact PySem.W.kia_one PySem.W.kitx_float I.kIn True.intro e (fun z=>nomatch z) h
 | @lst a xs ea =>
  cases (show u=Value.ref a from rx)
  obtain⟨_,_,n,_,h1⟩:=(show ObjOk X.prog X.w H s.heap a (.lst xs) from I.hok a _ ea)
  exact PySem.W.kia_one PySem.W.kitx_list I.kIn ⟨_,h1,rfl⟩ e (fun z=>nomatch z) h
 | @frz a ob xs ea =>
  cases (show u=Value.ref a from rx)
  obtain⟨_,_,_,n,_,h1⟩:=(show ObjOk X.prog X.w H s.heap a (.frz ob (.lst xs)) from I.hok a _ ea)
  exact PySem.W.kia_one PySem.W.kitx_list I.kIn ⟨_,h1,rfl⟩ e (fun z=>nomatch z) h
 | @tup a xs ea =>
  cases (show u=Value.ref a from rx)
  obtain⟨_,_,_,p⟩:=(show ObjOk X.prog X.w H s.heap a (.tup xs) from I.hok a _ ea)
  obtain⟨o,h1,h2,_⟩:=p
  exact PySem.W.kia_one PySem.W.kitx_tuple I.kIn ⟨o,h1,h2⟩ e (fun z=>nomatch z) h
 | @dK a kvs ea =>
  cases (show u=Value.ref a from rx)
  obtain⟨_,_,vs,_,p⟩:=(show ObjOk X.prog X.w H s.heap a (.dK kvs) from I.hok a _ ea)
  obtain⟨o,es,ep,h1,h2,_⟩:=p
  exact PySem.W.kia_one PySem.W.kitx_dict I.kIn ⟨o,h1,h2.1⟩ e (fun z=>nomatch z) h
 | @dT a kvs ea =>
  cases (show u=Value.ref a from rx)
  obtain⟨_,_,xs,_,o,es,ep,h1,h2,_⟩:=(show ObjOk X.prog X.w H s.heap a (.dT kvs) from I.hok a _ ea)
  exact PySem.W.kia_one PySem.W.kitx_dict I.kIn ⟨o,h1,h2.1⟩ e (fun z=>nomatch z) h
 | @ins a C dx fs ea cl ha hn htk hm =>
  cases (show u=Value.ref a from rx)
  obtain⟨mA,O,_⟩:=ins_get I.hok ea
  obtain⟨od,J,_⟩:=O.look
  exact PySem.W.kia_one (PySem.W.kitx_own (cl.get _) cl.hd ha hn htk hm) I.kIn J e (fun z=>nomatch z) h
end
end L2
namespace L2
open PySem PySem.Spec PyProof.Rows
structure Room (k:Nat) (A:Around):Prop where
 hd:A.handled=none
 dp:A.depth+3 * k+5<recursionLimit
 un:A.units+16 * k+200<cLine
theorem Room.mono {j k:Nat} {A:Around} (r:Room k A) (h:j≤k):Room j A:=⟨r.hd,by have:=r.dp;omega,by have:=r.un;omega⟩
theorem Room.deeper {k:Nat} {A:Around} (r:Room (k+1) A) (env:Env):Room k (A.deeper env) :=
 ⟨r.hd,by have:=r.dp;show A.depth+1+3 * k+5<_;omega,by have:=r.un;show A.units+3+16 * k+200<_;omega⟩
theorem make_depth {A:Around} {C:Addr} {us:List Value} {kw:List (Str×Value)}:(A.under (.builtin "type.__call__" ⟨.ref C :: us,kw⟩)).depth=A.depth+1:=by
 first | rfl | simp[Around.under,Code.weight,Code.isCreation,Code.isGuard,Code.isCaller,Code.frames,Code.isFrame,guardIds]
theorem make_units {A:Around} {C:Addr} {us:List Value} {kw:List (Str×Value)}:(A.under (.builtin "type.__call__" ⟨.ref C :: us,kw⟩)).units=A.units+1:=by
 first | rfl | simp[Around.under,Code.cUnits,Code.frames,Code.isFrame]
theorem Room.make {k:Nat} {A:Around} (r:Room (k+1) A) (C:Addr) (us:List Value) (kw:List (Str×Value)):Room k (A.under (.builtin "type.__call__" ⟨.ref C :: us,kw⟩)) :=
 ⟨r.hd,by have:=r.dp;rw[make_depth];omega,by have:=r.un;rw[make_units];omega⟩
theorem Room.depth {k:Nat} {A:Around} (r:Room k A):A.depth<recursionLimit:=by have:=r.dp;omega
theorem Room.units {k:Nat} {A:Around} (r:Room k A):A.units+64<cLine:=by have:=r.un;omega
noncomputable def tNil:TA:=fun _ H Q=>Q [] H
noncomputable def tCons (ta:TE) (tr:TA):TA:=fun σ H Q=>ta σ H fun x H1=>tr σ H1 fun xs H2=>Q (x :: xs) H2
section
variable {X:Cx} {e:Expr} {es:List Expr} {te:TE} {t:TA} {pos:Pos}
theorem pa_nil:PA X [] tNil:=fun _ _ _ _ H Q I h=>Calls.spliced_nil ⟨[],H,I,.nil,h⟩
theorem pa_cons (ha:PE X e te) (hr:PA X es t) (hs:starEach (e :: es) X.env=(false,eval e X.env) :: starEach es X.env:=by rfl):PA X (e :: es) (tCons te t):=by
 intro pos pins s σ H Q I h
 rw[hs]
 show wpAny _ _ (spliced ((false,eval e X.env) :: backTo pos (starEach es X.env))) _ _ s
 refine Calls.spliced_cons (thn (ha pins s σ H _ I h) fun u s1 ⟨x,H1,I1,r1,q1⟩=>?_)
 exact thn (hr pos pins s1 σ H1 _ I1 q1) fun us s2 ⟨xs,H2,I2,r2,q2⟩=>⟨x :: xs,H2,I2,.cons r1 r2,q2⟩
noncomputable def tTup (t:TA):TE:=fun σ H Q=>t σ H fun xs H1=>xs.length≤sizeLine∧∀ p,H1 p=none→Q (.ref p) (upd H1 p (.tup xs))
noncomputable def tLst (t:TA):TE:=fun σ H Q=>t σ H fun xs H1=>xs.length≤sizeLine∧∀ p,H1 p=none→Q (.ref p) (upd H1 p (.lst xs))
theorem pe_tup {x1} (h:PA X es t):PE X (.Tuple es x1 pos) (tTup t):=by
 intro pins s σ H Q I hq
 refine wpAny_Tuple_spliced (thn (h pos pins s σ H _ I hq) fun us s1 ⟨xs,H1,I1,r,z,q⟩=>⟨by rw[← r.length];exact z,?_⟩)
 have hf:H1 s1.heap.objs.size=none:=I1.hok.fresh (Nat.le_refl _)
 refine⟨.ref s1.heap.objs.size,upd H1 s1.heap.objs.size (.tup xs),I1.laid (t':=s1.toks) (fun b u e=>Heap.get?_push_of_some _ e) (Nat.le_refl _) ?_,rfl,q _ hf⟩
 exact⟨z,us,r,⟨_,Heap.get?_push_size _ rfl,rfl,_,rfl⟩⟩
theorem pe_lst (h:PA X es t):PE X (.List es pos) (tLst t):=by
 intro pins s σ H Q I hq
 refine wpAny_List_spliced (thn (h pos pins s σ H _ I hq) fun us s1 ⟨xs,H1,I1,r,z,q⟩=>⟨by rw[← r.length];exact z,?_⟩)
 have hf:H1 s1.heap.objs.size=none:=I1.hok.fresh (Nat.le_refl _)
 refine⟨.ref s1.heap.objs.size,upd H1 s1.heap.objs.size (.lst xs),I1.laid (t':=s1.toks) (fun b u e=>Heap.get?_push_of_some _ e) (Nat.le_refl _) ?_,rfl,q _ hf⟩
 exact⟨z,us,0,r,Heap.get?_push_size _ rfl⟩
end
noncomputable abbrev Sp:=List V→Hp→VK→XK→Prop
noncomputable abbrev CXT:=List Env→Hp→Shared→XK→Value→Shared→Prop
structure Env0 (P:Program) (w:World) (K:PySem.W.Frag) (mg:Str→Option Value) (base:Heap) (A:Around) (outer:List Env) (s:Shared) (H:Hp):Prop where
 frames:A.frames=some outer
 mod:Mod K mg base
 bs:∀ b o,base.get? b=some o→s.heap.get? b=some o∧H b=none
 bsz:base.objs.size≤s.heap.objs.size
 funs:s.heap.FunFrames base outer
 frf:∀ b∈frs outer,H b=none
 hok:HOk P w H s.heap
 bare:AllBare s.gens
noncomputable def CE (outer:List Env) (P:Program) (w:World) (H:Hp) (s:Shared) (Q:VK) (u:Value) (s':Shared):Prop :=
 ∃ v H',s'.os=s.os∧AllBare s'.gens∧Un (frs outer) [] H H' s.heap s'.heap∧HOk P w H' s'.heap∧RelV v u∧Q v H'
noncomputable def CR (CX:CXT) (outer:List Env) (P:Program) (w:World) (H:Hp) (s:Shared) (Q:VK) (E:XK) (r:Result) (s':Shared):Prop :=
 match r with
 | .ok (.ret u)=>CE outer P w H s Q u s'
 | .ok _=>False
 | .error e=>CX outer H s E e s'
structure FnOk (P:Program) (w:World) (K:PySem.W.Frag) (mg:Str→Option Value) (base:Heap) (CX:CXT) (k:Nat) (f:Addr) (fd:FuncData) (ps:List Str) (sp:Sp):Prop where
 len:∀ vs H Q E,sp vs H Q E→vs.length=ps.length
 run:∀ (A:Around) (outer:List Env) (s:Shared) (H:Hp) (args:Args) (us:List Value) (vs:List V) (Q:VK) (E:XK),Room k A→Env0 P w K mg base A outer s H→BindsTo s fd args (ps.zip us)→Vals vs us→sp vs H Q E →
  codeAny (model P w) A (.call (.ref f) args) (CR CX outer P w H s Q E) s
theorem FnOk.imp {P:Program} {w:World} {K:PySem.W.Frag} {mg:Str→Option Value} {base:Heap} {CX:CXT} {k:Nat} {f:Addr} {fd:FuncData} {ps:List Str} {sp sp':Sp} (F:FnOk P w K mg base CX k f fd ps sp)
 (h:∀ vs H Q E,sp' vs H Q E→sp vs H Q E):FnOk P w K mg base CX k f fd ps sp' :=
 ⟨fun vs H Q E q=>F.len vs H Q E (h _ _ _ _ q),fun A outer s H args us vs Q E hr he hb hv hs=>F.run A outer s H args us vs Q E hr he hb hv (h _ _ _ _ hs)⟩
theorem Env0.make {P:Program} {w:World} {K:PySem.W.Frag} {mg:Str→Option Value} {base:Heap} {A:Around} {outer:List Env} {s:Shared} {H:Hp} (e:Env0 P w K mg base A outer s H) (C:Addr) (us:List Value) (kw:List (Str×Value)) :
 Env0 P w K mg base (A.under (.builtin "type.__call__" ⟨.ref C :: us,kw⟩)) outer s H:=⟨by first | exact e.frames | (simpa[Around.under,Code.envs,Code.isFrame,pushEnvs]using e.frames),e.mod,e.bs,e.bsz,e.funs,e.frf,e.hok,e.bare⟩
section
variable {X:Cx} {pins:List (Addr×Obj)} {σ:St} {H:Hp} {s s':Shared}
theorem Inv.env0 (I:Inv X pins σ H s):Env0 X.prog X.w X.K X.mg X.base X.A X.stack s H :=
 ⟨I.ok.frames,I.ok.mod,I.bs,Nat.le_trans I.ok.bsz I.sz,I.stack,I.stkFree,I.hok,I.bare⟩
theorem Inv.after {Q:VK} {u:Value} (I:Inv X pins σ H s) (h:CE X.stack X.prog X.w H s Q u s'):EP X pins σ Q u s':=by
 obtain⟨v,H',os,bare,un,hok,r,q⟩:=h
 obtain⟨hh,g,d,t,os'⟩:=s'
 obtain rfl:os'=s.os:=os
 exact⟨v,H',I.call (h':=hh) (g':=g) (d':=d) (t':=t) (ch:=[]) un hok bare (fun b z=>absurd z (by simp)),r,q⟩
end
noncomputable def tCall (sp:Sp) (dvs:List V) (E:XK) (t:TA):TE:=fun σ H Q=>t σ H fun vs H1=>sp (vs++dvs) H1 Q E
noncomputable def Binds (K:PySem.W.Frag) (fd:FuncData) (ps:List Str) (ds:List Value):Prop :=
 ∀ (s:Shared) (us:List Value),K.In s.heap→(us++ds).length=ps.length→BindsTo s fd ⟨us,[]⟩ (ps.zip (us++ds))
theorem Binds.all {K:PySem.W.Frag} {fd:FuncData} {ps:List Str} (h:∀ us:List Value,us.length=ps.length→bindArgs fd ⟨us,[]⟩=pure (ps.zip us)):Binds K fd ps []:=fun s us _ hl=>by
 rw[List.append_nil]at hl ⊢
 exact .of_eq (h us hl)
noncomputable def Passes (CX:CXT) (X:Cx) (E:XK):Prop:=∀ (pins:List (Addr×Obj)) (σ:St) (H:Hp) (s:Shared) (e:Value) (s':Shared),Inv X pins σ H s→CX X.stack H s E e s'→X.xe e s'
section
variable {X:Cx} {CX:CXT} {k:Nat} {f C:Addr} {fd:FuncData} {ps:List Str} {sp:Sp} {dvs:List V} {ds:List Value} {E:XK} {x m:Str} {p pos apos:Pos} {e o:Expr} {es:List Expr} {ta:TE} {t:TA}
theorem run_fn {pins:List (Addr×Obj)} {σ:St} {H:Hp} {s:Shared} {Q:VK} {us:List Value} {vs:List V} (F:FnOk X.prog X.w X.K X.mg X.base CX k f fd ps sp) (hr:Room k X.A) (hb:Binds X.K fd ps ds) (hd:Vals dvs ds) (hx:Passes CX X E)
 (I:Inv X pins σ H s) (r:Vals vs us) (h:sp (vs++dvs) H Q E):wpAny (model X.prog X.w) X.A (call (.ref f) us) (EP X pins σ Q) X.xe s:=by
 have r2:Vals (vs++dvs) (us++ds):=r.append hd
 have hl:(us++ds).length=ps.length:=by rw[← r2.length];exact F.len _ _ _ _ h
 refine wpAny_call (codeAny_mono (F.run X.A X.stack s H ⟨us,[]⟩ (us++ds) (vs++dvs) Q E hr I.env0 (hb s us I.kIn hl) r2 h) fun r s' hq=>?_)
 cases r with
 | error e=>exact hx pins σ H s e s' I hq
 | ok fl =>
  cases fl with
  | ret u=>exact I.after hq
  | next=>exact False.elim hq
  | brk=>exact False.elim hq
  | cont=>exact False.elim hq
theorem pe_call (F:FnOk X.prog X.w X.K X.mg X.base CX k f fd ps sp) (hr:Room k X.A) (hg:Gl X x) (hm:X.mg x=some (.ref f)) (hk:PySem.W.keepIn X.K (.ref f)=true) (hb:Binds X.K fd ps ds) (hd:Vals dvs ds) (hx:Passes CX X E)
 (ha:PA X (e :: es) t) (hdb:(x == ("__debug__":Str))=false:=by decide) (he:starEach (e :: es) X.env=(false,eval e X.env) :: starEach es X.env:=by rfl) (hpl:(backTo pos (starEach es X.env)).any (·.1)=false:=by rfl) :
 PE X (.Call (.Name x p) (e :: es) [] pos) (tCall sp dvs E t):=by
 intro pins s σ H Q I h
 refine wpAny_Call_Name_kw (ld_glob I hg hm ?_ hdb)
 refine PySem.W.callWith_K (h₀:=X.base) I.ok.mod.kin hk (thn (ha pos pins s σ H _ I h) fun us s1 ⟨vs,H1,I1,r,q⟩=>⟨I1.kIn,?_⟩) he hpl
 exact run_fn F hr hb hd hx I1 r q
end
noncomputable def PK (X:Cx) (kws:List Keyword) (t:TA):Prop :=
 ∀ (pos:Pos) (pins:List (Addr×Obj)) (s:Shared) (σ:St) (H:Hp) (Q:List V→Hp→Prop),Inv X pins σ H s→t σ H Q→wpAny (model X.prog X.w) X.A (evalAll ((backToKw pos (keywordEach kws X.env)).map (·.2))) (AP X pins σ Q) X.xe s
section
variable {X:Cx} {CX:CXT} {k:Nat} {f C:Addr} {fd:FuncData} {ps ks:List Str} {sp:Sp} {E:XK} {x m:Str} {p pos apos kpos:Pos} {e o:Expr} {es:List Expr} {kws:List Keyword} {te ta:TE} {t tk:TA} {nm:Option Str}
theorem pk_nil:PK X [] tNil:=fun _ _ _ _ H Q I h=>wpAny_evalAll_nil ⟨[],H,I,.nil,h⟩
theorem pk_cons (ha:PE X e te) (hr:PK X kws t):PK X (⟨nm,e,kpos⟩ :: kws) (tCons te t):=by
 intro pos pins s σ H Q I h
 show wpAny _ _ (evalAll ((do let v ← eval e X.env;standAt pos;pure v) :: (backToKw pos (keywordEach kws X.env)).map (·.2))) _ _ s
 refine wpAny_evalAll_cons (wpAny_bind (thn (ha pins s σ H _ I h) fun u s1 ⟨x,H1,I1,r1,q1⟩=>wpAny_bind (wpAny_standAt (wpAny_pure ?_))))
 exact thn (hr pos pins s1 σ H1 _ I1 q1) fun us s2 ⟨xs,H2,I2,r2,q2⟩=>⟨x :: xs,H2,I2,.cons r1 r2,q2⟩
variable {g:List Value→List Value→List Value} {gV:List V→List V→List V}
end
structure FnScope (N P:List Str) (sc:Scope):Prop where
 kind:sc.kind=.function
 co:sc.isCoroutine=false
 gen:sc.isGenerator=false
 nd:N.Nodup
 pre:N.take P.length=P
 par:∀ x∈P,sc.names.lookup x=some .local∨sc.names.lookup x=some .cell
 nofree:∀ y∈sc.names,y.2≠.free
theorem bindL_out {kindOf:Str→Option NameKind} {x:Str}:∀ {binds:List (Str×Value)} {m:Str→Option Value},(∀ v,(x,v)∉binds)→bindL kindOf binds m x=m x
 | [],_,_=>rfl
 | (n,v) :: r,m,h=>by
  unfold bindL
  rw[bindL_out fun w hw=>h w (List.mem_cons_of_mem _ hw)]
  split
  ·have:x≠n:=by rintro rfl;exact h v List.mem_cons_self
   simp[this]
  ·rfl
theorem bindC_out {kindOf:Str→Option NameKind} {x:Str}:∀ {binds:List (Str×Value)} {m:Str→Option Value},(∀ v,(x,v)∉binds)→bindC kindOf binds m x=m x
 | [],_,_=>rfl
 | (n,v) :: r,m,h=>by
  unfold bindC
  rw[bindC_out fun w hw=>h w (List.mem_cons_of_mem _ hw)]
  split
  ·rfl
  ·have:x≠n:=by rintro rfl;exact h v List.mem_cons_self
   simp[this]
theorem bindL_get {kindOf:Str→Option NameKind} {x:Str} {v:Value}:∀ {P:List Str} {vs:List Value} {i:Nat} {m:Str→Option Value},P.Nodup→P[i]?=some x→vs[i]?=some v→kindOf x=some .local →
 bindL kindOf (P.zip vs) m x=some v
 | [],_,_,_,_,h,_,_=>by simp at h
 | _ :: _,[],_,_,_,_,h,_=>by simp at h
 | p :: P,w :: vs,0,m,nd,h1,h2,hk=>by
  simp at h1 h2;subst h1;subst h2
  show bindL kindOf ((p,w) :: P.zip vs) m p=_
  unfold bindL
  rw[bindL_out fun v hv=>(List.nodup_cons.mp nd).1 (List.of_mem_zip hv).1,if_pos hk]
  simp
 | p :: P,w :: vs,i+1,m,nd,h1,h2,hk=>by
  show bindL kindOf ((p,w) :: P.zip vs) m x=_
  unfold bindL
  exact bindL_get (i:=i) (List.nodup_cons.mp nd).2 (by simpa using h1) (by simpa using h2) hk
theorem bindC_get {kindOf:Str→Option NameKind} {x:Str} {v:Value}:∀ {P:List Str} {vs:List Value} {i:Nat} {m:Str→Option Value},P.Nodup→P[i]?=some x→vs[i]?=some v→kindOf x≠some .local →
 bindC kindOf (P.zip vs) m x=some v
 | [],_,_,_,_,h,_,_=>by simp at h
 | _ :: _,[],_,_,_,_,h,_=>by simp at h
 | p :: P,w :: vs,0,m,nd,h1,h2,hk=>by
  simp at h1 h2;subst h1;subst h2
  show bindC kindOf ((p,w) :: P.zip vs) m p=_
  unfold bindC
  rw[bindC_out fun v hv=>(List.nodup_cons.mp nd).1 (List.of_mem_zip hv).1,if_neg hk]
  simp
 | p :: P,w :: vs,i+1,m,nd,h1,h2,hk=>by
  show bindC kindOf ((p,w) :: P.zip vs) m x=_
  unfold bindC
  exact bindC_get (i:=i) (List.nodup_cons.mp nd).2 (by simpa using h1) (by simpa using h2) hk
noncomputable def start (N:List Str) (vs:List V):St:=vs.map some++List.replicate (N.length - vs.length) none
noncomputable def cxOf (CX:CXT) (P:Program) (w:World) (K:PySem.W.Frag) (mg:Str→Option Value) (base:Heap) (N:List Str) (qual:Str) (scope:Scope) (f:Addr) (cd:Value) (A:Around) (outer:List Env) (s:Shared) (H:Hp) (E:XK):Cx where
 prog:=P
 w:=w
 K:=K
 mg:=mg
 base:=base
 A:=A.deeper (envOfC qual scope s.heap.objs.size f cd)
 N:=N
 s₀:=s
 H₀:=H
 env:=envOfC qual scope s.heap.objs.size f cd
 outer:=outer
 stack:=envOfC qual scope s.heap.objs.size f cd :: outer
 ex:=[]
 calm:=true
 fn:=fun _=>true
 pn:=[]
 xe:=fun e s'=>wpAny (model P w) (A.deeper (envOfC qual scope s.heap.objs.size f cd)) (leaving (envOfC qual scope s.heap.objs.size f cd) e) (fun _ s''=>CX outer H s E e s'') (fun e' s''=>CX outer H s E e' s'') s'
theorem cell_has {sc:Scope} {n:Nat} {x:Str} (h:sc.names.lookup x=some .cell):∃ c,(cellsFrom n sc.names []).lookup x=some c:=by
 have q:=PySem.W.cellsFrom_some sc.names n [] (.inl h)
 exact Option.isSome_iff_exists.mp q
theorem inv_start {CX:CXT} {P:Program} {w:World} {K:PySem.W.Frag} {mg:Str→Option Value} {base:Heap} {N ps:List Str} {qual:Str} {scope:Scope} {f:Addr} {cd:Value} {A:Around} {outer:List Env} {s s1:Shared} {H:Hp} {E:XK} {us:List Value} {vs:List V}
 (S:FnScope N ps scope) (hd:A.handled=none) (e0:Env0 P w K mg base A outer s H) (hl:vs.length=ps.length) (r:Vals vs us)
 (x:InCallC s s.heap.objs.size (bindL (envOfC qual scope s.heap.objs.size f cd).kindOf (ps.zip us) fun _=>none) (cellsFrom (s.heap.objs.size+1) scope.names []) (bindC (envOfC qual scope s.heap.objs.size f cd).kindOf (ps.zip us) fun _=>none) s1) :
 Inv (cxOf CX P w K mg base N qual scope f cd A outer s H E) [] (start N vs) H s1:=by
 have hpl:ps.length≤N.length:=by have:=congrArg List.length S.pre;rw[List.length_take]at this;omega
 obtain⟨h1,tk,rfl,hk⟩:=x.done
 have noA:∀ b:Addr,b∉(cxOf CX P w K mg base N qual scope f cd A outer s H E).ex:=fun b z=>absurd (show b∈([]:List Addr) from z) (by simp)
 refine⟨⟨e0.mod,S.kind,rfl,rfl,Nat.le_refl _,fun y z c h1 h2=>?_,fun y hy=>?_,fun y c _ h=>?_,fun _=>hd,Around.frames_deeper e0.frames,.inr ⟨rfl,rfl⟩,fun b z=>absurd z (noA b),e0.bs,e0.bsz,fun b _ _=>noA b,fun b z=>absurd z (noA b),e0.funs,e0.frf⟩,
  rfl,e0.bare,Un.kept hk,⟨_,x.toInCall.ns,fun i y v h1 h2 h3=>?_⟩,fun y c h=>⟨_,x.cell y c h⟩,e0.hok.fresh (Nat.le_refl _),fun y c h=>?_,fun p hp=>absurd (show p∈([]:List (Addr×Obj)) from hp) (by simp),e0.hok.kept hk,?_⟩
 ·exact name_of_addr x.apart (PySem.mem_of_lookup h1) (PySem.mem_of_lookup h2)
 ·have hy:scope.names.lookup y=some .cell∨scope.names.lookup y=some .free:=hy
  rcases hy with hy | hy
  ·exact cell_has hy
  ·exact absurd rfl (S.nofree _ (PySem.mem_of_lookup hy))
 ·exact Nat.le_of_lt (x.above y c (PySem.mem_of_lookup h))
 ·have hi:i<vs.length:=by
   unfold start at h2
   by_cases hi:i<vs.length
   ·exact hi
   ·rw[List.getElem?_append_right (by simpa using hi)]at h2
    rw[List.getElem?_replicate]at h2
    split at h2 <;> cases h2
  have ha:vs[i]?=some v:=by
   unfold start at h2
   rw[List.getElem?_append_left (by simpa using hi),List.getElem?_map]at h2
   cases e:vs[i]? with
   | none=>rw[e]at h2;cases h2
   | some a=>rw[e]at h2;cases h2;rfl
  obtain⟨u,hu,rv⟩:=r.get ha
  have hp:ps[i]?=some y:=by
   rw[← S.pre,List.getElem?_take_of_lt (by omega)];exact h1
  have ndP:ps.Nodup:=by rw[← S.pre];exact S.nd.sublist (List.take_sublist _ _)
  refine⟨u,rv,?_⟩
  rcases S.par y (List.mem_of_getElem? hp)with k | k
  ·exact .inl ⟨k,bindL_get ndP hp hu k⟩
  ·obtain⟨c,e⟩:=cell_has (n:=s.heap.objs.size+1) k
   refine .inr ⟨.inl k,c,e,?_⟩
   have q:=x.cell y c e
   rw[bindC_get ndP hp hu (by show scope.names.lookup y≠_;rw[k];decide)]at q
   exact q
 ·exact e0.hok.fresh (Nat.le_of_lt (x.above y c (PySem.mem_of_lookup h)))
 ·unfold start
  show _=N.length
  rw[List.length_append,List.length_map,List.length_replicate]
  omega
theorem fn_of {CX:CXT} {P:Program} {w:World} {K:PySem.W.Frag} {mg:Str→Option Value} {base:Heap} {k:Nat} {f:Addr} {name qual:Str} {params:Arguments} {body:List Stmt} {scope:Scope} {dV kV doc pm cdv ct oc:Value} {an od:Option Addr}
 {osl:Array (Option Value)} {N ps:List Str} {sp:Sp} (lk:K.lookup f=some ⟨oc,od,.func (PySem.W.fnOf name qual params body scope dV kV doc pm an cdv ct),osl⟩) (hcd:PySem.W.codeIn K cdv qual=true) (S:FnScope N ps scope)
 (len:∀ vs H Q E,sp vs H Q E→vs.length=ps.length)
 (hbody:∀ (A:Around) (outer:List Env) (s:Shared) (H:Hp) (vs:List V) (Q:VK) (E:XK),Room k (A.deeper (envOfC qual scope s.heap.objs.size f cdv))→sp vs H Q E →
  ∃ t,PSs (cxOf CX P w K mg base N qual scope f cdv A outer s H E) body t∧t { nx:=fun _ H'=>Q .non H',rt:=Q } (start N vs) H) :
 FnOk P w K mg base CX (k+1) f (PySem.W.fnOf name qual params body scope dV kV doc pm an cdv ct) ps sp:=by
 refine⟨len,fun A outer s H args us vs Q E hr e0 hb r hsp=>?_⟩
 have hl:=len _ _ _ _ hsp
 have KX:K.In s.heap:=e0.mod.kin.keeps fun b o e=>(e0.bs b o e).1
 have lim:s.heap.NoLimit:=e0.mod.nolimit.keeps fun b o e=>(e0.bs b o e).1
 have hkind:∀ y∈ps.zip us,scope.names.lookup y.1=some .local∨(scope.names.lookup y.1=some .cell∧((cellsFrom (s.heap.objs.size+1) scope.names []).lookup y.1).isSome=true):=fun⟨n,v⟩ hy=>by
  rcases S.par n (List.of_mem_zip hy).1 with q | q
  ·exact .inl q
  ·exact .inr ⟨q,PySem.W.cellsFrom_some _ _ _ (.inl q)⟩
 refine codeAny_call_function hr.depth (KX _ _ lk) rfl S.co S.gen rfl (PySem.W.codeRec_of KX hcd) (hb _ _ _ _ ?_)
 refine wpAny_newFunctionEnv_cells S.kind hkind fun env he s1 x=>?_
 subst he
 refine⟨lim.keeps x.toInCall.keep,codeAny_func ?_⟩
 obtain⟨t,ht,hq⟩:=hbody A outer s H vs Q E (hr.deeper _) hsp
 have I:Inv (cxOf CX P w K mg base N qual scope f cdv A outer s H E) [] (start N vs) H s1:=inv_start S hr.hd e0 hl r x
 refine wpAny_mono (ht [] s1 (start N vs) H _ I hq) (fun fl s' hs=>?_) fun e s' hs=>hs
 have fin:∀ {σ':St} {H':Hp} {v:V} {u:Value},Inv (cxOf CX P w K mg base N qual scope f cdv A outer s H E) [] σ' H' s'→RelV v u→Q v H'→CE outer P w H s Q u s' :=
  fun {σ' H' v u} J rv q=>⟨v,H',J.os,J.bare,J.base,J.hok,rv,q⟩
 cases fl with
 | ret u =>
  obtain⟨v,σ',H',J,rv,q⟩:=hs
  exact fin J rv q
 | next =>
  obtain⟨σ',H',J,q⟩:=hs
  exact fin (v:=V.non) (u:=Value.none) J rfl q
 | brk =>
  obtain⟨_,_,_,q⟩:=hs
  exact False.elim q
 | cont =>
  obtain⟨_,_,_,q⟩:=hs
  exact False.elim q
end L2
namespace L2
open PySem PySem.Spec PyProof.Rows
section
variable {X:Cx} {x:Str} {p pos:Pos} {e:Expr} {es:List Expr} {t:TA} {id T:String} {r:List V→Hp→VK→Prop}
noncomputable def tCB (r:List V→Hp→VK→Prop) (t:TA):TE:=fun σ H Q=>t σ H fun vs H1=>r vs H1 Q
theorem pe_callB (hc:CallR X (.builtin id) r) (hg:Gl X x) (hm:X.mg x=none) (hv:bootBuiltins x=some (.builtin id)) (ha:PA X (e :: es) t) (hn:x≠"__name__":=by decide) (hdb:(x == ("__debug__":Str))=false:=by decide)
 (he:starEach (e :: es) X.env=(false,eval e X.env) :: starEach es X.env:=by rfl) (hpl:(backTo pos (starEach es X.env)).any (·.1)=false:=by rfl):PE X (.Call (.Name x p) (e :: es) [] pos) (tCB r t):=by
 intro pins s σ H Q I h
 refine wpAny_Call_Name_kw (ld_blt I hg hm hv ?_ hn hdb)
 exact PyProof.Rows.callWith_builtin1 (thn (ha pos pins s σ H _ I h) fun us s1 ⟨vs,H1,I1,r1,q1⟩=>hc pins s1 σ H1 vs us Q I1 r1 q1) he hpl
theorem pe_callTy (hc:CallR X (.type T) r) (hg:Gl X x) (hm:X.mg x=none) (hv:bootBuiltins x=some (.type T)) (ha:PA X (e :: es) t) (hn:x≠"__name__":=by decide) (hdb:(x == ("__debug__":Str))=false:=by decide)
 (he:starEach (e :: es) X.env=(false,eval e X.env) :: starEach es X.env:=by rfl) (hpl:(backTo pos (starEach es X.env)).any (·.1)=false:=by rfl):PE X (.Call (.Name x p) (e :: es) [] pos) (tCB r t):=by
 intro pins s σ H Q I h
 refine wpAny_Call_Name_kw (ld_blt I hg hm hv ?_ hn hdb)
 exact PyProof.Rows.callWith_type1 (thn (ha pos pins s σ H _ I h) fun us s1 ⟨vs,H1,I1,r1,q1⟩=>hc pins s1 σ H1 vs us Q I1 r1 q1) he hpl
end
end L2
namespace HT
open PySem PyProof.Rows
theorem eqAt_int (A:Around) (s:Shared) (a:Int) (t:Tok) (c:Int) (u:Tok):∃ e,SeqAt.EqAt A s (.int a t) (.int c u) e∧(e=true↔a=c) :=
 ⟨(a == c),SeqAt.EqAt.int_int a t c u,by simp⟩
section
open PySem.SeqAt
open PySem.AutoSeq1 (wpAny_loadPart')
open PySem.MeetsSeq PySem.MeetsSeq2 PySem.MeetsSeq3
end
section
variable {prog:Program} {w:World} {A:Around} {E:Value→Shared→Prop} {s:Shared}
noncomputable def sIx (n d:Nat):Option Int→Nat
 | none=>d
 | some v=>if v<0 then (v+(n:Int)).toNat else min v.toNat n
theorem sIx_none (n d:Nat):sIx n d none=d:=rfl
theorem sIx_nat (n d k:Nat):sIx n d (some (k:Int))=min k n:=by
 show (if (k:Int)<0 then ((k:Int)+(n:Int)).toNat else min (k:Int).toNat n)=min k n
 rw[if_neg (by omega),Int.toNat_natCast]
end
end HT
namespace L2
open PySem PySem.Spec PyProof.Rows
noncomputable abbrev TO:=St→Hp→(Option Int→Hp→Prop)→Prop
noncomputable def PO (X:Cx) (e:Option Expr) (t:TO):Prop :=
 ∀ (pins:List (Addr×Obj)) (s:Shared) (σ:St) (H:Hp) (Q:Option Int→Hp→Prop),Inv X pins σ H s→t σ H Q →
  wpAny (model X.prog X.w) X.A (evalPart e X.env) (fun u s'=>∃ o H',Inv X pins σ H' s'∧IsPart u o∧Q o H') X.xe s
noncomputable def tNoPart:TO:=fun _ H Q=>Q none H
noncomputable def tPart (t:TE):TO:=fun σ H Q=>t σ H fun x H1=>∃ i,x=.int i∧Q (some i) H1
theorem intsAre_of {ns:List Int}:∀ {us:List Value},Vals (ns.map V.int) us→IntsAre us ns:=by
 induction ns with
 | nil=>intro us r;rw[List.map_nil]at r;cases r;exact .nil
 | cons n ns ih =>
  intro us r
  rw[List.map_cons]at r
  cases r with
  | cons r1 r2 =>
   obtain⟨t,e⟩:=r1
   subst e
   exact .cons n t (ih r2)
section
variable {X:Cx} {e:Expr} {te:TE} {lo hi:Option Expr} {tl th:TO} {pos p2:Pos}
theorem po_none:PO X none tNoPart:=by
 intro pins s σ H Q I h
 rw[evalPart_none]
 exact wpAny_pure ⟨none,H,I,.none,h⟩
theorem po_some (h:PE X e te):PO X (some e) (tPart te):=by
 intro pins s σ H Q I hw
 rw[evalPart_some]
 refine thn (h pins s σ H _ I hw) fun u s1 ⟨x,H1,I1,r1,q1⟩=>?_
 obtain⟨i,rfl,q⟩:=q1
 obtain⟨t,rfl⟩:=r1
 exact⟨some i,H1,I1,.int i t,q⟩
noncomputable def SlR (X:Cx) (r:V→Option Int→Option Int→Hp→VK→Prop):Prop :=
 ∀ (pins:List (Addr×Obj)) (s:Shared) (σ:St) (H:Hp) (x:V) (v vl vu:Value) (lo hi:Option Int) (sl:Addr) (Q:VK),Inv X pins σ H s→RelV x v→s.heap.IsSliceOf sl vl vu .none→IsPart vl lo→IsPart vu hi→r x lo hi H Q →
  ∃ T id,typeLookup (.type T) "__getitem__"=pure (some (.builtin id))∧s.TypeIs v T∧wpAny (model X.prog X.w) X.A (getItem v (.ref sl)) (EP X pins σ Q) X.xe s
noncomputable def tSl (r:V→Option Int→Option Int→Hp→VK→Prop) (te:TE) (tl th:TO):TE:=fun σ H Q=>te σ H fun x H1=>tl σ H1 fun l H2=>th σ H2 fun u H3=>r x l u H3 Q
theorem pe_slice {r:V→Option Int→Option Int→Hp→VK→Prop} (hr:SlR X r) (he:PE X e te) (hl:PO X lo tl) (hu:PO X hi th):PE X (.Subscript e (.Slice lo hi none p2) pos) (tSl r te tl th):=by
 intro pins s σ H Q I h
 refine Subscript_ (thn (he pins s σ H _ I h) fun v s1 ⟨x,H1,I1,r1,q1⟩=>?_)
 refine wpAny_Slice (thn (hl pins s1 σ H1 _ I1 q1) fun vl s2 ⟨l,H2,I2,pl,q2⟩=>thn (hu pins s2 σ H2 _ I2 q2) fun vu s3 ⟨u,H3,I3,pu,q3⟩=>?_)
 rw[evalPart_none]
 refine wpAny_pure ?_
 have I4:Inv X pins σ H3 { s3 with heap:=s3.heap.push { cls:=.type "slice",data:=.fields #[vl,vu,.none] } }:=I3.kept (t':=s3.toks) fun b ob q=>Heap.get?_push_of_some _ q
 obtain⟨T,id,hT,ht,hg⟩:=hr pins { s3 with heap:=s3.heap.push { cls:=.type "slice",data:=.fields #[vl,vu,.none] } } σ H3 x v vl vu l u s3.heap.objs.size Q I4 r1 (Heap.IsSliceOf.new ..) pl pu q3
 show wpAny (model X.prog X.w) X.A (subscriptTail e (.Slice lo hi none p2) v (.ref s3.heap.objs.size)) (EP X pins σ Q) X.xe { s3 with heap:=s3.heap.push { cls:=.type "slice",data:=.fields #[vl,vu,.none] } }
 exact tail_any (ops:=[.ref s3.heap.objs.size,v]) ht hT hg (by with_unfolding_all rfl)
noncomputable def cutV (xs:List V) (lo hi:Option Int):List V:=(xs.drop (HT.sIx xs.length 0 lo)).take (HT.sIx xs.length xs.length hi - HT.sIx xs.length 0 lo)
theorem cutV_length (xs:List V) (lo hi:Option Int):(cutV xs lo hi).length≤xs.length:=by
 unfold cutV
 rw[List.length_take,List.length_drop]
 omega
end
end L2
namespace L2
open PySem PySem.Spec PyProof.Rows
noncomputable def ixN (n:Nat) (i:Int):Option Nat:=if 0≤i then (if i<n then some i.toNat else none)else if -(n:Int)≤i then some (i+n).toNat else none
noncomputable def atI {α:Type} (xs:List α) (i:Int):Option α:=(ixN xs.length i).bind fun j=>xs[j]?
theorem ixN_seq {n:Nat} {i:Int} {j:Nat} (h:ixN n i=some j):seqIndex? i n=some j∧j<n∧-(n:Int)≤i∧i<n:=by
 unfold ixN at h
 by_cases h0:0≤i
 ·rw[if_pos h0]at h
  by_cases h1:i<n
  ·rw[if_pos h1]at h
   have e:i.toNat=j:=Option.some.inj h
   exact⟨by rw[seqIndex_of h0 h1,e],by omega,by omega,h1⟩
  ·rw[if_neg h1]at h;cases h
 ·rw[if_neg h0]at h
  by_cases h1:-(n:Int)≤i
  ·rw[if_pos h1]at h
   have e:(i+n).toNat=j:=Option.some.inj h
   exact⟨by rw[seqIndex_neg (by omega) h1,e],by omega,h1,by omega⟩
  ·rw[if_neg h1]at h;cases h
theorem atI_get {α:Type} {xs:List α} {i:Int} {v:α} (h:atI xs i=some v):∃ j,seqIndex? i xs.length=some j∧xs[j]?=some v∧j<xs.length∧-(xs.length:Int)≤i∧i<xs.length:=by
 unfold atI at h
 cases e:ixN xs.length i with
 | none=>rw[e]at h;cases h
 | some j =>
  rw[e]at h
  obtain⟨h1,h2,h3,h4⟩:=ixN_seq e
  exact⟨j,h1,h,h2,h3,h4⟩
theorem atI_nat {α:Type} {xs:List α} {j:Nat} {v:α} (h:xs[j]?=some v):atI xs (j:Int)=some v:=by
 have hj:j<xs.length:=(List.getElem?_eq_some_iff.mp h).1
 have e:ixN xs.length (j:Int)=some j:=by
  unfold ixN
  rw[if_pos (by omega),if_pos (by omega)];simp
 unfold atI;rw[e];exact h
theorem atI_last {α:Type} (xs:List α) (v:α):atI (xs++[v]) (-1)=some v:=by
 have hl:(xs++[v]).length=xs.length+1:=by simp
 have e:ixN (xs++[v]).length (-1)=some xs.length:=by
  unfold ixN
  rw[hl,if_neg (by decide),if_pos (by omega)]
  congr 1
  omega
 unfold atI
 rw[e]
 show (xs++[v])[xs.length]?=some v
 simp
noncomputable def PlainIx (b:Expr):Prop:=∀ o i,subscripted b false o i=operate [o,i] (getItem o i)
noncomputable def IxR (X:Cx) (r:R2):Prop :=
 ∀ (value slice:Expr) (pins:List (Addr×Obj)) (s:Shared) (σ:St) (H:Hp) (x y:V) (v u:Value) (Q:VK),Inv X pins σ H s→RelV x v→RelV y u→r x y H Q →
  subscripted slice false v u=operate [v,u] (getItem v u)→wpAny (model X.prog X.w) X.A (subscriptTail value slice v u) (EP X pins σ Q) X.xe s
noncomputable def MtR (X:Cx) (id:String) (r:V→List V→Hp→VK→Prop):Prop :=
 ∀ (pins:List (Addr×Obj)) (s:Shared) (σ:St) (H:Hp) (x:V) (xs:List V) (v:Value) (us:List Value) (Q:VK),Inv X pins σ H s→RelV x v→Vals xs us→r x xs H Q →
  wpAny (model X.prog X.w) X.A (call (.builtin id) (v :: us)) (EP X pins σ Q) X.xe s
section
variable {X:Cx} {a b:Expr} {ta tb:TE} {pos:Pos}
theorem IxR.or {r r':R2} (h:IxR X r) (h':IxR X r'):IxR X (fun x y H Q=>r x y H Q∨r' x y H Q):=by
 intro value slice pins s σ H x y v u Q I rx ry q hs
 rcases q with q | q
 ·exact h value slice pins s σ H x y v u Q I rx ry q hs
 ·exact h' value slice pins s σ H x y v u Q I rx ry q hs
theorem pe_ix {r:R2} (hr:IxR X r) (ha:PE X a ta) (hb:PE X b tb) (hs:PlainIx b):PE X (.Subscript a b pos) (tOp r ta tb):=by
 intro pins s σ H Q I h
 exact Subscript_ (binT ha hb I h fun v u s2 x y H2 I2 rx ry q=>hr a b pins s2 σ H2 x y v u Q I2 rx ry q (hs _ _))
noncomputable def rIxL (K:PySem.W.Frag):R2:=fun x y H Q=>∃ p xs i v,x=.ref p∧y=.int i∧SqL K H p xs∧atI xs i=some v∧Q v H
noncomputable def rIxT (K:PySem.W.Frag):R2:=fun x y H Q=>∃ p xs i v,x=.ref p∧y=.int i∧SqT K H p xs∧atI xs i=some v∧Q v H
noncomputable def rIxS:R2:=fun x y H Q=>∃ z i c,x=.str z∧y=.int i∧z.length≤sizeLine∧atI z.cps.toList i=some c∧Q (.str ⟨#[c]⟩) H
theorem ix_list:IxR X (rIxL X.K):=by
 intro value slice pins s σ H x y v u Q I rx ry h hs
 obtain⟨p,xs,i,z,rfl,rfl,hq,he,q⟩:=h
 cases rx
 obtain⟨t,rfl⟩:=ry
 obtain⟨its,r,pl,hz⟩:=I.list hq
 obtain⟨j,h1,h2,h3,h4,h5⟩:=atI_get he
 obtain⟨w,ew,rw'⟩:=r.get h2
 have hl:=r.length
 have hn:=line63
 have fin:EP X pins σ Q w s:=⟨z,H,I,rw',q⟩
 by_cases h0:0≤i
 ·have hj:i.toNat=j:=by
   rw[seqIndex_of h0 h5]at h1
   exact Option.some.inj h1
  exact item_listR pl.isList h0 (by omega) (by rw[hj];simpa using ew) fin hs
 ·have hj:(i+(its.toArray.size:Int)).toNat=j:=by
   rw[seqIndex_neg (by omega) h4]at h1
   rw[List.size_toArray,← hl]
   exact Option.some.inj h1
  exact subscriptTail_builtinR (x:=w) pl.isList.typeIs slot_list_getitem.lookup
   (wpAny_getItem_list_neg (Q:=fun r s'=>r=w∧EP X pins σ Q r s') pl.isList (by omega) (by rw[List.size_toArray] <;> omega) (by omega) (by rw[hj];simpa using ew) ⟨rfl,fin⟩) hs
theorem ix_tup:IxR X (rIxT X.K):=by
 intro value slice pins s σ H x y v u Q I rx ry h hs
 obtain⟨p,xs,i,z,rfl,rfl,hq,he,q⟩:=h
 cases rx
 obtain⟨t,rfl⟩:=ry
 obtain⟨its,r,pl,hz⟩:=I.tuple hq
 obtain⟨j,h1,h2,h3,h4,h5⟩:=atI_get he
 obtain⟨w,ew,rw'⟩:=r.get h2
 have hl:=r.length
 have hn:=line63
 have fin:EP X pins σ Q w s:=⟨z,H,I,rw',q⟩
 exact subscriptTail_builtinR (x:=w) pl.typeIs slot_tuple_getitem.lookup
  (getItem_tuple (j:=j) (Q:=fun r s'=>r=w∧EP X pins σ Q r s') pl (by omega) (by omega) (by rw[List.size_toArray,← hl];exact h1) (by simpa using ew) ⟨rfl,fin⟩) hs
theorem ix_str:IxR X rIxS:=by
 intro value slice pins s σ H x y v u Q I rx ry h hs
 obtain⟨z,i,c,rfl,rfl,hz,he,q⟩:=h
 obtain⟨t,rfl⟩:=rx
 obtain⟨t',rfl⟩:=ry
 obtain⟨j,h1,h2,h3,h4,h5⟩:=atI_get he
 have hl:z.cps.toList.length=z.length:=by simp[Str.length]
 rw[hl]at h1 h4 h5
 have hn:=line63
 exact tail_any (typeIs_str s z t) slot_str_getitem.lookup (getItem_str (c:=c) (by
  have e1:decide (i < -(2 ^ 63:Int))=false:=decide_eq_false (by omega)
  have e2:decide (i≥2 ^ 63)=false:=decide_eq_false (by omega)
  rw[e1,e2,Bool.or_false]) (by rw[h1];simpa using h2) ⟨.str ⟨#[c]⟩,H,I.tok _,⟨_,rfl⟩,q⟩) hs
noncomputable def rIx (K:PySem.W.Frag):R2:=fun x y H Q=>rIxL K x y H Q∨rIxT K x y H Q∨rIxS x y H Q
theorem ix_seq:IxR X (rIx X.K):=ix_list.or (ix_tup.or ix_str)
theorem mapSeq_set (its:List Value) (n j:Nat) (u:Value):Obj.mapSeq (·.setIfInBounds j u) { cls:=.type "list",data:=.seq its.toArray n }={ cls:=.type "list",data:=.seq (its.set j u).toArray n }:=by
 simp[Obj.mapSeq]
theorem Inv.lst {pins:List (Addr×Obj)} {σ:St} {H:Hp} {s:Shared} {p:Addr} {xs:List V} (I:Inv X pins σ H s) (h:H p=some (.lst xs)) :
 ∃ (its:List Value) (n:Nat),Vals xs its∧s.heap.get? p=some { cls:=.type "list",data:=.seq its.toArray n }∧xs.length≤sizeLine:=by
 obtain⟨z,its,n,r,e⟩:=I.hok p _ h
 exact⟨its,n,r,e,z⟩
theorem Inv.lstUpd {pins:List (Addr×Obj)} {σ:St} {H:Hp} {s:Shared} {p:Addr} {xs ys:List V} {its its':List Value} {n n':Nat} {f:Obj→Obj} (I:Inv X pins σ H s) (h:H p=some (.lst xs))
 (ho:s.heap.get? p=some { cls:=.type "list",data:=.seq its.toArray n }) (hf:f { cls:=.type "list",data:=.seq its.toArray n }={ cls:=.type "list",data:=.seq its'.toArray n' }) (r:Vals ys its') (hz:ys.length≤sizeLine) (t:Nat) :
 Inv X pins σ (upd H p (.lst ys)) { s with heap:=s.heap.update p f,toks:=t }:=by
 have e:(s.heap.update p f).get? p=some { cls:=.type "list",data:=.seq its'.toArray n' }:=by
  rw[Heap.get?_update_self f ho (by rw[hf] <;> rfl),hf]
 refine I.write (x:=p) (e:=p) (by rw[h];trivial) (.inl rfl) (fun b u hb q=>(Heap.get?_update_other _ _ (Ne.symm hb)).trans q) ⟨_,e⟩ ?_
 exact⟨hz,its',n',r,e⟩
noncomputable def rSetL:V→V→V→Hp→(Hp→Prop)→Prop:=fun o i v H Q=>∃ p xs k j,o=.ref p∧i=.int k∧H p=some (.lst xs)∧ixN xs.length k=some j∧Q (upd H p (.lst (xs.set j v)))
theorem set_list:PSet X rSetL:=by
 intro pins s σ H o i v ov iv u Q I ro ri rv h
 obtain⟨p,xs,k,j,rfl,rfl,hp,hj,q⟩:=h
 cases ro
 obtain⟨t,rfl⟩:=ri
 obtain⟨its,n,r,ho,hz⟩:=I.lst hp
 obtain⟨h1,h2,h3,h4⟩:=ixN_seq hj
 have hl:=r.length
 have hn:=line63
 have I':Inv X pins σ (upd H p (.lst (xs.set j v))) { s with heap:=s.heap.update p (Obj.mapSeq (·.setIfInBounds j u)) } :=
  I.lstUpd hp ho (mapSeq_set its n j u) (r.set rv j) (by rw[List.length_set];exact hz) s.toks
 by_cases h0:0≤k
 ·have hk:k.toNat=j:=by
   rw[seqIndex_of h0 h4]at h1
   exact Option.some.inj h1
  exact PySem.W.ki_setAt ho h0 (by omega) (by rw[List.size_toArray,← hl];exact h4) (by rw[hk];exact⟨_,I',q⟩)
 ·have hk:(k+(its.toArray.size:Int)).toNat=j:=by
   rw[seqIndex_neg (by omega) h3]at h1
   rw[List.size_toArray,← hl]
   exact Option.some.inj h1
  exact PySem.W.ki_setBack ho (by omega) (by rw[List.size_toArray,← hl];exact h3) (by omega) (by rw[hk];exact⟨_,I',q⟩)
theorem slice_bounds (lo hi:Option Int) (n:Nat):(sliceBounds lo hi none n).1=((HT.sIx n 0 lo:Nat):Int)∧(sliceBounds lo hi none n).2.1=((HT.sIx n n hi:Nat):Int)∧(sliceBounds lo hi none n).2.2=1:=by
 refine⟨?_,?_,rfl⟩
 ·cases lo with
  | none=>simp[sliceBounds,HT.sIx]
  | some i =>
   simp only[sliceBounds,HT.sIx,Option.getD_none,show (1:Int) > 0 by decide,if_true]
   by_cases h:i<0
   ·simp only[h,if_true] <;> omega
   ·simp only[h,if_false] <;> omega
 ·cases hi with
  | none=>simp[sliceBounds,HT.sIx]
  | some i =>
   simp only[sliceBounds,HT.sIx,Option.getD_none,show (1:Int) > 0 by decide,if_true]
   by_cases h:i<0
   ·simp only[h,if_true] <;> omega
   ·simp only[h,if_false] <;> omega
theorem slicePick_cut (its:List Value) (lo hi:Option Int):slicePick its.toArray lo hi none=((its.drop (HT.sIx its.length 0 lo)).take (HT.sIx its.length its.length hi - HT.sIx its.length 0 lo)).toArray:=by
 obtain⟨h1,h2,h3⟩:=slice_bounds lo hi its.toArray.size
 unfold slicePick
 rw[h1,h2,h3]
 simp only[sliceRange_one,pick_run,List.size_toArray] <;> rfl
noncomputable def rSlL (K:PySem.W.Frag):V→Option Int→Option Int→Hp→VK→Prop:=fun x lo hi H Q=>∃ a xs,x=.ref a∧SqL K H a xs∧∀ p,H p=none→Q (.ref p) (upd H p (.lst (cutV xs lo hi)))
theorem sl_list:SlR X (rSlL X.K):=by
 intro pins s σ H x v vl vu lo hi sl Q I rx hs pl pu h
 obtain⟨a,xs,rfl,hx,q⟩:=h
 cases rx
 obtain⟨its,r,ht,hz⟩:=I.list hx
 have hlen:=r.length
 refine⟨"list",_,slot_list_getitem.lookup,ht.isList.typeIs,?_⟩
 refine wpAny_getItem_list_slice ht.isList hs pl pu .none (by simp) ?_ (by rw[List.size_toArray] <;> omega)
 rw[slicePick_cut,← hlen]
 refine⟨.ref s.heap.objs.size,_,I.laid (t':=s.toks) (o:=.lst (cutV xs lo hi)) (fun b ob q=>Heap.get?_push_of_some _ q) (Nat.le_refl _) ?_,rfl,q _ (I.hok.fresh (Nat.le_refl _))⟩
 exact⟨Nat.le_trans (cutV_length xs lo hi) hz,_,0,(r.drop (HT.sIx xs.length 0 lo)).take (HT.sIx xs.length xs.length hi - HT.sIx xs.length 0 lo),Heap.get?_push_size _ rfl⟩
theorem call_len_seq:CallR X (.builtin "len") (fun xs H Q=>∃ p ys,xs=[.ref p]∧(SqL X.K H p ys∨SqT X.K H p ys)∧Q (.int ys.length) H):=by
 intro pins s σ H xs us Q I r h
 obtain⟨p,ys,rfl,hq,q⟩:=h
 obtain⟨u,rfl,rx⟩:=vals1 r
 cases rx
 have hn:=line63
 rcases hq with hq | hq
 ·obtain⟨its,r',pl,hz⟩:=I.list hq
  have hlen:=r'.length
  exact Calls.call_len_list pl.isList (by simp only[List.size_toArray] <;> omega) ⟨.int ys.length,H,I.tok _,⟨s.toks+1,by rw[List.size_toArray,hlen]⟩,q⟩
 ·obtain⟨its,r',pl,hz⟩:=I.tuple hq
  have hlen:=r'.length
  exact len_tuple pl (by simp only[List.size_toArray] <;> omega) ⟨.int ys.length,H,I.tok _,⟨s.toks+1,by rw[List.size_toArray,hlen]⟩,q⟩
theorem call_list_of:CallR X (.type "list") (fun xs H Q=>∃ p ys,xs=[.ref p]∧(SqL X.K H p ys∨SqT X.K H p ys)∧∀ l,H l=none→Q (.ref l) (upd H l (.lst ys))):=by
 intro pins s σ H xs us Q I r h
 obtain⟨p,ys,rfl,hq,q⟩:=h
 obtain⟨u,rfl,rx⟩:=vals1 r
 cases rx
 have fin:∀ (its:List Value),Vals ys its→ys.length≤sizeLine→∀ (h':Heap) (c':Nat),(∀ b o',s.heap.get? b=some o'→h'.get? b=some o') →
  h'.get? s.heap.objs.size=some { cls:=.type "list",dict:=none,data:=.seq its.toArray c',slots:=#[] }→EP X pins σ Q (.ref s.heap.objs.size) { s with heap:=h' }:=fun its r' hz h' c' kp e =>
  ⟨.ref s.heap.objs.size,_,I.laid (t':=s.toks) kp (Nat.le_refl _) (show ObjOk X.prog X.w _ h' _ (.lst ys) from ⟨hz,its,c',r',e⟩),rfl,q _ (I.hok.fresh (Nat.le_refl _))⟩
 rcases hq with hq | hq
 ·obtain⟨its,r',pl,hz⟩:=I.list hq
  have hlen:=r'.length
  obtain⟨o,ho,hc,n,hd⟩:=pl.isList
  exact call_list_seq p (.inl rfl) ho hc hd (fun h' c' kp e=>fin its r' hz h' c' kp e) (by simp only[List.size_toArray] <;> omega)
 ·obtain⟨its,r',pl,hz⟩:=I.tuple hq
  have hlen:=r'.length
  obtain⟨o,ho,hc,n,hd⟩:=pl
  exact call_list_seq p (.inr rfl) ho hc hd (fun h' c' kp e=>fin its r' hz h' c' kp e) (by simp only[List.size_toArray] <;> omega)
noncomputable def tyV (K:PySem.W.Frag) (T:String) (x:V) (H:Hp):Prop:=match x with
 | .str _=>T="str"
 | .int _=>T="int"
 | .ref p=>(T="list"∧∃ xs,SqL K H p xs)∨(T="tuple"∧∃ o,K.lookup p=some o∧o.cls=.type "tuple"∧o.dict=none) ∨
  (T="dict"∧((∃ kvs,H p=some (.dK kvs))∨∃ kvs,H p=some (.dT kvs)))∨(T="set"∧∃ S n,H p=some (.set S n))
 | _=>False
theorem tyV_is {pins:List (Addr×Obj)} {σ:St} {H:Hp} {s:Shared} {T:String} {x:V} {v:Value} (I:Inv X pins σ H s) (r:RelV x v) (ty:tyV X.K T x H) :
 s.TypeIs v T∧∀ a,v=.ref a→∃ ob,s.heap.get? a=some ob∧ob.dict=none:=by
 cases x with
 | str z =>
  obtain⟨t,rfl⟩:=r
  cases (show T="str" from ty)
  exact⟨typeIs_str s z t,fun _ e=>nomatch e⟩
 | int i =>
  obtain⟨t,rfl⟩:=r
  cases (show T="int" from ty)
  exact⟨typeIs_int s i t,fun _ e=>nomatch e⟩
 | ref p =>
  cases r
  rcases ty with ⟨rfl,xs,hq⟩ | ⟨rfl,o,hk,hc,hd⟩ | ⟨rfl,hk⟩ | ⟨rfl,S,n,hk⟩
  ·obtain⟨its,_,pl,_⟩:=I.list hq
   refine⟨pl.isList.typeIs,fun a e=>?_⟩
   cases e
   obtain⟨o,n,e,c,hd,_⟩:=pl
   exact⟨o,e,hd⟩
  ·refine⟨⟨o,I.kIn p o hk,hc⟩,fun a e=>?_⟩
   cases e
   exact⟨o,I.kIn _ o hk,hd⟩
  ·have z:∃ o,s.heap.get? p=some o∧o.ExactDict:=by
    rcases hk with ⟨kvs,hk⟩ | ⟨kvs,hk⟩
    ·obtain⟨_,_,_,_,o,_,_,e,ex,_⟩:=I.hok p _ hk
     exact⟨o,e,ex⟩
    ·obtain⟨_,_,_,_,o,_,_,e,ex,_⟩:=I.hok p _ hk
     exact⟨o,e,ex⟩
   obtain⟨o,e,ex⟩:=z
   refine⟨⟨o,e,ex.1⟩,fun a e2=>?_⟩
   cases e2
   exact⟨o,e,ex.2.1⟩
  ·obtain⟨o,_,_,_,e,ex,_⟩:=I.hok p _ hk
   refine⟨⟨o,e,ex.1⟩,fun a e2=>?_⟩
   cases e2
   exact⟨o,e,ex.2.1⟩
 | _=>exact False.elim ty
noncomputable def tBM0 (K:PySem.W.Frag) (T:String) (r:V→List V→Hp→VK→Prop) (to:TE):TE:=fun σ H Q=>to σ H fun x H1=>tyV K T x H1∧r x [] H1 Q
noncomputable def tBM (K:PySem.W.Frag) (T:String) (r:V→List V→Hp→VK→Prop) (to:TE) (t:TA):TE:=fun σ H Q=>to σ H fun x H1=>tyV K T x H1∧t σ H1 fun xs H2=>r x xs H2 Q
variable {o e:Expr} {es:List Expr} {to:TE} {t:TA} {name:Str} {apos cpos:Pos} {T id:String} {r:V→List V→Hp→VK→Prop}
theorem pe_bm0 (pa:PlainAttrs T) (slot:Slot T name id) (hty:typeOf (.builtin id)=pure (.type "method_descriptor")) (hm:MtR X id r) (ho:PE X o to)
 (hbase:attributeBase o name X.env (eval o X.env)=eval o X.env:=by rfl) (hline:(apos.endLine == cpos.line)=true:=by rfl):PE X (.Call (.Attribute o name apos) [] [] cpos) (tBM0 X.K T r to):=by
 intro pins s σ H Q I h
 refine wpAny_Call_method0_late hbase hline (thn (ho pins s σ H _ I h) fun v s1 ⟨x,H1,I1,r1,ty,q1⟩=>?_)
 obtain⟨h1,h2⟩:=tyV_is I1 r1 ty
 exact⟨T,id,pa,slot,hty,h1,h2,Calls.callWith_builtin rfl (PySem.evalArgs_none (hm pins s1 σ H1 x [] v [] Q I1 r1 .nil q1))⟩
theorem pe_bm (pa:PlainAttrs T) (slot:Slot T name id) (hty:typeOf (.builtin id)=pure (.type "method_descriptor")) (hm:MtR X id r) (ho:PE X o to) (ha:PA X (e :: es) t)
 (hbase:attributeBase o name X.env (eval o X.env)=eval o X.env:=by rfl)
 (hfew:((backTo cpos (starEach (e :: es) X.env)).all (fun x=>!x.1) && (backToKw cpos (keywordEach [] X.env)).all (fun x=>x.1.isSome)
  && decide ((e :: es).length+([]:List Keyword).length+(if ([]:List Keyword).isEmpty then 0 else 1)<30))=true:=by rfl)
 (hline:(apos.endLine == cpos.line)=true:=by rfl) (hs:starEach (e :: es) X.env=(false,eval e X.env) :: starEach es X.env:=by rfl) (hplain:(backTo cpos (starEach es X.env)).any (·.1)=false:=by rfl) :
 PE X (.Call (.Attribute o name apos) (e :: es) [] cpos) (tBM X.K T r to t):=by
 intro pins s σ H Q I h
 refine wpAny_Call_method_late hbase hfew hline rfl (thn (ho pins s σ H _ I h) fun v s1 ⟨x,H1,I1,r1,ty,q1⟩=>?_)
 obtain⟨h1,h2⟩:=tyV_is I1 r1 ty
 refine⟨T,id,pa,slot,hty,h1,h2,?_⟩
 have hA:=ha cpos pins s1 σ H1 _ I1 q1
 rw[hs]at hA ⊢
 refine Calls.callWith_builtin (by show (false || (backTo cpos (starEach es X.env)).any (·.1))=false;rw[hplain] <;> rfl) (Calls.evalArgs_plain ?_)
 exact thn hA fun us s2 ⟨vs,H2,I2,r2,q2⟩=>hm pins s2 σ H2 x vs v us Q I2 r1 r2 q2
/- xs.append(e),list.index on a module's tuple .. are MtR facts of 06m -/
end
end L2
namespace L2
open PySem PySem.Spec PyProof.Rows
noncomputable def MtM (X:Cx) (id:String) (r:V→List V→Hp→VK→Prop):Prop :=
 ∀ (pins:List (Addr×Obj)) (s:Shared) (σ:St) (H:Hp) (x:V) (xs:List V) (v:Value) (us:List Value) (Q:VK),Inv X pins σ H s→RelV x v→Vals xs us→r x xs H Q →
  wpAny (model X.prog X.w) X.A (call (.builtin id) (v :: us)) (EP X pins σ Q) X.xe s
theorem Vals.one:∀ {x:V} {us:List Value},Vals [x] us→∃ u,us=[u]∧RelV x u
 | _,_,.cons r .nil=>⟨_,rfl,r⟩
theorem Vals.two {x y:V} {us:List Value} (h:Vals [x,y] us):∃ u v,us=[u,v]∧RelV x u∧RelV y v:=by
 cases h with
 | cons r h =>
  obtain⟨u,e,q⟩:=Vals.one h
  exact⟨_,u,by rw[e],r,q⟩
theorem Vals.zero:∀ {us:List Value},Vals [] us→us=[]
 | _,.nil=>rfl
theorem Vals.dropLast {xs:List V} {us:List Value} (h:Vals xs us):Vals xs.dropLast us.dropLast:=by
 induction h with
 | nil=>exact .nil
 | cons r t ih =>
  cases t with
  | nil=>exact .nil
  | cons q t'=>exact .cons r ih
theorem Vals.eraseIdx:∀ {xs:List V} {us:List Value} (i:Nat),Vals xs us→Vals (xs.eraseIdx i) (us.eraseIdx i)
 | _,_,_,.nil=>.nil
 | _,_,0,.cons _ t=>t
 | _,_,i+1,.cons r t=>.cons r (Vals.eraseIdx i t)
theorem Vals.reverse {xs:List V} {us:List Value} (h:Vals xs us):Vals xs.reverse us.reverse:=by
 induction h with
 | nil=>exact .nil
 | cons r t ih=>rw[List.reverse_cons,List.reverse_cons];exact Vals.append ih (.cons r .nil)
theorem erase_last {α:Type} (l:List α):l.eraseIdx (l.length - 1)=l.dropLast:=by
 induction l with
 | nil=>rfl
 | cons a r ih =>
  cases r with
  | nil=>rfl
  | cons b r =>
   have e:(a :: b :: r).length - 1=((b :: r).length - 1)+1:=by
    have h1:(a :: b :: r).length=r.length+2:=rfl
    have h2:(b :: r).length=r.length+1:=rfl
    omega
   rw[e,List.eraseIdx_cons_succ,ih]
   all_goals rfl
section
variable {X:Cx} {pins:List (Addr×Obj)} {σ:St} {H:Hp} {s:Shared} {l b:Addr} {xs ys zs:List V}
theorem Inv.lset {its its':List Value} {n:Nat} {f:Array Value→Array Value} {t':Nat} (I:Inv X pins σ H s) (hH:H l=some (.lst xs))
 (e:s.heap.get? l=some { cls:=.type "list",data:=.seq its.toArray n }) (hf:f its.toArray=its'.toArray) (hv:Vals ys its') (hz:ys.length≤sizeLine) :
 Inv X pins σ (upd H l (.lst ys)) { s with heap:=s.heap.update l (Obj.mapSeq f),toks:=t' }:=by
 have q:=PySem.IsL.update e f
 rw[hf]at q
 refine I.write (x:=l) (e:=l) (by rw[hH];exact trivial) (.inl rfl) (fun b' u hb hu=>(Heap.get?_update_other s.heap (Obj.mapSeq f) (Ne.symm hb)).trans hu) ⟨_,q⟩ ?_
 exact⟨hz,its',_,hv,q⟩
theorem Inv.lnew {its:List Value} {t':Nat} (I:Inv X pins σ H s) (hv:Vals ys its) (hz:ys.length≤sizeLine) :
 Inv X pins σ (upd H s.heap.objs.size (.lst ys)) { s with heap:=s.heap.push { cls:=.type "list",data:=.seq its.toArray },toks:=t' } :=
 I.laid (fun _ _ q=>Heap.get?_push_of_some _ q) (Nat.le_refl _) ⟨hz,its,0,hv,Heap.get?_push_size _ rfl⟩
theorem Inv.fresh (I:Inv X pins σ H s):H s.heap.objs.size=none:=I.hok.fresh (Nat.le_refl _)
theorem Inv.lstM (I:Inv X pins σ H s) (hH:H l=some (.lst xs)):xs.length≤sizeLine∧∃ (its:List Value) (n:Nat),Vals xs its∧xs.length=its.length∧s.heap.get? l=some { cls:=.type "list",data:=.seq its.toArray n }:=by
 obtain⟨z,its,n,r,e⟩:=I.hok l _ hH
 exact⟨z,its,n,r,r.length,e⟩
end
section
variable {X:Cx}
noncomputable def rAppend:V→List V→Hp→VK→Prop:=fun x vs H Q=>∃ l xs y,x=.ref l∧vs=[y]∧H l=some (.lst xs)∧xs.length<sizeLine∧Q .non (upd H l (.lst (xs++[y])))
theorem mt_append:MtM X "list.append" rAppend:=by
 intro pins s σ H x vs v us Q I rx rv h
 obtain⟨l,xs,y,rfl,rfl,hH,hz,q⟩:=h
 cases rx
 obtain⟨u,rfl,ru⟩:=rv.one
 obtain⟨z,its,n,r,hl,e⟩:=I.lstM hH
 refine call_meets F.slot_list_append ⟨_,e,rfl⟩ F.entry_list_append (F.args_list_append_2 _ _) (PySem.list_append l its.toArray n u (by rw[List.size_toArray];omega)) ⟨e,?_⟩
 refine⟨.non,_,I.lset (its':=its++[u]) hH e (by simp) (r.append (.cons ru .nil)) ?_,rfl,q⟩
 rw[List.length_append,List.length_singleton]
 omega
noncomputable def rPop:V→List V→Hp→VK→Prop:=fun x vs H Q=>∃ l xs y,x=.ref l∧vs=[]∧H l=some (.lst xs)∧xs[xs.length - 1]?=some y∧Q y (upd H l (.lst xs.dropLast))
theorem mt_pop:MtM X "list.pop" rPop:=by
 intro pins s σ H x vs v us Q I rx rv h
 obtain⟨l,xs,y,rfl,rfl,hH,hy,q⟩:=h
 cases rx
 have hus:=rv.zero
 subst hus
 obtain⟨z,its,n,r,hl,e⟩:=I.lstM hH
 obtain⟨u,hu,ru⟩:=r.get hy
 have hy':its.toArray[its.toArray.size - 1]?=some u:=by
  show its.toArray[its.length - 1]?=some u
  rw[← Array.getElem?_toList,← hl]
  exact hu
 refine call_meets F.slot_list_pop ⟨_,e,rfl⟩ F.entry_list_pop (F.args_list_pop_1 _) (MeetsSeq.list_pop_last l its.toArray n u hy' (by rw[List.size_toArray];omega)) ⟨e,?_⟩
 refine⟨y,_,I.lset (its':=its.dropLast) hH e ?_ r.dropLast ?_,ru,q⟩
 ·show its.toArray.eraseIdxIfInBounds (its.toArray.size - 1)=its.dropLast.toArray
  rw[List.size_toArray,List.eraseIdxIfInBounds_toArray,erase_last]
 ·rw[List.length_dropLast]
  omega
noncomputable def rCat:R2:=fun x y H Q=>∃ l b xs zs,x=.ref l∧y=.ref b∧H l=some (.lst xs)∧H b=some (.lst zs)∧xs.length+zs.length≤sizeLine∧∀ p,H p=none→Q (.ref p) (upd H p (.lst (xs++zs)))
theorem op_cat:OpR X (binaryOp .Add) rCat:=by
 intro pins s σ H x y v u Q I rx ry h
 obtain⟨l,b,xs,zs,rfl,rfl,hH,hB,hz,q⟩:=h
 cases rx
 cases ry
 obtain⟨z,its,n,r,hl,e⟩:=I.lstM hH
 obtain⟨z2,its2,n2,r2,hl2,e2⟩:=I.lstM hB
 refine PySem.P.add_list e e2 ?_ (by rw[List.size_toArray,List.size_toArray];omega)
 have ea:its.toArray++its2.toArray=(its++its2).toArray:=by simp
 rw[ea]
 exact⟨.ref _,_,I.lnew (t':=s.toks) (r.append r2) (by rw[List.length_append];omega),rfl,q _ I.fresh⟩
end
section
variable {prog:Program} {w:World} {A:Around} {E:Value→Shared→Prop} {s:Shared}
end
section
variable {X:Cx}
end
end L2
namespace Att
open PySem PySem.W PySem.Calls PyProof.Rows
theorem ints_of_wellAll {P:Params} {h:Heap}:∀ (ns:List Int) (vs:List Value),WellAll P h vs (ns.map WData.int)→IntsAre vs ns:=by
 intro ns
 induction ns with
 | nil =>
  intro vs w
  rw[List.map_nil]at w
  cases w
  exact .nil
 | cons n ns ih =>
  intro vs w
  rw[List.map_cons]at w
  cases w with
  | cons a b =>
   cases a
   exact .cons _ _ (ih _ b)
theorem script_of {l:OpenLaw} {n:Nat} (hn:l.most=some n) {P:Params} {h:Heap} {args:List WData} {vals:List Value}
 (hpre:l.row.toRowW.claim.pre args=true) (hwl:WellAll P h vals args) :
 ∃ a vs ns,vals=[Value.ref a]∧args=[WData.list (ns.map WData.int)]∧h.get? a=some { cls:=.type "list",data:=.seq vs.toArray }∧IntsAre vs ns∧ns.length≤n:=by
 have hsh:WShape.hasAll [] args [.list .int]=true:=(pre_splitW hpre).1
 have hc:l.pre.holds [] { args:=args }=true:=(pre_splitW hpre).2
 obtain⟨d,r,rfl,h1,h2⟩:=hasAllW_cons hsh
 obtain rfl:=hasAllW_nil h2
 obtain⟨xs,rfl,h3⟩:=hasW_list h1
 obtain⟨ns,rfl⟩:=items_int h3
 have hlen:ns.length≤n:=by
  unfold OpenLaw.pre at hc
  have h4:(WTm.not (.lt (.lit (.int (n:Int))) (.len (.arg 0)))).holds [] { args:=[.list (ns.map .int)] }=true:=by
   have h4:=(holds_andW hc).1
   rw[hn]at h4
   exact h4
  have h5:=condW_of h4 (w_not (w_lt w_lit (w_len_list (w_arg rfl))))
  rw[List.length_map]at h5
  refine Nat.le_of_not_lt fun q=>?_
  have q':(n:Int)<((ns.length:Nat):Int):=by omega
  first
   | (rw[decide_eq_true q']at h5;exact absurd h5 (by decide))
   | (simp at h5;omega)
 cases hwl with
 | cons w1 w2 =>
  cases w2
  cases w1 with
  | list ho hall=>exact⟨_,_,ns,rfl,rfl,ho,ints_of_wellAll ns _ hall,hlen⟩
theorem post_true (l:OpenLaw) (args:List WData):l.row.toRowW.claim.post args (.bool true) args=true :=
 postW_of (r:=l.row.toRowW) (X:=(true == true))
  (show WShape.has [] (.bool true) .bool=true by first | rfl | decide | simp[WShape.has,WShape.arms,WShape.armsAll])
  (show (WTm.eq .res (.lit (.bool true))).value [] { args:=args,res:=some (.bool true),after:=args }=some (.bool (true == true)) from w_eq_bool (w_res rfl) w_lit) rfl
theorem attach_call {l:OpenLaw} {n:Nat} {q:Program} {loose:List Str} {XP:(Str→Option Value)→Heap→Prop} {YP:World→Heap→Prop} {d:DefRec}
 (hn:l.most=some n) (hdf:d.params.defaults=[])
 (call:∀ (w:World) (s₀ s₁:Shared) (mg mb:Str→Option Value) (fa:Addr) (o:Obj) (pm cd doc:Value) (a:Addr) (vs:List Value) (ns:List Int),
  Ground q loose [] XP w s₀ mg mb s₁.heap→YP w s₁.heap →
  s₁.heap.get? fa=some o→o.data=.func (docDef d.name d.params d.body d.scope pm cd doc)→s₁.heap.CodeRec cd d.name→mg d.name=some (.ref fa) →
  s₁.heap.get? a=some { cls:=.type "list",data:=.seq vs.toArray }→IntsAre vs ns→ns.length≤n→s₁.gens=#[] →
  codeAny (model l.prog w) callerA (.call (.ref fa) ⟨[.ref a],[]⟩) (fun r s'=>r=.ok (.ret (.bool true))∧OldK s₁.heap s'.heap∧s'.os=s₁.os∧AllBare s'.gens) s₁) :
 WalkO q loose XP YP l.row.toRowW d [] (fun f vs=>PySem.call f vs):=by
 intro w s₀ s₁ mg mb G Y fa o pm cd doc dV kV ho hd hcd hD hmg hg args vals as hpre hlay hrd hwl hlo
 obtain rfl:dV=.none:=Dflts.none hD hdf
 obtain rfl:kV=.none:=Dflts.noKw hD
 obtain⟨a,vs,ns,rfl,rfl,hobj,hints,hlen⟩:=script_of hn hpre hwl
 refine enter_call (codeAny_mono (call w s₀ s₁ mg mb fa o pm cd doc a vs ns G Y ho (fd_plain hd) hcd hmg hobj hints hlen hg) fun r s' hq=>?_)
 obtain⟨rfl,h2,h3,h4⟩:=hq
 exact⟨.inl ⟨.bool true,.bool true,[],rfl,fun _=>rfl,.bool true,post_true l _,fun _=>⟨List.Pairwise.nil,fun _ hm=>(nomatch hm)⟩⟩,h2,h3,h4⟩
section
variable {prog:Program} {w:World} {A:Around} {E:Value→Shared→Prop} {s:Shared} {K:Frag}
end
end Att
namespace L2
open PySem PySem.Spec PyProof.Rows
theorem vals_ints:∀ {vs:List Value} {ns:List Int},IntsAre vs ns→Vals (ns.map V.int) vs
 | _,_,.nil=>.nil
 | _,_,.cons n t h=>.cons ⟨t,rfl⟩ (vals_ints h)
end L2
namespace L2
open PySem PySem.Spec PyProof.Rows
end L2
namespace L2
open PySem PySem.Spec PyProof.Rows
noncomputable def inClass (s:Stmt) (j:Nat):Stmt:=match s with
 | .ClassDef _ _ _ body _ _ _ _ _ _ _=>body.getD j (.Pass ⟨0,0,0,0⟩)
 | _=>.Pass ⟨0,0,0,0⟩
noncomputable def defArgs (s:Stmt):Arguments:=match s with
 | .FunctionDef _ a _ _ _ _ _ _ _ _=>a
 | _=>{ posonlyargs:=[],args:=[],vararg:=none,kwonlyargs:=[],kw_defaults:=[],kwarg:=none,defaults:=[] }
noncomputable def defBody (s:Stmt):List Stmt:=match s with
 | .FunctionDef _ _ b _ _ _ _ _ _ _=>b
 | _=>[]
noncomputable def defScope (s:Stmt):Scope:=match s with
 | .FunctionDef _ _ _ _ _ _ sc _ _ _=>sc
 | _=>{ kind:=.function,names:=[],isGenerator:=false,isCoroutine:=false }
noncomputable abbrev CX0:CXT:=fun _ _ _ _ _ _=>False
noncomputable abbrev E0:XK:=fun _ _ _=>False
theorem pass0 {X:Cx}:Passes CX0 X E0:=fun _ _ _ _ _ _ _ h=>h.elim
structure Fun (K:PySem.W.Frag) (x qual:Str) (st:Stmt) (f:Addr) (fd:FuncData):Prop where
 ex:∃ (oc:Value) (od:Option Addr) (kV doc pm:Value) (an:Option Addr) (cdv ct:Value) (osl:Array (Option Value)),
  fd=PySem.W.fnOf x qual (defArgs st) (defBody st) (defScope st) .none kV doc pm an cdv ct∧K.lookup f=some ⟨oc,od,.func fd,osl⟩∧PySem.W.codeIn K cdv qual=true
 kp:PySem.W.keepIn K (.ref f)=true
section
variable {P:Program} {w:World} {K:PySem.W.Frag} {mg:Str→Option Value} {base:Heap}
theorem Fun.ok {x qual:Str} {st:Stmt} {f:Addr} {fd:FuncData} {N ps:List Str} {k:Nat} {sp:Sp} (F:Fun K x qual st f fd) (S:FnScope N ps (defScope st)) (len:∀ vs H Q E,sp vs H Q E→vs.length=ps.length)
 (hbody:∀ (cdv:Value) (A:Around) (outer:List Env) (s:Shared) (H:Hp) (vs:List V) (Q:VK) (E:XK),Room k (A.deeper (envOfC qual (defScope st) s.heap.objs.size f cdv))→sp vs H Q E →
  ∃ t,PSs (cxOf CX0 P w K mg base N qual (defScope st) f cdv A outer s H E).nox (defBody st) t∧t { nx:=fun _ H'=>Q .non H',rt:=Q } (start N vs) H):FnOk P w K mg base CX0 (k+1) f fd ps sp:=by
 obtain⟨oc,od,kV,doc,pm,an,cdv,ct,osl,rfl,lk,hcd⟩:=F.ex
 refine fn_of lk hcd S len fun A outer s H vs Q E hr hsp=>?_
 obtain⟨t,h,q⟩:=hbody cdv A outer s H vs Q E hr hsp
 exact⟨t,h.nox,q⟩
theorem Fun.binds {x qual:Str} {st:Stmt} {f:Addr} {fd:FuncData} {ps:List Str} (F:Fun K x qual st f fd)
 (h:∀ (kV doc pm:Value) (an:Option Addr) (cdv ct:Value) (us:List Value),us.length=ps.length→bindArgs (PySem.W.fnOf x qual (defArgs st) (defBody st) (defScope st) .none kV doc pm an cdv ct) ⟨us,[]⟩=pure (ps.zip us)):Binds K fd ps []:=by
 obtain⟨oc,od,kV,doc,pm,an,cdv,ct,osl,rfl,lk,hcd⟩:=F.ex
 exact .all (h kV doc pm an cdv ct)
theorem fun_mk {x qual:Str} {st:Stmt} {f:Addr} {oc:Value} {od an:Option Addr} {osl:Array (Option Value)} {kV doc pm cdv ct:Value} (l:K.lookup f=some ⟨oc,od,.func (PySem.W.fnOf x qual (defArgs st) (defBody st) (defScope st) .none kV doc pm an cdv ct),osl⟩)
 (c:PySem.W.codeIn K cdv qual=true) (k:PySem.W.keepIn K (.ref f)=true):Fun K x qual st f (PySem.W.fnOf x qual (defArgs st) (defBody st) (defScope st) .none kV doc pm an cdv ct):=⟨⟨oc,od,kV,doc,pm,an,cdv,ct,osl,rfl,l,c⟩,k⟩
end
theorem hu_of {A:Around} {k:Nat} (hr:Room k A):A.units+1<cLine:=Nat.lt_of_le_of_lt (Nat.add_le_add_left (by decide:1≤64) _) hr.units
section
variable {X:Cx}
theorem pv (i:Nat) {x:Str} {pos:Pos} (hN:X.N[i]?=some x:=by rfl) (hv:Vis X.env.scope x:=by first | exact Or.inl rfl | exact Or.inr (Or.inl rfl) | exact Or.inr (Or.inr rfl)) (hd:(x == ("__debug__":Str))=false:=by decide)
 (hcd:(x == ("__classdict__":Str))=false:=by decide):PE X (.Name x pos) (tVar i):=pe_var hN hv hd hcd
end
theorem iteF {A B:Prop} (h:B):if false=true then A else B:=by
 rw[if_neg Bool.false_ne_true]
 exact h
theorem iteT {A B:Prop} (h:A):if true=true then A else B:=by
 rw[if_pos rfl]
 exact h
theorem iteNS {c A B:Prop} [Decidable c] (hc:c) (h:B):if (!decide c)=true then A else B:=by
 rw[decide_eq_true hc]
 exact iteF h
noncomputable def Same (H H':Hp):Prop:=∀ b o,H b=some o→H' b=some o
theorem Same.refl (H:Hp):Same H H:=fun _ _ h=>h
theorem Same.trans {H H1 H2:Hp} (a:Same H H1) (b:Same H1 H2):Same H H2:=fun c o h=>b c o (a c o h)
theorem Same.free {H H':Hp} (e:Same H H') {l:Addr} (h:H' l=Option.none):H l=Option.none:=by
 cases q:H l with
 | none=>rfl
 | some o =>
  rw[e l o q]at h
  cases h
theorem Same.seq {K:PySem.W.Frag} {H H':Hp} {a:Addr} {xs:List V} (e:Same H H') (h:SqL K H a xs):SqL K H' a xs:=by
 rcases h with (h | ⟨o,h⟩) | h
 ·exact .inl (.inl (e _ _ h))
 ·exact .inl (.inr ⟨o,e _ _ h⟩)
 ·exact .inr h
end L2
set_option maxHeartbeats 4000000
namespace L2
open PySem PySem.Spec PyProof.Rows
noncomputable def DK {α:Type}:Sem α→Prop
 | .pure _=>True
 | .raise _=>True
 | .unsupported _=>True
 | .finish _=>True
 | .rule _ k=>∀ u,DK (k u)
 | .at _ k=>∀ u,DK (k u)
 | .load _ _ k=>∀ o,DK (k o)
 | .update _ _ f k=>(∀ o,(f o).dict=o.dict∧(f o).cls=o.cls∧(o.isFreed=false→(f o).isFreed=false))∧∀ u,DK (k u)
 | .alloc _ k=>∀ a,DK (k a)
 | .loadIfAlive _ k=>∀ o,DK (k o)
 | .point _ k=>∀ u,DK (k u)
 | .register _ _=>True
 | .fresh k=>∀ t,DK (k t)
 | .ask k=>∀ x,DK (k x)
 | .choose _ _ k=>∀ n,DK (k n)
 | .os _ _ _=>False
 | .call _ _ _ _ _=>False
 | .handled _ k=>∀ h,DK (k h)
 | .newGen _ _=>False
 | .genState _ k=>∀ g,DK (k g)
 | .resume _ _ _ _=>False
 | .yield _ _ _ _=>False
 | .stack k=>∀ l,DK (k l)
 | .fork _ _=>False
 | .thread k=>∀ n,DK (k n)
 | .await _ _ _ _ _=>False
theorem DK.bind {α β:Type} {f:α→Sem β}:∀ {t:Sem α},DK t→(∀ a,DK (f a))→DK (t.bind f):=by
 intro t
 induction t with
 | pure a=>intro _ hf;exact hf a
 | raise e=>intro _ _;trivial
 | unsupported w=>intro _ _;trivial
 | finish e=>intro _ _;trivial
 | rule tag k ih=>intro h hf u;exact ih u (h u) hf
 | «at» pos k ih=>intro h hf u;exact ih u (h u) hf
 | load a part k ih=>intro h hf o;exact ih o (h o) hf
 | update a part g k ih=>intro h hf;exact⟨h.1,fun u=>ih u (h.2 u) hf⟩
 | alloc o k ih=>intro h hf a;exact ih a (h a) hf
 | loadIfAlive a k ih=>intro h hf o;exact ih o (h o) hf
 | point live k ih=>intro h hf u;exact ih u (h u) hf
 | register a k ih=>intro _ _;trivial
 | fresh k ih=>intro h hf t;exact ih t (h t) hf
 | ask k ih=>intro h hf x;exact ih x (h x) hf
 | choose src n k ih=>intro h hf x;exact ih x (h x) hf
 | os req live k ih=>intro h _;exact h.elim
 | call c hd gd live k ih=>intro h _;exact h.elim
 | handled own k ih=>intro h hf x;exact ih x (h x) hf
 | newGen c k ih=>intro h _;exact h.elim
 | genState g k ih=>intro h hf x;exact ih x (h x) hf
 | resume g r live k ih=>intro h _;exact h.elim
 | yield v gd live k ih=>intro h _;exact h.elim
 | stack k ih=>intro h hf x;exact ih x (h x) hf
 | fork c k ih=>intro h _;exact h.elim
 | thread k ih=>intro h hf x;exact ih x (h x) hf
 | await a take timed live k ih=>intro h _;exact h.elim
noncomputable def HD (h0 h:Heap):Prop:=∀ b o,h0.get? b=some o→∃ o',h.get? b=some o'∧o'.dict=o.dict∧o'.cls=o.cls
theorem HD.refl (h:Heap):HD h h:=fun b o e=>⟨o,e,rfl,rfl⟩
theorem HD.trans {a b c:Heap} (x:HD a b) (y:HD b c):HD a c:=fun d o e=>by
 obtain⟨o1,e1,d1,c1⟩:=x d o e
 obtain⟨o2,e2,d2,c2⟩:=y d o1 e1
 exact⟨o2,e2,d2.trans d1,c2.trans c1⟩
theorem HD.kept {h h':Heap} (k:∀ b o,h.get? b=some o→h'.get? b=some o):HD h h':=fun b o e=>⟨o,k b o e,rfl,rfl⟩
theorem freed_none {h:Heap} {a:Addr} {o:Obj} (e:h.get? a=some o):o.isFreed=false:=(Heap.get?_some_iff.mp e).2
theorem HD.update {h:Heap} {a:Addr} {f:Obj→Obj} (hf:∀ o,(f o).dict=o.dict∧(f o).cls=o.cls∧(o.isFreed=false→(f o).isFreed=false)):HD h (h.update a f):=fun b o e=>by
 by_cases q:b=a
 ·subst q
  exact⟨f o,Heap.get?_update_self f e ((hf o).2.2 (freed_none e)),(hf o).1,(hf o).2.1⟩
 ·exact⟨o,(Heap.get?_update_ne _ _ _ _ q).trans e,rfl,rfl⟩
theorem wp_dk {α:Type} {M:Model} {Γ:PySem.Ctx} {h0:Heap}:∀ (t:Sem α),DK t→∀ {Q:α→Pos→Shared→Prop} {E:Value→Pos→Shared→Prop} {p:Pos} {s:Shared},HD h0 s.heap→Sem.wp M Γ t Q E p s →
 Sem.wp M Γ t (fun a p s'=>Q a p s'∧HD h0 s'.heap) (fun e p s'=>E e p s'∧HD h0 s'.heap) p s:=by
 intro t
 induction t with
 | pure a=>intro _ Q E p s hd h;exact⟨h,hd⟩
 | raise e=>intro _ Q E p s hd h;exact⟨h,hd⟩
 | unsupported w=>intro _ Q E p s hd h;exact h
 | finish e=>intro _ Q E p s hd h;exact h
 | rule tag k ih=>intro d Q E p s hd h;exact ih () (d ()) hd h
 | «at» pos k ih=>intro d Q E p s hd h;exact ih () (d ()) hd h
 | load a part k ih=>intro d Q E p s hd h;obtain⟨o,e,h⟩:=h;exact⟨o,e,ih o (d o) hd h⟩
 | update a part g k ih=>intro d Q E p s hd h;exact⟨h.1,ih () (d.2 ()) (s:={ s with heap:=s.heap.update a g }) (hd.trans (HD.update d.1)) h.2⟩
 | alloc o k ih=>intro d Q E p s hd h;exact ih _ (d _) (s:={ s with heap:=s.heap.push o }) (hd.trans (HD.kept fun b o e=>Heap.get?_push_of_some _ e)) h
 | loadIfAlive a k ih=>intro d Q E p s hd h;exact ih _ (d _) hd h
 | point live k ih=>intro d Q E p s hd h;exact ih () (d ()) hd h
 | register a k ih=>intro _ Q E p s hd h;exact h
 | fresh k ih=>intro d Q E p s hd h;exact ih _ (d _) (s:={ s with toks:=s.toks+1 }) hd h
 | ask k ih=>intro d Q E p s hd h;exact ih _ (d _) hd h
 | choose src n k ih=>intro d Q E p s hd h;exact⟨h.1,ih _ (d _) (s:={ s with drawn:=s.drawn.bump src }) hd h.2⟩
 | os req live k ih=>intro d;exact d.elim
 | call c hd gd live k ih=>intro d;exact d.elim
 | handled own k ih=>intro d Q E p s hd h;exact ih _ (d _) hd h
 | newGen c k ih=>intro d;exact d.elim
 | genState g k ih=>intro d Q E p s hd h;obtain⟨st,e,h⟩:=h;exact⟨st,e,ih _ (d _) hd h⟩
 | resume g r live k ih=>intro d;exact d.elim
 | yield v gd live k ih=>intro d;exact d.elim
 | stack k ih=>intro d Q E p s hd h;exact ih _ (d _) hd h
 | fork c k ih=>intro d;exact d.elim
 | thread k ih=>intro d Q E p s hd h;exact ih _ (d _) hd h
 | await a take timed live k ih=>intro d;exact d.elim
theorem wpAny_dk {α:Type} {M:Model} {A:Around} {t:Sem α} {Q:α→Shared→Prop} {E:Value→Shared→Prop} {s:Shared} (d:DK t) (h:wpAny M A t Q E s) :
 wpAny M A t (fun a s'=>Q a s'∧HD s.heap s'.heap) (fun e s'=>E e s'∧HD s.heap s'.heap) s:=fun Γ p hΓ=>wp_dk t d (HD.refl _) (h Γ p hΓ)
theorem dk_fieldsOf (v:Value):DK (fieldsOf v):=by
 unfold fieldsOf
 split
 ·intro o
  show DK (match o.data with | .fields vs=>pure vs | _=>unsupported _)
  split <;> trivial
 ·trivial
theorem dk_field (v:Value) (i:Nat):DK (field v i):=DK.bind (dk_fieldsOf v) fun vs=>by
 split <;> trivial
theorem mapFields_dk (f:Array Value→Array Value) (o:Obj):(Obj.mapFields f o).dict=o.dict∧(Obj.mapFields f o).cls=o.cls∧(o.isFreed=false→(Obj.mapFields f o).isFreed=false):=by
 obtain⟨c,d,data,sl⟩:=o
 cases data <;> first | exact⟨rfl,rfl,fun h=>h⟩ | exact⟨rfl,rfl,fun _=>rfl⟩
theorem dk_setField (v:Value) (i:Nat) (x:Value):DK (setField v i x):=by
 unfold setField
 split
 ·unfold updateField
  intro o
  show DK (match o.data with | .fields vs=>if i<vs.size then update _ (Obj.mapFields (·.setIfInBounds i x))else unsupported _ | _=>unsupported _)
  split
  ·split
   ·exact⟨mapFields_dk _,fun _=>trivial⟩
   ·trivial
  ·trivial
 ·trivial
theorem dk_setFlight (e:Value) (f:Option Addr):DK (setFlight e f):=DK.bind (dk_field e 1) fun tb=>by
 split
 ·exact dk_setField _ _ _
 ·trivial
theorem dk_readyFrames:∀ l:List Env,DK (readyFrames l)
 | []=>trivial
 | env :: outer=>by
  unfold readyFrames
  split
  ·intro o
   show DK (if ((o.slots.getD 3 none).isSome)=true then _ else _)
   split
   ·trivial
   ·refine DK.bind ?_ fun imp=>DK.bind ?_ fun back=>⟨fun o=>⟨rfl,rfl,fun h=>(by obtain⟨c,d,dt,sl⟩:=o;cases dt <;> first | rfl | exact h)⟩,fun _=>dk_readyFrames outer⟩
    ·unfold behindIsImport
     split
     ·trivial
     ·split
      ·trivial
      ·exact DK.bind (dk_field _ _) fun _=>trivial
    ·cases outer with
     | nil =>
      show DK (if (env.scope.isGenerator || env.scope.isCoroutine)=true then pure Value.none else underTheClaimsCaller >>= _)
      split
      ·trivial
      ·refine DK.bind ?_ fun _=>trivial
       unfold underTheClaimsCaller
       intro l
       first | trivial | (dsimp only;first | trivial | (split <;> trivial))
     | cons c r=>trivial
  ·trivial
theorem dk_frameOf (env:Env):DK (PySem.frameOf env):=by
 unfold PySem.frameOf
 refine DK.bind (t:=frameEnvs) (fun l=>trivial) fun l=>DK.bind ?_ fun f=>?_
 ·generalize l.dropWhile (·.frame != env.frame)=r
  cases r with
  | nil=>trivial
  | cons e r=>exact DK.bind (dk_readyFrames _) fun _=>trivial
 ·split <;> trivial
theorem dk_noteFrame (e:Value) (env:Env):DK (noteFrame e env):=by
 unfold noteFrame
 split
 ·refine DK.bind (dk_field _ _) fun head=>?_
  have fin:∀ f,DK (do setField e 1 (← EntryCells.newEntry head (← PySem.frameOf env) .none (rawInt f) .none (← entryPlaceOf f (head != .none)))):=fun f=>by
   refine DK.bind (dk_frameOf env) fun fr=>DK.bind ?_ fun pl=>DK.bind ?_ fun en=>dk_setField _ _ _
   ·unfold entryPlaceOf
    intro l
    refine DK.bind (t:=Sem.pure l) trivial fun acts=>?_
    split <;> trivial
   ·unfold EntryCells.newEntry newFields newObj
    first | (intro a;trivial) | (split <;> (first | trivial | (intro a;trivial))) | (repeat' (first | trivial | split | intro))
  split
  ·refine DK.bind (dk_field _ _) fun x=>?_
   split
   ·trivial
   ·exact DK.bind (dk_setField _ _ _) fun _=>fin _
  ·exact fin _
 ·trivial
theorem dk_leaving (env:Env) (e:Value):DK (leaving env e):=DK.bind (dk_noteFrame e env) fun _=>dk_setFlight e none
end L2
namespace L2
open PySem PySem.Spec PyProof.Rows
theorem ObjOk.there {P:Program} {w:World} {H:Hp} {h:Heap} {a:Addr} {u:HO} (x:ObjOk P w H h a u):∃ o,h.get? a=some o:=by
 cases u with
 | lst xs=>obtain⟨_,_,_,_,e⟩:=x;exact⟨_,e⟩
 | tup xs=>obtain⟨_,_,_,o,e,_⟩:=x;exact⟨_,e⟩
 | dK kvs=>obtain⟨_,_,_,_,o,_,_,e,_⟩:=x;exact⟨_,e⟩
 | dT kvs=>obtain⟨_,_,_,_,o,_,_,e,_⟩:=x;exact⟨_,e⟩
 | set S n=>obtain⟨o,_,_,_,e,_⟩:=x;exact⟨_,e⟩
 | ins C dx fs=>obtain⟨_,_,_,e,_⟩:=x;exact⟨_,e⟩
 | own y=>exact x
 | xd fs=>obtain⟨_,⟨_,_,_,e,_⟩,_⟩:=x;exact⟨_,e⟩
 | rng lo hi=>obtain⟨_,_,_,e⟩:=x;exact⟨_,e⟩
 | frz ob u=>obtain⟨e,_⟩:=x;exact⟨_,e⟩
 | tbl ps=>exact⟨_,show h.get? a=some _ from x⟩
 | met f y=>exact⟨_,show h.get? a=some _ from x⟩
 | ext φ=>obtain⟨_,e,_⟩:=x;exact e
noncomputable def CXR (P:Program) (w:World):CXT:=fun outer H s E ev s'=>∃ (e:Addr) (cls a0:Value) (H':Hp) (B:Heap) (oe:Obj),ev=.ref e∧s'.os=s.os∧AllBare s'.gens∧Un (frs outer) [] H H' s.heap s'.heap∧HOk P w H' s'.heap∧H' e=none ∧
 s'.heap.get? e=some oe∧Heap.FlyingW B outer e cls a0 s'.heap∧(∀ b u,H' b=some u→∃ o,B.get? b=some o)∧(∀ b o,s.heap.get? b=some o→b∉frs outer→∃ o',B.get? b=some o')∧E cls oe.dict H'
section
variable {X:Cx} {pins:List (Addr×Obj)} {σ:St} {H:Hp} {s:Shared} {E:XK}
structure Body (X:Cx):Prop where
 ex:X.ex=[]
 stk:X.stack=X.env :: X.outer
 fr:X.env.frame=some X.env.locals
theorem Body.mem (b:Body X) {c:Addr}:c∈frs X.stack↔c=X.env.locals∨c∈X.fs:=by
 rw[b.stk]
 unfold frs
 rw[List.filterMap_cons,b.fr,List.mem_cons]
 rfl
theorem left_ok (Bd:Body X) (I:Inv X pins σ H s) {B:Heap} {e:Addr} {cls a0:Value} {oe:Obj} {h':Heap} (he:s.heap.get? e=some oe) (hHe:H e=none) (st:B.StaysIn s.heap) (cov:∀ b u,H b=some u→∃ o,B.get? b=some o)
 (olds:∀ b o,X.s₀.heap.get? b=some o→b∉X.fs→∃ o',B.get? b=some o') (fl:Heap.FlyingW B X.outer e cls a0 h') (ups:s.heap.UpToSlots h') (hd:HD s.heap h') (q:E cls oe.dict H) :
 CXR X.prog X.w X.outer X.H₀ X.s₀ E (.ref e) { s with heap:=h' }:=by
 have st':B.StaysIn h':=fl.1
 have nx:∀ b,b∉X.ex:=fun b z=>by rw[Bd.ex]at z;cases z
 have neL:∀ b o,X.s₀.heap.get? b=some o→b≠X.env.locals:=fun b o e=>Nat.ne_of_lt (Nat.lt_of_lt_of_le (Heap.lt_size e) I.ok.above)
 have same:∀ b o o',B.get? b=some o→s.heap.get? b=some o'→h'.get? b=some o':=fun b o o' e1 e2=>by
  have:=st b o e1
  rw[e2]at this
  cases this
  exact st' b _ e1
 have frd:∀ b∈X.fs,∀ o,s.heap.get? b=some o→∀ vs,o.data≠.fields vs:=fun b hb o e vs=>by
  obtain⟨_,o',ho',hnf⟩:=I.funs.mem hb
  rw[e]at ho'
  cases ho'
  exact hnf vs
 obtain⟨oe',he',de,ce⟩:=hd e oe he
 refine⟨e,cls,a0,H,B,oe',rfl,I.os,I.bare,⟨fun b o e1 n hb _=>?_,fun b o e1 n hb _=>?_,fun b o e1 n _=>I.base.free b o e1 n (nx b),fun b o e1 _=>?_,I.base.tups,I.base.frzs,I.base.tbls⟩,fun b u e1=>?_,hHe,he',fl,cov,olds,by rw[de];exact q⟩
 ·obtain⟨o',eB⟩:=olds b o e1 hb
  exact same b o' o eB (I.base.keep b o e1 n hb (nx b))
 ·obtain⟨sl,e2⟩:=I.base.slot b o e1 n hb (nx b)
  obtain⟨sl',e3⟩:=ups b _ e2 (frd b hb _ e2)
  exact⟨sl',e3⟩
 ·by_cases hb:b∈X.fs
  ·obtain⟨o',e2⟩:=I.base.there b o e1 (nx b)
   obtain⟨sl,e3⟩:=ups b o' e2 (frd b hb o' e2)
   exact⟨_,e3⟩
  ·obtain⟨o',eB⟩:=olds b o e1 hb
   exact⟨o',st' b o' eB⟩
 ·refine(I.hok b u e1).stay (fun c v hc e2=>?_) (fun _ z=>z) fun _ _ z=>z
  have tr:∃ o,B.get? c=some o:=by
   rcases hc with z | z
   ·rw[z];exact cov b u e1
   ·exact cov c _ z
  obtain⟨o,eB⟩:=tr
  exact same c o v eB e2
theorem leave_on (Bd:Body X) (hfr:X.A.frames=some (X.env :: X.outer)) (I:Inv X pins σ H s) {ev:Value} {s':Shared} {E':Value→Shared→Prop} (h:CXR X.prog X.w X.stack H s E ev s') :
 wpAny (model X.prog X.w) X.A (leaving X.env ev) (fun _ s''=>CXR X.prog X.w X.outer X.H₀ X.s₀ E ev s'') E' s':=by
 obtain⟨e,cls,a0,H',B,oe,rfl,os,bare,un,hok,hHe,he,fl,cov,olds,q⟩:=h
 have I':Inv X pins σ H' s':=I.call' os un hok bare fun b z=>absurd z (by simp)
 have fl':Heap.FlyingW B (X.env :: X.outer) e cls a0 s'.heap:=by rw[Bd.stk]at fl;exact fl
 have w1:=wpAny_leaves_onW (M:=model X.prog X.w) (A:=X.A) (E:=fun _ _=>False) (s:=s') (Q:=fun _ s''=>∃ h',s''={ s' with heap:=h' }∧Heap.FlyingW B X.outer e cls a0 h'∧s'.heap.UpToSlots h') hfr Bd.fr fl' fun h' f u=>⟨h',rfl,f,u⟩
 refine wpAny_mono (wpAny_dk (dk_leaving X.env (.ref e)) w1) (fun _ s'' ⟨⟨h',e1,f,u⟩,hd⟩=>?_) fun _ _ z=>z.1.elim
 subst e1
 refine left_ok Bd I' he hHe fl.1 cov (fun b o e1 hb=>?_) f u hd q
 obtain⟨o1,e2⟩:=I.base.there b o e1 (by rw[Bd.ex];simp)
 refine olds b o1 e2 fun z=>?_
 rcases Bd.mem.mp z with z | z
 ·exact absurd (Nat.lt_of_lt_of_le (Heap.lt_size e1) I.ok.above) (by rw[z];exact Nat.lt_irrefl _)
 ·exact hb z
theorem leave_new (Bd:Body X) (hfr:X.A.frames=some (X.env :: X.outer)) (I:Inv X pins σ H s) {e:Addr} {oe:Obj} {vs:Array Value} {a0:Value} {E':Value→Shared→Prop} (he:s.heap.get? e=some oe) (hHe:H e=none) (hold:∀ b o,X.s₀.heap.get? b=some o→b≠e) (hd:oe.data=.fields vs) (h1:vs[1]?=some .none) (h0:vs[0]?=some a0) (q:E oe.cls oe.dict H) :
 wpAny (model X.prog X.w) X.A (leaving X.env (.ref e)) (fun _ s''=>CXR X.prog X.w X.outer X.H₀ X.s₀ E (.ref e) s'') E' s:=by
 have stf:s.heap.FunFrames X.base (X.env :: X.outer):=by have:=I.stack;rw[Bd.stk]at this;exact this
 have enf:e∉frs X.stack:=fun z=>by
  obtain⟨_,o,ho,hnf⟩:=I.stack.mem z
  rw[he]at ho
  cases ho
  exact hnf vs hd
 have inB:∀ b o,s.heap.get? b=some o→b≠e→b∉frs X.stack→(PySem.W.hideAll s.heap (e :: frs X.stack)).get? b=some o:=fun b o e1 n1 n2=>PySem.W.hideAll_get _ e1 (by simp[n1,n2])
 have fr2:s.heap.FunFrames (PySem.W.hideAll s.heap (e :: frs X.stack)) (X.env :: X.outer):=by
  refine PySem.W.funFrames_hide stf fun env hm a ha=>List.mem_cons_of_mem _ ?_
  rw[Bd.stk]
  exact List.mem_filterMap.mpr ⟨env,hm,ha⟩
 have stB:(PySem.W.hideAll s.heap (e :: frs X.stack)).StaysIn s.heap:=fun b o e1=>PySem.W.of_hideAll _ e1
 have w1:=wpAny_leaving_firstW (M:=model X.prog X.w) (A:=X.A) (E:=fun _ _=>False) (s:=s) (base:=PySem.W.hideAll s.heap (e :: frs X.stack)) (Q:=fun _ s''=>∃ h',s''={ s with heap:=h' }∧Heap.LeftW (PySem.W.hideAll s.heap (e :: frs X.stack)) (X.env :: X.outer) e oe.cls a0 s.heap h') hfr fr2 Bd.fr he stB (PySem.W.hideAll_none _ (by simp)) hd h1 h0 fun h' z=>⟨h',rfl,z⟩
 refine wpAny_mono (wpAny_dk (dk_leaving X.env (.ref e)) w1) (fun _ s'' ⟨⟨h',e1,k1,⟨_,_,k2⟩,k3,k4⟩,hdd⟩=>?_) fun _ _ z=>z.1.elim
 subst e1
 refine left_ok Bd I he hHe stB (fun b u e1=>?_) (fun b o e1 hb=>?_) ⟨k1,PySem.W.hideAll_none _ (by simp),k2,k3⟩ k4 hdd q
 ·obtain⟨o,e2⟩:=(I.hok b u e1).there
  refine⟨o,inB b o e2 (fun z=>by rw[z,hHe]at e1;cases e1) fun z=>?_⟩
  rw[I.stkFree b z]at e1
  cases e1
 ·obtain⟨o',e2⟩:=I.base.there b o e1 (by rw[Bd.ex];simp)
  have lt:=Heap.lt_size e1
  refine⟨o',inB b o' e2 (hold b o e1) fun z=>?_⟩
  ·rcases Bd.mem.mp z with z | z
   ·rw[z]at lt
    exact absurd (Nat.lt_of_lt_of_le lt I.ok.above) (Nat.lt_irrefl _)
   ·exact hb z
end
theorem passR {P:Program} {w:World} {K:PySem.W.Frag} {mg:Str→Option Value} {base:Heap} {N:List Str} {qual:Str} {scope:Scope} {f:Addr} {cd:Value} {A:Around} {outer:List Env} {s:Shared} {H:Hp} {E:XK} (hfr:A.frames=some outer) :
 Passes (CXR P w) (cxOf (CXR P w) P w K mg base N qual scope f cd A outer s H E) E:=fun pins σ H1 s1 ev s' I h =>
 leave_on (X:=cxOf (CXR P w) P w K mg base N qual scope f cd A outer s H E) ⟨rfl,rfl,rfl⟩ (Around.frames_deeper hfr) I h
end L2
namespace L2
open PySem PySem.Spec PyProof.Rows
noncomputable def FP (X:Cx) (v:Expr) (n:Nat) (t:TE):Prop:=∀ (pins:List (Addr×Obj)) (s:Shared) (σ:St) (H:Hp) (Q:Hp→Prop),Inv X pins σ H s→(t σ H fun _ H'=>Q H') →
 wpAny (model X.prog X.w) X.A (eval v X.env) (fun u s'=>∃ y tk H',u=.str y tk∧y.length≤n∧Inv X pins σ H' s'∧Q H') X.xe s
noncomputable def FPs (X:Cx) (vs:List Expr) (n:Nat) (t:TA):Prop:=∀ (pins:List (Addr×Obj)) (s:Shared) (σ:St) (H:Hp) (Q:Hp→Prop) (out:Str),out.length+n≤sizeLine→Inv X pins σ H s→(t σ H fun _ H'=>Q H') →
 wpAny (model X.prog X.w) X.A (joinParts out (evalEach vs X.env)) (fun u s'=>∃ y tk H',u=.str y tk∧Inv X pins σ H' s'∧Q H') X.xe s
section
variable {X:Cx}
theorem fp_str {z:Str} {j pos} (h:z.length≤1000):FP X (.Constant (.str z) j pos) 1000 (tC (.str z)):=fun pins s σ H Q I q=>by
 refine thn (pe_str pins s σ H (fun y H'=>y=.str z∧Q H') I ⟨rfl,q⟩) fun u s' ⟨v,H',I',r,e,q'⟩=>?_
 subst e
 obtain⟨t,rfl⟩:=r
 exact⟨z,t,H',rfl,h,I',q'⟩
noncomputable def tSmall (te:TE):TE:=fun σ H Q=>te σ H fun x H1=>∃ i:Int,x=.int i∧i.natAbs.log2<1920∧(toString i:Str).length≤1000∧Q x H1
theorem fp_int {v:Expr} {te:TE} {pos:Pos} (h:PE X v te):FP X (.FormattedValue v (-1) none pos) 1000 (tSmall te):=fun pins s σ H Q I q=>by
 refine FormattedValue_plain (thn (h pins s σ H _ I q) fun u s' ⟨x,H',I',r,q'⟩=>?_)
 obtain⟨i,rfl,hd,hl,q'⟩:=q'
 obtain⟨t,rfl⟩:=r
 exact formatField_int_small hd ⟨_,_,H',rfl,hl,I'.tok _,q'⟩
theorem fps_nil:FPs X [] 0 tNil:=fun pins s σ H Q out hz I q=>joinParts_nil ⟨out,_,H,rfl,I.tok _,q⟩ (by omega)
theorem fps_cons {v:Expr} {vs:List Expr} {n m:Nat} {te:TE} {t:TA} (h1:FP X v n te) (h2:FPs X vs m t) (he:evalEach (v :: vs) X.env=eval v X.env :: evalEach vs X.env:=by rfl):FPs X (v :: vs) (n+m) (tCons te t):=fun pins s σ H Q out hz I q=>by
 rw[he]
 refine joinParts_cons (thn (h1 pins s σ H _ I q) fun u s' ⟨y,tk,H',e,hl,I',q'⟩=>?_)
 subst e
 have ha:(out++y).length=out.length+y.length:=strLen_append _ _
 exact⟨by rw[ha];omega,h2 pins s' σ H' Q (out++y) (by rw[ha];omega) I' q'⟩
noncomputable def tText (t:TA):TE:=fun σ H Q=>t σ H fun _ H'=>∀ z,Q (.str z) H'
theorem pe_fstr {v w:Expr} {vs:List Expr} {n:Nat} {t:TA} {pos:Pos} (h:FPs X (v :: w :: vs) n t) (hn:n≤100000:=by decide) (he:evalEach (v :: w :: vs) X.env=eval v X.env :: eval w X.env :: evalEach vs X.env:=by rfl):PE X (.JoinedStr (v :: w :: vs) pos) (tText t):=fun pins s σ H Q I q=>by
 refine JoinedStr_many ?_
 rw[← he]
 refine thn (h pins s σ H (fun H'=>∀ z,Q (.str z) H') Str.empty (by
  have:Str.empty.length=0:=rfl
  rw[this]
  exact Nat.le_trans (by omega) (show 100000≤sizeLine by decide)) I q) fun u s' ⟨y,tk,H',e,I',q'⟩=>?_
 subst e
 exact⟨.str y,H',I',⟨_,rfl⟩,q' y⟩
end
noncomputable abbrev bmV:List Value:=[.type "ValueError",.type "Exception",.type "BaseException",.type "object"]
noncomputable def Raises (X:Cx) (E:XK):Prop:=∀ (pins:List (Addr×Obj)) (σ:St) (H:Hp) (s:Shared) (e:Addr) (oe:Obj) (vs:Array Value) (a0:Value),Inv X pins σ H s→s.heap.get? e=some oe→H e=none→(∀ b o,X.s₀.heap.get? b=some o→b≠e)→oe.data=.fields vs→vs[1]?=some .none→vs[0]?=some a0→E oe.cls oe.dict H→X.xe (.ref e) s
theorem raiseR {P:Program} {w:World} {K:PySem.W.Frag} {mg:Str→Option Value} {base:Heap} {N:List Str} {qual:Str} {scope:Scope} {f:Addr} {cd:Value} {A:Around} {outer:List Env} {s:Shared} {H:Hp} {E:XK} (hfr:A.frames=some outer) :
 Raises (cxOf (CXR P w) P w K mg base N qual scope f cd A outer s H E) E:=fun pins σ H1 s1 e oe vs a0 I he hHe hold hd h1 h0 q =>
 leave_new (X:=cxOf (CXR P w) P w K mg base N qual scope f cd A outer s H E) ⟨rfl,rfl,rfl⟩ (Around.frames_deeper hfr) I he hHe hold hd h1 h0 q
section
variable {X:Cx}
end
end L2
namespace L2
open PySem PySem.Spec PyProof.Rows
open Sem (wp)
noncomputable def TailH (bmB bm:List Value):Prop:=∀ {X:String} {b:Bool},bmB.contains (.type X)=b→bm.contains (.type X)=b
noncomputable def noRefs:List Value→List Value
 | .ref _ :: r=>noRefs r
 | l=>l
theorem tailH_of {bmB:List Value}:∀ {bm:List Value},noRefs bm=bmB→TailH bmB bm
 | [],e=>fun hb=>by
  have e':([]:List Value)=bmB:=e
  rw[e']
  exact hb
 | v :: r,e=>fun hb=>by
  cases v
  case ref a =>
   have ih:=tailH_of (bm:=r) e hb
   rw[List.contains_cons,ih]
   rfl
  all_goals (rw[show _ :: r=bmB from e];exact hb)
section
variable {prog:Program} {w:World} {A:Around} {E:Value→Shared→Prop} {h:Heap} {g:Array GenState} {d:Drawn} {t:Nat} {os:OsState}
variable {nm q:Str} {C N:Addr} {bs bm bmB:List Value} {hdct:Bool} {sn:List Str} {sub:List Value} {ab:Bool} {col:Option Bool} {dd:Option Addr} {k0 k1 k2 k3 k5:Option Value} {B newId initId:String}
theorem check_newH {M:Model} (F:ExcBaseFacts B newId initId bmB) (T:TailH bmB bm) {rest:List Value} {Q:Unit→Shared→Prop} (oC:h.get? C=some (excClassObj nm q C N bs bm hdct sn sub ab col dd k0 k1 k2 k3 k5 newId))
 (kq:Q () ⟨h,g,d,t,os⟩):wpAny M A (checkBuiltinCall newId ⟨.ref C :: rest,[]⟩) Q E ⟨h,g,d,t,os⟩:=by
 have hasIt:(Value.ref C :: bm).contains (.type B)=true:=by
  rw[List.contains_cons,T F.hasB]
  exact Bool.or_true _
 have ns:=F.noStar
 simp only[checkBuiltinCall,F.newRow,F.newSplit,F.newKind]
 repeat (first
  | refine wpAny_loadPart_at oC ?_
  | (refine wpAny_isSubtype_exc oC ?_;rw[hasIt])
  | refine wpAny_staticBase_exc oC ?_
  | refine wpAny_madeBy_exc oC ?_
  | simp only[bne_self_eq_false,if_false,Bool.false_eq_true]
  | wp_step)
 exact kq
theorem exc_newH {R:Result→Shared→Prop} (F:ExcBaseFacts B newId initId bmB) (T:TailH bmB bm) {rest:List Value} (oC:h.get? C=some (excClassObj nm q C N bs bm hdct sn sub ab col dd k0 k1 k2 k3 k5 newId))
 (kq:R (.ok (.ret (.ref (h.objs.size+1)))) ⟨(h.push { cls:=.type "tuple",data:=.seq rest.toArray }).push { cls:=.ref C,data:=.fields #[.ref h.objs.size,.none,.none,.none,.bool false,.none] },g,d,t,os⟩) (hrest:rest.length≤sizeLine:=by size_fits) :
 codeAny (model prog w) A (.builtin newId ⟨.ref C :: rest,[]⟩) R ⟨h,g,d,t,os⟩:=by
 have ends:=F.ends
 have has1:(Value.ref C :: bm).contains (.type B)=true:=by
  rw[List.contains_cons,T F.hasB]
  exact Bool.or_true _
 have has2:(Value.ref C :: bm).contains (.type "AttributeError")=false:=by
  rw[List.contains_cons,T F.noAttr]
  rfl
 have has3:(Value.ref C :: bm).contains (.type "NameError")=false:=by
  rw[List.contains_cons,T F.noName]
  rfl
 refine codeAny_builtinAt F.entry ?_
 unfold Builtin.«BaseException.__new__»
 refine PySem.wpAt_bind ?_
 show PySem.wpAt _ _ _ (stack >>= _) _ _ _
 refine PySem.wpAt_bind (PySem.wpAt_stack fun _ _=>PySem.wpAt_of_wpAny ?_)
 wp_walk
 refine PySem.wpAt_of_wpAny ?_
 rw[F.owner]
 repeat (first
  | with_reducible refine wpAny_madeHere_exc F.canon oC ?_
  | with_reducible refine wpAny_loadPart_at oC ?_
  | (with_reducible refine wpAny_isSubtype_exc oC ?_;first | rw[has1] | rw[has2] | rw[has3])
  | wp_step)
 show R _ _
 rw[Heap.size_push]
 exact kq
theorem check_initH {M:Model} (F:ExcBaseFacts B newId initId bmB) (T:TailH bmB bm) {e:Addr} {oe:Obj} {rest:List Value} {Q:Unit→Shared→Prop}
 (oC:h.get? C=some (excClassObj nm q C N bs bm hdct sn sub ab col dd k0 k1 k2 k3 k5 newId)) (oE:h.get? e=some oe) (ocl:oe.cls=.ref C) (kq:Q () ⟨h,g,d,t,os⟩) :
 wpAny M A (checkBuiltinCall initId ⟨.ref e :: rest,[]⟩) Q E ⟨h,g,d,t,os⟩:=by
 have hasIt:(Value.ref C :: bm).contains (.type B)=true:=by
  rw[List.contains_cons,T F.hasB]
  exact Bool.or_true _
 have ns:=F.noStar
 simp only[checkBuiltinCall,F.initRow,F.initSplit,F.initKind]
 repeat (first
  | (with_reducible refine wpAny_loadPart_at oE ?_;rw[ocl])
  | with_reducible refine wpAny_loadPart_at oC ?_
  | (with_reducible refine wpAny_isSubtype_exc oC ?_;rw[hasIt])
  | wp_step)
 refine wpAny_onRaise ?_
 rw[show ∀ (a b:String) (n:Nat),Bind.check ⟨.positional,"*",B,.self,[⟨"args",.varPos,false⟩]⟩ a b n (List.map (fun x=>x.fst) ({ pos:=Value.ref e :: rest }:Args).kw)=pure () from fun a b n=>check_star_args _ _ _ _ _ _]
 exact wpAny_pure kq
theorem type_call_initT (F:ExcBaseFacts B newId initId bmB) (T:TailH bmB bm) {mN:Str→Option Value} {rest:List Value} {fI:Addr} {oI:Obj} {Q:Fin→Shared→Prop}
 (hC:h.get? C=some (excClassObj nm q C N bs bm hdct sn sub ab col dd k0 k1 k2 k3 k5 newId)) (hn:h.Ns N mN) (hi:mN "__init__"=some (.ref fI))
 (hfI:h.get? fI=some oI) (hfc:oI.cls=.type "function")
 (hq:∀ h' e,Heap.MadeExcOf h h' e (.ref C) rest →
  wpAny (model prog w) A (call (.ref fI) (.ref e :: rest)) (fun r s'=>r=.none∧Q (.done (.ret (.ref e))) s') E ⟨h',g,d,t,os⟩) (hrest:rest.length≤sizeLine:=by size_fits) :
 wpAny (model prog w) A (Builtin.«type.__call__» ⟨.ref C :: rest,[]⟩) Q E ⟨h,g,d,t,os⟩:=by
 repeat (first | with_reducible refine wpAny_loadPart_at hC ?_ | with_reducible refine wpAny_madeBy_exc hC ?_ | wp_step)
 refine codeAny_call_builtin_code (Code.quiet_builtin _ F.quiet) (check_newH F T hC ?_)
 refine exc_newH F T hC ?_ hrest
 show wpAny _ _ _ _ _ _
 have k2:∀ b o,h.get? b=some o→((h.push { cls:=.type "tuple",data:=.seq rest.toArray }).push { cls:=.ref C,data:=.fields #[.ref h.objs.size,.none,.none,.none,.bool false,.none] }).get? b=some o :=
  fun b o e=>Heap.get?_push_of_some _ (Heap.get?_push_of_some _ e)
 have hC₁:=k2 _ _ hC
 have hfI₁:=k2 _ _ hfI
 have hn₁:=hn.keeps k2
 have hget:((h.push { cls:=.type "tuple",data:=.seq rest.toArray }).push
  { cls:=.ref C,data:=.fields #[.ref h.objs.size,.none,.none,.none,.bool false,.none] }).get? (h.objs.size+1)=some
  { cls:=.ref C,data:=.fields #[.ref h.objs.size,.none,.none,.none,.bool false,.none] }:=by heap_get
 have hcC:(Value.ref C :: bm).contains (.ref C)=true:=by simp
 unfold isInstance
 repeat (first | with_reducible refine wpAny_loadPart_at hget ?_ | (with_reducible refine wpAny_isSubtype_exc hC₁ ?_;rw[hcC]) | wp_step)
 show wpAny _ _ (typeLookup (.ref C) _) _ _ _
 rw[typeLookup_eq]
 refine wpAny_bind (wpAny_mroOf_exc hC₁ ?_)
 rw[lookupAlong_cons]
 refine wpAny_bind (wpAny_classOwn_exc hC₁ hn₁ ?_)
 rw[hi]
 refine wpAny_pure ?_
 refine wpAny_holding (wpAny_bind ?_)
 unfold bindSpecial
 refine wpAny_bind (wpAny_typeOf (T:="function") ⟨_,hfI₁,hfc⟩ ?_)
 rw[if_pos (by decide)]
 refine wpAny_pure (wpAny_bind (wpAny_mono (hq _ (h.objs.size+1) ⟨k2,Heap.get?_none_of_le (Nat.le_succ _),h.objs.size,hget,Heap.get?_none_of_le (Nat.le_refl _),?_⟩) (fun r s' hr=>?_) fun _ _ x=>x))
 ·exact Heap.get?_push_of_some _ (Heap.get?_push_at rfl rfl)
 ·obtain⟨rfl,hQ⟩:=hr
  wp_walk
  exact hQ
theorem call_initT (F:ExcBaseFacts B newId initId bmB) (T:TailH bmB bm) {mN:Str→Option Value} {rest:List Value} {fI:Addr} {oI:Obj} {Q:Value→Shared→Prop}
 (hC:h.get? C=some (excClassObj nm q C N bs bm hdct sn sub ab col dd k0 k1 k2 k3 k5 newId)) (hn:h.Ns N mN) (hi:mN "__init__"=some (.ref fI))
 (hfI:h.get? fI=some oI) (hfc:oI.cls=.type "function")
 (hq:∀ h' e,Heap.MadeExcOf h h' e (.ref C) rest →
  wpAny (model prog w) (A.under (.builtin "type.__call__" ⟨.ref C :: rest,[]⟩)) (call (.ref fI) (.ref e :: rest)) (fun r s'=>r=.none∧Q (.ref e) s') E ⟨h',g,d,t,os⟩) (hrest:rest.length≤sizeLine:=by size_fits) :
 wpAny (model prog w) A (call (.ref C) rest) Q E ⟨h,g,d,t,os⟩:=by
 have f1:=tc_lookup
 have f2:=tc_bind (.ref C)
 have hT:(⟨h,g,d,t,os⟩:Shared).TypeIs (.ref C) "type":=⟨_,hC,rfl⟩
 refine wpAny_call (codeAny_of_tree ?_)
 show wpAny _ _ (callAny (.ref C) _) _ _ _
 repeat (any_goals (first | assumption | with_reducible refine wpAny_loadPart_at hC ?_ | wp_step))
 refine⟨rfl,?_⟩
 refine codeAny_call_builtin_at (Code.quiet_builtin _ (by decide +kernel)) entry_typeCall (wpAny_check_type_call_sub hC (type_call_initT (hrest:=hrest) F T hC hn hi hfI hfc fun h' e hm=>?_))
 exact hq h' e hm
theorem raise_made_od {M:Model} {s:Shared} {env:Env} {x:Sem Value} {Q:Flow→Shared→Prop} (hbase:bm.contains (.type "BaseException")=true) (hh:A.handled=none)
 (h:wpAny M A x (fun v s₁=>∃ e od t,v=.ref e∧s₁.heap.get? C=some (excClassObj nm q C N bs bm hdct sn sub ab col dd k0 k1 k2 k3 k5 newId) ∧
  s₁.heap.get? e=some { cls:=.ref C,dict:=od,data:=.fields #[.ref t,.none,.none,.none,.bool false,.none] }∧E (.ref e) s₁) E s) :
 wpAny M A (raiseStmt env (some x) none) Q E s:=by
 have hcB:(Value.ref C :: bm).contains (.type "BaseException")=true:=by rw[List.contains_cons,hbase,Bool.or_true]
 unfold raiseStmt
 refine wpAny_bind (wpAny_mono h (fun v s₁ h₁=>?_) fun _ _ x=>x)
 obtain⟨e,od,t,rfl,hC,he,hE⟩:=h₁
 obtain⟨hp,g,d,tk,os⟩:=s₁
 repeat (first | with_reducible refine wpAny_loadPart_at he ?_ | with_reducible refine wpAny_loadPart_at hC ?_ | (with_reducible refine wpAny_isSubtype_exc hC ?_;rw[hcB]) | wp_step)
 exact wpAny_raiseNew_none hh hE
theorem raise_initT {s:Shared} {env:Env} (F:ExcBaseFacts B newId initId bmB) {mN:Str→Option Value} {x:Str} {np cpos pos:Pos} {args:List Expr} {fI:Addr} {oI:Obj} {Q:Flow→Shared→Prop}
 (hbase:bm.contains (.type "BaseException")=true) (hh:A.handled=none) (hplain:(backTo cpos (starEach args env)).any (·.1)=false) (hi:mN "__init__"=some (.ref fI)) (hfc:oI.cls=.type "function")
 (h:wpAny (model prog w) A (eval (.Name x np) env) (fun f s₁=>f=.ref C∧wpAny (model prog w) A (evalArgs (.ref C) true (backTo cpos (starEach args env)) [])
  (fun a s₂=>a.kw=[]∧a.pos.length≤sizeLine∧s₂.heap.get? C=some (excClassObj nm q C N bs bm hdct sn sub ab col dd k0 k1 k2 k3 k5 newId)∧s₂.heap.Ns N mN∧TailH bmB bm∧s₂.heap.get? fI=some oI ∧
   ∀ h' e,Heap.MadeExcOf s₂.heap h' e (.ref C) a.pos→wpAny (model prog w) (A.under (.builtin "type.__call__" ⟨.ref C :: a.pos,[]⟩)) (call (.ref fI) (.ref e :: a.pos)) (fun r s'=>r=.none ∧
    (s'.heap.get? C=some (excClassObj nm q C N bs bm hdct sn sub ab col dd k0 k1 k2 k3 k5 newId))∧(∃ od t,s'.heap.get? e=some { cls:=.ref C,dict:=od,data:=.fields #[.ref t,.none,.none,.none,.bool false,.none] })∧E (.ref e) s') E { s₂ with heap:=h' }) E s₁) E s) :
 wpAny (model prog w) A (exec (.Raise (some (.Call (.Name x np) args [] cpos)) none pos) env) Q E s:=by
 rw[arm_exec_Raise]
 simp only[evalOpt,Option.map]
 refine wpAny_bind (wpAny_standAt (raise_made_od (C:=C) (nm:=nm) (q:=q) (N:=N) (bs:=bs) (bm:=bm) (hdct:=hdct) (sn:=sn) (sub:=sub) (ab:=ab) (col:=col) (dd:=dd) (k0:=k0) (k1:=k1) (k2:=k2) (k3:=k3) (k5:=k5) (newId:=newId) hbase hh (wpAny_bind (wpAny_mono (wpAny_Call_ofName (wpAny_mono h (fun f s₁ h₁=>?_) fun _ _ x=>x)) (fun v s₃ h₃=>wpAny_bind (wpAny_standAt (wpAny_pure h₃))) fun _ _ x=>x))))
 obtain⟨rfl,h₁⟩:=h₁
 unfold callWith
 refine wpAny_bind (wpAny_holding (wpAny_mono h₁ (fun a s₂ h₂=>wpAny_bind (wpAny_standAt ?_)) fun _ _ x=>x))
 obtain⟨apos,akw⟩:=a
 obtain⟨hkw,hlen,hC,hn,T,hfI,h₂⟩:=h₂
 obtain rfl:akw=[]:=hkw
 obtain⟨hp,g,d,tk,os⟩:=s₂
 simp only[hplain]
 refine wpAny_bind (wpAny_keeperOf_exc hC ?_)
 refine wpAny_bind (call_initT (hrest:=hlen) F T hC hn hi hfI hfc fun h' e hm=>wpAny_mono (h₂ h' e hm) (fun r s' ⟨hr,z1,⟨od,vs,z2⟩,z3⟩=>⟨hr,?_⟩) fun _ _ z=>z)
 refine wpAny_bind (wpAny_holding (wpAny_point (wpAny_pure ?_)))
 exact⟨e,od,vs,rfl,z1,z2,z3⟩
theorem call_binit (F:ExcBaseFacts B newId initId bmB) (T:TailH bmB bm) {rest:List Value} {e t0:Addr} {od:Option Addr} {Q:Value→Shared→Prop}
 (hC:h.get? C=some (excClassObj nm q C N bs bm hdct sn sub ab col dd k0 k1 k2 k3 k5 newId)) (he:h.get? e=some { cls:=.ref C,dict:=od,data:=.fields #[.ref t0,.none,.none,.none,.bool false,.none] })
 (hq:∀ h' t1,(∀ b o,b≠e→h.get? b=some o→h'.get? b=some o)→h'.get? e=some { cls:=.ref C,dict:=od,data:=.fields #[.ref t1,.none,.none,.none,.bool false,.none] }→Q .none ⟨h',g,d,t,os⟩) (hrest:rest.length≤sizeLine:=by size_fits) :
 wpAny (model prog w) A (call (.builtin initId) (.ref e :: rest)) Q E ⟨h,g,d,t,os⟩:=by
 refine wpAny_call (codeAny_call_builtin F.init.plain F.initEntry (check_initH F T hC he rfl ?_))
 have he1:=Heap.get?_push_of_some { cls:=.type "tuple",data:=.seq rest.toArray } he
 wp_walk
 refine hq _ h.objs.size (fun b o n hb=>?_) ?_
 ·rw[Heap.get?_update_other _ _ n.symm]
  exact Heap.get?_push_of_some _ hb
 ·rw[Heap.get?_update_self _ he1 rfl]
  rfl
end
end L2
namespace L2
open PySem PySem.Spec PyProof.Rows
open Sem (wp)
open Builtin Builtin.ObjectAttr
structure XStore (K:PySem.W.Frag) (C:Addr) (name:Str):Prop where
 cls:∃ cd bm,PySem.W.clsIn K C=some cd∧cd.mro=.ref C :: bm∧(∀ self,refuseLoop self "__setattr__" bm=pure ())∧bm.contains (.type "object")=true∧cd.hasDict=true
 set:PySem.W.findIn K (.ref C) "__setattr__"=some (some (.builtin "object.__setattr__"))
 free:PySem.W.findIn K (.ref C) name=some none
section
variable {prog:Program} {w:World} {A:Around} {E:Value→Shared→Prop} {h:Heap} {g:Array GenState} {d:Drawn} {t:Nat} {os:OsState} {K:PySem.W.Frag} {C e:Addr} {name:Str} {v:Value} {vs:Array Value}
theorem store_exc {Q:Unit→Shared→Prop} (X:K.In h) (S:XStore K C name) (hx:h.get? e=some { cls:=.ref C,dict:=none,data:=.fields vs })
 (hq:∀ h' dx tk',h.get? dx=none→(∀ b o,b≠e→h.get? b=some o→h'.get? b=some o)→h'.get? e=some { cls:=.ref C,dict:=some dx,data:=.fields vs }→h'.Ns1 dx (fun y=>if y=name then some v else none)→Q () ⟨h',g,d,tk',os⟩) :
 wpAny (model prog w) A (setAttr (.ref e) name v) Q E ⟨h,g,d,t,os⟩:=by
 obtain⟨⟨cd,bm,hc,hm,href,hob,hdct⟩,hs,hfree⟩:=S
 have SF:=PySem.F.store_ValueError
 have I:PySem.W.InstAt h e { cls:=.ref C,dict:=none,data:=.fields vs } C none:=⟨hx,rfl,rfl,trivial⟩
 have hmro:PySem.W.Looks (model prog w) h (mroOf (.ref C)) cd.mro:=(PySem.W.looks_clsIn X hc).andThen .now
 have hsub:PySem.W.Looks (model prog w) h (isInstance (.ref e) (.type "object")) true:=I.type.andThen (PySem.W.looks_mroIn X (by
  unfold PySem.W.mroIn
  rw[hc,Option.bind_some,hm,if_neg (by simp),List.contains_cons,hob,Bool.or_true]))
 refine PySem.W.set_plain (s:=⟨h,g,d,t,os⟩) X I hs ?_
 refine codeAny_call_builtin SF.slot.plain SF.entry (@PySem.W.check_slot (model prog w) _ _ _ "object.__setattr__" "object" "__setattr__" (.ref e) [.str name t,v] [] _ SF.kind SF.split hsub (SF.args (.ref e) (.str name t) v) ?_)
 rw[PySem.W.osa_eq,refuse_eq]
 refine wpAny_bind (wpAny_bind (I.type.at (wpAny_bind (hmro.at ?_))))
 rw[hm,refuseLoop_ref,href]
 refine wpAny_pure (wpAny_bind (I.type.at (wpAny_bind ((PySem.W.looks_findIn X hfree).at (wpAny_bind ?_)))))
 refine wpAny_pure ?_
 dsimp only
 have hx₁:(h.push { cls:=.type "dict",data:=.dict #[] }).get? e=some { cls:=.ref C,dict:=none,data:=.fields vs }:=Heap.get?_push_of_some _ hx
 have hxs:e≠h.objs.size:=Nat.ne_of_lt (Heap.lt_size hx)
 refine wpAny_bind (wpAny_pure (wpAny_bind (wpAny_bind (wpAny_loadPart hx (wpAny_bind ((PySem.W.looks_clsIn X hc).at ?_))))))
 rw[hdct]
 rw[if_neg (by decide)]
 dsimp only
 rw[if_neg (by simp[typeHasDict])]
 refine wpAny_bind (wpAny_alloc' ?_)
 refine wpAny_bind (wpAny_update' hx₁ ?_)
 refine wpAny_pure ?_
 dsimp only
 have hgd:((h.push { cls:=.type "dict",data:=.dict #[] }).update e fun o=>{ cls:=o.cls,dict:=some h.objs.size,data:=o.data,slots:=o.slots }).get? h.objs.size
  = some { cls:=.type "dict",data:=.dict #[] }:=(Heap.get?_update_ne _ _ _ _ hxs.symm).trans (Heap.get?_push_at rfl rfl)
 have hnd:((h.push { cls:=.type "dict",data:=.dict #[] }).update e fun o=>{ cls:=o.cls,dict:=some h.objs.size,data:=o.data,slots:=o.slots }).Ns h.objs.size (fun _=>none) :=
  ⟨_,#[],_,hgd,rfl,fun e he=>absurd he (by simp),fun _=>rfl⟩
 unfold storeInDict newKeyGuard
 refine wpAny_bind (wpAny_pure (wpAny_bind (wpAny_nsSet1 (Heap.Ns1.of_empty hnd) fun h' hn' hs=>?_)))
 obtain⟨oD,esD,epD,hoD,hdD,hcD⟩:=hn'.count (Within.cons name v Within.nil)
 refine wpAny_bind (wpAny_lookBehind hoD (by rw[hdD];exact pastItsLine_dict (Nat.le_trans hcD (by rw[List.length_cons,List.length_nil,sizeLine_eq];omega))) ?_)
 wp_walk
 refine hq h' h.objs.size _ (Heap.get?_none_of_le (Nat.le_refl _)) (fun b o n hb=>?_) ?_ hn'
 ·exact(hs.2 b (Nat.ne_of_lt (Heap.lt_size hb))).trans ((Heap.get?_update_ne _ _ _ _ n).trans (Heap.get?_push_of_some _ hb))
 ·exact(hs.2 e hxs).trans (Heap.get?_update_self _ hx₁ rfl)
end
end L2
namespace L2
open PySem PySem.Spec PyProof.Rows
noncomputable def XO (C e:Addr) (od:Option Addr):HO:=.ext fun h=>∃ t,h.get? e=some { cls:=.ref C,dict:=od,data:=.fields #[.ref t,.none,.none,.none,.bool false,.none] }
theorem XO.mk {P:Program} {w:World} {H:Hp} {h:Heap} {C e t:Addr} {od:Option Addr} (x:h.get? e=some { cls:=.ref C,dict:=od,data:=.fields #[.ref t,.none,.none,.none,.bool false,.none] }):ObjOk P w H h e (XO C e od) :=
 ⟨⟨t,x⟩,⟨_,x⟩,fun h1 h2 ⟨t,z⟩ k=>⟨t,k _ z⟩⟩
noncomputable def del (H:Hp) (a:Addr):Hp:=fun b=>if b=a then none else H b
theorem del_same {H:Hp} {a:Addr}:del H a a=none:=by unfold del;rw[if_pos rfl]
theorem del_ne {H:Hp} {a b:Addr} (h:b≠a):del H a b=H b:=by unfold del;rw[if_neg h]
section
variable {X:Cx} {pins:List (Addr×Obj)} {σ:St} {H:Hp} {s:Shared} {h':Heap} {C e dx:Addr} {od:Option Addr} {φ:Heap→Prop}
theorem Inv.forget (I:Inv X pins σ H s) (he:H e=some (.ext φ)):Inv X pins σ (del H e) s:=by
 have ne:∀ b u,H b=some u→(∀ ψ,u≠.ext ψ)→b≠e:=fun b u q n z=>by rw[z,he]at q;cases q;exact n _ rfl
 have un:Un X.fs [] H (del H e) s.heap s.heap:=⟨fun _ _ q _ _ _=>q,fun _ o q _ _ _=>⟨o.slots,q⟩,fun b _ _ n _=>by unfold del;split <;> first | rfl | exact n,fun _ o q _=>⟨o,q⟩,
  fun b xs q=>by rw[del_ne (ne b _ q fun _ z=>by cases z)];exact q,fun b o u q=>by rw[del_ne (ne b _ q fun _ z=>by cases z)];exact q,fun b ps q=>⟨#[],by rw[del_ne (ne b _ q fun _ z=>by cases z),q];simp⟩⟩
 exact I.un (t':=s.toks) un fun b u q=>by
  by_cases hb:b=e
  ·rw[hb,del_same]at q;cases q
  ·rw[del_ne hb]at q
   exact(I.hok b u q).stay (fun _ _ _ z=>z) (fun c z=>by rw[del_ne (ne c _ z fun _ z=>by cases z)];exact z) fun c xs z=>by rw[del_ne (ne c _ z fun _ z=>by cases z)];exact z
theorem Inv.unthere (I:Inv X pins σ H s) {a:Addr} (hn:s.heap.get? a=none):H a=none:=by
 cases hu:H a with
 | none=>rfl
 | some u =>
  obtain⟨o,ho⟩:=(I.hok a u hu).there
  rw[hn]at ho
  cases ho
theorem Inv.newX (I:Inv X pins σ H s) {args:List Value} (hm:Heap.MadeExcOf s.heap h' e (.ref C) args):Inv X pins σ (upd H e (XO C e none)) { s with heap:=h' }:=by
 have hn:=I.unthere hm.new
 have ne:∀ b u,H b=some u→b≠e:=fun b u q z=>by rw[z,hn]at q;cases q
 have nh:∀ b o,s.heap.get? b=some o→b≠e:=fun b o q z=>by rw[z,hm.new]at q;cases q
 obtain⟨t,ht,_,_⟩:=hm.there
 have un:Un X.fs [] H (upd H e (XO C e none)) s.heap h':=⟨fun b o q _ _ _=>hm.keeps b o q,fun b o q _ _ _=>⟨o.slots,hm.keeps b o q⟩,fun b o q n _=>by rw[upd_ne (nh b o q)];exact n,fun b o q _=>⟨o,hm.keeps b o q⟩,
  fun b xs q=>by rw[upd_ne (ne b _ q)];exact q,fun b o u q=>by rw[upd_ne (ne b _ q)];exact q,fun b ps q=>⟨#[],by rw[upd_ne (ne b _ q),q];simp⟩⟩
 exact I.un (t':=s.toks) un fun b u q=>by
  by_cases hb:b=e
  ·subst hb;rw[upd_same]at q;cases q;exact XO.mk ht
  ·rw[upd_ne hb]at q
   exact(I.hok b u q).stay (fun c v _ z=>hm.keeps c v z) (fun c z=>by rw[upd_ne (ne c _ z)];exact z) fun c xs z=>by rw[upd_ne (ne c _ z)];exact z
theorem Inv.dictX (I:Inv X pins σ H s) {t':Nat} {fs:List (Str×V)} (he:H e=some (XO C e none)) (hdx:s.heap.get? dx=none) (k:∀ b o,b≠e→s.heap.get? b=some o→h'.get? b=some o) {t:Addr}
 (hx:h'.get? e=some { cls:=.ref C,dict:=some dx,data:=.fields #[.ref t,.none,.none,.none,.bool false,.none] }) (hd:∃ mA,h'.Ns1 dx mA∧∀ f,RelO (fs.lookup f) (mA f)) :
 Inv X pins σ (upd (upd H dx (.xd fs)) e (XO C e (some dx))) { s with heap:=h',toks:=t' }:=by
 have hn:=I.unthere hdx
 have ne:∀ b u,H b=some u→(∀ ψ,u≠.ext ψ)→b≠e:=fun b u q n z=>by rw[z,he]at q;cases q;exact n _ rfl
 have nd:∀ b u,H b=some u→b≠dx:=fun b u q z=>by rw[z,hn]at q;cases q
 have nb:∀ b,H b=none→b≠e:=fun b q z=>by rw[z,he]at q;cases q
 have nh:∀ b o,s.heap.get? b=some o→b≠dx:=fun b o q z=>by rw[z,hdx]at q;cases q
 have up:∀ b u,H b=some u→(∀ ψ,u≠.ext ψ)→upd (upd H dx (.xd fs)) e (XO C e (some dx)) b=some u:=fun b u q n=>by rw[upd_ne (ne b u q n),upd_ne (nd b u q)];exact q
 have un:Un X.fs [] H (upd (upd H dx (.xd fs)) e (XO C e (some dx))) s.heap h':=⟨fun b o q n _ _=>k b o (nb b n) q,fun b o q n _ _=>⟨o.slots,k b o (nb b n) q⟩,fun b o q n _=>by rw[upd_ne (nb b n),upd_ne (nh b o q)];exact n,
  fun b o q _=>by
   by_cases hb:b=e
   ·rw[hb];exact⟨_,hx⟩
   ·exact⟨o,k b o hb q⟩,
  fun b xs q=>up b _ q (fun _ z=>by cases z),fun b o u q=>up b _ q (fun _ z=>by cases z),fun b ps q=>⟨#[],by rw[up b _ q (fun _ z=>by cases z)];simp⟩⟩
 exact I.un (t':=t') un fun b u q=>by
  by_cases hb:b=e
  ·subst hb;rw[upd_same]at q;cases q;exact XO.mk hx
  ·rw[upd_ne hb]at q
   by_cases hc:b=dx
   ·subst hc;rw[upd_same]at q;cases q;exact hd
   ·rw[upd_ne hc]at q
    refine(I.hok b u q).stay (fun c v hcv z=>k c v (fun z'=>?_) z) (fun c z=>up c _ z fun _ z=>by cases z) fun c xs z=>up c _ z fun _ z=>by cases z
    subst z'
    rcases hcv with z1 | z1
    ·exact hb z1.symm
    ·rw[he]at z1;cases z1
end
noncomputable def XCls (K:PySem.W.Frag) (C:Addr) (i:Option Value):Prop:=∀ h:Heap,K.In h→∃ bm N nm q bs hdct sn sub ab col dd k0 k1 k2 k3 k5 mN,h.get? C=some (excClassObj nm q C N bs bm hdct sn sub ab col dd k0 k1 k2 k3 k5 "ValueError.__new__")∧h.Ns N mN∧mN "__init__"=i∧TailH bmV bm
noncomputable def excInI (K:PySem.W.Frag) (C:Addr) (i:Option Value):Bool:=match K.lookup C with
 | some ⟨.type "type",_,.cls cd,sl⟩=>(match cd.mro,sl.toList with
  | .ref C' :: bm,[_,_,_,_,some (.builtin n),_]=>C' == C && n == "ValueError.__new__" && !cd.hasDel && noRefs bm == bmV && PySem.W.nsOkIn K cd.ns && PySem.W.nsIn K cd.ns "__init__" == some i
  | _,_=>false)
 | _=>false
theorem nsMap_of_in {K:PySem.W.Frag} {h:Heap} {N:Addr} {x:Str} {v:Value} (X:K.In h) (e:PySem.W.nsOkIn K N=true) (q:PySem.W.nsIn K N x=some (some v)):h.nsMap N x=some v:=by
 obtain⟨o,es,ep,ho,hd,_,hf⟩:=Heap.Ns.of_isNs (PySem.W.isNs_of_in X e)
 unfold PySem.W.nsIn at q
 split at q
 ·rename_i c d es' n' sl z
  have:=X _ _ z
  rw[ho]at this
  cases this
  cases hd
  split at q
  ·rename_i en he
   cases q
   rw[← hf]
   unfold nsFind findBy
   rw[← Array.find?_toList,he]
   rfl
  ·split at q <;> cases q
 ·cases q
theorem xcls_of {K:PySem.W.Frag} {C:Addr} {i:Option Value} (q:excInI K C i=true):XCls K C i:=fun h kin=>by
 unfold excInI at q
 split at q
 ·rename_i dd cd sl ho
  split at q
  ·rename_i C' bm k0 k1 k2 k3 n k5 hm hs
   simp only[Bool.and_eq_true,beq_iff_eq,Bool.not_eq_true']at q
   obtain⟨⟨⟨⟨⟨e1,e2⟩,hdel⟩,ht⟩,hok⟩,hni⟩:=q
   subst e1 e2
   obtain⟨nm,bs,mro,ns,qn,hd,sn,sub,ab,col,del⟩:=cd
   dsimp only at hm hdel hok hni
   subst hm hdel
   obtain⟨l⟩:=sl
   dsimp only at hs
   subst hs
   refine⟨bm,ns,nm,qn,bs,hd,sn,sub,ab,col,dd,k0,k1,k2,k3,k5,_,kin _ _ ho,.of_isNs (PySem.W.isNs_of_in kin hok),?_,tailH_of ht⟩
   cases i with
   | none=>exact PySem.W.nsMap_none_of_in kin hok hni
   | some v=>exact nsMap_of_in kin hok hni
  ·cases q
 ·cases q
end L2
namespace L2
open PySem PySem.Spec PyProof.Rows
theorem isFn_at {K:PySem.W.Frag} {h:Heap} {f:Addr} (kin:K.In h) (hf:PySem.W.isFn K (.ref f)=true):∃ o,h.get? f=some o∧o.cls=.type "function":=by
 unfold PySem.W.isFn at hf
 have e:=beq_iff_eq.mp hf
 unfold PySem.W.typeIn at e
 cases q:K.lookup f with
 | none=>simp[q]at e
 | some o=>exact⟨o,kin _ _ q,by simpa[q]using e⟩
noncomputable def tBInit (K:PySem.W.Frag) (t:TA):TE:=fun σ H Q=>t σ H fun vs H1=>∃ a C i od rest,vs=.ref a :: rest∧rest.length≤sizeLine∧H1 a=some (XO C a od)∧XCls K C i∧Q .non H1
section
variable {X:Cx}
noncomputable def sXat (K:PySem.W.Frag) (ta tv:TE) (f:Str):TS:=fun D σ H=>tv σ H fun y H1=>ta σ H1 fun x H2=>∃ a C,x=.ref a∧H2 a=some (XO C a none)∧XStore K C f ∧
 ∀ dx,H2 dx=none→dx≠a→D.nx σ (upd (upd H2 dx (.xd [(f,y)])) a (XO C a (some dx)))
theorem ps_xat {o value:Expr} {f:Str} {ta tv:TE} {pos pos':Pos} (ha:PE X o ta) (hv:PE X value tv) (hs:swapsWith value (some (.Attribute o f pos')) pos.line X.env=pure false):PS X (.Assign [.Attribute o f pos'] value pos) (sXat X.K ta tv f):=by
 intro pins s σ H D I h
 refine plainObj_wpAny_Assign_Attribute (thn (hv pins s σ H _ I h) fun u s1 ⟨y,H1,I1,ry,q⟩=>thn (ha pins s1 σ H1 _ I1 q) fun ov s2 ⟨x,H2,I2,rx,a,C,ex,ea,S,q2⟩=>?_) hs
 subst ex
 obtain rfl:ov=Value.ref a:=rx
 obtain⟨⟨t0,ho⟩,_⟩:=I2.hok a _ ea
 refine store_exc I2.kIn S ho fun h' dx tk' hdx k he' hns=>?_
 have ne:dx≠a:=fun z=>by rw[z,ho]at hdx;cases hdx
 refine⟨σ,_,I2.dictX (t':=tk') (fs:=[(f,y)]) ea hdx k he' ⟨_,hns,fun g=>?_⟩,q2 dx (I2.unthere hdx) ne⟩
 by_cases hg:g=f
 ·subst hg
  rw[List.lookup_cons_self,if_pos rfl]
  exact ry
 ·have hgf:(g == f)=false:=by simpa using hg
  rw[List.lookup_cons,hgf,if_neg hg]
  exact True.intro
noncomputable def tRaiseI (C:Addr) (sp:Sp) (E:XK) (t:TA):TS:=fun _ σ H=>t σ H fun vs H1=>vs.length≤sizeLine∧∀ e,H1 e=none →
 sp (.ref e :: vs) (upd H1 e (XO C e none)) (fun v H2=>v=.non∧∃ od,H2 e=some (XO C e od)∧E (.ref C) od (del H2 e)) E0
theorem ps_raiseI {E:XK} {C fI:Addr} {fd:FuncData} {ps:List Str} {sp:Sp} {k:Nat} {x:Str} {e:Expr} {es:List Expr} {t:TA} {np cpos pos:Pos} (RX:Raises X E) (hx:X.ex=[]) (hcalm:X.calm=true) (hc:XCls X.K C (some (.ref fI)))
 (hf:PySem.W.isFn X.K (.ref fI)=true) (F:FnOk X.prog X.w X.K X.mg X.base CX0 k fI fd ps sp) (hr:Room (k+1) X.A) (hb:Binds X.K fd ps [])
 (hg:Gl X x) (hm:X.mg x=some (.ref C)) (ha:PA X (e :: es) t) (hdb:(x == ("__debug__":Str))=false:=by decide)
 (he:starEach (e :: es) X.env=(false,eval e X.env) :: starEach es X.env:=by rfl) (hpl:(backTo cpos (starEach es X.env)).any (·.1)=false:=by rfl):PS X (.Raise (some (.Call (.Name x np) (e :: es) [] cpos)) none pos) (tRaiseI C sp E t):=by
 intro pins s σ H D I h
 obtain⟨bm,N,nm,q,bs,hdct,sn,sub,ab,col,dd,k0,k1,k2,k3,k5,mN,hC,hN,hi,T⟩:=hc X.base I.mod.kin
 obtain⟨oI,hoI,hoc⟩:=isFn_at I.mod.kin hf
 have hplain:(backTo cpos (starEach (e :: es) X.env)).any (·.1)=false:=by
  rw[he]
  show (false || (backTo cpos (starEach es X.env)).any (·.1))=false
  rw[hpl]
  rfl
 refine raise_initT (C:=C) (nm:=nm) (q:=q) (N:=N) (bs:=bs) (bm:=bm) (hdct:=hdct) (sn:=sn) (sub:=sub) (ab:=ab) (col:=col) (dd:=dd) (k0:=k0) (k1:=k1) (k2:=k2) (k3:=k3) (k5:=k5) (mN:=mN) (fI:=fI) (oI:=oI) PySem.F.excBase_ValueError (T PySem.F.excBase_ValueError.hasBase) (I.ok.hd hcalm) hplain hi hoc (ld_glob I hg hm ⟨rfl,?_⟩ hdb)
 have sp':=ha cpos pins s σ H _ I h
 rw[he]at sp' ⊢
 refine Calls.evalArgs_plain (thn sp' fun us s2 ⟨vs,H2,I2,r,hz,q2⟩=>?_)
 refine⟨rfl,by have:=r.length;show us.length≤_;omega,I2.bk _ _ hC,hN.keeps I2.bk,T,I2.bk _ _ hoI,fun h' e' hm'=>?_⟩
 have I3:=Inv.newX (C:=C) I2 hm'
 have hq:=q2 e' (I2.unthere hm'.new)
 have r2:Vals (V.ref e' :: (vs++[])) (Value.ref e' :: (us++[])):=.cons rfl (r.append .nil)
 rw[List.append_nil,List.append_nil]at r2
 have hl:((Value.ref e' :: us)++[]).length=ps.length:=by
  rw[List.append_nil,← r2.length]
  exact F.len _ _ _ _ hq
 have hb':=hb { s2 with heap:=h' } (Value.ref e' :: us) I3.kIn hl
 rw[List.append_nil]at hb'
 refine wpAny_call (codeAny_mono (F.run _ X.stack _ _ ⟨Value.ref e' :: us,[]⟩ (Value.ref e' :: us) _ _ E0 (hr.make C us []) (I3.env0.make C us []) hb' r2 hq) fun rr s' hq'=>?_)
 cases rr with
 | error ev=>exact hq'.elim
 | ok fl =>
  cases fl with
  | ret u =>
   obtain⟨v,H',I4,rv,ev,od,ho,q3⟩:=I3.after hq'
   subst ev
   obtain⟨⟨t0,hox⟩,_⟩:=I4.hok e' _ ho
   refine⟨rv,I4.bk _ _ hC,⟨od,t0,hox⟩,RX pins σ (del H' e') s' e' _ _ (.ref t0) (I4.forget ho) hox del_same (fun b o e1 z=>?_) rfl rfl rfl q3⟩
   obtain⟨o',e2⟩:=I2.base.there b o e1 (by rw[hx];simp)
   rw[z,hm'.new]at e2
   cases e2
  | next=>exact False.elim hq'
  | brk=>exact False.elim hq'
  | cont=>exact False.elim hq'
end
end L2
namespace L2
open PySem PySem.Spec PyProof.Rows
section
variable {P:Program} {w:World} {l:List Env} {H:Hp} {s s':Shared} {E:XK} {e:Addr}
structure Fly (P:Program) (w:World) (l:List Env) (H:Hp) (s:Shared) (e:Addr) (cls a0:Value) (od:Option Addr) (H':Hp) (B:Heap) (s':Shared):Prop where
 os:s'.os=s.os
 bare:AllBare s'.gens
 un:Un (frs l) [] H H' s.heap s'.heap
 hok:HOk P w H' s'.heap
 no:H' e=none
 at_:∃ oe,s'.heap.get? e=some oe∧oe.dict=od
 fl:Heap.FlyingW B l e cls a0 s'.heap
 cov:∀ b u,H' b=some u→∃ o,B.get? b=some o
 olds:∀ b o,s.heap.get? b=some o→b∉frs l→∃ o',B.get? b=some o'
theorem CXR.fly {ev:Value} (h:CXR P w l H s E ev s'):∃ e cls a0 od H' B,ev=.ref e∧Fly P w l H s e cls a0 od H' B s'∧E cls od H':=by
 obtain⟨e,cls,a0,H',B,oe,rfl,os,bare,un,hok,hHe,he,fl,cov,olds,q⟩:=h
 exact⟨e,cls,a0,oe.dict,H',B,rfl,⟨os,bare,un,hok,hHe,⟨oe,he,rfl⟩,fl,cov,olds⟩,q⟩
variable {cls a0:Value} {od:Option Addr} {H':Hp} {B:Heap}
theorem Fly.frame (f:Fly P w l H s e cls a0 od H' B s') {b:Addr} (hb:b∈frs l) {o:Obj} (ho:s'.heap.get? b=some o):∀ vs,o.data≠.fields vs:=by
 obtain⟨_,o',ho',hnf⟩:=f.fl.2.2.1.mem hb
 rw[ho]at ho'
 cases ho'
 exact hnf
theorem Fly.turn (f:Fly P w l H s e cls a0 od H' B s') {h':Heap} {t':Nat} (fl:Heap.FlyingW B l e cls a0 h') (ups:s'.heap.UpToSlots h') (hd:HD s'.heap h'):Fly P w l H s e cls a0 od H' B { s' with heap:=h',toks:=t' }:=by
 have same:∀ b o o',B.get? b=some o→s'.heap.get? b=some o'→h'.get? b=some o':=fun b o o' e1 e2=>by
  have:=f.fl.1 b o e1
  rw[e2]at this
  cases this
  exact fl.1 b _ e1
 obtain⟨oe,he,hdct⟩:=f.at_
 obtain⟨oe',he',de,ce⟩:=hd e oe he
 refine⟨f.os,f.bare,⟨fun b o e1 n hb hx=>?_,fun b o e1 n hb hx=>?_,f.un.free,fun b o e1 hx=>?_,f.un.tups,f.un.frzs,f.un.tbls⟩,fun b u e1=>?_,f.no,⟨oe',he',de.trans hdct⟩,fl,f.cov,f.olds⟩
 ·obtain⟨o',eB⟩:=f.olds b o e1 hb
  exact same b o' o eB (f.un.keep b o e1 n hb hx)
 ·obtain⟨sl,e2⟩:=f.un.slot b o e1 n hb hx
  obtain⟨sl',e3⟩:=ups b _ e2 (f.frame hb e2)
  exact⟨sl',e3⟩
 ·by_cases hb:b∈frs l
  ·obtain⟨o',e2⟩:=f.un.there b o e1 hx
   obtain⟨sl,e3⟩:=ups b o' e2 (f.frame hb e2)
   exact⟨_,e3⟩
  ·obtain⟨o',eB⟩:=f.olds b o e1 hb
   exact⟨o',fl.1 b o' eB⟩
 ·refine(f.hok b u e1).stay (fun c v hc e2=>?_) (fun _ z=>z) fun _ _ z=>z
  have tr:∃ o,B.get? c=some o:=by
   rcases hc with z | z
   ·rw[z];exact f.cov b u e1
   ·exact f.cov c _ z
  obtain⟨o,eB⟩:=tr
  exact same c o v eB e2
theorem Fly.fresh (f:Fly P w l H s e cls a0 od H' B s') {b:Addr} {o:Obj} (e1:s.heap.get? b=some o):b≠e:=fun z=>by
 subst z
 by_cases hb:b∈frs l
 ·obtain⟨o',e2⟩:=f.un.there b o e1 (by simp)
  obtain⟨oe,vs,he,_,hd,_⟩:=f.fl.first
  exact f.frame hb he vs hd
 ·obtain⟨o',eB⟩:=f.olds b o e1 hb
  rw[f.fl.2.1]at eB
  cases eB
end
noncomputable def XH (e:Addr) (cls:Value) (od:Option Addr):HO:=.ext fun h=>∃ o vs,h.get? e=some o∧o.cls=cls∧o.dict=od∧o.data=.fields vs
section
variable {X:Cx} {pins:List (Addr×Obj)} {σ:St} {H:Hp} {s s':Shared} {e:Addr} {cls a0:Value} {od:Option Addr} {H':Hp} {B:Heap}
theorem Fly.inv (I:Inv X pins σ H s) (f:Fly X.prog X.w X.stack H s e cls a0 od H' B s'):Inv X pins σ H' s':=I.call' f.os f.un f.hok f.bare fun b z=>absurd z (by simp)
theorem Fly.held (I:Inv X pins σ H s) (f:Fly X.prog X.w X.stack H s e cls a0 od H' B s'):Inv X pins σ (upd H' e (XH e cls od)) s':=by
 have ne:∀ b u,H' b=some u→b≠e:=fun b u q z=>by rw[z,f.no]at q;cases q
 obtain⟨oe,vs,he,hcl,hd,_⟩:=f.fl.first
 obtain⟨oe',he',hdct⟩:=f.at_
 rw[he]at he'
 cases he'
 refine I.call' f.os ⟨f.un.keep,f.un.slot,fun b o e1 n hx=>?_,f.un.there,fun b xs q=>?_,fun b o u q=>?_,fun b ps q=>?_⟩ (fun b u q=>?_) f.bare fun b z=>absurd z (by simp)
 ·rw[upd_ne (f.fresh e1)];exact f.un.free b o e1 n hx
 ·have:=f.un.tups b xs q;rw[upd_ne (ne b _ this)];exact this
 ·have:=f.un.frzs b o u q;rw[upd_ne (ne b _ this)];exact this
 ·obtain⟨more,this⟩:=f.un.tbls b ps q;exact⟨more,by rw[upd_ne (ne b _ this)];exact this⟩
 ·by_cases hb:b=e
  ·subst hb
   rw[upd_same]at q
   cases q
   exact⟨⟨oe,vs,he,hcl,hdct,hd⟩,⟨_,he⟩,fun h1 h2 ⟨o,vs,z,zz⟩ k=>⟨o,vs,k _ z,zz⟩⟩
  ·rw[upd_ne hb]at q
   exact(f.hok b u q).stay (fun _ _ _ z=>z) (fun c z=>by rw[upd_ne (ne c _ z)];exact z) fun c xs z=>by rw[upd_ne (ne c _ z)];exact z
end
end L2
namespace L2
open PySem PySem.Spec PyProof.Rows
theorem HD.trans' {a b c:Heap} (x:HD a b) (y:HD b c):HD a c:=fun p o e=>by
 obtain⟨o1,e1,d1,c1⟩:=x p o e
 obtain⟨o2,e2,d2,c2⟩:=y p o1 e1
 exact⟨o2,e2,d2.trans d1,c2.trans c1⟩
noncomputable def Cx.inX (X:Cx) (e:Addr):Cx:={ X with A:=X.A.mark (some (.ref e)),calm:=false,xe:=fun _ _=>False }
section
variable {X:Cx} {pins:List (Addr×Obj)} {σ:St} {H:Hp} {s s':Shared} {e:Addr} {cls a0:Value} {od:Option Addr} {H':Hp} {B:Heap}
theorem Cx.Ok.inX (o:X.Ok):(X.inX e).Ok:=⟨o.mod,o.kind,o.glob,o.blt,o.above,o.inj,o.has,o.cab,(fun z=>by cases z),o.frames,o.stk,o.exf,o.bs,o.bsz,o.noex,o.exfs,o.funs,o.frf⟩
theorem Inv.inX (I:Inv X pins σ H s):Inv (X.inX e) pins σ H s:=⟨I.ok.inX,I.os,I.bare,I.base,I.loc,I.cell,I.free,I.freeC,I.pin,I.hok,I.len⟩
theorem Inv.outX (ok:X.Ok) (I:Inv (X.inX e) pins σ H s):Inv X pins σ H s:=⟨ok,I.os,I.bare,I.base,I.loc,I.cell,I.free,I.freeC,I.pin,I.hok,I.len⟩
theorem fly_note (Bd:Body X) (I:Inv X pins σ H s) (f:Fly X.prog X.w X.stack H s e cls a0 od H' B s') {hs:List ExceptHandler} {Q:Flow→Shared→Prop} {E:Value→Shared→Prop}
 (k:∀ s'',Fly X.prog X.w X.stack H s e cls a0 od H' B s''→wpAny (model X.prog X.w) X.A (handleBy (.ref e) X.env hs) Q E s'') :
 wpAny (model X.prog X.w) X.A (noteFrame (.ref e) X.env) (fun _ s₂=>wpAny (model X.prog X.w) X.A (setFlight (.ref e) none) (fun _ s₃=>wpAny (model X.prog X.w) X.A (handleBy (.ref e) X.env hs) Q E s₃) E s₂) E s':=by
 have hfr:X.A.frames=some (X.env :: X.outer):=by rw[I.ok.frames,Bd.stk]
 have fl':Heap.FlyingW B (X.env :: X.outer) e cls a0 s'.heap:=by rw[← Bd.stk];exact f.fl
 have w1:=wpAny_looks_onW (M:=model X.prog X.w) (A:=X.A) (E:=fun _ _=>False) (s:=s') (Q:=fun _ s''=>∃ h',s''={ s' with heap:=h' }∧Heap.HeldW B (X.env :: X.outer) e cls a0 X.env.locals h'∧s'.heap.UpToSlots h') hfr Bd.fr fl' fun h' a b=>⟨h',rfl,a,b⟩
 refine wpAny_mono (wpAny_dk (dk_noteFrame (.ref e) X.env) w1) (fun _ s2 ⟨⟨h4,e4,held,u4⟩,hd4⟩=>?_) fun _ _ z=>z.1.elim
 subst e4
 have w2:=wpAny_landsW (M:=model X.prog X.w) (A:=X.A) (E:=fun _ _=>False) (s:={ s' with heap:=h4 }) (Q:=fun _ s''=>∃ h',s''={ s' with heap:=h' }∧Heap.FlyingW B (X.env :: X.outer) e cls a0 h'∧h4.UpToSlots h') held fun h' a b=>⟨h',rfl,a,b⟩
 refine wpAny_mono (wpAny_dk (dk_setFlight (.ref e) none) w2) (fun _ s3 ⟨⟨h5,e5,fl5,u5⟩,hd5⟩=>?_) fun _ _ z=>z.1.elim
 subst e5
 exact k _ (f.turn (t':=s'.toks) (by rw[Bd.stk];exact fl5) (u4.trans u5) (HD.trans' hd4 hd5))
theorem fly_again (f:Fly X.prog X.w X.stack H s e cls a0 od H' B s') {A:Around} {Q:Unit→Shared→Prop} {E:Value→Shared→Prop} (k:∀ s'',Fly X.prog X.w X.stack H s e cls a0 od H' B s''→Q () s''):wpAny (model X.prog X.w) A (setFlight (.ref e) none) Q E s':=by
 have w2:=lands_againW (M:=model X.prog X.w) (A:=A) (E:=fun _ _=>False) (s:=s') (Q:=fun _ s''=>∃ h',s''={ s' with heap:=h' }∧Heap.FlyingW B X.stack e cls a0 h'∧s'.heap.UpToSlots h') f.fl fun h' a b=>⟨h',rfl,a,b⟩
 refine wpAny_mono (wpAny_dk (dk_setFlight (.ref e) none) w2) (fun _ s3 ⟨⟨h5,e5,fl5,u5⟩,hd5⟩=>?_) fun _ _ z=>z.1.elim
 subst e5
 exact k _ (f.turn (t':=s'.toks) fl5 u5 hd5)
theorem fly_test (I:Inv X pins σ H s) (f:Fly X.prog X.w X.stack H s e cls a0 od H' B s') {A:Around} {x:Str} {c:Value} {b:Bool} {np:Pos} {Q:Bool→Shared→Prop} {E E':Value→Shared→Prop} (hg:Gl X x) (hm:X.mg x=some c) (hx:PySem.W.exmOne X.K cls c=some b) (q:Q b s') (hd:(x == ("__debug__":Str))=false:=by decide) :
 wpAny (model X.prog X.w) A (eval (.Name x np) X.env) (fun c s₁=>wpAny (model X.prog X.w) A (excMatches (.ref e) c) Q E s₁) E' s':=by
 have I':=f.inv I
 refine Calls.Name_function_global I'.ok.kind hg (Calls.loadGlobal_global (by rw[I'.ok.glob];exact I'.mod.glob.keeps I'.bk) hm ?_) hd
 obtain⟨oe,vs,he,hcl,_,_⟩:=f.fl.first
 have LT:PySem.W.Looks (model X.prog X.w) s'.heap (typeOf (.ref e)) cls:=hcl ▸ (PySem.W.Looks.ld he).andThen .now
 exact(PySem.W.exm_one I'.kIn LT hx).here q
end
noncomputable abbrev HR:=Value→Option Addr→Addr→Ends→St→Hp→Prop
noncomputable def PH (X:Cx) (hs:List ExceptHandler) (r:HR):Prop:=∀ (pins:List (Addr×Obj)) (H0:Hp) (s0:Shared) (σ:St) (e:Addr) (cls a0:Value) (od:Option Addr) (H':Hp) (B:Heap) (s':Shared) (D:Ends),Inv X pins σ H0 s0 →
 Fly X.prog X.w X.stack H0 s0 e cls a0 od H' B s'→r cls od e D σ H'→wpAny (model X.prog X.w) X.A (handleBy (.ref e) X.env hs) (SP X pins D) X.xe s'
noncomputable def hOne (K:PySem.W.Frag) (c:Value) (ts:TS) (r:HR):HR:=fun cls od e D σ H=>∃ b,PySem.W.exmOne K cls c=some b∧if b=true then ts D σ H else r cls od e D σ H
noncomputable def hOneAs (K:PySem.W.Frag) (c:Value) (i:Nat) (ts:TS) (r:HR):HR:=fun cls od e D σ H=>∃ b,PySem.W.exmOne K cls c=some b∧if b=true then
 ts { nx:=fun σ2 H2=>D.nx (σ2.set i none) H2,rt:=D.rt,bk:=fun σ2 H2=>D.bk (σ2.set i none) H2,ct:=fun σ2 H2=>D.ct (σ2.set i none) H2 } (σ.set i (some (.ref e))) (upd H e (XH e cls od))else r cls od e D σ H
noncomputable def hEnd:HR:=fun _ _ _ _ _ _=>False
section
variable {X:Cx} {x:Str} {c:Value} {np pos:Pos} {b₀:Stmt} {suite:List Stmt} {rest:List ExceptHandler} {ts:TS} {r:HR}
theorem ph_end:PH X [] hEnd:=fun _ _ _ _ _ _ _ _ _ _ _ _ _ _ q=>q.elim
theorem SP.outX {pins:List (Addr×Obj)} {D:Ends} {f:Flow} {s:Shared} {e:Addr} (ok:X.Ok) (h:SP (X.inX e) pins D f s):SP X pins D f s:=by
 cases f with
 | next=>obtain⟨σ',H',I,q⟩:=h;exact⟨σ',H',I.outX ok,q⟩
 | brk=>obtain⟨σ',H',I,q⟩:=h;exact⟨σ',H',I.outX ok,q⟩
 | cont=>obtain⟨σ',H',I,q⟩:=h;exact⟨σ',H',I.outX ok,q⟩
 | ret u=>obtain⟨v,σ',H',I,q⟩:=h;exact⟨v,σ',H',I.outX ok,q⟩
theorem ph_one (hg:Gl X x) (hm:X.mg x=some c) (hs:∀ e,PSs (X.inX e) (b₀ :: suite) ts) (hr:PH X rest r) (hd:(x == ("__debug__":Str))=false:=by decide) :
 PH X (.ExceptHandler (some (.Name x np)) none (b₀ :: suite) pos :: rest) (hOne X.K c ts r):=fun pins H0 s0 σ e cls a0 od H' B s' D I f q=>by
 obtain⟨b,hb,q⟩:=q
 refine wpAny_handleBy_cons (codeAny_handlers_test (fly_test I f hg hm hb ?_ hd)) (by intro q;cases q)
 cases b with
 | false =>
  rw[if_neg (by decide)]at q
  exact hr pins H0 s0 σ e cls a0 od H' B s' D I f q
 | true =>
  rw[if_pos rfl]at q
  refine codeAny_handlers_suite (fly_again f fun s'' f''=>?_)
  exact wpAny_mono (hs e pins s'' σ H' D (f''.inv I).inX q) (fun fl s3 z=>z.outX I.ok) fun _ _ z=>z.elim
end
end L2
namespace L2
open PySem PySem.Spec PyProof.Rows
section
variable {X:Cx} {pins:List (Addr×Obj)} {σ:St} {H:Hp} {s:Shared}
theorem name_goes {M:Model} {A:Around} {E:Value→Shared→Prop} {i:Nat} {x:Str} {pos:Pos} {Q:Unit→Shared→Prop} (I:Inv X pins σ H s) (hN:X.N.Nodup) (hi:X.N[i]?=some x) (hk:X.env.scope.names.lookup x=some .local)
 (h:∀ s',Inv X pins (σ.set i none) H s'→Q () s'):wpAny M A (do bindName X.env x .none;unbindBehindTheSuite X.env x pos) Q E s:=by
 obtain⟨m,hn,hl⟩:=id I.loc
 have hcls:(X.env.scope.kind == .class || (X.env.scope.kind == .module && X.env.locals != X.env.globals))=false:=by rw[I.ok.kind];rfl
 have hiσ:i<σ.length:=by rw[I.len];exact(List.getElem?_eq_some_iff.mp hi).1
 have cne:=I.cne
 refine wpAny_nameGoes_keeps hk hn hcls fun h' v hn' hs=>?_
 have tracked:HOk X.prog X.w H h':=fun b ob e=>by
  refine(I.hok b ob e).stay (fun c w' hc q=>(hs.2 c ?_).trans q) (fun _ q=>q) fun _ _ q=>q
  rintro rfl
  rcases hc with z | hc
  ·rw[← z,I.free]at e;cases e
  ·rw[I.free]at hc;cases hc
 refine h _ ⟨I.ok,I.os,I.bare,⟨fun b o e n hb hx=>?_,fun b o e n hb hx=>?_,I.base.free,fun b o e hx=>?_,I.base.tups,I.base.frzs,I.base.tbls⟩,⟨_,hn',fun j y v' e1 e2 e3=>?_⟩,fun y c e=>?_,I.free,I.freeC,fun p hp=>?_,tracked,by simpa using I.len⟩
 ·exact(hs.2 b (Nat.ne_of_lt (Nat.lt_of_lt_of_le (Heap.lt_size e) I.ok.above))).trans (I.base.keep b o e n hb hx)
 ·obtain⟨sl,e1⟩:=I.base.slot b o e n hb hx
  exact⟨sl,(hs.2 b (Nat.ne_of_lt (Nat.lt_of_lt_of_le (Heap.lt_size e) I.ok.above))).trans e1⟩
 ·obtain⟨o',e1⟩:=I.base.there b o e hx
  exact⟨o',(hs.2 b (Nat.ne_of_lt (Nat.lt_of_lt_of_le (Heap.lt_size e) I.ok.above))).trans e1⟩
 ·by_cases hj:j=i
  ·subst hj
   rw[List.getElem?_set_self hiσ]at e2
   cases e2
  ·rw[List.getElem?_set_ne (Ne.symm hj)]at e2
   obtain⟨u',r',q⟩:=hl j y v' e1 e2 e3
   refine⟨u',r',?_⟩
   rcases q with ⟨k,e⟩ | ⟨k,c,e,z⟩
   ·refine .inl ⟨k,?_⟩
    have:y≠x:=fun e=>hj (nodup_ix hN e1 (e ▸ hi))
    simp[this,e]
   ·exact .inr ⟨k,c,e,z.sameBut hs (cne y c e)⟩
 ·obtain⟨w',z⟩:=I.cell y c e
  exact⟨w',z.sameBut hs (cne y c e)⟩
 ·obtain⟨e,n,ne,nf,d⟩:=I.pin p hp
  exact⟨(hs.2 p.1 ne).trans e,n,ne,nf,d⟩
end
section
variable {X:Cx} {x n:Str} {c:Value} {np pos:Pos} {b₀:Stmt} {suite:List Stmt} {rest:List ExceptHandler} {ts:TS} {r:HR} {i:Nat}
theorem ph_oneAs (hg:Gl X x) (hm:X.mg x=some c) (hN:X.N.Nodup) (hi:X.N[i]?=some n) (hk:X.env.scope.names.lookup n=some .local) (hs:∀ e,PSs (X.inX e) (b₀ :: suite) ts) (hr:PH X rest r) (hd:(x == ("__debug__":Str))=false:=by decide) :
 PH X (.ExceptHandler (some (.Name x np)) (some n) (b₀ :: suite) pos :: rest) (hOneAs X.K c i ts r):=fun pins H0 s0 σ e cls a0 od H' B s' D I f q=>by
 obtain⟨b,hb,q⟩:=q
 refine wpAny_handleBy_cons (codeAny_handlers_test (fly_test I f hg hm hb ?_ hd)) (by intro q;cases q)
 cases b with
 | false =>
  rw[if_neg (by decide)]at q
  exact hr pins H0 s0 σ e cls a0 od H' B s' D I f q
 | true =>
  rw[if_pos rfl]at q
  refine codeAny_handlers_suite_as (fly_again f fun s'' f''=>?_)
  refine store_ok2 (f''.held I) hN hi (.inl hk) (v:=.ref e) (u:=.ref e) rfl (fun s3 I3 _=>?_) (.inr hk)
  refine wpAny_mono (hs e pins s3 _ _ _ I3.inX q) (fun fl s4 z=>?_) fun _ _ z=>z.elim
  have z:=z.outX I.ok
  cases fl with
  | next=>obtain⟨σ2,H2,I4,q4⟩:=z;exact name_goes I4 hN hi hk fun s5 I5=>⟨_,_,I5,q4⟩
  | brk=>obtain⟨σ2,H2,I4,q4⟩:=z;exact name_goes I4 hN hi hk fun s5 I5=>⟨_,_,I5,q4⟩
  | cont=>obtain⟨σ2,H2,I4,q4⟩:=z;exact name_goes I4 hN hi hk fun s5 I5=>⟨_,_,I5,q4⟩
  | ret u=>obtain⟨v,σ2,H2,I4,rv,q4⟩:=z;exact name_goes I4 hN hi hk fun s5 I5=>⟨v,_,_,I5,rv,q4⟩
noncomputable abbrev TC:=St→Hp→(Hp→Prop)→XK→Prop
noncomputable def PCall (X:Cx) (st:Stmt) (t:TC):Prop:=∀ (pins:List (Addr×Obj)) (s:Shared) (σ:St) (H:Hp) (Q:Hp→Prop) (E:XK),Inv X pins σ H s→t σ H Q E →
 wpAny (model X.prog X.w) X.A (exec st X.env) (fun f s1=>f=.next∧∃ H',Inv X pins σ H' s1∧Q H') (fun ev s1=>∃ H0 s0,Inv X pins σ H0 s0∧CXR X.prog X.w X.stack H0 s0 E ev s1) s
noncomputable def tTry (t:TC) (r:HR):TS:=fun D σ H=>t σ H (fun H'=>D.nx σ H') fun cls od H'=>∀ e,H' e=none→r cls od e D σ H'
theorem ps_try {st:Stmt} {h:ExceptHandler} {hs:List ExceptHandler} {t:TC} (Bd:Body X) (hc:PCall X st t) (hh:PH X (h :: hs) r):PS X (.Try [st] (h :: hs) [] [] pos) (tTry t r):=by
 intro pins s σ H D I q
 refine wpAny_Try_except (wpAny_execs_cons (wpAny_mono (hc pins s σ H _ _ I q) (fun f s1 z=>?_) fun ev s1 z=>?_))
 ·obtain⟨rfl,H',I',q'⟩:=z
  exact wpAny_execs_nil (wpAny_execs_nil ⟨σ,H',I',q'⟩)
 ·obtain⟨H0,s0,I0,z⟩:=z
  obtain⟨e,cls,a0,od,H',B,rfl,f,q'⟩:=z.fly
  exact fly_note Bd I0 f fun s'' f''=>hh pins H0 s0 σ e cls a0 od H' B s'' D I0 f'' (q' e f.no)
end
end L2
namespace L2
open PySem PySem.Spec PyProof.Rows
noncomputable abbrev SpS:=Shared→List Env→List V→Hp→VK→XK→Prop
structure FnOkS (P:Program) (w:World) (K:PySem.W.Frag) (mg:Str→Option Value) (base:Heap) (CX:CXT) (k:Nat) (f:Addr) (fd:FuncData) (ps:List Str) (sp:SpS):Prop where
 len:∀ s o vs H Q E,sp s o vs H Q E→vs.length=ps.length
 run:∀ (A:Around) (outer:List Env) (s:Shared) (H:Hp) (args:Args) (us:List Value) (vs:List V) (Q:VK) (E:XK),Room k A→Env0 P w K mg base A outer s H→BindsTo s fd args (ps.zip us)→Vals vs us→sp s outer vs H Q E →
  codeAny (model P w) A (.call (.ref f) args) (CR CX outer P w H s Q E) s
theorem fn_ofS {CX:CXT} {P:Program} {w:World} {K:PySem.W.Frag} {mg:Str→Option Value} {base:Heap} {k:Nat} {f:Addr} {name qual:Str} {params:Arguments} {body:List Stmt} {scope:Scope} {dV kV doc pm cdv ct oc:Value} {an od:Option Addr}
 {osl:Array (Option Value)} {N ps:List Str} {sp:SpS} (lk:K.lookup f=some ⟨oc,od,.func (PySem.W.fnOf name qual params body scope dV kV doc pm an cdv ct),osl⟩) (hcd:PySem.W.codeIn K cdv qual=true) (S:FnScope N ps scope)
 (len:∀ s o vs H Q E,sp s o vs H Q E→vs.length=ps.length)
 (hbody:∀ (A:Around) (outer:List Env) (s:Shared) (H:Hp) (vs:List V) (Q:VK) (E:XK),A.frames=some outer→Room k (A.deeper (envOfC qual scope s.heap.objs.size f cdv))→sp s outer vs H Q E →
  ∃ t,PSs (cxOf CX P w K mg base N qual scope f cdv A outer s H E) body t∧t { nx:=fun _ H'=>Q .non H',rt:=Q } (start N vs) H) :
 FnOkS P w K mg base CX (k+1) f (PySem.W.fnOf name qual params body scope dV kV doc pm an cdv ct) ps sp:=by
 refine⟨len,fun A outer s H args us vs Q E hr e0 hb r hsp=>?_⟩
 have kp:∀ b o,base.get? b=some o→s.heap.get? b=some o:=fun b o e=>(e0.bs b o e).1
 have KX:K.In s.heap:=e0.mod.kin.keeps kp
 refine codeAny_call_function hr.depth (KX _ _ lk) rfl S.co S.gen rfl (PySem.W.codeRec_of KX hcd) (hb _ _ _ _ (wpAny_newFunctionEnv_cells S.kind (fun⟨n,v⟩ hy=>?_) fun env he s1 x=>?_))
 ·exact(S.par n (List.of_mem_zip hy).1).imp (fun q=>q) fun q=>⟨q,PySem.W.cellsFrom_some _ _ _ (.inl q)⟩
 ·subst he
  obtain⟨t,ht,hq⟩:=hbody A outer s H vs Q E e0.frames (hr.deeper _) hsp
  have I:Inv (cxOf CX P w K mg base N qual scope f cdv A outer s H E) [] (start N vs) H s1:=inv_start S hr.hd e0 (len _ _ _ _ _ _ hsp) r x
  refine⟨(e0.mod.nolimit.keeps kp).keeps x.toInCall.keep,codeAny_func (wpAny_mono (ht [] s1 (start N vs) H _ I hq) (fun fl s' hs=>?_) fun _ _ hs=>hs)⟩
  cases fl with
  | ret u=>obtain⟨v,σ',H',J,rv,q⟩:=hs;exact⟨v,H',J.os,J.bare,J.base,J.hok,rv,q⟩
  | next=>obtain⟨σ',H',J,q⟩:=hs;exact⟨.non,H',J.os,J.bare,J.base,J.hok,rfl,q⟩
  | brk=>obtain⟨_,_,_,q⟩:=hs;exact q.elim
  | cont=>obtain⟨_,_,_,q⟩:=hs;exact q.elim
noncomputable def Laid (D:List (Addr×Obj)) (H:Hp) (h:Heap) (fr:List Addr):Prop:=∀ p∈D,h.get? p.1=some p.2∧H p.1=none∧p.1∉fr
noncomputable def LamOk (P:Program) (w:World) (K:PySem.W.Frag) (mg:Str→Option Value) (base:Heap) (CX:CXT) (k:Nat) (f:Addr) (D:List (Addr×Obj)) (sp:Hp→VK→XK→Prop):Prop :=
 ∀ (A:Around) (outer:List Env) (s:Shared) (H:Hp) (Q:VK) (E:XK),Room k A→Env0 P w K mg base A outer s H→Laid D H s.heap (frs outer)→sp H Q E →
  codeAny (model P w) A (.call (.ref f) ⟨[],[]⟩) (CR CX outer P w H s Q E) s
noncomputable def cxLam (CX:CXT) (P:Program) (w:World) (K:PySem.W.Frag) (mg:Str→Option Value) (base:Heap) (N:List Str) (qual:Str) (scope:Scope) (f:Addr) (cd:Value) (clos:List (Str×Addr)) (A:Around) (outer:List Env) (s:Shared) (H:Hp) (E:XK):Cx where
 prog:=P
 w:=w
 K:=K
 mg:=mg
 base:=base
 A:=A.deeper (PySem.W.envX qual scope s.heap.objs.size f cd clos)
 N:=N
 s₀:=s
 H₀:=H
 env:=PySem.W.envX qual scope s.heap.objs.size f cd clos
 outer:=outer
 stack:=PySem.W.envX qual scope s.heap.objs.size f cd clos :: outer
 ex:=[]
 calm:=true
 fn:=fun _=>false
 pn:=[]
 xe:=fun e s'=>wpAny (model P w) (A.deeper (PySem.W.envX qual scope s.heap.objs.size f cd clos)) (leaving (PySem.W.envX qual scope s.heap.objs.size f cd clos) e) (fun _ s''=>CX outer H s E e s'') (fun e' s''=>CX outer H s E e' s'') s'
structure LamScope (N:List Str) (scope:Scope) (clos:List (Str×Addr)) (D:List (Addr×Obj)) (σ:St):Prop where
 kind:scope.kind=.function
 co:scope.isCoroutine=false
 gen:scope.isGenerator=false
 nocell:∀ x∈scope.names,x.2≠.cell
 inj:∀ x y c,clos.lookup x=some c→clos.lookup y=some c→x=y
 has:∀ x,scope.names.lookup x=some .free→∃ c,clos.lookup x=some c
 cells:∀ x c,clos.lookup x=some c→∃ o u,(c,o)∈D∧o.data=.cell u
 vals:∀ (i:Nat) (x:Str) (v:V),N[i]?=some x→σ[i]?=some (some v)→scope.names.lookup x=some .free∧∃ c o u,clos.lookup x=some c∧(c,o)∈D∧o.data=.cell (some u)∧RelV v u
 len:σ.length=N.length
theorem lam_of {CX:CXT} {P:Program} {w:World} {K:PySem.W.Frag} {mg:Str→Option Value} {base:Heap} {k:Nat} {f c':Addr} {name qual:Str} {params:Arguments} {body:Expr} {scope:Scope} {clos:List (Str×Addr)} {pm ctv:Value} {D:List (Addr×Obj)} {N:List Str} {σ:St} {sp:Hp→VK→XK→Prop}
 (hf:(f,PySem.W.kla_obj name qual params body scope clos pm c' ctv)∈D) (hc:∃ oc vs t,(c',oc)∈D∧oc.data=.fields vs∧vs[1]?=some (.str qual t)) (S:LamScope N scope clos D σ)
 (hb:bindArgs (PySem.W.kla_fn name qual params body scope clos pm (.ref c') ctv) ⟨[],[]⟩=pure [])
 (hbody:∀ (A:Around) (outer:List Env) (s:Shared) (H:Hp) (Q:VK) (E:XK),A.frames=some outer→Room k (A.deeper (PySem.W.envX qual scope s.heap.objs.size f (.ref c') clos))→sp H Q E →
  ∃ te,PE (cxLam CX P w K mg base N qual scope f (.ref c') clos A outer s H E) body te∧te σ H Q) :
 LamOk P w K mg base CX (k+1) f D sp:=fun A outer s H Q E hr e0 hD hsp=>by
 have kp:∀ b o,base.get? b=some o→s.heap.get? b=some o:=fun b o e=>(e0.bs b o e).1
 obtain⟨oc,vs,t,hoc,hd,hv⟩:=hc
 refine PySem.W.kla_callFunE hr.depth (hD _ hf).1 rfl S.co S.gen rfl ⟨c',oc,vs,t,rfl,(hD _ hoc).1,hd,hv⟩ ?_
 rw[hb]
 refine wpAny_pure (wpAny_newFunctionEnv S.nocell (fun x z=>absurd z (by simp)) (fun h₁ hns hsb=>⟨((e0.mod.nolimit).keeps kp).fresh _ hsb,?_⟩) S.kind)
 show codeAny _ _ (.expr body (PySem.W.envX qual scope s.heap.objs.size f (.ref c') clos)) _ _
 have hk₁:∀ b o,s.heap.get? b=some o→h₁.get? b=some o:=fun b o e=>hsb.extBut b o (Nat.ne_of_lt (Heap.lt_size e)) (Heap.get?_push_of_some _ e)
 obtain⟨te,ht,hq⟩:=hbody A outer s H Q E e0.frames (hr.deeper _) hsp
 have noA:∀ b:Addr,b∉(cxLam CX P w K mg base N qual scope f (.ref c') clos A outer s H E).ex:=fun b z=>absurd (show b∈([]:List Addr) from z) (by simp)
 have I:Inv (cxLam CX P w K mg base N qual scope f (.ref c') clos A outer s H E) [] σ H { s with heap:=h₁,toks:=s.toks+([]:List (Str×Value)).length }:=by
  refine⟨⟨e0.mod,S.kind,rfl,rfl,Nat.le_refl _,S.inj,fun y hy=>?_,(fun y c z=>by cases z),fun _=>hr.hd,Around.frames_deeper e0.frames,.inr ⟨rfl,rfl⟩,fun b z=>absurd z (noA b),e0.bs,e0.bsz,fun b _ _=>noA b,fun b z=>absurd z (noA b),e0.funs,e0.frf⟩,
   rfl,e0.bare,Un.kept hk₁,⟨_,hns,fun i y v h1 h2 h3=>?_⟩,fun y c h=>?_,e0.hok.fresh (Nat.le_refl _),fun y c h=>?_,fun p hp=>absurd (show p∈([]:List (Addr×Obj)) from hp) (by simp),e0.hok.kept hk₁,S.len⟩
  ·have hy:scope.names.lookup y=some .cell∨scope.names.lookup y=some .free:=hy
   rcases hy with hy | hy
   ·exact absurd rfl (S.nocell _ (PySem.mem_of_lookup hy))
   ·exact S.has y hy
  ·obtain⟨hfree,c,o,u,hcl,ho,hdat,rv⟩:=S.vals i y v h1 h2
   exact⟨u,rv,.inr ⟨.inr hfree,c,hcl,o,hk₁ _ _ (hD _ ho).1,hdat⟩⟩
  ·obtain⟨o,u,ho,hdat⟩:=S.cells y c h
   exact⟨u,o,hk₁ _ _ (hD _ ho).1,hdat⟩
  ·obtain⟨o,u,ho,hdat⟩:=S.cells y c h
   exact(hD _ ho).2.1
 refine PySem.W.kla_codeExpr (wpAny_mono (ht [] _ σ H _ I hq) (fun u s' hs=>?_) fun _ _ hs=>hs)
 obtain⟨v,H',J,rv,q⟩:=hs
 exact⟨v,H',J.os,J.bare,J.base,J.hok,rv,q⟩
end L2
namespace L2
open PySem PySem.Spec PyProof.Rows
theorem passL {P:Program} {w:World} {K:PySem.W.Frag} {mg:Str→Option Value} {base:Heap} {N:List Str} {qual:Str} {scope:Scope} {f:Addr} {cd:Value} {clos:List (Str×Addr)} {A:Around} {outer:List Env} {s:Shared} {H:Hp} {E:XK} (hfr:A.frames=some outer) :
 Passes (CXR P w) (cxLam (CXR P w) P w K mg base N qual scope f cd clos A outer s H E) E:=fun pins σ H1 s1 ev s' I h =>
 leave_on (X:=cxLam (CXR P w) P w K mg base N qual scope f cd clos A outer s H E) ⟨rfl,rfl,rfl⟩ (Around.frames_deeper hfr) I h
theorem passN {P:Program} {w:World} {X:Cx}:Passes (CXR P w) X E0:=fun _ _ _ _ _ _ _ h=>by
 obtain⟨_,_,_,_,_,_,_,_,_,_,_,_,_,_,_,_,q⟩:=h
 exact q.elim
noncomputable def FnAtX (P:Program) (w:World) (K:PySem.W.Frag) (mg:Str→Option Value) (base:Heap) (x:Str) (k:Nat) (ps:List Str) (sp:Sp):Prop :=
 ∃ f fd,FnOk P w K mg base (CXR P w) k f fd ps sp∧mg x=some (.ref f)∧PySem.W.keepIn K (.ref f)=true∧Binds K fd ps []
section
variable {X:Cx} {x:Str} {j k:Nat} {ps:List Str} {sp:Sp} {t:TA} {e:Expr} {es:List Expr} {p pos:Pos}
theorem pe_fnX {E:XK} (F:FnAtX X.prog X.w X.K X.mg X.base x j ps sp) (hr:Room k X.A) (hg:Gl X x) (hx:Passes (CXR X.prog X.w) X E) (ha:PA X (e :: es) t) (hj:j≤k:=by decide) (hdb:(x == ("__debug__":Str))=false:=by decide)
 (he:starEach (e :: es) X.env=(false,eval e X.env) :: starEach es X.env:=by rfl) (hpl:(backTo pos (starEach es X.env)).any (·.1)=false:=by rfl) :
 PE X (.Call (.Name x p) (e :: es) [] pos) (tCall sp [] E t):=by
 obtain⟨f,fd,G,hm,hk,hb⟩:=F
 exact pe_call (hdb:=hdb) (he:=he) (hpl:=hpl) G (hr.mono hj) hg hm hk hb .nil hx ha
end
noncomputable def Cx.withE (X:Cx) (E:Value→Shared→Prop):Cx:={ X with xe:=E }
theorem Inv.withE {X:Cx} {pins:List (Addr×Obj)} {σ:St} {H:Hp} {s:Shared} {E:Value→Shared→Prop} (I:Inv X pins σ H s):Inv (X.withE E) pins σ H s :=
 ⟨⟨I.ok.mod,I.ok.kind,I.ok.glob,I.ok.blt,I.ok.above,I.ok.inj,I.ok.has,I.ok.cab,I.ok.hd,I.ok.frames,I.ok.stk,I.ok.exf,I.ok.bs,I.ok.bsz,I.ok.noex,I.ok.exfs,I.ok.funs,I.ok.frf⟩,I.os,I.bare,I.base,I.loc,I.cell,I.free,I.freeC,I.pin,I.hok,I.len⟩
theorem Inv.noE {X:Cx} {pins:List (Addr×Obj)} {σ:St} {H:Hp} {s:Shared} {E:Value→Shared→Prop} (ok:X.Ok) (I:Inv (X.withE E) pins σ H s):Inv X pins σ H s :=
 ⟨ok,I.os,I.bare,I.base,I.loc,I.cell,I.free,I.freeC,I.pin,I.hok,I.len⟩
noncomputable def tAsk (X:Cx) (k i:Nat):TC:=fun σ H Q E=>∃ f D spL,σ[i]?=some (some (.ref f))∧LamOk X.prog X.w X.K X.mg X.base (CXR X.prog X.w) k f D spL∧(∃ oc od fd sl,(f,(⟨oc,od,.func fd,sl⟩:Obj))∈D)∧Laid D X.H₀ X.s₀.heap X.fs∧spL H (fun _ H'=>Q H') E
theorem pc_ask {X:Cx} {k i:Nat} {x:Str} {np cpos pos:Pos} (Bd:Body X) (hr:Room k X.A) (hN:X.N[i]?=some x) (hv:Vis X.env.scope x) (hd:(x == ("__debug__":Str))=false:=by decide) (hcd:(x == ("__classdict__":Str))=false:=by decide)
 (hs:swapsWith (.Call (.Name x np) [] [] cpos) none pos.line X.env=pure false:=by rfl):PCall X (.Expr (.Call (.Name x np) [] [] cpos) pos) (tAsk X k i):=by
 intro pins s σ H Q E I h
 obtain⟨f,D,spL,hσ,L,⟨oc,od,fd,sl,hfo⟩,hD,q⟩:=h
 refine wpAny_Expr_any ?_ I.quiet hs
 refine wpAny_Call_Name_kw ?_
 have v:=pe_var (X:=X.withE fun ev s1=>∃ H0 s0,Inv X pins σ H0 s0∧CXR X.prog X.w X.stack H0 s0 E ev s1) (pos:=np) hN hv hd hcd pins s σ H (fun u H'=>u=.ref f∧H'=H) I.withE ⟨_,hσ,rfl,rfl⟩
 refine thn v fun u s1 ⟨y,H1,I1,r1,ey,eH⟩=>?_
 subst ey eH
 obtain rfl:u=Value.ref f:=r1
 have J:=I1.noE I.ok
 have hD1:Laid D H1 s1.heap (frs X.stack):=fun p hp=>by
  obtain⟨a1,a2,a3⟩:=hD p hp
  refine⟨J.base.keep p.1 p.2 a1 a2 a3 (by rw[Bd.ex];simp),J.base.free p.1 p.2 a1 a2 (by rw[Bd.ex];simp),fun z=>?_⟩
  rcases Bd.mem.mp z with z | z
  ·exact absurd (Nat.lt_of_lt_of_le (Heap.lt_size a1) J.ok.above) (by rw[z];exact Nat.lt_irrefl _)
  ·exact a3 z
 refine PySem.W.callWith_F0 (first:=[]) ⟨oc,od,fd,sl,(hD1 _ hfo).1⟩ ?_
 refine wpAny_call (codeAny_mono (L X.A X.stack s1 H1 _ E hr J.env0 hD1 q) fun r s' hq=>?_)
 cases r with
 | error ev=>exact⟨H1,s1,J,hq⟩
 | ok fl =>
  cases fl with
  | ret u =>
   obtain⟨v,H',I',rv,q'⟩:=J.after hq
   exact⟨rfl,H',I',q'⟩
  | next=>exact hq.elim
  | brk=>exact hq.elim
  | cont=>exact hq.elim
end L2
namespace L2
open PySem PySem.Spec PyProof.Rows
noncomputable def BMain (mg:Str→Option Value) (h:Heap):Prop:=∃ bm ob,mg "__builtins__"=some (.ref bm)∧bm≠builtinsNs∧h.get? bm=some ob∧ob.cls=.type "module"∧ob.dict=some builtinsNs∧ob.data=.plain
noncomputable def pick (ix:List Nat) (σ:St):St:=ix.map fun i=>(σ[i]?).join
structure LamSrc (X:Cx) (scope:Scope) (clos:List (Str×Addr)) (NL:List Str) (ix:List Nat):Prop where
 kind:scope.kind=.function
 co:scope.isCoroutine=false
 gen:scope.isGenerator=false
 nocell:∀ x∈scope.names,x.2≠.cell
 cl:closureFor scope X.env=pure clos
 sub:∀ q∈clos,X.env.cells.lookup q.1=some q.2∧X.fn q.1=true
 has:∀ x,scope.names.lookup x=some .free→∃ c,clos.lookup x=some c
 ixs:∀ (j:Nat) (x:Str),NL[j]?=some x→∃ i,ix[j]?=some i∧X.N[i]?=some x∧Vis X.env.scope x∧X.env.kindOf x≠some .local∧scope.names.lookup x=some .free
 len:ix.length=NL.length
noncomputable def tWhy (X:Cx) (P:Addr) (lpos:Pos) (ix:List Nat) (kL:Nat) (spL:St→Hp→VK→XK→Prop) (spW:SpS) (E:XK):TE:=fun σ H Q=>∃ ps,H P=some (.tbl ps)∧TriplesOk ps.toList∧codeAmong lpos ps.toList=none ∧
 ∀ c' f s1 D,LamOk X.prog X.w X.K X.mg X.base (CXR X.prog X.w) kL f D (spL (pick ix σ))→(∃ oc od fd sl,(f,(⟨oc,od,.func fd,sl⟩:Obj))∈D)→Laid D (upd H P (.tbl (ps++#[rawInt lpos.line,rawInt lpos.col,.ref c']))) s1.heap (frs X.stack) →
  spW s1 X.stack [.ref f] (upd H P (.tbl (ps++#[rawInt lpos.line,rawInt lpos.col,.ref c']))) Q E
section
variable {X:Cx}
theorem lookup_mem {x:Str} {c:Addr} {clos:List (Str×Addr)} (h:clos.lookup x=some c):(x,c)∈clos:=PySem.mem_of_lookup h
theorem pe_why {y xp:Str} {params:Arguments} {body:Expr} {scope:Scope} {lpos cpos np:Pos} {c P f:Addr} {fd:FuncData} {k kW:Nat} {clos:List (Str×Addr)} {NL:List Str} {ix:List Nat} {spL:St→Hp→VK→XK→Prop} {spW:SpS} {E:XK}
 (Bd:Body X) (F:FnOkS X.prog X.w X.K X.mg X.base (CXR X.prog X.w) kW f fd [xp] spW) (hr:Room kW X.A) (hg:Gl X y) (hm:X.mg y=some (.ref f)) (hk:PySem.W.keepIn X.K (.ref f)=true) (hb:Binds X.K fd [xp] []) (hx:Passes (CXR X.prog X.w) X E)
 (hcode:X.env.code=.ref c) (hC:PySem.W.CodeHd X.base c P) (hbm:BMain X.mg X.base) (hdef:defaultsOf params X.env=([],[])) (S:LamSrc X scope clos NL ix)
 (hbind:∀ pm c' ctv,bindArgs (PySem.W.kla_fn "<lambda>" (X.env.qual++"<lambda>") params body scope clos pm (.ref c') ctv) ⟨[],[]⟩=pure [])
 (hlam:∀ (f' c':Addr) (σ':St) (A:Around) (outer:List Env) (s:Shared) (H:Hp) (Q:VK) (E:XK),A.frames=some outer→Room k (A.deeper (PySem.W.envX (X.env.qual++"<lambda>") scope s.heap.objs.size f' (.ref c') clos))→spL σ' H Q E →
  ∃ te,PE (cxLam (CXR X.prog X.w) X.prog X.w X.K X.mg X.base NL (X.env.qual++"<lambda>") scope f' (.ref c') clos A outer s H E) body te∧te σ' H Q)
 (hdb:(y == ("__debug__":Str))=false:=by decide) (he:starEach [.Lambda params body scope lpos] X.env=[(false,eval (.Lambda params body scope lpos) X.env)]:=by rfl) :
 PE X (.Call (.Name y np) [.Lambda params body scope lpos] [] cpos) (tWhy X P lpos ix (k+1) spL spW E):=by
 intro pins s σ H Q I h
 obtain⟨ps,hPH,htr,hnf,h⟩:=h
 have hP:s.heap.get? P=some (PySem.W.tabObj ps):=I.hok P _ hPH
 obtain⟨bm,ob,b1,b2,b3,b4,b5,b6⟩:=hbm
 have hgs:=I.mod.glob.keeps I.bk
 have hgP:mainGlobals≠P:=fun z=>by
  obtain⟨o,es,ep,e,hd,_⟩:=hgs
  rw[z,hP]at e;cases e;cases hd
 have hbP:bm≠P:=fun z=>by
  have e:=I.bk _ _ b3
  rw[z,hP]at e;cases e;cases b4
 have hbG:bm≠mainGlobals:=fun z=>by
  obtain⟨o,es,ep,e,hd,_⟩:=I.mod.glob
  rw[z,e]at b3;cases b3;rw[hd]at b6;cases b6
 refine wpAny_Call_Name_kw (ld_glob I hg hm ?_ hdb)
 refine PySem.W.callWith_K (h₀:=X.base) I.ok.mod.kin hk ?_ he rfl
 rw[he]
 refine Calls.spliced_cons (PySem.W.kla_eval hdef (PySem.W.kla_makeFunction (mg:=X.mg) S.cl I.ok.glob hgs hcode (hC.keeps I.bk) hP htr hnf hgP ⟨bm,ob,b1,b2,hbG,hbP,I.bk _ _ b3,b4,b5,b6⟩ fun c' ctv h' tk ext hge hlt hrec htb=>?_))
 refine Calls.spliced_nil ?_
 obtain⟨c₂,oc,vs,t,e2,hoc,hocd,hocv⟩:=hrec
 cases e2
 have kp:∀ b o,b≠P→s.heap.get? b=some o→(h'.push (PySem.W.kla_obj "<lambda>" (X.env.qual++"<lambda>") params body scope clos ((X.mg "__name__").getD .none) c' ctv)).get? b=some o:=fun b o n e=>Heap.get?_push_of_some _ (ext b o n e)
 have hP':(h'.push (PySem.W.kla_obj "<lambda>" (X.env.qual++"<lambda>") params body scope clos ((X.mg "__name__").getD .none) c' ctv)).get? P=some (PySem.W.tabObj (ps++#[rawInt lpos.line,rawInt lpos.col,.ref c'])):=Heap.get?_push_of_some _ htb
 have nP:∀ b,H b=none→b≠P:=fun b q z=>by rw[z,hPH]at q;cases q
 have nT:∀ b u,H b=some u→(∀ qs,u≠.tbl qs)→b≠P:=fun b u q n z=>by rw[z,hPH]at q;cases q;exact n _ rfl
 have un:Un X.fs [] H (upd H P (.tbl (ps++#[rawInt lpos.line,rawInt lpos.col,.ref c']))) s.heap (h'.push (PySem.W.kla_obj "<lambda>" (X.env.qual++"<lambda>") params body scope clos ((X.mg "__name__").getD .none) c' ctv)):=by
  refine⟨fun b o q n _ _=>kp b o (nP b n) q,fun b o q n _ _=>⟨o.slots,kp b o (nP b n) q⟩,fun b o q n _=>by rw[upd_ne (nP b n)];exact n,fun b o q _=>?_,fun b xs q=>?_,fun b o u q=>?_,fun b qs q=>?_⟩
  ·by_cases hb':b=P
   ·rw[hb'];exact⟨_,hP'⟩
   ·exact⟨o,kp b o hb' q⟩
  ·rw[upd_ne (nT b _ q fun _ z=>by cases z)];exact q
  ·rw[upd_ne (nT b _ q fun _ z=>by cases z)];exact q
  ·by_cases hb':b=P
   ·subst hb'
    rw[hPH]at q
    cases q
    exact⟨_,upd_same⟩
   ·exact⟨#[],by rw[upd_ne hb',q];simp⟩
 have hok:HOk X.prog X.w (upd H P (.tbl (ps++#[rawInt lpos.line,rawInt lpos.col,.ref c']))) (h'.push (PySem.W.kla_obj "<lambda>" (X.env.qual++"<lambda>") params body scope clos ((X.mg "__name__").getD .none) c' ctv)):=fun b u q=>by
  by_cases hb':b=P
  ·subst hb'
   rw[upd_same]at q
   cases q
   exact hP'
  ·rw[upd_ne hb']at q
   refine(I.hok b u q).stay (fun d v hd' z=>kp d v (fun z'=>?_) z) (fun d z=>by rw[upd_ne (nT d _ z fun _ z=>by cases z)];exact z) fun d xs z=>by rw[upd_ne (nT d _ z fun _ z=>by cases z)];exact z
   subst z'
   rcases hd' with z1 | z1
   ·exact hb' z1.symm
   ·rw[hPH]at z1;cases z1
 have I1:=I.un (t':=tk) un hok
 have hPs:P<s.heap.objs.size:=Heap.lt_size hP
 have fresh:∀ b,s.heap.objs.size≤b→upd H P (.tbl (ps++#[rawInt lpos.line,rawInt lpos.col,.ref c'])) b=none∧b∉frs X.stack:=fun b hb'=>by
  refine⟨by rw[upd_ne (Nat.ne_of_gt (Nat.lt_of_lt_of_le hPs hb'))];exact I.hok.fresh hb',fun z=>?_⟩
  obtain⟨_,o,ho,_⟩:=I.stack.mem z
  exact absurd (Heap.lt_size ho) (Nat.not_lt.mpr hb')
 have hle:s.heap.objs.size≤h'.objs.size:=Nat.le_trans hge (Nat.le_of_lt hlt)
 have cellAt:∀ q∈clos,∃ o u,s.heap.get? q.2=some o∧o.data=.cell u∧H q.2=none∧q.2∉frs X.stack:=fun q hq=>by
  obtain⟨hl,hfn⟩:=S.sub q hq
  obtain⟨u,o,ho,hd'⟩:=I.cell q.1 q.2 hl
  refine⟨o,u,ho,hd',I.freeC _ _ hl,fun z=>?_⟩
  rcases Bd.mem.mp z with z | z
  ·exact I.cne _ _ hl z
  ·obtain⟨_,o',ho',_⟩:=I.ok.funs.mem z
   exact absurd (Heap.lt_size ho') (Nat.not_lt.mpr (I.ok.cab _ _ hfn hl))
 let Dc:List (Addr×Obj):=clos.filterMap fun q=>(s.heap.get? q.2).map fun o=>(q.2,o)
 have memC:∀ q∈clos,∀ o,s.heap.get? q.2=some o→(q.2,o)∈Dc:=fun q hq o ho=>List.mem_filterMap.mpr ⟨q,hq,by rw[ho];rfl⟩
 let D:List (Addr×Obj):=(h'.objs.size,PySem.W.kla_obj "<lambda>" (X.env.qual++"<lambda>") params body scope clos ((X.mg "__name__").getD .none) c' ctv) :: (c',oc) :: Dc
 have laid:Laid D (upd H P (.tbl (ps++#[rawInt lpos.line,rawInt lpos.col,.ref c']))) (h'.push (PySem.W.kla_obj "<lambda>" (X.env.qual++"<lambda>") params body scope clos ((X.mg "__name__").getD .none) c' ctv)) (frs X.stack):=fun p hp=>by
  rcases List.mem_cons.mp hp with rfl | hp
  ·exact⟨Heap.get?_push_size _ rfl,fresh _ hle⟩
  ·rcases List.mem_cons.mp hp with rfl | hp
   ·exact⟨Heap.get?_push_of_some _ hoc,fresh _ hge⟩
   ·obtain⟨q,hq,hp⟩:=List.mem_filterMap.mp hp
    obtain⟨o,u,ho,hd',hn,hfr⟩:=cellAt q hq
    rw[ho]at hp
    cases hp
    exact⟨kp _ _ (nP _ hn) ho,by rw[upd_ne (nP _ hn)];exact hn,hfr⟩
 have LS:LamScope NL scope clos D (pick ix σ):=by
  refine⟨S.kind,S.co,S.gen,S.nocell,fun x y c h1 h2=>I.ok.inj x y c (S.sub _ (lookup_mem h1)).1 (S.sub _ (lookup_mem h2)).1,S.has,fun x c h1=>?_,fun j x v h1 h2=>?_,by unfold pick;rw[List.length_map];exact S.len⟩
  ·obtain⟨o,u,ho,hd',_⟩:=cellAt _ (lookup_mem h1)
   exact⟨o,u,List.mem_cons_of_mem _ (List.mem_cons_of_mem _ (memC _ (lookup_mem h1) o ho)),hd'⟩
  ·obtain⟨i,hi,hN,hv,hnl,hfree⟩:=S.ixs j x h1
   have hσ:σ[i]?=some (some v):=by
    unfold pick at h2
    rw[List.getElem?_map,hi]at h2
    have h2:(σ[i]?).join=some v:=Option.some.inj h2
    cases hs:σ[i]? with
    | none=>rw[hs]at h2;cases h2
    | some w'=>rw[hs]at h2;exact congrArg some h2
   obtain⟨m,_,hl⟩:=I.loc
   obtain⟨u,ru,lk⟩:=hl i x v hN hσ hv
   rcases lk with ⟨kl,_⟩ | ⟨_,c2,hc2,o,ho,hd'⟩
   ·exact absurd kl hnl
   ·obtain⟨c3,hc3⟩:=S.has x hfree
    have hsub:=(S.sub _ (lookup_mem hc3)).1
    rw[hc2]at hsub
    obtain rfl:c2=c3:=Option.some.inj hsub
    exact⟨hfree,c2,o,u,hc3,List.mem_cons_of_mem _ (List.mem_cons_of_mem _ (memC _ (lookup_mem hc3) o ho)),hd',ru⟩
 have L:LamOk X.prog X.w X.K X.mg X.base (CXR X.prog X.w) (k+1) h'.objs.size D (spL (pick ix σ)) :=
  lam_of (k:=k) (N:=NL) (σ:=pick ix σ) (List.mem_cons_self ..) ⟨oc,vs,t,List.mem_cons_of_mem _ (List.mem_cons_self ..),hocd,hocv⟩ LS (hbind _ _ _) fun A outer s H Q E hfr hr' hsp=>hlam _ _ _ A outer s H Q E hfr hr' hsp
 have hsp:=h c' h'.objs.size { s with heap:=h'.push (PySem.W.kla_obj "<lambda>" (X.env.qual++"<lambda>") params body scope clos ((X.mg "__name__").getD .none) c' ctv),toks:=tk } D L ⟨_,_,_,_,List.mem_cons_self ..⟩ laid
 have hb':=hb { s with heap:=h'.push (PySem.W.kla_obj "<lambda>" (X.env.qual++"<lambda>") params body scope clos ((X.mg "__name__").getD .none) c' ctv),toks:=tk } [Value.ref h'.objs.size] I1.kIn rfl
 refine⟨I1.kIn,wpAny_call (codeAny_mono (F.run X.A X.stack _ _ ⟨[Value.ref h'.objs.size],[]⟩ [Value.ref h'.objs.size] [V.ref h'.objs.size] Q E hr I1.env0 hb' (.cons rfl .nil) hsp) fun r s' hq=>?_)⟩
 cases r with
 | error ev=>exact hx pins σ _ _ ev s' I1 hq
 | ok fl =>
  cases fl with
  | ret u=>exact I1.after hq
  | next=>exact hq.elim
  | brk=>exact hq.elim
  | cont=>exact hq.elim
end
end L2
namespace L2
open PySem PySem.Spec PyProof.Rows
theorem law_callT {Pr:Program} {w:World} {K:PySem.W.Frag} {mg mb:Str→Option Value} {CX:CXT} {k:Nat} {fa a c P:Addr} {fd:FuncData} {x:Str} {sp:Sp} {s₁:Shared} {vs:List Value} {ns:List Int}
 (KX:K.In s₁.heap) (hns:s₁.heap.Ns mainGlobals mg) (hb:s₁.heap.Ns builtinsNs mb) (hbb:∀ x:Str,x≠"__name__"→mb x=bootBuiltins x) (hlim:s₁.heap.NoLimit) (hg:s₁.gens=#[])
 (ha:s₁.heap.get? a=some { cls:=.type "list",data:=.seq vs.toArray }) (hi:IntsAre vs ns) (hl:ns.length≤sizeLine) (hr:Room k callerA)
 (hC:PySem.W.CodeHd s₁.heap c P) (hT:s₁.heap.TableAt c P #[]) (hKP:K.lookup P=none) (hbm:BMain mg s₁.heap)
 (F:∀ base:Heap,K.In base→base.Ns mainGlobals mg→BMain mg base→PySem.W.CodeHd base c P→FnOk Pr w K mg base CX k fa fd [x] sp) (hbind:∀ (s:Shared) (u:Value),BindsTo s fd ⟨[u],[]⟩ [(x,u)])
 (hsp:∀ H:Hp,H P=some (.tbl #[])→SqL K H a (ns.map V.int)→sp [.ref a] H (fun v _=>v=.bl true) fun _ _ _=>False)
 (hCX:∀ H e s',CX [] H s₁ (fun _ _ _=>False) e s'→False) :
 codeAny (model Pr w) callerA (.call (.ref fa) ⟨[.ref a],[]⟩) (fun r s'=>r=.ok (.ret (.bool true))∧OldK s₁.heap s'.heap∧s'.os=s₁.os∧AllBare s'.gens) s₁:=by
 have rv:=vals_ints hi
 have lenV:=hi.length
 have hP:s₁.heap.get? P=some (PySem.W.tabObj #[]):=hT.2
 have hPa:P≠a:=fun z=>by rw[z,ha]at hP;cases hP
 have core:∀ H:Hp,H P=some (.tbl #[])→(∀ b,b≠P→H b=none∨∃ ob xs,H b=some (.frz ob (.lst xs)))→SqL K H a (ns.map V.int)→HOk Pr w H s₁.heap→(∀ b,H b≠none→b=a∨b=P)→(H a≠none→K.lookup a=none) →
  codeAny (model Pr w) callerA (.call (.ref fa) ⟨[.ref a],[]⟩) (fun r s'=>r=.ok (.ret (.bool true))∧OldK s₁.heap s'.heap∧s'.os=s₁.os∧AllBare s'.gens) s₁:=by
  intro H hHP hO hS hok hA hK
  have base_of:∀ {b:Addr} {o:Obj},s₁.heap.get? b=some o→H b=none→(hidT s₁.heap H).get? b=some o:=fun e n=>hidT_get e n
  have free:∀ {b:Addr},b≠a→b≠P→H b=none:=fun {b} n1 n2=>by
   cases q:H b with
   | none=>rfl
   | some u=>rcases hA b (by rw[q];simp)with z | z <;> contradiction
  have noA:∀ {b:Addr} {o:Obj} {es:Array DictEntry} {ep:Nat},s₁.heap.get? b=some o→o.data=.dict es ep→H b=none:=fun {b o es ep} e d =>
   free (fun z=>by rw[z,ha]at e;cases e;cases d) fun z=>by rw[z,hP]at e;cases e;cases d
  have nsK:∀ {b:Addr} {m:Str→Option Value},s₁.heap.Ns b m→(hidT s₁.heap H).Ns b m:=fun {b m} ⟨o,es,ep,e,d,r⟩=>⟨o,es,ep,base_of e (noA e d),d,r⟩
  have hKb:K.In (hidT s₁.heap H):=fun b o e=>base_of (KX b o e) (by
   cases q:H b with
   | none=>rfl
   | some u =>
    rcases hA b (by rw[q];simp)with z | z
    ·subst z;rw[hK (by rw[q];simp)]at e;cases e
    ·subst z;rw[hKP]at e;cases e)
  have hM:Mod K mg (hidT s₁.heap H):=⟨hKb,nsK hns,⟨mb,nsK hb,hbb⟩,let ⟨mc,h1,h2⟩:=hlim;⟨mc,nsK h1,h2⟩⟩
  have e0:Env0 Pr w K mg (hidT s₁.heap H) callerA [] s₁ H:=⟨rfl,hM,fun b o e=>of_hidT e,Nat.le_of_eq (hidT_size _ _),trivial,fun b hb=>absurd (show b∈([]:List Addr) from hb) (by simp),hok,.of_eq hg⟩
  have hbm':BMain mg (hidT s₁.heap H):=by
   obtain⟨bm,ob,b1,b2,b3,b4,b5⟩:=hbm
   refine⟨bm,ob,b1,b2,base_of b3 (free (fun z=>?_) fun z=>?_),b4,b5⟩
   ·rw[z,ha]at b3;cases b3;exact absurd (show Value.type "list"=Value.type "module" from b4) (by decide)
   ·rw[z,hP]at b3;cases b3;cases b4
  have hC':PySem.W.CodeHd (hidT s₁.heap H) c P:=by
   obtain⟨o,vs',file,tf,flags,tg,inF,text,tt,e1,e2,r⟩:=hC
   refine⟨o,vs',file,tf,flags,tg,inF,text,tt,base_of e1 (free (fun z=>?_) fun z=>?_),e2,r⟩
   ·rw[z,ha]at e1;cases e1;exact absurd (show Value.type "list"=Value.type "code" from e2) (by decide)
   ·rw[z,hP]at e1;cases e1;cases e2
  refine codeAny_mono ((F _ hKb (nsK hns) hbm' hC').run callerA [] s₁ H ⟨[.ref a],[]⟩ [.ref a] [.ref a] _ _ hr e0 (hbind s₁ (.ref a)) (.cons rfl .nil) (hsp H hHP hS)) fun r s' h=>?_
  cases r with
  | error e=>exact(hCX H e s' h).elim
  | ok fl =>
   cases fl with
   | next=>exact False.elim h
   | brk=>exact False.elim h
   | cont=>exact False.elim h
   | ret u =>
    obtain⟨v,H',os,bare,un,hok',r',q⟩:=h
    have q':v=.bl true:=q
    subst q'
    obtain rfl:u=Value.bool true:=r'
    refine⟨rfl,⟨fun b o e=>?_,fun b o e=>un.there b o e (by simp)⟩,os,bare⟩
    by_cases hbP:b=P
    ·subst hbP
     rw[hP]at e
     cases e
     obtain⟨more,hm⟩:=un.tbls _ _ hHP
     exact .inr (.inl ⟨hT.isCodeTable,rfl,#[],more,rfl,hok' _ _ hm⟩)
    ·refine .inl ?_
     cases q:H b with
     | none=>exact un.keep b o e q (by intro z;exact absurd (show b∈([]:List Addr) from z) (by simp)) (by simp)
     | some u =>
      rcases hO b hbP with z | ⟨ob,xs,z⟩
      ·rw[q]at z;cases z
      ·have z2:=un.frzs b ob _ z
       obtain⟨e1,_⟩:=hok b _ z
       obtain⟨e2,_⟩:=hok' b _ z2
       rw[e]at e1;cases e1
       exact e2
 cases hk:K.lookup a with
 | some o =>
  have e:=KX a o hk
  rw[ha]at e
  cases e
  refine core (upd (fun _=>none) P (.tbl #[])) upd_same (fun b n=>.inl (by rw[upd_ne n])) (.inr ⟨_,vs.toArray,_,hk,rfl,rfl,rfl,by rw[List.size_toArray,lenV];exact hl,by simpa using rv⟩) (fun b u z=>?_) (fun b z=>?_) fun z=>absurd (upd_ne (Ne.symm hPa)) z
  ·by_cases hb':b=P
   ·subst hb';rw[upd_same]at z;cases z;exact hP
   ·rw[upd_ne hb']at z;cases z
  ·by_cases hb':b=P
   ·exact .inr hb'
   ·exact absurd (upd_ne hb') z
 | none =>
  refine core (upd (upd (fun _=>none) a (.frz { cls:=.type "list",data:=.seq vs.toArray } (.lst (ns.map V.int)))) P (.tbl #[])) upd_same (fun b n=>?_) (.inl (.inr ⟨{ cls:=.type "list",data:=.seq vs.toArray },by rw[upd_ne (Ne.symm hPa),upd_same]⟩)) (fun b u z=>?_) (fun b z=>?_) fun _=>hk
  ·by_cases hb':b=a
   ·subst hb';exact .inr ⟨_,_,by rw[upd_ne n,upd_same]⟩
   ·exact .inl (by rw[upd_ne n,upd_ne hb'])
  ·by_cases hb':b=P
   ·subst hb';rw[upd_same]at z;cases z;exact hP
   ·rw[upd_ne hb']at z
    by_cases hc':b=a
    ·subst hc'
     rw[upd_same]at z
     cases z
     exact⟨ha,by rw[List.length_map];exact hl,vs,_,rv,ha⟩
    ·rw[upd_ne hc']at z;cases z
  ·by_cases hb':b=P
   ·exact .inr hb'
   ·by_cases hc':b=a
    ·exact .inl hc'
    ·exact absurd (by rw[upd_ne hb',upd_ne hc']) z
theorem walk_ofT {l:PySem.W.OpenLaw} {n k:Nat} {q:Program} {loose:List Str} {XP:(Str→Option Value)→Heap→Prop} {YP:World→Heap→Prop} {d:DefRec} {K:Params→PySem.W.Frag} {CX:World→CXT} {sp:World→Addr→Sp} {x:Str}
 (hn:l.most=some n) (hn2:n≤sizeLine) (hdf:d.params.defaults=[]) (hr:Room k callerA) {ts:List Addr}
 (hY:∀ (w:World) (h:Heap),YP w h→(K w.params).In h) (hTab:∀ (w:World) (h:Heap),YP w h→∀ P∈ts,h.get? P=some (PySem.W.tabObj #[]))
 (F:∀ (w:World) (mg:Str→Option Value) (fa:Addr) (h:Heap),(K w.params).In h→h.Ns mainGlobals mg→mg d.name=some (.ref fa) →
  ∃ (fd:FuncData) (c P:Addr),P∈ts∧PySem.W.codeHdIn (K w.params) c P=true∧(K w.params).lookup P=none∧(∀ (s:Shared) (u:Value),BindsTo s fd ⟨[u],[]⟩ [(x,u)]) ∧
   ∀ base:Heap,(K w.params).In base→base.Ns mainGlobals mg→BMain mg base→PySem.W.CodeHd base c P→FnOk l.prog w (K w.params) mg base (CX w) k fa fd [x] (sp w P))
 (hsp:∀ (w:World) (P:Addr) (H:Hp) (a:Addr) (ns:List Int),ns.length≤n→H P=some (.tbl #[])→SqL (K w.params) H a (ns.map V.int)→sp w P [.ref a] H (fun v _=>v=.bl true) fun _ _ _=>False)
 (hCX:∀ (w:World) (H:Hp) (s:Shared) (e:Value) (s':Shared),CX w [] H s (fun _ _ _=>False) e s'→False) :
 PySem.W.WalkO q loose XP YP l.row.toRowW d [] (fun f vs=>PySem.call f vs):=by
 refine Att.attach_call hn hdf fun w s₀ s₁ mg mb fa o pm cd doc a vs ns G Y ho hd hcd hmg hobj hints hlen hg=>?_
 have KX:=hY w _ Y
 obtain⟨fd,c,P,hPt,hcode,hKP,hb,hF⟩:=F w mg fa _ KX G.T.g hmg
 have hC:=PySem.W.codeHd_of_K KX hcode
 have t6:=hC.tab (hTab w _ Y P hPt)
 exact law_callT KX G.T.g G.T.b G.T.builtins G.T.nolimit hg hobj hints (Nat.le_trans hlen hn2) hr hC t6 hKP G.T.bmain hF hb (fun H h1 h2=>hsp w _ H a ns hlen h1 h2) fun H e s'=>hCX w H s₁ e s'
end L2
namespace L2
open PySem PySem.Spec PyProof.Rows
section
variable {prog:Program} {w:World} {A:Around} {E:Value→Shared→Prop} {s:Shared} {K:PySem.W.Frag} {x C:Addr} {ox:Obj} {od:Option Obj} {name:Str} {expr:Bool} {Q:Value→Shared→Prop}
theorem get_exc {v:Value} (X:K.In s.heap) (I:PySem.W.InstAt s.heap x ox C od) (hga:PySem.W.findIn K (.ref C) "__getattribute__"=some (some (.builtin "BaseException.__getattribute__"))) (hk:PySem.W.findIn K (.ref C) "__getattr__"=some none)
 (hs:PySem.W.subIn K (.ref C) (.type "BaseException")=some true) (hf:PySem.W.findObj K C od name=some (.value v)) (hh:PySem.W.handedIn v=true) (h:Q v { s with toks:=s.toks+1 }):wpAny (model prog w) A (getAttr (.ref x) name expr) Q E s:=by
 have FB:=PySem.F.attrBase_ValueError
 have L0:=I.type (M:=model prog w)
 have L1:=PySem.W.looks_find (M:=model prog w) X I hf
 have ht:PySem.W.Looks (model prog w) s.heap (isInstance (.ref x) (.type "BaseException")) true:=L0.andThen (PySem.W.looks_subIn X hs)
 have hook:PySem.W.Looks (model prog w) s.heap (hookBefore (.ref C)) none:=PySem.W.looks_hook X (by rw[if_pos (show onTheHeap (Value.ref C)=true from rfl)];exact hk)
 obtain⟨hh',g,d,t,os⟩:=s
 refine wpAny_bind (wpAny_mkText (wpAny_holding (wpAny_bind (L0.at (wpAny_bind ((PySem.W.looks_findIn X hga).at ?_))))))
 dsimp only
 rw[show (onTheHeap (Value.ref C) && Value.builtin "BaseException.__getattribute__" == Value.builtin "object.__getattribute__")=false from by rw[show (Value.builtin "BaseException.__getattribute__" == Value.builtin "object.__getattribute__")=false from by decide +kernel,Bool.and_false],if_neg (by decide)]
 refine wpAny_bind (hook.at (wpAny_bind (wpAny_attempt (wpAny_holding ?_))))
 unfold callGetattribute
 rw[show (expr && onTheHeap (Value.builtin "BaseException.__getattribute__"))=false from Bool.and_false _,if_neg (by decide)]
 unfold boundAndCalled
 rw[FB.ga.bind]
 refine wpAny_bind (wpAny_pure ?_)
 show wpAny _ _ (call (.builtin "BaseException.__getattribute__") [.ref x,.str name t]) _ _ _
 refine wpAny_call ?_
 refine codeAny_call_builtin FB.ga.plain PySem.F.entry_bexc_ga ?_
 refine @PySem.W.check_slot (model prog w) _ _ ⟨hh',g,d,t+1,os⟩ "BaseException.__getattribute__" "BaseException" "__getattribute__" (.ref x) [.str name t] [] _ (by decide +kernel) (by decide +kernel) ht (PySem.F.args_bexc_ga (.ref x) (.str name t)) ?_
 refine wpAny_bind (wpAny_pure (wpAny_bind (wpAny_pure (wpAny_bind (L0.at (wpAny_bind (L1.at ?_)))))))
 refine wpAny_pure ?_
 show wpAny _ _ (handedOut v) _ _ _
 rw[PySem.W.handedOut_of hh]
 exact wpAny_pure h
end
structure XGetE (K:PySem.W.Frag) (C:Addr) (f:Str):Prop where
 ga:PySem.W.findIn K (.ref C) "__getattribute__"=some (some (.builtin "BaseException.__getattribute__"))
 hook:PySem.W.findIn K (.ref C) "__getattr__"=some none
 sub:PySem.W.subIn K (.ref C) (.type "BaseException")=some true
 hd:PySem.W.hasDictIn K C=true
 free:PySem.W.findIn K (.ref C) f=some none
noncomputable def tXatE (K:PySem.W.Frag) (ta:TE) (f:Str):TE:=fun σ H Q=>ta σ H fun x H1=>∃ a C dx fs v,x=.ref a∧H1 a=some (XH a (.ref C) (some dx))∧H1 dx=some (.xd fs)∧XGetE K C f∧fs.lookup f=some v∧Q v H1
theorem pe_xatE {X:Cx} {e:Expr} {ta:TE} {f:Str} {pos:Pos} (he:PE X e ta) (hb:attributeBase e f X.env (eval e X.env)=eval e X.env):PE X (.Attribute e f pos) (tXatE X.K ta f):=by
 intro pins s σ H Q I h
 refine attr_of hb (thn (he pins s σ H _ I h) fun u s1 ⟨x,H1,I1,rx,a,C,dx,fs,v,ex,ea,ed,G,l,q⟩=>?_)
 subst ex
 obtain rfl:u=Value.ref a:=rx
 obtain⟨⟨o,vs,ho,hcl,hdct,hdat⟩,_⟩:=I1.hok a _ ea
 obtain⟨mA,hns,rel⟩:=I1.hok dx _ ed
 obtain⟨od,hod,hl⟩:=lookIn_ns hns
 obtain⟨u,hu,ru⟩:=RelO.some_of (v:=v) (o:=mA f) (by rw[← l];exact rel f)
 have J:PySem.W.InstAt s1.heap a o C (some od):=⟨ho,hcl,by unfold PySem.W.notCls;rw[hdat],by rw[hdct];exact hod⟩
 exact get_exc I1.kIn J G.ga G.hook G.sub (PySem.W.findObj_own G.hd G.free rfl (by rw[hl,hu])) (handed_of ru) ⟨v,H1,I1.tok _,ru,q⟩
end L2
namespace L2
open PySem PySem.Spec PyProof.Rows
section
variable {P:Program} {w:World} {K:PySem.W.Frag} {mg:Str→Option Value} {base:Heap}
theorem Fun.okS {x qual:Str} {st:Stmt} {f:Addr} {fd:FuncData} {N ps:List Str} {k:Nat} {sp:SpS} (F:Fun K x qual st f fd) (S:FnScope N ps (defScope st)) (len:∀ s o vs H Q E,sp s o vs H Q E→vs.length=ps.length)
 (hbody:∀ (cdv:Value) (A:Around) (outer:List Env) (s:Shared) (H:Hp) (vs:List V) (Q:VK) (E:XK),A.frames=some outer→Room k (A.deeper (envOfC qual (defScope st) s.heap.objs.size f cdv))→sp s outer vs H Q E →
  ∃ t,PSs (cxOf (CXR P w) P w K mg base N qual (defScope st) f cdv A outer s H E) (defBody st) t∧t { nx:=fun _ H'=>Q .non H',rt:=Q } (start N vs) H):FnOkS P w K mg base (CXR P w) (k+1) f fd ps sp:=by
 obtain⟨oc,od,kV,doc,pm,an,cdv,ct,osl,rfl,lk,hcd⟩:=F.ex
 exact fn_ofS lk hcd S len fun A outer s H vs Q E hfr hr hsp=>hbody cdv A outer s H vs Q E hfr hr hsp
theorem Fun.okX {x qual:Str} {st:Stmt} {f:Addr} {fd:FuncData} {N ps:List Str} {k:Nat} {sp:Sp} (F:Fun K x qual st f fd) (S:FnScope N ps (defScope st)) (len:∀ vs H Q E,sp vs H Q E→vs.length=ps.length)
 (hbody:∀ (cdv:Value) (A:Around) (outer:List Env) (s:Shared) (H:Hp) (vs:List V) (Q:VK) (E:XK),A.frames=some outer→Room k (A.deeper (envOfC qual (defScope st) s.heap.objs.size f cdv))→sp vs H Q E →
  ∃ t,PSs (cxOf (CXR P w) P w K mg base N qual (defScope st) f cdv A outer s H E) (defBody st) t∧t { nx:=fun _ H'=>Q .non H',rt:=Q } (start N vs) H):FnOk P w K mg base (CXR P w) (k+1) f fd ps sp:=by
 obtain⟨oc,od,kV,doc,pm,an,cdv,ct,osl,rfl,lk,hcd⟩:=F.ex
 have G:=fn_ofS (CX:=CXR P w) (P:=P) (w:=w) (mg:=mg) (base:=base) (k:=k) (sp:=fun _ _ vs H Q E=>sp vs H Q E) lk hcd S (fun _ _ vs H Q E h=>len vs H Q E h) fun A outer s H vs Q E hfr hr hsp=>hbody cdv A outer s H vs Q E hfr hr hsp
 exact⟨len,G.run⟩
theorem passF {CX:CXT} {N:List Str} {qual:Str} {scope:Scope} {f:Addr} {cd:Value} {A:Around} {outer:List Env} {s:Shared} {H:Hp} {E:XK} :
 PassesOwn (model P w) (cxOf CX P w K mg base N qual scope f cd A outer s H E).A (cxOf CX P w K mg base N qual scope f cd A outer s H E).env (cxOf CX P w K mg base N qual scope f cd A outer s H E).xe :=
 PassesOwn.leaving (Q₁:=fun e s''=>CX outer H s E e s'') (E₁:=fun e s''=>CX outer H s E e s'')
end
end L2
namespace L2
open PySem PySem.Spec PyProof.Rows
open Sem (wp)
open Builtin Builtin.ObjectAttr
section
variable {prog:Program} {w:World} {A:Around} {E:Value→Shared→Prop} {h:Heap} {g:Array GenState} {d:Drawn} {t:Nat} {os:OsState} {K:PySem.W.Frag} {C e:Addr} {name:Str} {v:Value} {vs:Array Value}
end
section
variable {X:Cx} {pins:List (Addr×Obj)} {σ:St} {H:Hp} {s:Shared} {h':Heap} {dx:Addr}
end
section
variable {X:Cx}
structure OInit (K:PySem.W.Frag) (D fB:Addr):Prop where
 ga:PySem.W.specialIn K (.ref D) "__getattribute__"=some (some (.builtin "type.__getattribute__"))
 reads:PySem.W.readsIn K D (.type "type")=true
 find:PySem.W.findCls K (.ref D) (.type "type") "__init__"=some (.val (.ref fB))
 keep:PySem.W.keepIn K (.ref fB)=true
theorem pe_oinit {CX:CXT} {k:Nat} {D fB:Addr} {fd:FuncData} {ps:List Str} {sp:Sp} {E:XK} {x:Str} {e:Expr} {es:List Expr} {t:TA} {np apos pos:Pos} {pl:Sem Bool} (B:OInit X.K D fB) (F:FnOk X.prog X.w X.K X.mg X.base CX k fB fd ps sp) (hr:Room k X.A) (hb:Binds X.K fd ps []) (hx:Passes CX X E)
 (hg:Gl X x) (hm:X.mg x=some (.ref D)) (ha:PA X (e :: es) t) (hdb:(x == ("__debug__":Str))=false:=by decide)
 (hst:starEach (e :: es) X.env=(false,eval e X.env) :: starEach es X.env:=by rfl) (hpl:(backTo pos (starEach es X.env)).any (·.1)=false:=by rfl)
 (ht:eval (.Call (.Attribute (.Name x np) "__init__" apos) (e :: es) [] pos) X.env=(do
  let ov ← eval (.Name x np) X.env
  standAt apos.atName
  let (f,first) ← holding [ov] (getMethod ov "__init__" pl)
  callWith pos f first (backTo pos (starEach (e :: es) X.env)) (backToKw pos (keywordEach [] X.env))):=by rfl) :
 PE X (.Call (.Attribute (.Name x np) "__init__" apos) (e :: es) [] pos) (tCall sp [] E t):=by
 intro pins s σ H Q I h
 refine PySem.W.methodCall_KW (pl:=pl) (ld_glob I hg hm ?_ hdb) ht
 refine PySem.W.method_cls I.kIn B.ga (PySem.W.cls_value I.kIn B.reads B.find rfl ?_)
 refine PySem.W.callWith_K (h₀:=X.base) I.ok.mod.kin B.keep (thn (ha pos pins { s with toks:=s.toks+1 } σ H _ (I.tok _) h) fun us s1 ⟨vs,H1,I1,r,q⟩=>⟨I1.kIn,?_⟩) hst hpl
 exact run_fn F hr hb .nil hx I1 r q
theorem find_VE (K:PySem.W.Frag):PySem.W.findCls K (.type "ValueError") (.type "type") "__init__"=some (.val (.builtin "ValueError.__init__")):=by kernel_rfl
theorem method_typeX {prog:Program} {w:World} {A:Around} {E:Value→Shared→Prop} {s:Shared} {K:PySem.W.Frag} {name:Str} {v:Value} {T:String} {pl:Sem Bool} {Q:Value×List Value→Shared→Prop} (X:K.In s.heap) (ht:typeOf (.type T)=pure (.type "type")) (hs:Manifest.isStub T=false)
 (e:PySem.W.findCls K (.type T) (.type "type") name=some (.val v)) (hh:PySem.W.handedIn v=true) (h:Q (v,[]) { s with toks:=s.toks+1 }):wpAny (model prog w) A (getMethod (.type T) name pl) Q E s:=by
 have hstub:opaqueClassAbove (.type T)=pure none:=by unfold opaqueClassAbove;dsimp only;rw[hs];rfl
 have L0:PySem.W.Looks (model prog w) s.heap (typeOf (.type T)) (.type "type"):=PySem.W.Looks.of_pure ht
 have hg:PySem.W.findIn K (.type "type") "__getattribute__"=some (some (.builtin "type.__getattribute__")):=PySem.W.type_tga
 unfold getMethod specialOf
 refine wpAny_bind (wpAny_bind (L0.here ((PySem.W.looks_findIn X hg).here ?_)))
 dsimp only
 rw[if_pos PySem.W.canon_tga]
 refine wpAny_bind (wpAny_mono (Q:=fun v=>Q (v,[])) (E:=E) ?_ (fun _ _ z=>wpAny_pure z) fun _ _ z=>z)
 have LO:PySem.W.Looks (model prog w) s.heap (opaqueClassAbove (.type T)) none:=PySem.W.Looks.of_pure hstub
 refine PySem.W.cls_open X LO L0 hg (PySem.W.looks_hook X (r:=none) (by rfl)) (by show PySem.W.subIn K _ _=_;rfl) e
  (wpAny_pure (by show wpAny _ _ (handedOut v) _ _ _;rw[PySem.W.handedOut_of hh];exact wpAny_pure h))
theorem pe_vinit {e:Expr} {es:List Expr} {t:TA} {np apos pos:Pos} {pl:Sem Bool} (hg:Gl X "ValueError") (hm:X.mg "ValueError"=none) (ha:PA X (e :: es) t)
 (hst:starEach (e :: es) X.env=(false,eval e X.env) :: starEach es X.env:=by rfl) (hpl:(backTo pos (starEach es X.env)).any (·.1)=false:=by rfl)
 (ht:eval (.Call (.Attribute (.Name "ValueError" np) "__init__" apos) (e :: es) [] pos) X.env=(do
  let ov ← eval (.Name "ValueError" np) X.env
  standAt apos.atName
  let (f,first) ← holding [ov] (getMethod ov "__init__" pl)
  callWith pos f first (backTo pos (starEach (e :: es) X.env)) (backToKw pos (keywordEach [] X.env))):=by rfl) :
 PE X (.Call (.Attribute (.Name "ValueError" np) "__init__" apos) (e :: es) [] pos) (tBInit X.K t):=by
 intro pins s σ H Q I h
 refine PySem.W.methodCall_KW (pl:=pl) (ld_blt I hg hm (u:=.type "ValueError") (by kernel_rfl) ?_) ht
 refine method_typeX I.kIn (by kernel_rfl) (by decide +kernel) (find_VE X.K) (by decide +kernel) ?_
 have hplain:(backTo pos (starEach (e :: es) X.env)).any (·.1)=false:=by
  rw[hst]
  show (false || (backTo pos (starEach es X.env)).any (·.1))=false
  rw[hpl]
  rfl
 refine Calls.callWith_builtin hplain ?_
 have sp:=ha pos pins { s with toks:=s.toks+1 } σ H _ (I.tok _) h
 rw[hst]at sp ⊢
 refine Calls.evalArgs_plain (thn sp fun us s2 ⟨vs,H2,I2,r,a,C,i,od,rest,ev,hz,hx,hC,q⟩=>?_)
 subst ev
 cases r with
 | cons r0 rr =>
  rename_i u us _
  obtain rfl:u=Value.ref a:=r0
  obtain⟨bm,N,nm,qn,bs,hdct,sn,sub,ab,col,dd,k0,k1,k2,k3,k5,mN,hC',hN,hni,T⟩:=hC s2.heap I2.kIn
  obtain⟨⟨t0,ho⟩,_⟩:=I2.hok a _ hx
  refine call_binit (hrest:=by have:=rr.length;show us.length≤_;omega) PySem.F.excBase_ValueError T hC' ho fun h' t1 k he'=>?_
  refine⟨.non,H2,?_,rfl,q⟩
  have:=I2.write (x:=a) (e:=a) (o:=XO C a od) (t':=s2.toks) (by rw[hx];exact True.intro) (.inl rfl) k ⟨_,he'⟩ (XO.mk he')
  rwa [show upd H2 a (XO C a od)=H2 from by funext b;unfold upd;split <;> simp_all]at this
end
structure FunD (K:PySem.W.Frag) (x qual:Str) (st:Stmt) (f:Addr) (fd:FuncData):Prop where
 ex:∃ (oc:Value) (od:Option Addr) (dV kV doc pm:Value) (an:Option Addr) (cdv ct:Value) (osl:Array (Option Value)),
  fd=PySem.W.fnOf x qual (defArgs st) (defBody st) (defScope st) dV kV doc pm an cdv ct∧K.lookup f=some ⟨oc,od,.func fd,osl⟩∧PySem.W.codeIn K cdv qual=true
 kp:PySem.W.keepIn K (.ref f)=true
section
variable {P:Program} {w:World} {K:PySem.W.Frag} {mg:Str→Option Value} {base:Heap}
theorem FunD.ok {x qual:Str} {st:Stmt} {f:Addr} {fd:FuncData} {N ps:List Str} {k:Nat} {sp:Sp} (F:FunD K x qual st f fd) (S:FnScope N ps (defScope st)) (len:∀ vs H Q E,sp vs H Q E→vs.length=ps.length)
 (hbody:∀ (cdv:Value) (A:Around) (outer:List Env) (s:Shared) (H:Hp) (vs:List V) (Q:VK) (E:XK),Room k (A.deeper (envOfC qual (defScope st) s.heap.objs.size f cdv))→sp vs H Q E →
  ∃ t,PSs (cxOf CX0 P w K mg base N qual (defScope st) f cdv A outer s H E).nox (defBody st) t∧t { nx:=fun _ H'=>Q .non H',rt:=Q } (start N vs) H):FnOk P w K mg base CX0 (k+1) f fd ps sp:=by
 obtain⟨oc,od,dV,kV,doc,pm,an,cdv,ct,osl,rfl,lk,hcd⟩:=F.ex
 refine fn_of lk hcd S len fun A outer s H vs Q E hr hsp=>?_
 obtain⟨t,h,q⟩:=hbody cdv A outer s H vs Q E hr hsp
 exact⟨t,h.nox,q⟩
theorem funD_mk {x qual:Str} {st:Stmt} {f:Addr} {oc:Value} {od an:Option Addr} {osl:Array (Option Value)} {dV kV doc pm cdv ct:Value} (l:K.lookup f=some ⟨oc,od,.func (PySem.W.fnOf x qual (defArgs st) (defBody st) (defScope st) dV kV doc pm an cdv ct),osl⟩)
 (c:PySem.W.codeIn K cdv qual=true) (k:PySem.W.keepIn K (.ref f)=true):FunD K x qual st f (PySem.W.fnOf x qual (defArgs st) (defBody st) (defScope st) dV kV doc pm an cdv ct):=⟨⟨oc,od,dV,kV,doc,pm,an,cdv,ct,osl,rfl,l,c⟩,k⟩
end
end L2
namespace L2
open PySem PySem.Spec PyProof.Rows
open PySem.W PySem.Calls
section
variable {K:PySem.W.Frag} {x t c:Value}
end
section
variable {X:Cx}
end
end L2
namespace L2
open PySem PySem.Spec PyProof.Rows
noncomputable def closL (scope:Scope) (env:Env):List (Str×Addr) :=
 scope.names.foldl (fun acc y=>if y.2 == .free then (match env.cells.lookup y.1 with | some c=>(y.1,c) :: acc | none=>acc)else acc) []
theorem closFor_aux {env:Env}:∀ (names:List (Str×NameKind)) (acc:List (Str×Addr)),(∀ y∈names,y.2=.free→∃ c,env.cells.lookup y.1=some c) →
 (forIn names acc fun(y:Str×NameKind) (r:List (Str×Addr))=>(match y with | (name,kind)=>if (kind == NameKind.free)=true then (do let a ← cellOf env name;pure (ForInStep.yield ((name,a) :: r)))else pure (ForInStep.yield r):Sem (ForInStep (List (Str×Addr))))) =
  pure (names.foldl (fun acc y=>if y.2 == .free then (match env.cells.lookup y.1 with | some c=>(y.1,c) :: acc | none=>acc)else acc) acc)
 | [],acc,_=>rfl
 | (n,k) :: r,acc,h=>by
  rw[List.forIn_cons,List.foldl_cons]
  have ih:=fun acc=>closFor_aux (env:=env) r acc fun y hy=>h y (List.mem_cons_of_mem _ hy)
  by_cases hk:k=.free
  ·subst hk
   obtain⟨c,e⟩:=h (n,.free) List.mem_cons_self rfl
   have e':env.cells.lookup n=some c:=e
   simp only[cellOf,e',beq_self_eq_true,if_true]
   exact ih _
  ·have hb:(k == NameKind.free)=false:=by simpa using hk
   simp only[hb,Bool.false_eq_true,if_false]
   exact ih _
theorem closFor {scope:Scope} {env:Env} (h:∀ y∈scope.names,y.2=.free→∃ c,env.cells.lookup y.1=some c):closureFor scope env=pure (closL scope env):=by
 have e:=closFor_aux (env:=env) scope.names [] h
 unfold closureFor closL
 rw[← e]
 first | rfl | simp
theorem closL_aux {env:Env} {x:Str} {c:Addr}:∀ (names:List (Str×NameKind)) (acc:List (Str×Addr)),(∀ z d,acc.lookup z=some d→env.cells.lookup z=some d) →
 (names.foldl (fun acc y=>if y.2 == .free then (match env.cells.lookup y.1 with | some c=>(y.1,c) :: acc | none=>acc)else acc) acc).lookup x=some c→env.cells.lookup x=some c
 | [],acc,h,e=>h x c e
 | (n,k) :: r,acc,h,e=>by
  rw[List.foldl_cons]at e
  refine closL_aux r _ ?_ e
  intro z d q
  by_cases hk:(k == NameKind.free)=true
  ·simp only[hk,if_true]at q
   cases el:env.cells.lookup n with
   | none=>simp only[el]at q;exact h z d q
   | some a =>
    simp only[el,List.lookup_cons]at q
    by_cases hz:(z == n)=true
    ·simp only[hz]at q
     have:z=n:=by simpa using hz
     subst this
     rw[el];exact q
    ·have hz':(z == n)=false:=by simpa using hz
     simp only[hz']at q
     exact h z d q
  ·simp only[hk,if_false]at q
   exact h z d q
theorem closL_sub {scope:Scope} {env:Env} {x:Str} {c:Addr} (e:(closL scope env).lookup x=some c):env.cells.lookup x=some c:=closL_aux _ _ (fun _ _ q=>by simp at q) e
theorem closL_has_aux {env:Env} {x:Str}:∀ (names:List (Str×NameKind)) (acc:List (Str×Addr)),(∀ y∈names,y.2=.free→∃ c,env.cells.lookup y.1=some c)→((x,NameKind.free)∈names∨(acc.lookup x).isSome=true) →
 ((names.foldl (fun acc y=>if y.2 == .free then (match env.cells.lookup y.1 with | some c=>(y.1,c) :: acc | none=>acc)else acc) acc).lookup x).isSome=true
 | [],acc,_,h=>by
  rcases h with h | h
  ·cases h
  ·exact h
 | (n,k) :: r,acc,hc,h=>by
  rw[List.foldl_cons]
  refine closL_has_aux r _ (fun y hy=>hc y (List.mem_cons_of_mem _ hy)) ?_
  rcases h with h | h
  ·rcases List.mem_cons.mp h with h | h
   ·cases h
    obtain⟨c,e⟩:=hc (x,.free) List.mem_cons_self rfl
    have e':env.cells.lookup x=some c:=e
    right
    simp[e',List.lookup_cons]
   ·exact .inl h
  ·right
   by_cases hk:(k == NameKind.free)=true
   ·simp only[hk,if_true]
    cases el:env.cells.lookup n with
    | none=>exact h
    | some a =>
     simp only[List.lookup_cons]
     by_cases hz:(x == n)=true
     ·simp[hz]
     ·have hz':(x == n)=false:=by simpa using hz
      simp only[hz'];exact h
   ·simp only[hk];exact h
theorem closL_has {scope:Scope} {env:Env} {x:Str} (hc:∀ y∈scope.names,y.2=.free→∃ c,env.cells.lookup y.1=some c) (h:(x,NameKind.free)∈scope.names):∃ c,(closL scope env).lookup x=some c :=
 Option.isSome_iff_exists.mp (closL_has_aux _ _ hc (.inl h))
noncomputable def compOk (sc inn:Scope) (N:List Str) (js:List Nat) (cs:List Str):Bool :=
 (inn.kind == .function) && inn.names.all (fun y=>y.2 != .cell && (y.2 != .local || inn.names.lookup y.1 == some .local) && (y.2 != .free || (sc.names.lookup y.1 == some .cell || sc.names.lookup y.1 == some .free))) &&
 (js.map fun j=>N[j]?) == cs.map some && cs.all (fun x=>inn.names.lookup x == some .free)
structure CompOk (sc inn:Scope) (N:List Str) (js:List Nat) (cs:List Str):Prop where
 kind:inn.kind=.function
 nocell:∀ y∈inn.names,y.2≠.cell
 names:∀ y∈inn.names,y.2=.local→inn.names.lookup y.1=some .local
 frees:∀ y∈inn.names,y.2=.free→sc.names.lookup y.1=some .cell∨sc.names.lookup y.1=some .free
 slots:(js.map fun j=>N[j]?)=cs.map some
 caps:∀ x∈cs,inn.names.lookup x=some .free
theorem CompOk.of {sc inn:Scope} {N:List Str} {js:List Nat} {cs:List Str} (h:compOk sc inn N js cs=true):CompOk sc inn N js cs:=by
 unfold compOk at h
 simp only[Bool.and_eq_true]at h
 obtain⟨⟨⟨h1,h2⟩,h3⟩,h4⟩:=h
 rw[List.all_eq_true]at h2 h4
 refine⟨by simpa using h1,fun y hy=>?_,fun y hy e=>?_,fun y hy e=>?_,by simpa using h3,fun x hx=>by simpa using h4 x hx⟩
 ·have:=h2 y hy
  simp only[Bool.and_eq_true]at this
  simpa using this.1.1
 ·have:=h2 y hy
  simp only[Bool.and_eq_true,e]at this
  simpa using this.1.2
 ·have:=h2 y hy
  simp only[Bool.and_eq_true,e]at this
  simpa using this.2
noncomputable def sIn (nt:Nat) (js:List Nat) (σ:St):St:=List.replicate nt none++js.map fun j=>(σ[j]?).join
noncomputable def cxIn (X:Cx) (inn:Scope) (N':List Str) (s₀:Shared) (H₀:Hp) (ex:List Addr):Cx where
 prog:=X.prog
 w:=X.w
 K:=X.K
 mg:=X.mg
 base:=X.base
 A:=X.A
 N:=N'
 s₀:=s₀
 H₀:=H₀
 env:=compEnvC inn (closL inn X.env) s₀.heap.objs.size X.env
 outer:=X.stack
 stack:=X.stack
 ex:=ex
 fn:=fun _=>false
 calm:=X.calm
 pn:=[]
 xe:=fun _ _=>False
noncomputable def PIf (X:Cx) (ifs:List Expr) (t:TT):Prop :=
 ∀ (pins:List (Addr×Obj)) (s:Shared) (σ:St) (H:Hp) (Q:Bool→Hp→Prop),Inv X pins σ H s→t σ H Q →
  wpAny (model X.prog X.w) X.A (forIn ifs true fun c r=>if r=true then do let ok ← isTrue c X.env (eval c X.env);pure (ForInStep.yield ok)else pure (ForInStep.yield r)) (TP X pins σ Q) X.xe s
noncomputable def tYes:TT:=fun _ H Q=>Q true H
theorem pif_nil {X:Cx}:PIf X [] tYes:=fun _ _ _ H _ I h=>wpAny_tests_nil ⟨H,I,h⟩
theorem pif_one {X:Cx} {c:Expr} {t:TT} (h:PT X c t):PIf X [c] t:=fun pins s σ H Q I hw=>wpAny_tests_one (h pins s σ H Q I hw)
noncomputable def CompR (J:It) (σ0:St) (g:TG) (tt:TT) (te:TE) (Q:VK) (H1:Hp):Prop:=∃ W:Nat→Nat→List V→Hp→Prop,(∃ m,W 0 m [] H1)∧∀ i m ys H,W i m ys H →
 ys.length<sizeLine∧((J.stop i H∧∀ D,H D=none→Q (.ref D) (upd H D (.lst ys))) ∨
  (J.go i H∧∃ N:List V→Hp→Prop,(∀ ys' H',N ys' H'→∃ m',m'<m∧W (i+1) m' ys' H')∧∀ x H',J.yld i H x H'→g x σ0 H' fun σ2 H2=>tt σ2 H2 fun b H3 =>
   if b=true then te σ2 H3 fun y H4=>N (ys++[y]) H4 else N ys H3))
noncomputable def tComp (wi:TI) (nt:Nat) (js:List Nat) (g:TG) (tt:TT) (te:TE):TE:=fun σ H Q=>wi σ H fun J H1=>CompR J (sIn nt js σ) g tt te Q H1
end L2
namespace L2
open PySem PySem.Spec PyProof.Rows
theorem lookup_relabel_free {env:Env}:∀ {names:List (Str×NameKind)} {x:Str},names.lookup x=some .free →
 (names.map fun(n,k)=>if (k == NameKind.free && env.scope.kind == .function && env.kindOf n == some .cell)then (n,NameKind.cell)else (n,k)).lookup x=some .cell ∨
 (names.map fun(n,k)=>if (k == NameKind.free && env.scope.kind == .function && env.kindOf n == some .cell)then (n,NameKind.cell)else (n,k)).lookup x=some .free
 | [],_,h=>by simp at h
 | (n,k) :: r,x,h=>by
  have ih:=@lookup_relabel_free env r x
  show List.lookup x ((if (k == NameKind.free && env.scope.kind == .function && env.kindOf n == some .cell)=true then (n,NameKind.cell)else (n,k)) :: _)=_∨List.lookup x ((if (k == NameKind.free && env.scope.kind == .function && env.kindOf n == some .cell)=true then (n,NameKind.cell)else (n,k)) :: _)=_
  cases hx:x == n with
  | true =>
   simp only[List.lookup_cons,hx]at h
   cases h
   by_cases hc:(NameKind.free == NameKind.free && env.scope.kind == .function && env.kindOf n == some .cell)=true
   ·left;rw[if_pos hc];simp[List.lookup_cons,hx]
   ·right;rw[if_neg hc];simp[List.lookup_cons,hx]
  | false =>
   simp only[List.lookup_cons,hx]at h
   by_cases hc:(k == NameKind.free && env.scope.kind == .function && env.kindOf n == some .cell)=true
   ·rw[if_pos hc];simp only[List.lookup_cons,hx];exact ih h
   ·rw[if_neg hc];simp only[List.lookup_cons,hx];exact ih h
theorem relabel_cf_mem {env:Env}:∀ {names:List (Str×NameKind)} {x:Str},(∀ y∈names,y.2≠NameKind.cell) →
 ((names.map fun(n,k)=>if (k == NameKind.free && env.scope.kind == .function && env.kindOf n == some .cell)then (n,NameKind.cell)else (n,k)).lookup x=some .cell ∨
 (names.map fun(n,k)=>if (k == NameKind.free && env.scope.kind == .function && env.kindOf n == some .cell)then (n,NameKind.cell)else (n,k)).lookup x=some .free)→(x,NameKind.free)∈names
 | [],_,_,h=>by simp at h
 | (n,k) :: r,x,hn,h=>by
  have ih:=@relabel_cf_mem env r x (fun y hy=>hn y (List.mem_cons_of_mem _ hy))
  have hk:=hn (n,k) List.mem_cons_self
  rw[List.map_cons]at h
  cases hx:x == n with
  | true =>
   have e:x=n:=by simpa using hx
   subst e
   by_cases hc:(k == NameKind.free && env.scope.kind == .function && env.kindOf x == some .cell)=true
   ·have:k=.free:=by simp only[Bool.and_eq_true]at hc;simpa using hc.1.1
    subst this
    exact List.mem_cons_self
   ·simp only[if_neg hc,List.lookup_cons,hx]at h
    rcases h with h | h
    ·cases h;exact absurd rfl hk
    ·cases h;exact List.mem_cons_self
  | false =>
   refine List.mem_cons_of_mem _ (ih ?_)
   by_cases hc:(k == NameKind.free && env.scope.kind == .function && env.kindOf n == some .cell)=true
   ·simp only[if_pos hc,List.lookup_cons,hx]at h;exact h
   ·simp only[if_neg hc,List.lookup_cons,hx]at h;exact h
section
variable {X:Cx} {pins:List (Addr×Obj)} {σ:St} {H H':Hp} {s:Shared} {inn:Scope} {js:List Nat} {cs ts:List Str} {nt:Nat}
theorem sIn_get {i:Nat} {v:V} (h:(sIn nt js σ)[i]?=some (some v)):nt≤i∧∃ j,js[i - nt]?=some j∧σ[j]?=some (some v):=by
 unfold sIn at h
 by_cases hi:i<nt
 ·rw[List.getElem?_append_left (by simpa using hi),List.getElem?_replicate]at h
  split at h <;> cases h
 ·rw[List.getElem?_append_right (by simpa using hi),List.length_replicate,List.getElem?_map]at h
  refine⟨by omega,?_⟩
  cases e:js[i - nt]? with
  | none=>rw[e]at h;cases h
  | some j =>
   rw[e]at h
   have h':(σ[j]?).join=some v:=Option.some.inj h
   refine⟨j,rfl,?_⟩
   cases q:σ[j]? with
   | none=>rw[q]at h';cases h'
   | some o =>
    rw[q]at h'
    have h'':o=some v:=h'
    rw[h'']
theorem in_ok {ex:List Addr} (I:Inv X pins σ H s) (O:CompOk X.env.scope inn X.N js cs) (hex:∀ b∈ex,b<s.heap.objs.size∧b≠X.env.locals∧b∉X.fs∧(∀ x c,X.env.cells.lookup x=some c→c≠b)∧∀ o,X.base.get? b≠some o) :
 (cxIn X inn (ts++cs) s H ex).Ok where
 mod:=I.ok.mod
 kind:=O.kind
 glob:=I.ok.glob
 blt:=I.ok.blt
 above:=Nat.le_refl _
 inj:=fun x y c h1 h2=>I.ok.inj x y c (closL_sub h1) (closL_sub h2)
 has:=fun x hx=>by
  have hm:(x,NameKind.free)∈inn.names:=relabel_cf_mem O.nocell hx
  exact closL_has (fun y hy e=>I.ok.has y.1 (O.frees y hy e)) hm
 cab:=fun _ _ h=>absurd h (by show ¬ (false=true);decide)
 hd:=I.ok.hd
 frames:=I.ok.frames
 stk:=.inl rfl
 exf:=fun b hb=>⟨Nat.ne_of_lt (hex b hb).1,fun x c e=>(hex b hb).2.2.2.1 x c (closL_sub e)⟩
 bs:=I.bs
 bsz:=Nat.le_trans I.ok.bsz I.sz
 noex:=fun b o e hb=>(hex b hb).2.2.2.2 o e
 exfs:=fun b hb hs=>by
  rcases List.mem_cons.mp (I.stkSub b hs)with e | e
  ·exact(hex b hb).2.1 e
  ·exact(hex b hb).2.2.1 e
 funs:=I.stack
 frf:=I.stkFree
theorem in_inv {ex:List Addr} {h':Heap} {tk:Nat} (hts:ts.length=nt) (I:Inv X pins σ H s) (O:CompOk X.env.scope inn X.N js cs) (hex:∀ b∈ex,b<s.heap.objs.size∧b≠X.env.locals∧b∉X.fs∧(∀ x c,X.env.cells.lookup x=some c→c≠b)∧∀ o,X.base.get? b≠some o)
 (hn:∃ m,h'.Ns s.heap.objs.size m) (hk:∀ b o,s.heap.get? b=some o→h'.get? b=some o) :
 Inv (cxIn X inn (ts++cs) s H ex) [] (sIn nt js σ) H { s with heap:=h',toks:=tk }:=by
 have ok:(cxIn X inn (ts++cs) s H ex).Ok:=in_ok I O hex
 obtain⟨m,hn⟩:=hn
 have cellK:∀ c v,s.heap.IsCell c v→h'.IsCell c v:=fun c v ⟨o,ho,hd⟩=>⟨o,hk c o ho,hd⟩
 have hlen:js.length=cs.length:=by have:=congrArg List.length O.slots;simpa using this
 refine⟨ok,rfl,I.bare,Un.kept hk,⟨m,hn,fun i x v e1 e2 e3=>?_⟩,fun x c e=>?_,I.hok.fresh (Nat.le_refl _),fun x c e=>I.freeC x c (closL_sub e),fun p hp=>?_,I.hok.kept hk,?_⟩
 ·obtain⟨hi,j,hj,hv⟩:=sIn_get e2
  have e1':(ts++cs)[i]?=some x:=e1
  rw[List.getElem?_append_right (by omega),hts]at e1'
  have hN:X.N[j]?=some x:=by
   have q:(js.map fun j=>X.N[j]?)[i - nt]?=(cs.map some)[i - nt]?:=by rw[O.slots]
   rw[List.getElem?_map,List.getElem?_map,hj,e1']at q
   exact Option.some.inj q
  have hcap:=O.caps x (List.mem_of_getElem? e1')
  have hmem:(x,NameKind.free)∈inn.names:=PySem.mem_of_lookup hcap
  have hout:=O.frees _ hmem rfl
  obtain⟨mo,hno,hl⟩:=I.loc
  obtain⟨u,r,l⟩:=hl j x v hN hv (.inr hout)
  refine⟨u,r,.inr ?_⟩
  rcases l with ⟨l1,_⟩ | ⟨k,c,ec,z⟩
  ·have l1':X.env.scope.names.lookup x=some .local:=l1
   rcases hout with q | q <;> (rw[q]at l1';cases l1')
  ·refine⟨?_,?_⟩
   ·exact lookup_relabel_free (env:=X.env) hcap
   ·obtain⟨c',ec'⟩:=closL_has (env:=X.env) (fun y hy e=>I.ok.has y.1 (O.frees y hy e)) hmem
    have:=closL_sub ec'
    rw[ec]at this;cases this
    exact⟨c,ec',cellK _ _ z⟩
 ·obtain⟨v,z⟩:=I.cell x c (closL_sub e)
  exact⟨v,cellK _ _ z⟩
 ·exact absurd (show p∈([]:List (Addr×Obj)) from hp) (by simp)
 ·show (sIn nt js σ).length=(ts++cs).length
  unfold sIn
  simp[hts,hlen]
theorem Inv.track {a:Addr} {o:HO} (I:Inv X pins σ H s) (hn:H a=none) (h0:X.s₀.heap.objs.size≤a) (hL:a≠X.env.locals) (hc:∀ x c,X.env.cells.lookup x=some c→c≠a) (hp:∀ p∈X.pn++pins,p.1≠a)
 (new:ObjOk X.prog X.w (upd H a o) s.heap a o):Inv X pins σ (upd H a o) s:=by
 have ne0:∀ b ob,X.s₀.heap.get? b=some ob→b≠a:=fun b ob e=>Nat.ne_of_lt (Nat.lt_of_lt_of_le (Heap.lt_size e) h0)
 have neT:∀ b u,H b=some u→b≠a:=fun b u e=>ne_of_none e hn
 refine⟨I.ok,I.os,I.bare,⟨I.base.keep,I.base.slot,fun b ob e n hx=>?_,I.base.there,fun b xs e=>?_,fun b ob u e=>?_,fun b ps e=>?_⟩,I.loc,I.cell,?_,fun x c e=>?_,fun p hp'=>?_,fun b u e=>?_,I.len⟩
 ·rw[upd_ne (ne0 b ob e)];exact I.base.free b ob e n hx
 ·have q:=I.base.tups b xs e;rw[upd_ne (neT b _ q)];exact q
 ·have q:=I.base.frzs b ob u e;rw[upd_ne (neT b _ q)];exact q
 ·obtain⟨more,q⟩:=I.base.tbls b ps e;exact⟨more,by rw[upd_ne (neT b _ q)];exact q⟩
 ·rw[upd_ne (Ne.symm hL)];exact I.free
 ·rw[upd_ne (hc x c e)];exact I.freeC x c e
 ·obtain⟨q1,q2,q3,q4,q5⟩:=I.pin p hp'
  exact⟨q1,by rw[upd_ne (hp p hp')];exact q2,q3,q4,q5⟩
 ·by_cases hb:b=a
  ·subst hb;rw[upd_same]at e;cases e;exact new
  ·rw[upd_ne hb]at e
   exact(I.hok b u e).stay (fun _ _ _ q=>q) (fun c q=>by rw[upd_ne (neT c _ q)];exact q) fun c xs q=>by rw[upd_ne (neT c _ q)];exact q
end
end L2
namespace L2
open PySem PySem.Spec PyProof.Rows
noncomputable def GK (nt:Nat) (g:TG):Prop:=∀ v σ H Q,g v σ H Q→g v σ H fun σ' H'=>((∀ i,nt≤i→σ'[i]?=σ[i]?)∧σ'.length=σ.length)∧Q σ' H'
noncomputable def GKs (nt:Nat) (g:TGs):Prop:=∀ vs σ H Q,g vs σ H Q→g vs σ H fun σ' H'=>((∀ i,nt≤i→σ'[i]?=σ[i]?)∧σ'.length=σ.length)∧Q σ' H'
theorem kg_name {nt i:Nat} (h:i<nt):GK nt (gName i):=fun v σ H Q q=>⟨⟨fun j hj=>by rw[List.getElem?_set_ne (by omega)],by simp⟩,q⟩
theorem kgs_nil {nt:Nat}:GKs nt gNil:=fun vs σ H Q ⟨e,q⟩=>⟨e,⟨fun _ _=>rfl,rfl⟩,q⟩
theorem kgs_cons {nt i:Nat} {u:TGs} (h:i<nt) (hu:GKs nt u):GKs nt (gCons (gName i) u):=fun vs σ H Q q=>by
 obtain⟨v,r,e,q⟩:=q
 refine⟨v,r,e,?_⟩
 have q':u r (σ.set i (some v)) H Q:=q
 have w:=hu r (σ.set i (some v)) H Q q'
 have e1:∀ j,nt≤j→(σ.set i (some v))[j]?=σ[j]?:=fun j hj=>by rw[List.getElem?_set_ne (by omega)]
 have:(fun(σ':St) (H':Hp)=>((∀ j,nt≤j→σ'[j]?=(σ.set i (some v))[j]?)∧σ'.length=(σ.set i (some v)).length)∧Q σ' H')=fun σ' H'=>((∀ j,nt≤j→σ'[j]?=σ[j]?)∧σ'.length=σ.length)∧Q σ' H':=by
  funext σ' H'
  apply propext
  constructor
  ·rintro ⟨⟨a,b⟩,c⟩
   exact⟨⟨fun j hj=>(a j hj).trans (e1 j hj),by simpa using b⟩,c⟩
  ·rintro ⟨⟨a,b⟩,c⟩
   exact⟨⟨fun j hj=>(a j hj).trans (e1 j hj).symm,by simpa using b⟩,c⟩
 rw[this]at w
 exact w
theorem kg_tup {K:PySem.W.Frag} {nt n:Nat} {t:TGs} (h:GKs nt t):GK nt (gTup K n t):=fun v σ H Q ⟨a,xs,e,hq,hl,q⟩=>⟨a,xs,e,hq,hl,h xs σ H Q q⟩
section
variable {X:Cx} {pins:List (Addr×Obj)} {σ:St} {inn:Scope} {js:List Nat} {cs ts:List Str} {nt:Nat} {elt tg iter:Expr} {ifs:List Expr} {pos:Pos} {g:TG} {tt:TT} {te:TE}
theorem comp_core {J:It} {fp:List Addr} {it:Addr} {tn:Nat→Heap→Prop} {H2:Hp} {s2:Shared} {E:Value→Shared→Prop} {Q:VK} {RR:Value→Addr→Result→Shared→Prop}
 (hcalm:X.calm=true) (O:CompOk X.env.scope inn X.N js cs) (hts:ts.length=nt)
 (hg:∀ s₀ H₀ ex,PG (cxIn X inn (ts++cs) s₀ H₀ ex) tg g) (hk:GK nt g) (ht:∀ s₀ H₀ ex,PIf (cxIn X inn (ts++cs) s₀ H₀ ex) ifs tt) (he:∀ s₀ H₀ ex,PE (cxIn X inn (ts++cs) s₀ H₀ ex) elt te)
 (I2:Inv X pins σ H2 s2) (T:Turn X.prog X.w X.K tg J fp it tn) (st2:tn 0 s2.heap) (f2:∀ b∈fp,FpOk X pins H2 b)
 (R:CompR J (sIn nt js σ) g tt te Q H2)
 (hRR:∀ D C s' H',Inv X pins σ H' s'→(∃ m,s'.heap.Ns C m)→H' C=none→C≠X.env.locals→X.s₀.heap.objs.size≤C→(∀ x c,X.env.cells.lookup x=some c→c≠C)→(∀ p∈X.pn++pins,p.1≠C)→Q (.ref D) H'→RR (.ref D) C (.ok .next) s') :
 wpAny (model X.prog X.w) X.A (newList []) (fun acc s₃=>wpAny (model X.prog X.w) X.A (newFunctionEnv inn X.env.globals (closL inn X.env) [] X.env.qual none .none (some X.env)) (fun cenv s₄ =>
  codeAny (model X.prog X.w) X.A (.compStart (.ListComp elt [⟨tg,iter,ifs,0⟩] inn pos) 0 (.ref it) acc { cenv with scope:=relabel inn X.env }) (RR acc cenv.locals) s₄) E s₃) E s2:=by
 refine wpAny_newObj_type (wpAny_newFunctionEnv O.nocell (by intro y hy;simp at hy) (fun h₁ hns₁ hsb₁=>?_) O.kind)
 dsimp only at hns₁ hsb₁ ⊢
 generalize hD:s2.heap.objs.size=D
 have I3:Inv X pins σ H2 { s2 with heap:=s2.heap.push { cls:=.type "list",dict:=none,data:=.seq ([]:List Value).toArray } }:=I2.kept (t':=s2.toks) fun b o e=>Heap.get?_push_of_some _ e
 generalize hs3:({ s2 with heap:=s2.heap.push { cls:=.type "list",dict:=none,data:=.seq ([]:List Value).toArray } }:Shared)=s3 at I3
 have e3:s3.heap=s2.heap.push { cls:=.type "list",dict:=none,data:=.seq ([]:List Value).toArray }:=by rw[← hs3]
 have hD3:s3.heap.get? D=some { cls:=.type "list",dict:=none,data:=.seq ([]:List Value).toArray }:=by rw[e3,← hD];exact Heap.get?_push_size _ rfl
 have hsz3:s3.heap.objs.size=D+1:=by rw[e3,Heap.size_push,hD]
 have e3':(s2.heap.push { cls:=.type "list",dict:=none,data:=.seq ([]:List Value).toArray })=s3.heap:=e3.symm
 rw[e3']at hns₁ hsb₁ ⊢
 have fH2D:H2 D=none:=I2.hok.fresh (by rw[hD];exact Nat.le_refl _)
 have up:∀ b o,s3.heap.get? b=some o→h₁.get? b=some o:=fun b o e=>hsb₁.extBut b o (Nat.ne_of_lt (Heap.lt_size e)) (Heap.get?_push_of_some _ e)
 have fpo:∀ b∈fp,b<s3.heap.objs.size∧b≠D:=fun b hb=>by
  obtain⟨o,eo,_⟩:=T.obj 0 _ st2 b hb
  have h1:=Heap.lt_size eo
  rw[hD]at h1
  exact⟨by rw[hsz3];exact Nat.lt_succ_of_lt h1,Nat.ne_of_lt h1⟩
 have nb:∀ b,X.s₀.heap.objs.size≤b→∀ o,X.base.get? b≠some o:=fun b hb o e=>absurd (Nat.lt_of_lt_of_le (Heap.lt_size e) (Nat.le_trans I2.ok.bsz hb)) (Nat.lt_irrefl _)
 have dge:s2.heap.objs.size≤D:=by rw[hD];exact Nat.le_refl _
 have fD:FpOk X pins H2 D:=I2.fpOk dge fH2D
 have hex:∀ b∈D :: fp,b<s3.heap.objs.size∧b≠X.env.locals∧b∉X.fs∧(∀ x c,X.env.cells.lookup x=some c→c≠b)∧∀ o,X.base.get? b≠some o:=fun b hb=>by
  rcases List.mem_cons.mp hb with rfl | hb
  ·exact⟨by rw[hsz3];exact Nat.lt_succ_self _,fD.2.1,fD.2.2.1,fD.2.2.2.2.1,nb _ (Nat.le_trans I2.sz dge)⟩
  ·obtain⟨f0,f1,f2',f3,f4,f5⟩:=f2 b hb
   refine⟨(fpo b hb).1,f1,f2',f4,fun o e=>?_⟩
   rcases f3 with z | z
   ·exact I2.ok.noex b o e z
   ·exact nb b z o e
 have hC:s3.heap.objs.size=s3.heap.objs.size:=rfl
 generalize hXi:cxIn X inn (ts++cs) s3 H2 (D :: fp)=Xi
 have I4:Inv Xi [] (sIn nt js σ) H2 { s3 with heap:=h₁,toks:=s3.toks }:=by
  rw[← hXi];exact in_inv hts I3 O hex ⟨_,hns₁⟩ up
 have xp:Xi.prog=X.prog:=by rw[← hXi];rfl
 have xw:Xi.w=X.w:=by rw[← hXi];rfl
 have xK:Xi.K=X.K:=by rw[← hXi];rfl
 have xA:Xi.A=X.A:=by rw[← hXi];rfl
 have xc:Xi.calm=true:=by rw[← hXi];exact hcalm
 have xe:Xi.env=compEnvC inn (closL inn X.env) s3.heap.objs.size X.env:=by rw[← hXi];rfl
 have xx:Xi.xe=fun _ _=>False:=by rw[← hXi];rfl
 have xex:Xi.ex=D :: fp:=by rw[← hXi];rfl
 have xpn:Xi.pn=[]:=by rw[← hXi];rfl
 have xs0:Xi.s₀=s3:=by rw[← hXi];rfl
 have xH0:Xi.H₀=H2:=by rw[← hXi];rfl
 have xfs:Xi.fs=frs X.stack:=by rw[← hXi];rfl
 have hgX:PG Xi tg g:=by rw[← hXi];exact hg _ _ _
 have htX:PIf Xi ifs tt:=by rw[← hXi];exact ht _ _ _
 have heX:PE Xi elt te:=by rw[← hXi];exact he _ _ _
 have okX:=I4.ok
 have xl:Xi.env.locals=s3.heap.objs.size:=by rw[xe];rfl
 have Dl:D≠Xi.env.locals:=by rw[xl,hsz3];exact Nat.ne_of_lt (Nat.lt_succ_self _)
 have stat:∀ {H':Hp} {pl:List (Addr×Obj)},(∀ b∈fp,H' b=none)→(∀ p∈pl,p.1=D)→∀ b∈fp,FpOk Xi pl H' b:=fun {H' pl} hn hpl b hb=>by
  have hbx:b∈Xi.ex:=by rw[xex];exact List.mem_cons_of_mem _ hb
  refine⟨hn b hb,(okX.exf b hbx).1,fun z=>okX.exfs b hbx z,.inl hbx,(okX.exf b hbx).2,fun p hp=>?_⟩
  rw[xpn,List.nil_append]at hp
  rw[hpl p hp]
  exact Ne.symm (fpo b hb).2
 have DX:D∈Xi.ex:=by rw[xex];exact List.mem_cons_self
 obtain⟨W,⟨m0,w0⟩,turn⟩:=R
 have loop:codeAny (model X.prog X.w) X.A (.compLoop (.ListComp elt [⟨tg,iter,ifs,0⟩] inn pos) 0 (.ref it) (.ref D) Xi.env) (RR (.ref D) s3.heap.objs.size) { s3 with heap:=h₁,toks:=s3.toks }:=by
  refine codeAny_loop rfl (fun n s'=>∃ i ys H',Inv Xi [] (sIn nt js σ) H' s'∧tn i s'.heap∧(∀ b∈fp,H' b=none)∧H' D=none∧(∃ (its:List Value) (c:Nat),Vals ys its∧s'.heap.get? D=some { cls:=.type "list",data:=.seq its.toArray c })∧W i n ys H') ?_ m0
   ⟨0,[],H2,I4,?_,fun b hb=>(f2 b hb).1,fH2D,⟨[],0,.nil,up D _ hD3⟩,w0⟩
  ·rintro n s5 ⟨i,ys,H5,I5,st5,fr5,fD5,⟨its,c,rv,eD⟩,w5⟩
   show wpAny _ X.A ((compTurn (.ListComp elt [⟨tg,iter,ifs,0⟩] inn pos) 0 (.ref it) (.ref D) Xi.env).onRaise (fun x=>do noteFrame x Xi.env;theTreesLotGoes x)) _ _ s5
   refine wpAny_noted ?_
   rw[compTurn_list]
   refine wpAny_bind (wpAny_standAt (wpAny_bind ?_))
   have pinD:Inv Xi (pinsAt [D] s5.heap) (sIn nt js σ) H5 s5:=by
    have q:=I5.pinned (fp:=[D]) (fun b hb=>?_) (fun b hb=>?_)
    ·simpa using q
    ·have e:b=D:=by simpa using hb
     subst e
     refine⟨fD5,Dl,fun z=>okX.exfs b DX z,.inl DX,(okX.exf b DX).2,fun p hp=>?_⟩
     rw[xpn,List.nil_append]at hp;cases hp
    ·have e:b=D:=by simpa using hb
     subst e
     exact⟨_,eD,fun v z=>by cases z⟩
   have plD:∀ p∈pinsAt [D] s5.heap,p.1=D:=fun p hp=>by simpa using (of_pinsAt hp).1
   have memD:(D,({ cls:=.type "list",data:=.seq its.toArray c }:Obj))∈pinsAt [D] s5.heap:=mem_pinsAt (by simp) eD
   obtain⟨hz,tn5⟩:=turn i n ys H5 w5
   rcases tn5 with ⟨stop,fin⟩ | ⟨go,N,hN,step⟩
   ·have q:=T.done Xi xp xw xK xc i _ s5 _ H5 (notedBy (model X.prog X.w) X.A Xi.env fun e s'=>RR (.ref D) s3.heap.objs.size (.error e) s') pinD (stat fr5 plD) st5 stop
    rw[xA]at q
    refine wpAny_mono q (fun r s6 ⟨hr,I6⟩=>?_) fun _ _ z=>z
    subst hr
    refine wpAny_pure ?_
    have eD6:=(I6.pin (D,_) (List.mem_append_right _ memD)).1
    have un:Un (frs X.stack) (D :: fp) H2 H5 s3.heap s6.heap:=by
     have z:=I6.base
     rw[xfs,xex,xH0,xs0]at z
     exact z
    have os6:s6.os=s3.os:=by have z:=I6.os;rw[xs0]at z;exact z
    have hok6:HOk X.prog X.w H5 s6.heap:=by have z:=I6.hok;rw[xp,xw]at z;exact z
    have I7:Inv X pins σ H5 s6:=I3.call' os6 un hok6 I6.bare fun b hb=>by
     rcases List.mem_cons.mp hb with e | hb
     ·rw[e];exact⟨.inr (Nat.le_trans I2.sz dge),fD.2.1,fD.2.2.2.2.1,fD.2.2.2.2.2⟩
     ·obtain⟨f0,f1,f2',f3,f4,f5⟩:=f2 b hb
      exact⟨f3,f1,f4,f5⟩
    have I8:Inv X pins σ (upd H5 D (.lst ys)) s6:=I7.track fD5 (Nat.le_trans I2.sz dge) fD.2.1 fD.2.2.2.2.1 fD.2.2.2.2.2 ⟨Nat.le_of_lt hz,its,c,rv,eD6⟩
    have Cge:s3.heap.objs.size≤s3.heap.objs.size:=Nat.le_refl _
    have fC:FpOk X pins (upd H5 D (.lst ys)) s3.heap.objs.size:=I3.fpOk Cge (by
     rw[upd_ne (by rw[← xl];exact Ne.symm Dl)]
     have z:=I6.free
     rw[xl]at z;exact z)
    obtain⟨mm,hmm,_⟩:=I6.loc
    rw[xl]at hmm
    exact hRR D _ s6 _ I8 ⟨mm,hmm⟩ fC.1 fC.2.1 (Nat.le_trans I3.sz Cge) fC.2.2.2.2.1 fC.2.2.2.2.2 (fin D fD5)
   ·have q:=T.item Xi xp xw xK xc i _ s5 _ H5 (notedBy (model X.prog X.w) X.A Xi.env fun e s'=>RR (.ref D) s3.heap.objs.size (.error e) s') pinD (stat fr5 plD) st5 go
    rw[xA]at q
    refine wpAny_mono q (fun r s6 ⟨u,hr,h6⟩=>?_) fun _ _ z=>z
    subst hr
    refine wpAny_bind (wpAny_mono h6 (fun _ s7 ⟨x,H7,I7,r7,y7,st7,fr7⟩=>?_) fun _ _ z=>z)
    have I7':=I7.pinned (fp:=fp) (fun b hb=>stat fr7 plD b hb) (T.obj _ _ st7)
    have q8:=hgX _ s7 _ H7 x u _ I7' r7 (hk x _ H7 _ (step x H7 y7))
    rw[xp,xw,xA,xx]at q8
    refine wpAny_bind (wpAny_mono q8 (fun _ s8 ⟨σ8,H8,I8,⟨k8,l8⟩,q8⟩=>?_) fun _ _ z=>z.elim)
    have q9:=htX _ s8 σ8 H8 _ I8 q8
    rw[xp,xw,xA,xx]at q9
    refine wpAny_bind (wpAny_mono q9 (fun ok s9 ⟨H9,I9,q9⟩=>?_) fun _ _ z=>z.elim)
    have keepσ:∀ (j:Nat) v,(sIn nt js σ)[j]?=some (some v)→σ8[j]?=some (some v):=fun j v e=>by
     have hj:=(sIn_get e).1
     rw[k8 j hj];exact e
    have ends:∀ {H9:Hp} {s9:Shared} {ys':List V},Inv Xi (pinsAt [D] s5.heap++pinsAt fp s7.heap) σ8 H9 s9→∀ {h':Heap} {its':List Value} {c':Nat},(∀ b o,b≠D→s9.heap.get? b=some o→h'.get? b=some o)→Vals ys' its'→h'.get? D=some { cls:=.type "list",data:=.seq its'.toArray c' }→N ys' H9 →
     ∀ tk,∃ m,m<n∧∃ i ys H',Inv Xi [] (sIn nt js σ) H' { s9 with heap:=h',toks:=tk }∧tn i h'∧(∀ b∈fp,H' b=none)∧H' D=none∧(∃ (its:List Value) (c:Nat),Vals ys its∧h'.get? D=some { cls:=.type "list",data:=.seq its.toArray c })∧W i m ys H':=fun {H9 s9 ys'} I9 {h' its' c'} kp rv' eD' n9 tk=>by
     obtain⟨m',hm,w9⟩:=hN ys' H9 n9
     have fD9:H9 D=none:=(I9.pin (D,_) (List.mem_append_right _ (List.mem_append_left _ memD))).2.1
     have fr9:∀ b∈fp,H9 b=none:=fun b hb=>by
      obtain⟨o,e,d⟩:=T.obj _ _ st7 b hb
      exact(I9.pin (b,o) (List.mem_append_right _ (List.mem_append_right _ (mem_pinsAt hb e)))).2.1
     have I10:Inv Xi [] σ8 H9 s9:=I9.pins_of fun p hp=>by cases hp
     have I11:Inv Xi [] σ8 H9 { s9 with heap:=h',toks:=tk }:=I10.turned (it:=D) kp fD9 Dl (.inl DX) (okX.exf D DX).2 (fun p hp=>by rw[xpn]at hp;cases hp)
     refine⟨m',hm,i+1,ys',H9,I11.weak l8.symm keepσ,T.keep _ _ _ st7 fun b hb o e=>kp b o (fpo b hb).2 (I9.pin (b,o) (List.mem_append_right _ (List.mem_append_right _ (mem_pinsAt hb e)))).1,fr9,fD9,⟨its',c',rv',eD'⟩,w9⟩
    cases ok with
    | false =>
     rw[if_neg Bool.false_ne_true]at q9
     have eD9:=(I9.pin (D,_) (List.mem_append_right _ (List.mem_append_left _ memD))).1
     exact wpAny_pure ⟨rfl,ends I9 (h':=s9.heap) (fun _ _ _ e=>e) rv eD9 q9 s9.toks⟩
    | true =>
     rw[if_pos rfl]at q9
     have q10:=heX _ s9 σ8 H9 _ I9 q9
     rw[xp,xw,xA,xx]at q10
     refine wpAny_bind (wpAny_bind (wpAny_mono q10 (fun v s10 ⟨y,H10,I10,r10,q10⟩=>?_) fun _ _ z=>z.elim))
     have eD10:=(I10.pin (D,_) (List.mem_append_right _ (List.mem_append_left _ memD))).1
     have hlen:=rv.length
     refine wpAny_bind (wpAny_list_append_plain (items:=its.toArray) ⟨c,eD10⟩ (fun h' hl hs=>wpAny_pure (wpAny_pure ⟨rfl,?_⟩)) (by rw[List.size_toArray];omega))
     obtain⟨c',e'⟩:=hl
     have e'':h'.get? D=some { cls:=.type "list",data:=.seq (its++[v]).toArray c' }:=by rw[e'];simp
     exact ends I10 (h':=h') (fun b o hb e=>hs.extBut b o hb e) (rv.append (.cons r10 .nil)) e'' q10 s10.toks
  ·exact T.keep 0 _ _ st2 fun b hb o e=>up b o (by rw[e3];exact Heap.get?_push_of_some _ e)
 have e4:({ s2 with heap:=h₁,toks:=s2.toks+([]:List (Str×Value)).length }:Shared)={ s3 with heap:=h₁,toks:=s3.toks }:=by rw[← hs3];rfl
 rw[e4]
 show codeAny _ _ (.compStart (.ListComp elt [⟨tg,iter,ifs,0⟩] inn pos) 0 (.ref it) (.ref D) (compEnvC inn (closL inn X.env) s3.heap.objs.size X.env)) (RR (.ref D) s3.heap.objs.size) _
 rw[← xe]
 refine codeAny_compStart_list loop ?_
 refine T.self X.A 0 _ _ _ ?_ loop
 exact T.keep 0 _ _ st2 fun b hb o e=>up b o (by rw[e3];exact Heap.get?_push_of_some _ e)
end
end L2
namespace L2
open PySem PySem.Spec PyProof.Rows
section
variable {X:Cx} {inn:Scope} {js:List Nat} {cs ts:List Str} {nt:Nat} {elt tg iter:Expr} {ifs:List Expr} {pos:Pos} {g:TG} {tt:TT} {te:TE} {wi:TI}
theorem pe_comp (ts cs:List Str) (js:List Nat) (hcalm:X.calm=true) (O:CompOk X.env.scope inn X.N js cs) (hi:PI X tg iter wi)
 (hg:∀ s₀ H₀ ex,PG (cxIn X inn (ts++cs) s₀ H₀ ex) tg g) (hk:GK ts.length g) (ht:∀ s₀ H₀ ex,PIf (cxIn X inn (ts++cs) s₀ H₀ ex) ifs tt) (he:∀ s₀ H₀ ex,PE (cxIn X inn (ts++cs) s₀ H₀ ex) elt te)
 (hs:∀ x,foldedSetIterable iter X.env x=pure x:=by intro _;rfl):PE X (.ListComp elt [⟨tg,iter,ifs,0⟩] inn pos) (tComp wi ts.length js g tt te):=by
 intro pins s σ H Q I h
 rw[eval_ListComp]
 refine wpAny_comprehension_free (use:=none) rfl hs (closFor fun y hy e=>I.ok.has y.1 (O.frees y hy e)) O.kind O.names (thn (hi pins s σ H _ I h) fun xv s1 h1=>thn h1 fun itv s2 h2=>?_)
 obtain⟨it,fp,tn,J,H2,e,I2,T,st2,f2,R⟩:=h2
 subst e
 refine comp_core (Q:=Q) (RR:=fun acc C=>compPost (model X.prog X.w) X.A X.xe none (EP X pins σ Q) acc C) hcalm O rfl hg hk ht he I2 T st2 f2 R ?_
 intro D C s' H' I' ⟨m,hm⟩ c1 c2 c3 c4 c5 q
 refine⟨m,hm,fun h' hsb=>?_⟩
 exact⟨.ref D,H',I'.turned (it:=C) (t':=s'.toks) (fun b o hb e=>hsb.extBut b o hb e) c1 c2 (.inr c3) c4 c5,rfl,q⟩
theorem ps_setc {i:Nat} {x:Str} {pos' spos:Pos} (ts cs:List Str) (js:List Nat) (hcalm:X.calm=true) (hN:X.N.Nodup) (hi':X.N[i]?=some x) (hx:X.env.scope.names.lookup x=some .local) (O:CompOk X.env.scope inn X.N js cs) (hi:PI X tg iter wi)
 (hg:∀ s₀ H₀ ex,PG (cxIn X inn (ts++cs) s₀ H₀ ex) tg g) (hk:GK ts.length g) (ht:∀ s₀ H₀ ex,PIf (cxIn X inn (ts++cs) s₀ H₀ ex) ifs tt) (he:∀ s₀ H₀ ex,PE (cxIn X inn (ts++cs) s₀ H₀ ex) elt te)
 (hsw:swapsWith (.ListComp elt [⟨tg,iter,ifs,0⟩] inn pos) (some (.Name x pos')) spos.line X.env=pure true) (hs:∀ x,foldedSetIterable iter X.env x=pure x:=by intro _;rfl) :
 PS X (.Assign [.Name x pos'] (.ListComp elt [⟨tg,iter,ifs,0⟩] inn pos) spos) (tAsg (tComp wi ts.length js g tt te) (gName i)):=by
 intro pins s σ H D I h
 rw[exec_Assign_Name_used _ _ _ _ hsw]
 refine wpAny_bind (wpAny_standAt (wpAny_bind ?_))
 show wpAny _ X.A (do let _ ← comprehension (.ListComp elt [⟨tg,iter,ifs,0⟩] inn pos) inn X.env _ (newList []) false (eval iter X.env) (some (assign (.Name x pos') X.env))) _ _ s
 refine wpAny_bind (wpAny_mono (wpAny_comprehension_free (use:=some (assign (.Name x pos') X.env)) (Q:=fun _ s'=>SP X pins D .next s') rfl hs (closFor fun y hy e=>I.ok.has y.1 (O.frees y hy e)) O.kind O.names
  (thn (hi pins s σ H _ I h) fun xv s1 h1=>thn h1 fun itv s2 h2=>?_)) (fun _ s' hq=>wpAny_pure (wpAny_pure hq)) fun _ _ e=>e)
 obtain⟨it,fp,tn,J,H2,e,I2,T,st2,f2,R⟩:=h2
 subst e
 refine comp_core (Q:=fun v H'=>D.nx (σ.set i (some v)) H') (RR:=fun acc C=>compPost (model X.prog X.w) X.A X.xe (some (assign (.Name x pos') X.env)) (fun _ s'=>SP X pins D .next s') acc C) hcalm O rfl hg hk ht he I2 T st2 f2 R ?_
 intro D' C s' H' I' ⟨m,hm⟩ c1 c2 c3 c4 c5 q
 show wpAny _ X.A (assign (.Name x pos') X.env (.ref D')) _ _ _
 refine wpAny_assign_Name (store_ok2 (v:=.ref D') I' hN hi' (.inl hx) rfl (fun s2 I2 ⟨a,hsb,ha⟩=>?_) (.inr hx))
 have hCa:C≠a:=by
  rcases ha with e | e
  ·rw[e];exact c2
  ·exact fun z=>c4 _ _ e z.symm
 refine⟨m,hm.sameBut hsb hCa,fun h' hsb'=>?_⟩
 exact⟨_,H',I2.turned (it:=C) (t':=s2.toks) (fun b o hb e=>hsb'.extBut b o hb e) c1 c2 (.inr c3) c4 c5,q⟩
end
theorem comp_list {K:PySem.W.Frag} {a:Addr} {xs:List V} {σ0:St} {g:TG} {tt:TT} {te:TE} {H:Hp} {Q:VK} (Pv:Nat→List V→Hp→Prop) (h0:Pv 0 [] H) (hl:∀ i ys H,i≤xs.length→Pv i ys H→SqL K H a xs∧ys.length<sizeLine)
 (hs:∀ i x ys H,xs[i]?=some x→Pv i ys H→g x σ0 H fun σ2 H2=>tt σ2 H2 fun b H3=>if b=true then te σ2 H3 fun y H4=>Pv (i+1) (ys++[y]) H4 else Pv (i+1) ys H3) (hd:∀ ys H,Pv xs.length ys H→∀ D,H D=none→Q (.ref D) (upd H D (.lst ys))) :
 CompR (Itl K a) σ0 g tt te Q H:=by
 refine⟨fun i m ys H=>m=xs.length - i∧i≤xs.length∧Pv i ys H,⟨xs.length,by simp,Nat.zero_le _,h0⟩,?_⟩
 rintro i m ys H ⟨rfl,hi,p⟩
 obtain⟨q,hz⟩:=hl i ys H hi p
 refine⟨hz,?_⟩
 by_cases hlt:i<xs.length
 ·refine .inr ⟨⟨xs,xs[i],q,by simp[hlt]⟩,Pv (i+1),fun ys' H' p'=>⟨xs.length - (i+1),by omega,rfl,hlt,p'⟩,fun x H' y=>?_⟩
  obtain⟨e,y⟩:=y
  subst e
  exact hs i x ys _ (y xs q) p
 ·have e:i=xs.length:=by omega
  subst e
  exact .inl ⟨⟨xs,q,Nat.le_refl _⟩,hd ys H p⟩
theorem comp_range {lo:Int} {n:Nat} {σ0:St} {g:TG} {tt:TT} {te:TE} {H:Hp} {Q:VK} (Pv:Nat→List V→Hp→Prop) (h0:Pv 0 [] H) (hl:∀ i ys H,i≤n→Pv i ys H→ys.length<sizeLine)
 (hs:∀ i ys H,i<n→Pv i ys H→g (.int (lo+i)) σ0 H fun σ2 H2=>tt σ2 H2 fun b H3=>if b=true then te σ2 H3 fun y H4=>Pv (i+1) (ys++[y]) H4 else Pv (i+1) ys H3) (hd:∀ ys H,Pv n ys H→∀ D,H D=none→Q (.ref D) (upd H D (.lst ys))) :
 CompR (Itr lo n) σ0 g tt te Q H:=by
 refine⟨fun i m ys H=>m=n - i∧i≤n∧Pv i ys H,⟨n,by simp,Nat.zero_le _,h0⟩,?_⟩
 rintro i m ys H ⟨rfl,hi,p⟩
 refine⟨hl i ys H hi p,?_⟩
 by_cases hlt:i<n
 ·refine .inr ⟨hlt,Pv (i+1),fun ys' H' p'=>⟨n - (i+1),by omega,rfl,hlt,p'⟩,fun x H' y=>?_⟩
  obtain⟨e,y⟩:=y
  subst e y
  exact hs i ys _ hlt p
 ·have e:i=n:=by omega
  subst e
  exact .inl ⟨Nat.le_refl _,hd ys H p⟩
end L2
namespace L2
open PySem PySem.Spec PyProof.Rows
mutual
inductive Den (H:Hp):V→PyData→Prop
 | non:Den H .non .none
 | bl (b:Bool):Den H (.bl b) (.bool b)
 | int (i:Int):Den H (.int i) (.int i)
 | str (x:Str):Den H (.str x) (.str x)
 | lst {a:Addr} {vs:List V} {ds:List PyData}:H a=some (.lst vs)→Dens H vs ds→Den H (.ref a) (.list ds)
 | tup {a:Addr} {vs:List V} {ds:List PyData}:H a=some (.tup vs)→Dens H vs ds→Den H (.ref a) (.tuple ds)
inductive Dens (H:Hp):List V→List PyData→Prop
 | nil:Dens H [] []
 | cons {v:V} {d:PyData} {vs:List V} {ds:List PyData}:Den H v d→Dens H vs ds→Dens H (v :: vs) (d :: ds)
end
theorem Dens.length:∀ {H:Hp} {vs:List V} {ds:List PyData},Dens H vs ds→vs.length=ds.length
 | _,_,_,.nil=>rfl
 | _,_,_,.cons _ t=>congrArg Nat.succ (Dens.length t)
theorem Dens.get:∀ {H:Hp} {vs:List V} {ds:List PyData} {i:Nat} {d:PyData},Dens H vs ds→ds[i]?=some d→∃ v,vs[i]?=some v∧Den H v d
 | _,_,_,_,_,.nil,e=>by simp at e
 | _,_,_,0,_,.cons r _,e=>by simp at e;subst e;exact⟨_,rfl,r⟩
 | _,_,_,i+1,d,.cons _ t,e=>by
  obtain⟨v,h1,h2⟩:=Dens.get (i:=i) (d:=d) t (by simpa using e)
  exact⟨v,by simpa using h1,h2⟩
mutual
theorem Den.mono {H H':Hp} (e:Same H H'):∀ {v:V} {d:PyData},Den H v d→Den H' v d
 | _,_,.non=>.non
 | _,_,.bl b=>.bl b
 | _,_,.int i=>.int i
 | _,_,.str x=>.str x
 | _,_,.lst h t=>.lst (e _ _ h) (Dens.mono e t)
 | _,_,.tup h t=>.tup (e _ _ h) (Dens.mono e t)
theorem Dens.mono {H H':Hp} (e:Same H H'):∀ {vs:List V} {ds:List PyData},Dens H vs ds→Dens H' vs ds
 | _,_,.nil=>.nil
 | _,_,.cons r t=>.cons (Den.mono e r) (Dens.mono e t)
end
theorem Dens.ints {H:Hp}:∀ ns:List Int,Dens H (ns.map V.int) (ns.map PyData.int)
 | []=>.nil
 | n :: r=>.cons (.int n) (Dens.ints r)
theorem Den.ints {H:Hp} {a:Addr} {ns:List Int} (h:H a=some (.lst (ns.map V.int))):Den H (.ref a) (.list (ns.map PyData.int)):=.lst h (Dens.ints ns)
theorem Same.upd {H:Hp} {a:Addr} {o:HO} (h:H a=none):Same H (upd H a o):=fun b u e=>by rw[upd_ne (ne_of_none e h)];exact e
theorem Same.upd' {H H0:Hp} {a:Addr} {o:HO} (h:H0 a=none) (s:Same H0 H):Same H0 (L2.upd H a o):=fun b u e=>by rw[upd_ne (ne_of_none e h)];exact s b u e
section
variable {P:Program} {w:World} {H:Hp} {h:Heap}
mutual
theorem Den.reads (ok:HOk P w H h):∀ {v:V} {d:PyData} {u:Value},Den H v d→RelV v u→∃ as,Reads h u d as
 | _,_,_,.non,r=>by cases r;exact⟨_,.none⟩
 | _,_,_,.bl b,r=>by cases r;exact⟨_,.bool b⟩
 | _,_,_,.int i,r=>by obtain⟨t,rfl⟩:=r;exact⟨_,.int i t⟩
 | _,_,_,.str x,r=>by obtain⟨t,rfl⟩:=r;exact⟨_,.str x t⟩
 | _,_,_,.lst (a:=a) e t,r=>by
  cases r
  obtain⟨_,its,n,rv,ho⟩:=ok a _ e
  obtain⟨as,q⟩:=Dens.reads ok t rv
  exact⟨_,.list ho rfl rfl (by simpa using q)⟩
 | _,_,_,.tup (a:=a) e t,r=>by
  cases r
  obtain⟨_,its,rv,o,ho,hc,n,hd⟩:=ok a _ e
  obtain⟨as,q⟩:=Dens.reads ok t rv
  exact⟨_,.tuple ho hc hd (by simpa using q)⟩
theorem Dens.reads (ok:HOk P w H h):∀ {vs:List V} {ds:List PyData} {us:List Value},Dens H vs ds→Vals vs us→∃ as,ReadsAll h us ds as
 | _,_,_,.nil,.nil=>⟨_,.nil⟩
 | _,_,_,.cons r t,.cons q s=>by
  obtain⟨a,x⟩:=Den.reads ok r q
  obtain⟨b,y⟩:=Dens.reads ok t s
  exact⟨_,.cons x y⟩
end
end
noncomputable def rEqD:R2:=fun x y H Q=>∃ d e,Den H x d∧Den H y e∧SeqAt.shaped d=true∧SeqAt.shaped e=true∧Q (.bl (PyData.eqv d e)) H
noncomputable def rNeD:R2:=fun x y H Q=>∃ d e,Den H x d∧Den H y e∧SeqAt.shaped d=true∧SeqAt.shaped e=true∧Q (.bl (!PyData.eqv d e)) H
section
variable {X:Cx}
theorem op_eqD (hu:X.A.units+64<cLine):OpR X (compareOp .Eq) rEqD:=by
 intro pins s σ H x y v u Q I rx ry h
 obtain⟨d,e,hd,he,sd,se,q⟩:=h
 obtain⟨as,r1⟩:=hd.reads I.hok rx
 obtain⟨bs,r2⟩:=he.reads I.hok ry
 exact eq_dataH r1 r2 sd se hu ⟨.bl _,H,I,rfl,q⟩
theorem op_neD (hu:X.A.units+64<cLine):OpR X (compareOp .NotEq) rNeD:=by
 intro pins s σ H x y v u Q I rx ry h
 obtain⟨d,e,hd,he,sd,se,q⟩:=h
 obtain⟨as,r1⟩:=hd.reads I.hok rx
 obtain⟨bs,r2⟩:=he.reads I.hok ry
 exact ne_dataH r1 r2 sd se hu ⟨.bl _,H,I,rfl,q⟩
noncomputable def tyD:PyData→String
 | .none=>"NoneType" | .bool _=>"bool" | .int _=>"int" | .str _=>"str" | .list _=>"list" | .tuple _=>"tuple" | .dict _=>"dict"
theorem Den.ty {K:PySem.W.Frag} {H:Hp} {v:V} {d:PyData} (h:Den H v d):TyOf K H v (.type (tyD d)):=by
 cases h with
 | non=>exact .non
 | bl b=>exact .bl b
 | int i=>exact .int i
 | str x=>exact .str x
 | lst e _=>exact .lst e
 | tup e _=>exact .tup e
theorem call_isi:CallR X (.builtin "isinstance") (fun xs H Q=>∃ x T d b,xs=[x,.ty T]∧Den H x d∧PySem.W.kitOne X.K (.type (tyD d)) (.type T)=some b∧Q (.bl b) H):=by
 intro pins s σ H xs us Q I r h
 obtain⟨x,T,d,b,rfl,hd,e,q⟩:=h
 obtain⟨u,v,rfl,r1,r2⟩:=r.two
 cases r2
 exact isinst_ok I r1 (hd.ty (K:=X.K)) e fun tk=>⟨.bl b,H,I.tok tk,rfl,q⟩
theorem kitTup {P:Program} {w:World} {H:Hp} {s:Shared} {K:PySem.W.Frag} {x:V} {u:Value} {d:PyData} {A:Around} {E:Value→Shared→Prop} {tp:Addr} {its:List Value} {n:Nat} {b:Bool} {Q:Value→Shared→Prop} (ok:HOk P w H s.heap) (kin:K.In s.heap) (rx:RelV x u) (hd:Den H x d)
 (htp:∃ o,s.heap.get? tp=some o∧o.cls=.type "tuple"∧o.data=.seq its.toArray n) (e:PySem.W.kitAny K (.type (tyD d)) its=some b) (h:∀ tk,Q (.bool b) { s with toks:=tk }):wpAny (model P w) A (call (.builtin "isinstance") [u,.ref tp]) Q E s:=by
 obtain⟨⟨cls,dd,data,sl⟩,ho,hc,hda⟩:=htp
 simp only at hc hda
 subst hc hda
 cases hd with
 | non=>cases rx;exact PySem.W.kia_tup PySem.W.kitx_none kin True.intro ho e (fun z=>nomatch z) h
 | bl y=>cases rx;exact PySem.W.kia_tup PySem.W.kitx_bool kin True.intro ho e (fun z=>nomatch z) h
 | int i=>obtain⟨t,rfl⟩:=rx;exact PySem.W.kia_tup PySem.W.kitx_int kin True.intro ho e (fun z=>nomatch z) h
 | str y=>obtain⟨t,rfl⟩:=rx;exact PySem.W.kia_tup PySem.W.kitx_str kin True.intro ho e (fun z=>nomatch z) h
 | @lst a vs ds ea _ =>
  cases rx
  obtain⟨_,_,n,_,h1⟩:=(show ObjOk P w H s.heap a (.lst vs) from ok a _ ea)
  exact PySem.W.kia_tup PySem.W.kitx_list kin ⟨_,h1,rfl⟩ ho e (fun z=>nomatch z) h
 | @tup a vs ds ea _ =>
  cases rx
  obtain⟨_,_,_,p⟩:=(show ObjOk P w H s.heap a (.tup vs) from ok a _ ea)
  obtain⟨o,h1,h2,_⟩:=p
  exact PySem.W.kia_tup PySem.W.kitx_tuple kin ⟨o,h1,h2⟩ ho e (fun z=>nomatch z) h
theorem vals_ty:∀ {Ts:List String} {us:List Value},Vals (Ts.map V.ty) us→us=Ts.map Value.type
 | [],_,.nil=>rfl
 | T :: r,_,.cons q t=>by
  have e:_=Value.type T:=q
  rw[List.map_cons,e,vals_ty t]
theorem call_isiT:CallR X (.builtin "isinstance") (fun xs H Q=>∃ (x:V) (tp:Addr) (Ts:List String) (d:PyData) (b:Bool),xs=[x,.ref tp]∧H tp=some (.tup (Ts.map V.ty))∧Den H x d∧PySem.W.kitAny X.K (.type (tyD d)) (Ts.map Value.type)=some b∧Q (.bl b) H):=by
 intro pins s σ H xs us Q I r h
 obtain⟨x,tp,Ts,d,b,rfl,ht,hd,e,q⟩:=h
 obtain⟨u,v,rfl,r1,r2⟩:=r.two
 cases r2
 obtain⟨_,its,rv,o,ho,hc,n,hda⟩:=(show ObjOk X.prog X.w H s.heap tp (.tup (Ts.map V.ty)) from I.hok tp _ ht)
 have e2:=vals_ty rv
 subst e2
 exact kitTup I.hok I.kIn r1 hd ⟨o,ho,hc,hda⟩ e fun tk=>⟨.bl b,H,I.tok tk,rfl,q⟩
theorem call_all (hc:X.calm=true):CallR X (.builtin "all") (fun xs H Q=>∃ (p:Addr) (bs:List Bool),xs=[.ref p]∧H p=some (.lst (bs.map V.bl))∧Q (.bl (bs.all id)) H):=by
 intro pins s σ H xs us Q I r h
 obtain⟨p,bs,rfl,hp,q⟩:=h
 obtain⟨u,rfl,rx⟩:=vals1 r
 cases rx
 obtain⟨its,rv,pl,hz⟩:=I.list (SqL.of hp)
 have hl:=pl.isList
 have hlt:p<s.heap.objs.size:=by obtain⟨_,e,_⟩:=hl;exact Heap.lt_size e
 have hlen:bs.length=its.length:=by have:=rv.length;simpa using this
 refine call_all_walk (wpAny_pyIter_list hl ?_)
 refine⟨s.heap.objs.size,[s.heap.objs.size,p],[s.heap.objs.size],its.toArray.size,_,_,fun i=>(bs[i]?).getD true,rfl,Walks.list (A:=X.A.in1) (I.ok.hd hc) _ p (Nat.ne_of_lt hlt) its.toArray,
  ⟨⟨_,Heap.get?_push_size _ rfl,rfl,rfl⟩,hl.push _⟩,fun i v s' Q' E' hP hQ=>?_,fun h' tk hk=>?_⟩
 ·have hv:its[i]?=some v:=by simpa using hP
  have hi:i<its.length:=(List.getElem?_eq_some_iff.mp hv).1
  have hb:(bs.map V.bl)[i]?=some (V.bl (bs[i]'(by omega))):=by simp[hlen,hi]
  obtain⟨u,eu,ru⟩:=rv.get hb
  rw[hv]at eu
  cases eu
  cases ru
  have e:(bs[i]?).getD true=bs[i]'(by omega):=by simp[show i<bs.length by omega]
  have hQ':Q' ((bs[i]?).getD true) s':=hQ
  rw[e]at hQ'
  exact wpAny_truthy_bool hQ'
 ·have e:((List.range its.toArray.size).all fun i=>(bs[i]?).getD true)=bs.all id:=by
   rw[List.size_toArray,← hlen];exact LSm.range_all bs
  rw[e]
  have kp:∀ b x,s.heap.get? b=some x→h'.get? b=some x:=LSm.kept_iter hk
  exact⟨.bl _,H,I.kept kp,rfl,q⟩
theorem pickAll (l:List Value):∀ (k:Nat),k≤l.length→(List.range k).filterMap (fun i=>l[i]?)=l.take k
 | 0,_=>by simp
 | k+1,h=>by
  rw[List.range_succ,List.filterMap_append,pickAll l k (by omega)]
  have e:l[k]?=some (l[k]'(by omega)):=by simp[show k<l.length by omega]
  rw[List.filterMap_cons,e,List.filterMap_nil,List.take_succ,e]
  rfl
theorem rangeRev (n:Nat):((List.range n).map fun(k:Nat)=>((n:Int) - 1+-1 * (k:Int)).toNat)=(List.range n).reverse:=by
 apply List.ext_getElem
 ·simp
 ·intro i h1 h2
  simp at h1
  simp
  omega
theorem slicePick_rev (its:List Value):slicePick its.toArray none none (some (-1))=its.reverse.toArray:=by
 unfold slicePick
 have e:sliceBounds none none (some (-1)) its.toArray.size=((its.length:Int) - 1,-1,-1):=by simp[sliceBounds]
 rw[e]
 have e2:sliceRange ((its.length:Int) - 1) (-1) (-1)=(List.range its.length).reverse:=by
  unfold sliceRange
  rw[← rangeRev]
  have c:(if (-1:Int) > 0 then (if ((its.length:Int) - 1) < -1 then ((-1:Int) - ((its.length:Int) - 1)+-1 - 1) / -1 else 0)else if ((its.length:Int) - 1) > -1 then (((its.length:Int) - 1) - -1 - -1 - 1) / (- -1)else 0).toNat=its.length:=by
   rw[if_neg (by decide)]
   by_cases h:((its.length:Int) - 1) > -1
   ·rw[if_pos h]
    have:(((its.length:Int) - 1) - -1 - -1 - 1) / (- -1)=its.length:=by
     rw[show (- -1:Int)=1 from rfl,Int.ediv_one];omega
    rw[this];simp
   ·rw[if_neg h];omega
  simp only
  rw[c]
 show ((sliceRange ((its.length:Int) - 1) (-1) (-1)).filterMap (its.toArray[·]?)).toArray=_
 rw[e2,List.filterMap_reverse]
 congr 2
 have:=pickAll its its.length (Nat.le_refl _)
 rw[List.take_length]at this
 simpa using this
noncomputable def tRev (K:PySem.W.Frag) (te:TE):TE:=fun σ H Q=>te σ H fun x H1=>∃ a xs,x=.ref a∧SqL K H1 a xs∧∀ p,H1 p=none→Q (.ref p) (upd H1 p (.lst xs.reverse))
theorem pe_rev {e:Expr} {te:TE} {pos p2 p3 p4:Pos} {j} (he:PE X e te):PE X (.Subscript e (.Slice none none (some (.UnaryOp .USub (.Constant (.int 1) j p4) p3)) p2) pos) (tRev X.K te):=by
 intro pins s σ H Q I h
 refine Subscript_ (thn (he pins s σ H _ I h) fun v s1 ⟨x,H1,I1,r1,q1⟩=>?_)
 obtain⟨a,xs,rfl,hx,q⟩:=q1
 cases r1
 refine wpAny_Slice ?_
 rw[evalPart_none]
 refine wpAny_pure (wpAny_pure ?_)
 rw[evalPart_some]
 refine thn ((pe_un un_neg pe_int) pins s1 σ H1 (fun y H2=>y=.int (-1)∧H2=H1) I1 ⟨_,rfl,rfl,rfl⟩) fun u s2 ⟨y,H2,I2,r2,e2,e3⟩=>?_
 subst e2 e3
 obtain⟨t,rfl⟩:=r2
 have I3:Inv X pins σ H2 { s2 with heap:=s2.heap.push { cls:=.type "slice",data:=.fields #[.none,.none,.int (-1) t] } }:=I2.kept (t':=s2.toks) fun b ob q=>Heap.get?_push_of_some _ q
 show wpAny (model X.prog X.w) X.A (subscriptTail e (.Slice none none (some (.UnaryOp .USub (.Constant (.int 1) j p4) p3)) p2) (.ref a) (.ref s2.heap.objs.size)) (EP X pins σ Q) X.xe { s2 with heap:=s2.heap.push { cls:=.type "slice",data:=.fields #[.none,.none,.int (-1) t] } }
 obtain⟨its,r,ht,hz⟩:=I3.list hx
 have hlen:=r.length
 refine tail_any (ops:=[.ref a,.ref s2.heap.objs.size]) ht.isList.typeIs slot_list_getitem.lookup ?_ (by with_unfolding_all rfl)
 refine wpAny_getItem_list_slice (lo:=none) (hi:=none) (st:=some (-1)) ht.isList (Heap.IsSliceOf.new ..) .none .none (.int (-1) t) (by simp) ?_ (by rw[List.size_toArray] <;> omega)
 rw[slicePick_rev]
 refine⟨.ref _,_,I3.laid (t':=s2.toks) (o:=.lst xs.reverse) (fun b ob q=>Heap.get?_push_of_some _ q) (Nat.le_refl _) ?_,rfl,q _ (I3.hok.fresh (Nat.le_refl _))⟩
 exact⟨by rw[List.length_reverse];exact hz,_,0,r.reverse,Heap.get?_push_size _ rfl⟩
end
end L2
namespace L2
open PySem PySem.Spec PyProof.Rows
theorem boot_list:bootBuiltins "list"=some (.type "list"):=by decide +kernel
theorem boot_tuple:bootBuiltins "tuple"=some (.type "tuple"):=by decide +kernel
theorem boot_bool:bootBuiltins "bool"=some (.type "bool"):=by decide +kernel
theorem boot_str:bootBuiltins "str"=some (.type "str"):=by decide +kernel
theorem boot_int:bootBuiltins "int"=some (.type "int"):=by decide +kernel
theorem boot_isinstance:bootBuiltins "isinstance"=some (.builtin "isinstance"):=by decide +kernel
theorem boot_all:bootBuiltins "all"=some (.builtin "all"):=by decide +kernel
theorem boot_sorted:bootBuiltins "sorted"=some (.builtin "sorted"):=by decide +kernel
theorem boot_max:bootBuiltins "max"=some (.builtin "max"):=by decide +kernel
theorem boot_min:bootBuiltins "min"=some (.builtin "min"):=by decide +kernel
structure Bt (mg:Str→Option Value):Prop where
 len:mg "len"=none
 range:mg "range"=none
 list:mg "list"=none
 tuple:mg "tuple"=none
 bool:mg "bool"=none
 str:mg "str"=none
 int:mg "int"=none
 isinstance:mg "isinstance"=none
 all:mg "all"=none
 sorted:mg "sorted"=none
 max:mg "max"=none
 min:mg "min"=none
 set:mg "set"=none
 reversed:mg "reversed"=none
 sum:mg "sum"=none
 enumerate:mg "enumerate"=none
 zip:mg "zip"=none
 any:mg "any"=none
 abs:mg "abs"=none
noncomputable def FnAt (P:Program) (w:World) (K:PySem.W.Frag) (mg:Str→Option Value) (base:Heap) (x:Str) (k:Nat) (ps:List Str) (sp:Sp):Prop :=
 ∃ f fd,FnOk P w K mg base CX0 k f fd ps sp∧mg x=some (.ref f)∧PySem.W.keepIn K (.ref f)=true∧Binds K fd ps []
section
variable {X:Cx} {x:Str} {j k:Nat} {ps:List Str} {sp:Sp} {t:TA} {e:Expr} {es:List Expr} {p pos:Pos}
theorem pe_fn (F:FnAt X.prog X.w X.K X.mg X.base x j ps sp) (hr:Room k X.A) (hg:Gl X x) (ha:PA X (e :: es) t) (hj:j≤k:=by decide) (hdb:(x == ("__debug__":Str))=false:=by decide)
 (he:starEach (e :: es) X.env=(false,eval e X.env) :: starEach es X.env:=by rfl) (hpl:(backTo pos (starEach es X.env)).any (·.1)=false:=by rfl) :
 PE X (.Call (.Name x p) (e :: es) [] pos) (tCall sp [] E0 t):=by
 obtain⟨f,fd,G,hm,hk,hb⟩:=F
 exact pe_call (hdb:=hdb) (he:=he) (hpl:=hpl) G (hr.mono hj) hg hm hk hb .nil pass0 ha
theorem op_eqI:OpR X (compareOp .Eq) (rI0 fun i j=>.bl (decide (i=j))):=opB0 fun i j _ _ _ _ _ q=>eq_int (by
 have e:(i == j)=decide (i=j):=by rw[Bool.eq_iff_iff];simp
 rw[e];exact q)
theorem op_neI:OpR X (compareOp .NotEq) (rI0 fun i j=>.bl (!decide (i=j))):=opB0 fun i j _ _ _ _ _ q=>ne_int (by
 have e:(i != j)=!decide (i=j):=by rw[bne];congr 1
 rw[e];exact q)
end
noncomputable def tCut (t u:TS):TS:=fun D σ H=>∃ M:St→Hp→Prop,t { D with nx:=M } σ H∧∀ σ' H',M σ' H'→u D σ' H'
theorem pss_cut {X:Cx} {st:Stmt} {rest:List Stmt} {t u:TS} (h1:PS X st t) (h2:PSs X rest u):PSs X (st :: rest) (tCut t u):=by
 intro pins s σ H D I h
 obtain⟨M,h,hM⟩:=h
 refine wpAny_execs_cons (thn (h1 pins s σ H { D with nx:=M } I h) fun f s1 q=>?_)
 cases f with
 | next =>
  obtain⟨σ',H',I',q⟩:=q
  exact h2 pins s1 σ' H' D I' (hM σ' H' q)
 | ret v=>exact q
 | brk=>exact q
 | cont=>exact q
noncomputable def tCutE (t:TE):TE:=fun σ H Q=>∃ R:VK,t σ H R∧∀ v H',R v H'→Q v H'
theorem pe_cut {X:Cx} {e:Expr} {t:TE} (h:PE X e t):PE X e (tCutE t):=by
 intro pins s σ H Q I hw
 obtain⟨R,hw,hR⟩:=hw
 exact thn (h pins s σ H R I hw) fun u s1 ⟨v,H1,I1,r1,q1⟩=>⟨v,H1,I1,r1,hR v H1 q1⟩
theorem iteD {c:Prop} [Decidable c] {A B:Prop} (h1:c→A) (h2:¬ c→B):if decide c=true then A else B:=by
 by_cases h:c
 ·rw[decide_eq_true h,if_pos rfl];exact h1 h
 ·rw[decide_eq_false h,if_neg Bool.false_ne_true];exact h2 h
theorem iteDT {c:Prop} [Decidable c] {A B:Prop} (hc:c) (h1:A):if decide c=true then A else B:=by
 rw[decide_eq_true hc,if_pos rfl];exact h1
theorem iteDF {c:Prop} [Decidable c] {A B:Prop} (hc:¬ c) (h1:B):if decide c=true then A else B:=by
 rw[decide_eq_false hc,if_neg Bool.false_ne_true];exact h1
section
variable {X:Cx} (K:PySem.W.Frag)
theorem ix_listK (h:X.K=K):IxR X (rIxL K):=h ▸ ix_list
theorem ix_seqK (h:X.K=K):IxR X (rIx K):=h ▸ ix_seq
theorem call_len_seqK (h:X.K=K):CallR X (.builtin "len") (fun xs H Q=>∃ p ys,xs=[.ref p]∧(SqL K H p ys∨SqT K H p ys)∧Q (.int ys.length) H):=h ▸ call_len_seq
theorem pg_tupK {es:List Expr} {k:Nat} {t:TGs} {n:Nat} {pos:Pos} (h:X.K=K) (hc:X.calm=true) (hs:PGs X es t) (hn:(assignEach es X.env).length=n:=by rfl) (hst:(assignEach es X.env).findIdx? (·.1)=none:=by rfl):PG X (.Tuple es k pos) (gTup K n t):=h ▸ pg_tup hc hs hn hst
end
end L2
namespace CW
end CW
namespace CW
noncomputable def stp (c:Int) (l:Nat) (x:Bool):Nat×Bool :=
 if x then (if (l:Int)<c then (l+1,false)else (l,true))else (if 0<l then (l - 1,true)else (0,false))
noncomputable def run (c:Int):Nat→List Bool→Nat×List Bool
 | l,[]=>(l,[])
 | l,x :: xs=>((run c (stp c l x).1 xs).1,(stp c l x).2 :: (run c (stp c l x).1 xs).2)
end CW
namespace CW
open PySem L2
theorem at_mem {ns:List Int} {i:Int} (h0:0≤i) (h1:i<ns.length):∃ n,n∈ns∧ns[i.toNat]?=some n∧atI (ns.map V.int) i=some (.int n):=by
 have hj:i.toNat<ns.length:=by omega
 refine⟨ns[i.toNat],List.getElem_mem hj,by simp[hj],?_⟩
 have q:atI (ns.map V.int) ((i.toNat:Nat):Int)=some (.int ns[i.toNat]):=atI_nat (by simp[hj])
 rw[Int.toNat_of_nonneg h0]at q
 exact q
theorem line_of {n:Nat} (h:n≤10000):n<sizeLine:=Nat.lt_of_le_of_lt h (by decide)
theorem line_le {n:Nat} (h:n≤10000):n≤sizeLine:=Nat.le_of_lt (line_of h)
noncomputable def Nums (ns:List Int):Prop:=∀ n∈ns,0≤n∧n<9967
theorem cutV_ints (ns:List Int) (lo hi:Option Int):∃ ms:List Int,cutV (ns.map V.int) lo hi=ms.map V.int∧ms.length≤ns.length∧∀ n∈ms,n∈ns:=by
 refine⟨(ns.drop (HT.sIx ns.length 0 lo)).take (HT.sIx ns.length ns.length hi - HT.sIx ns.length 0 lo),?_,?_,?_⟩
 ·unfold cutV
  simp only[List.length_map,List.map_take,List.map_drop]
 ·simp only[List.length_take,List.length_drop];omega
 ·intro n hn
  exact List.mem_of_mem_drop (List.mem_of_mem_take hn)
theorem cut_to (ns:List Int) (k:Nat) (h:k≤ns.length):cutV (ns.map V.int) none (some (k:Int))=(ns.take k).map V.int:=by
 unfold cutV
 rw[HT.sIx_none,HT.sIx_nat,List.length_map,List.drop_zero,Nat.sub_zero,Nat.min_eq_left h,List.map_take]
theorem cut_from (ns:List Int) (k:Nat) (h:k≤ns.length):cutV (ns.map V.int) (some (k:Int)) none=(ns.drop k).map V.int:=by
 unfold cutV
 rw[HT.sIx_none,HT.sIx_nat,List.length_map,Nat.min_eq_left h,← List.map_drop,← List.map_take,List.take_of_length_le (by simp)]
noncomputable def sd1 (seed z:Int):Int:=(seed * 40014+z % 999983+29) % 2147483563
noncomputable def sd2 (seed:Int) (ys:List Int):Int:=(seed * seed+52774 * seed+13 * ((List.map V.int ys).length:Int)+7) % 2147483629
noncomputable def rs1 (z:Int):Int:=z - 10 ^ (18:Int).toNat
inductive spNumbers (K:PySem.W.Frag) (vs:List V) (H:Hp) (Q:VK) (E_:XK):Prop
 | mk (a:Addr) (script:List Int) (m:Nat) (h0_:vs=[.ref a,.int m]) (h1_:SqL K H a (script.map V.int)) (h2_:script.length≤63) (h3_:m≤1000) (h4_:∀ (l:Addr) (ns:List Int) (H':Hp),ns.length=m→Nums ns→H l=none→Same H H'→H' l=some (.lst (ns.map V.int))→Q (.ref l) H'):spNumbers K vs H Q E_
noncomputable def Row (r:List Int):Prop:=r.Pairwise (·<·)
theorem Row.lt {r:List Int} (h:Row r) {i j:Nat} {x y:Int} (hij:i<j) (hx:r[i]?=some x) (hy:r[j]?=some y):x<y:=by
 obtain⟨h1,rfl⟩:=List.getElem?_eq_some_iff.mp hx
 obtain⟨h2,rfl⟩:=List.getElem?_eq_some_iff.mp hy
 exact List.pairwise_iff_getElem.mp h i j h1 h2 hij
noncomputable def RetL (H:Hp) (Q:VK) (ns:List Int):Prop:=∀ (l:Addr) (H':Hp),H l=none→Same H H'→H' l=some (.lst (ns.map V.int))→Q (.ref l) H'
inductive spLook (vs:List V) (H:Hp) (Q:VK) (E_:XK):Prop
 | mk (a:Addr) (row:List Int) (h0_:vs=[.ref a]) (h1_:H a=some (.lst (row.map V.int))) (h2_:Row row) (h3_:row.length≤60) (h4_:Q .non H):spLook vs H Q E_
structure Cn (mg:Str→Option Value) (tC:Tok):Prop where
 MOST_STONES:mg "MOST_STONES"=some (.int 60 tC)
theorem snoc_map {l:List Int} {i:Nat} {z:Int} (f:Int→Int) (h:l[i]?=some z):((l.take i).map f).map V.int++[V.int (f z)]=((l.take (i+1)).map f).map V.int:=by
 rw[List.take_succ,h]
 simp
theorem int_at {l:List Int} {i:Nat} {x:V} (h:(l.map V.int)[i]?=some x):∃ z,x=.int z∧l[i]?=some z:=by
 rw[List.getElem?_map]at h
 cases e:l[i]? with
 | none=>rw[e]at h;cases h
 | some z=>rw[e]at h;exact⟨z,(Option.some.inj h).symm,rfl⟩
theorem take_len {α:Type} (l:List α) (i:Nat) (h:i≤60) (f:α→Int):((((l.take i).map f).map V.int)).length<sizeLine:=by
 simp only[List.length_map,List.length_take]
 exact line_of (by omega)
noncomputable def PairAt (H:Hp) (v:V) (p:Int×Int):Prop:=∃ t,v=.ref t∧H t=some (.tup [.int p.1,.int p.2])
noncomputable abbrev Prs (H:Hp):List V→List (Int×Int)→Prop:=Paired (PairAt H)
noncomputable def TupS (H H':Hp):Prop:=∀ t xs,H t=some (.tup xs)→H' t=some (.tup xs)
theorem Prs.mono {H H':Hp} (h:TupS H H') {vs:List V} {ps:List (Int×Int)} (r:Prs H vs ps):Prs H' vs ps:=Paired.mapP r fun _ _ ⟨t,e,q⟩=>⟨t,e,h _ _ q⟩
theorem TupS.new {H:Hp} {a:Addr} {o:HO} (h:H a=none):TupS H (upd H a o):=fun t xs e=>by rw[upd_ne (ne_of_none e h)];exact e
theorem TupS.lst {H:Hp} {a:Addr} {xs ys:List V} (h:H a=some (.lst xs)):TupS H (upd H a (.lst ys)):=fun t zs e=>by rw[upd_ne (ne_of e h (by intro z;cases z))];exact e
theorem TupS.same {H H':Hp} (h:Same H H'):TupS H H':=fun t xs e=>h _ _ e
theorem TupS.trans {H H1 H2:Hp} (a:TupS H H1) (b:TupS H1 H2):TupS H H2:=fun t xs e=>b _ _ (a _ _ e)
noncomputable def pD (p:Int×Int):PyData:=.tuple [.int p.1,.int p.2]
theorem Prs.dens {H:Hp}:∀ {vs:List V} {ps:List (Int×Int)},Prs H vs ps→Dens H vs (ps.map pD)
 | _,_,.nil=>.nil
 | _,_,.cons ⟨t,e,q⟩ r=>by subst e;exact .cons (.tup q (.cons (.int _) (.cons (.int _) .nil))) (Prs.dens r)
theorem Paired.append' {α β:Type} {F:α→β→Prop}:∀ {l₁ m₁:List α} {l₂ m₂:List β},Paired F l₁ l₂→Paired F m₁ m₂→Paired F (l₁++m₁) (l₂++m₂)
 | _,_,_,_,.nil,s=>s
 | _,_,_,_,.cons r t,s=>.cons r (Paired.append' t s)
theorem Paired.split_last {α β:Type} {F:α→β→Prop} {l₁:List α} {l₂:List β} {b:β} (h:Paired F l₁ (l₂++[b])):∃ m a,l₁=m++[a]∧Paired F m l₂∧F a b:=by
 induction l₂ generalizing l₁ with
 | nil =>
  cases h with
  | cons r t=>cases t;exact⟨[],_,rfl,.nil,r⟩
 | cons c l ih =>
  cases h with
  | cons r t =>
   obtain⟨m,a,e,q,f⟩:=ih t
   exact⟨_ :: m,a,by rw[e];rfl,.cons r q,f⟩
noncomputable def stepR (ps:List (Int×Int)) (x:Int):List (Int×Int) :=
 match ps.getLast? with
 | some p=>if p.2=x - 1 then ps.dropLast++[(p.1,x)]else ps++[(x,x)]
 | none=>[(x,x)]
noncomputable def runsM (row:List Int):List (Int×Int):=row.foldl stepR []
theorem stepR_nil (x:Int):stepR [] x=[(x,x)]:=rfl
theorem stepR_snoc (ps:List (Int×Int)) (p:Int×Int) (x:Int):stepR (ps++[p]) x=if p.2=x - 1 then ps++[(p.1,x)]else (ps++[p])++[(x,x)]:=by
 unfold stepR
 rw[List.getLast?_concat,List.dropLast_concat]
theorem runs_snoc {row:List Int} {i:Nat} {z:Int} (h:row[i]?=some z):stepR (runsM (row.take i)) z=runsM (row.take (i+1)):=by
 unfold runsM
 rw[List.take_succ,h]
 simp
noncomputable def RetP (H:Hp) (Q:VK) (ps:List (Int×Int)):Prop:=∀ (l:Addr) (vs:List V) (H':Hp),H l=none→Same H H'→H' l=some (.lst vs)→Prs H' vs ps→Q (.ref l) H'
inductive spRuns (vs:List V) (H:Hp) (Q:VK) (E_:XK):Prop
 | mk (a:Addr) (row:List Int) (h0_:vs=[.ref a]) (h1_:H a=some (.lst (row.map V.int))) (h2_:row.length≤60) (h3_:RetP H Q (runsM row)):spRuns vs H Q E_
theorem ix_last (vs:List V) (v:V):ixN (vs++[v]).length (-1)=some vs.length:=by
 unfold ixN
 rw[if_neg (by decide),if_pos (by simp;omega)]
 congr 1
 simp
 omega
theorem set_last {α:Type} (vs:List α) (v u:α):(vs++[v]).set vs.length u=vs++[u]:=by
 rw[List.set_append_right _ _ (Nat.le_refl _)]
 simp
theorem canLay_pairs (ps:List (Int×Int)):PyData.canLayAll0 (ps.map pD)=true:=by
 induction ps with
 | nil=>rfl
 | cons p r ih=>simp[PyData.canLayAll0,pD,PyData.canLay0,ih]
theorem depth_pairs (ps:List (Int×Int)):PyData.depthAll (ps.map pD)≤1:=by
 induction ps with
 | nil=>simp[PyData.depthAll]
 | cons p r ih=>simp[PyData.depthAll,pD,PyData.depth];omega
theorem canLay_ints (ns:List Int):PyData.canLayAll0 (ns.map PyData.int)=true:=by
 induction ns with
 | nil=>rfl
 | cons p r ih=>simp[PyData.canLayAll0,PyData.canLay0,ih]
theorem depth_ints (ns:List Int):PyData.depthAll (ns.map PyData.int)=0:=by
 induction ns with
 | nil=>simp[PyData.depthAll]
 | cons p r ih=>simp[PyData.depthAll,PyData.depth,ih]
theorem shaped_pairs (ps:List (Int×Int)):SeqAt.shaped (.list (ps.map pD))=true:=by
 have:=depth_pairs ps
 simp[SeqAt.shaped,PyData.canLay0,canLay_pairs,PyData.depth]
 omega
theorem shaped_ints (ns:List Int):SeqAt.shaped (.list (ns.map PyData.int))=true:=by
 simp[SeqAt.shaped,PyData.canLay0,canLay_ints,PyData.depth,depth_ints]
inductive spRow (vs:List V) (H:Hp) (Q:VK) (E_:XK):Prop
 | mk (a:Addr) (ns:List Int) (m:Nat) (h0_:vs=[.ref a,.int m]) (h1_:H a=some (.lst (ns.map V.int))) (h2_:Nums ns) (h3_:m+3≤ns.length) (h4_:m≤60) (h5_:∀ row,Row row→row.length≤m→(∀ x∈row,-15≤x∧x≤800)→RetL H Q row):spRow vs H Q E_
theorem row_snoc {r:List Int} {x:Int} (h:Row r) (hx:∀ y∈r,y<x):Row (r++[x]):=by
 unfold Row
 rw[List.pairwise_append]
 exact⟨h,List.pairwise_singleton _ _,fun a ha b hb=>by rw[List.mem_singleton.mp hb];exact hx a ha⟩
inductive spLong (vs:List V) (H:Hp) (Q:VK) (E_:XK):Prop
 | mk (a:Addr) (ns:List Int) (m:Nat) (h0_:vs=[.ref a,.int m]) (h1_:H a=some (.lst (ns.map V.int))) (h2_:Nums ns) (h3_:m+3≤ns.length) (h4_:m≤60) (h5_:∀ row,Row row→row.length≤m→RetL H Q row):spLong vs H Q E_
theorem row_long {row:List Int} {c:Nat} {b:Int} (h:Row row) (hb:0≤b):Row (row.take c++(row.drop c).map (fun z=>z+b)):=by
 unfold Row at *
 rw[List.pairwise_append]
 have hs:=h
 rw[← List.take_append_drop c row,List.pairwise_append]at hs
 obtain⟨h1,h2,h3⟩:=hs
 refine⟨h1,?_,fun x hx y hy=>?_⟩
 ·rw[List.pairwise_map]
  exact h2.imp (fun {x y} q=>by omega)
 ·obtain⟨z,hz,rfl⟩:=List.mem_map.mp hy
  have:=h3 x hx z hz
  omega
mutual
noncomputable def sml:PyData→Bool
 | .list xs=>decide (xs.length≤5000) && smlAll xs
 | .tuple xs=>decide (xs.length≤5000) && smlAll xs
 | .dict _=>false
 | .none=>true
 | .bool _=>true
 | .int _=>true
 | .str _=>true
noncomputable def smlAll:List PyData→Bool
 | []=>true
 | x :: xs=>sml x && smlAll xs
end
theorem sml_mem {ds:List PyData} {d:PyData} (h:d∈ds) (hc:smlAll ds=true):sml d=true:=by
 induction ds with
 | nil=>cases h
 | cons x r ih =>
  simp only[smlAll,Bool.and_eq_true]at hc
  rcases List.mem_cons.mp h with rfl | h
  ·exact hc.1
  ·exact ih h hc.2
theorem sml_ints {ns:List Int} (h:ns.length≤5000):sml (.list (ns.map PyData.int))=true:=by
 have:∀ ns:List Int,smlAll (ns.map PyData.int)=true:=fun ns=>by
  induction ns with
  | nil=>rfl
  | cons p r ih=>simp[smlAll,sml,ih]
 simp[sml,this,h]
inductive spSame (n:Nat) (vs:List V) (H:Hp) (Q:VK) (E_:XK):Prop
 | mk (x y:V) (d:PyData) (h0_:vs=[x,y]) (h1_:Den H x d) (h2_:Den H y d) (h3_:d.depth≤n) (h4_:SeqAt.shaped d=true) (h5_:sml d=true) (h6_:∀ H',Same H H'→Q (.bl true) H'):spSame n vs H Q E_
theorem depth_mem {ds:List PyData} {d:PyData} (h:d∈ds):d.depth≤PyData.depthAll ds:=by
 induction ds with
 | nil=>cases h
 | cons x r ih =>
  simp only[PyData.depthAll]
  rcases List.mem_cons.mp h with rfl | h
  ·omega
  ·have:=ih h;omega
theorem canLay_mem {ds:List PyData} {d:PyData} (h:d∈ds) (hc:PyData.canLayAll0 ds=true):d.canLay0=true:=by
 induction ds with
 | nil=>cases h
 | cons x r ih =>
  simp only[PyData.canLayAll0,Bool.and_eq_true]at hc
  rcases List.mem_cons.mp h with rfl | h
  ·exact hc.1
  ·exact ih h hc.2
theorem eqv_self {d:PyData} (h:SeqAt.shaped d=true):PyData.eqv d d=true:=SeqAt.eqv_refl d (SeqAt.canLay_of_shaped h)
inductive spLookCreel (vs:List V) (H:Hp) (Q:VK) (E_:XK):Prop
 | mk (c:Int) (h0_:vs=[.int c]) (h1_:1≤c) (h2_:Q .non H):spLookCreel vs H Q E_
theorem depth_intl (ns:List Int):(PyData.list (ns.map PyData.int)).depth≤3:=by simp[PyData.depth,depth_ints]
end CW
namespace CW
end CW
namespace CW
open PySem L2
theorem paired_get {α β:Type} {F:α→β→Prop}:∀ {l₁:List α} {l₂:List β} {i:Nat} {x:α},Paired F l₁ l₂→l₁[i]?=some x→∃ y,l₂[i]?=some y∧F x y
 | _,_,_,_,.nil,e=>by simp at e
 | _,_,0,_,.cons r _,e=>by simp at e;subst e;exact⟨_,rfl,r⟩
 | _,_,i+1,x,.cons _ t,e=>by
  obtain⟨y,h1,h2⟩:=paired_get (i:=i) (x:=x) t (by simpa using e)
  exact⟨y,by simpa using h1,h2⟩
end CW
namespace L2
open PySem PySem.Spec PyProof.Rows
noncomputable abbrev two (b:Int) (t:Tok) (c:Nat):Obj:={ cls:=.type "list",dict:=none,data:=.seq #[.int b t,.int b t] c,slots:=#[] }
theorem ints_get:∀ {its:List Value} {ns:List Int} {i:Nat} {n:Int},IntsAre its ns→ns[i]?=some n→∃ t,its[i]?=some (.int n t)
 | _,_,_,_,.nil,e=>by simp at e
 | _,_,0,_,.cons n t _,e=>by simp at e;subst e;exact⟨t,rfl⟩
 | _,_,i+1,n,.cons _ _ r,e=>by
  obtain⟨t,h⟩:=ints_get (i:=i) (n:=n) r (by simpa using e)
  exact⟨t,by simpa using h⟩
section
variable {prog:Program} {w:World} {A:Around} {R:Result→Shared→Prop} {l it S:Addr} {its:List Value} {ns:List Int} {d:Value}
theorem mx_loop (hh:A.handled=none) (hI:IntsAre its ns) (hlt:l≠it) (hiS:it≠S) (hlS:l≠S) :
 ∀ (k i:Nat) (s:Shared) (b:Int) (t:Tok) (c:Nat),ns.length - i=k→i≤ns.length→s.heap.IsListIter it l i→s.heap.IsList l its.toArray→s.heap.get? S=some (two b t c) →
  (∀ h' tk t',(∀ x o,x≠it→x≠S→s.heap.get? x=some o→h'.get? x=some o)→R (.ok (.ret (.int ((ns.drop i).foldl max b) t'))) { s with heap:=h',toks:=tk }) →
  codeAny (model prog w) A (.builtin "max.loop" ⟨[.ref it,.none,.ref S],[(Str.ofString "default",d)]⟩) R s:=by
 have nm:(toString "max"++toString ".loop":String)="max.loop":=by decide
 intro k
 induction k with
 | zero =>
  intro i s b t c hk hi st hl hS hR
  have e:i=ns.length:=by omega
  refine codeAny_builtin PySem.F.entry_max_loop (by
   rw[Around.under_plainId PySem.F.plain_max_loop _]
   show wpAny _ A.in1 (seqItems? (Value.ref S) >>= _) _ _ s
   refine wpAny_bind (wpAny_seqItems hS rfl ?_)
   show wpAny _ A.in1 (tryCatch (pyNext (Value.ref it)) _ >>= _) _ _ s
   refine wpAny_bind (wpAny_tryCatch (wpAny_pyNext_list_end hh st hl (by have:=hI.length;simp;omega) fun h' eb=>?_))
   have hS':=eb S _ (Ne.symm hiS) hS
   show wpAny _ A.in1 (updateSeq S (fun _=>#[]) >>= _) _ _ { s with heap:=h' }
   refine wpAny_bind (wpAny_updateSeq hS' rfl (wpAny_bind (wpAny_letGo (wpAny_pure ?_))))
   have q:=hR (h'.update S (Obj.mapSeq fun _=>#[])) s.toks t (fun x o h1 h2 e=>(Heap.get?_update_other _ _ (Ne.symm h2)).trans (eb x o h1 e))
   rw[e,List.drop_length]at q
   exact q)
 | succ k ih =>
  intro i s b t c hk hi st hl hS hR
  have hi':i<ns.length:=by omega
  obtain⟨u,hu⟩:=ints_get (i:=i) (n:=ns[i]) hI (by simp[hi'])
  have hdr:ns.drop i=ns[i] :: ns.drop (i+1):=List.drop_eq_getElem_cons hi'
  refine codeAny_builtin PySem.F.entry_max_loop (by
   rw[Around.under_plainId PySem.F.plain_max_loop _]
   show wpAny _ A.in1 (seqItems? (Value.ref S) >>= _) _ _ s
   refine wpAny_bind (wpAny_seqItems hS rfl ?_)
   show wpAny _ A.in1 (tryCatch (pyNext (Value.ref it)) _ >>= _) _ _ s
   refine wpAny_bind (wpAny_tryCatch (wpAny_pyNext_list_item st hl (x:=.int ns[i] u) (by simpa using hu) fun h' st' sb=>?_))
   have hS':=sb.extBut S _ (Ne.symm hiS) hS
   have hl':=hl.extBut sb.extBut hlt
   show wpAny _ A.in1 (tryCatch (holding [.int ns[i] u,.int ns[i] u] (richCompare .Gt (.int ns[i] u) (.int b t) >>= _)) _ >>= _) _ _ { s with heap:=h' }
   refine wpAny_bind (wpAny_tryCatch (wpAny_holding (wpAny_bind (gt_int (s:={ s with heap:=h' }) ?_))))
   refine wpAny_bind (wpAny_holding (wpAny_truthy_bool (wpAny_bind (wpAny_letGo (wpAny_pure ?_)))))
   by_cases hb:b<ns[i]
   ·have hd:decide (b<ns[i])=true:=decide_eq_true hb
    simp only[hd,if_true]
    refine wpAny_bind (wpAny_updateSeq hS' rfl (wpAny_bind (wpAny_letGo ?_)))
    rw[nm]
    obtain⟨c',e1⟩:∃ c',(h'.update S (Obj.mapSeq fun _=>#[Value.int ns[i] u,Value.int ns[i] u])).get? S=some (two ns[i] u c'):=⟨_,Heap.get?_update_self _ hS' rfl⟩
    refine wpAny_pure ⟨plainId_quiet PySem.F.plain_max_loop _,ih (i+1) { s with heap:=h'.update S (Obj.mapSeq fun _=>#[Value.int ns[i] u,Value.int ns[i] u]) } ns[i] u _ (by omega) hi' (st'.at fun o e=>(Heap.get?_update_other _ _ (Ne.symm hiS)).trans e) (hl'.at fun o e=>(Heap.get?_update_other _ _ (Ne.symm hlS)).trans e) e1 fun h'' tk t' kp=>?_⟩
    have q:=hR h'' tk t' (fun x o h1 h2 e=>kp x o h1 h2 ((Heap.get?_update_other _ _ (Ne.symm h2)).trans (sb.extBut x o h1 e)))
    rw[hdr,List.foldl_cons,show max b ns[i]=ns[i]by omega]at q
    exact q
   ·have hd:decide (b<ns[i])=false:=decide_eq_false hb
    simp only[hd,Bool.false_eq_true,if_false]
    refine wpAny_bind (wpAny_letGo ?_)
    rw[nm]
    refine wpAny_pure ⟨plainId_quiet PySem.F.plain_max_loop _,ih (i+1) { s with heap:=h' } b t c (by omega) hi' st' hl' hS' fun h'' tk t' kp=>?_⟩
    have q:=hR h'' tk t' (fun x o h1 h2 e=>kp x o h1 h2 (sb.extBut x o h1 e))
    rw[hdr,List.foldl_cons,show max b ns[i]=b by omega]at q
    exact q)
theorem mx_first (hh:A.handled=none) (hI:IntsAre its ns) (hlt:l≠it) (hiS:it≠S) (hlS:l≠S) {s:Shared} {c:Nat} (st:s.heap.IsListIter it l 0) (hl:s.heap.IsList l its.toArray)
 (hS:s.heap.get? S=some { cls:=.type "list",dict:=none,data:=.seq #[] c,slots:=#[] }) (x0:V) (rx:RelV x0 d)
 (hR:∀ h' tk v u,(∀ x o,x≠it→x≠S→s.heap.get? x=some o→h'.get? x=some o)→RelV v u→(v=match ns with | []=>x0 | n :: r=>.int (r.foldl max n))→R (.ok (.ret u)) { s with heap:=h',toks:=tk }) :
 codeAny (model prog w) A (.builtin "max.loop" ⟨[.ref it,.none,.ref S],[(Str.ofString "default",d)]⟩) R s:=by
 have nm:(toString "max"++toString ".loop":String)="max.loop":=by decide
 cases hI with
 | nil =>
  refine codeAny_builtin PySem.F.entry_max_loop (by
   rw[Around.under_plainId PySem.F.plain_max_loop _]
   show wpAny _ A.in1 (seqItems? (Value.ref S) >>= _) _ _ s
   refine wpAny_bind (wpAny_seqItems hS rfl ?_)
   show wpAny _ A.in1 (tryCatch (pyNext (Value.ref it)) _ >>= _) _ _ s
   refine wpAny_bind (wpAny_tryCatch (wpAny_pyNext_list_end hh st hl (by simp) fun h' eb=>?_))
   refine wpAny_bind (wpAny_rule (wpAny_pure ?_))
   exact hR h' s.toks x0 d (fun x o h1 _ e=>eb x o h1 e) rx rfl)
 | @cons n t its' ns' r =>
  refine codeAny_builtin PySem.F.entry_max_loop (by
   rw[Around.under_plainId PySem.F.plain_max_loop _]
   show wpAny _ A.in1 (seqItems? (Value.ref S) >>= _) _ _ s
   refine wpAny_bind (wpAny_seqItems hS rfl ?_)
   show wpAny _ A.in1 (tryCatch (pyNext (Value.ref it)) _ >>= _) _ _ s
   refine wpAny_bind (wpAny_tryCatch (wpAny_pyNext_list_item st hl (x:=.int n t) (by simp) fun h' st' sb=>?_))
   have hS':=sb.extBut S _ (Ne.symm hiS) hS
   have hl':=hl.extBut sb.extBut hlt
   show wpAny _ A.in1 (updateSeq S (fun _=>#[Value.int n t,Value.int n t]) >>= _) _ _ { s with heap:=h' }
   refine wpAny_bind (wpAny_updateSeq hS' rfl ?_)
   rw[nm]
   obtain⟨c',e1⟩:∃ c',(h'.update S (Obj.mapSeq fun _=>#[Value.int n t,Value.int n t])).get? S=some (two n t c'):=⟨_,Heap.get?_update_self _ hS' rfl⟩
   refine wpAny_pure ⟨plainId_quiet PySem.F.plain_max_loop _,mx_loop hh (.cons n t r) hlt hiS hlS _ 1 { s with heap:=h'.update S (Obj.mapSeq fun _=>#[Value.int n t,Value.int n t]) } n t _ rfl (by simp) (st'.at fun o e=>(Heap.get?_update_other _ _ (Ne.symm hiS)).trans e) (hl'.at fun o e=>(Heap.get?_update_other _ _ (Ne.symm hlS)).trans e) e1 fun h'' tk t' kp=>?_⟩
   exact hR h'' tk (.int (ns'.foldl max n)) _ (fun x o h1 h2 e=>kp x o h1 h2 ((Heap.get?_update_other _ _ (Ne.symm h2)).trans (sb.extBut x o h1 e))) ⟨t',rfl⟩ rfl)
noncomputable def mxD (ns:List Int) (x0:V):V:=match ns with | []=>x0 | n :: r=>.int (r.foldl max n)
theorem args_maxd (a d:Value):argsOk "max" ⟨[a],[(Str.ofString "default",d)]⟩:=by unfold argsOk;kernel_rfl
theorem call_maxd {E:Value→Shared→Prop} {s:Shared} {x0:V} {Q:Value→Shared→Prop} (hh:A.handled=none) (hI:IntsAre its ns) (hl:s.heap.IsList l its.toArray) (rx:RelV x0 d)
 (h:∀ h' tk u,(∀ x o,s.heap.get? x=some o→h'.get? x=some o)→RelV (mxD ns x0) u→Q u { s with heap:=h',toks:=tk }):wpAny (model prog w) A (call (.builtin "max") [.ref l] [(Str.ofString "default",d)]) Q E s:=by
 have nm:(toString "max"++toString ".loop":String)="max.loop":=by decide
 refine kmk_tree PySem.F.kind_max PySem.F.plain_max PySem.F.entry_max (args_maxd _ _) (by
  show wpAny _ A.in1 (Builtin.Builtins.bindParams "max" ["key","default"] 0 ⟨[],[(Str.ofString "default",d)]⟩ >>= _) _ _ s
  refine wpAny_bind (wpAny_of_eq (show Builtin.Builtins.bindParams "max" ["key","default"] 0 ⟨[],[(Str.ofString "default",d)]⟩=pure [none,some d] from rfl) (wpAny_bind (wpAny_pure ?_)))
  refine wpAny_bind (wpAny_pyIter_list hl ?_)
  refine wpAny_bind (wpAny_newObj_type ?_)
  rw[nm]
  have hlt:l<s.heap.objs.size:=by obtain⟨_,e,_⟩:=hl;exact Heap.lt_size e
  refine wpAny_pure ⟨plainId_quiet PySem.F.plain_max_loop _,mx_first (l:=l) (it:=s.heap.objs.size) (its:=its) hh hI (Nat.ne_of_lt hlt) (by rw[Heap.size_push];exact Nat.ne_of_lt (Nat.lt_succ_self _)) (by rw[Heap.size_push];exact Nat.ne_of_lt (Nat.lt_succ_of_lt hlt)) ⟨_,Heap.get?_push_of_some _ (Heap.get?_push_size _ rfl),rfl,rfl⟩ ((hl.push _).push _) (Heap.get?_push_size _ rfl) x0 rx fun h' tk v u kp rv ev=>?_⟩
  subst ev
  refine h h' tk u (fun x o e=>?_) rv
  have hx:=Heap.lt_size e
  exact kp x o (Nat.ne_of_lt hx) (by rw[Heap.size_push];exact Nat.ne_of_lt (Nat.lt_succ_of_lt hx)) (Heap.get?_push_of_some _ (Heap.get?_push_of_some _ e)))
noncomputable def mnD (ns:List Int) (x0:V):V:=match ns with | []=>x0 | n :: r=>.int (r.foldl min n)
end
section
variable {X:Cx} {e f:Expr} {te tf:TE} {p pos kp:Pos}
noncomputable def tMxD (K:PySem.W.Frag) (te tf:TE):TE:=fun σ H Q=>te σ H fun x H1=>tf σ H1 fun y H2=>∃ a ns,x=.ref a∧SqL K H2 a (ns.map V.int)∧Q (mxD ns y) H2
theorem pe_maxdef (hc:X.calm=true) (hg:Gl X "max") (hm:X.mg "max"=none) (he:PE X e te) (hf:PE X f tf)
 (hs:starEach [e] X.env=(false,eval e X.env) :: starEach [] X.env:=by rfl) (he1:backTo pos (starEach [e] X.env)=(false,eval e X.env) :: backTo pos (starEach [] X.env):=by rfl) (hp1:(backTo pos (starEach [e] X.env)).any (·.1)=false:=by rfl)
 (ha1:(backToKw pos (keywordEach [⟨some "default",f,kp⟩] X.env)).all (·.1.isSome)=true:=by rfl) (hk1:(backToKw pos (keywordEach [⟨some "default",f,kp⟩] X.env)).any (·.1.isNone)=false:=by rfl) (hks:(backToKw pos (keywordEach [⟨some "default",f,kp⟩] X.env)).filterMap (·.1)=([Str.ofString "default"]:List Str):=by rfl) :
 PE X (.Call (.Name "max" p) [e] [⟨some "default",f,kp⟩] pos) (tMxD X.K te tf):=by
 intro pins s σ H Q I h
 refine wpAny_Call_Name_kw (ld_blt I hg hm boot_max ?_)
 refine callWith_kw ?_ he1 hp1 ha1 hk1
 refine thn ((pa_cons he pa_nil hs) pos pins s σ H (fun vs H1=>match vs with | [x]=>tf σ H1 fun y H2=>∃ a ns,x=.ref a∧SqL X.K H2 a (ns.map V.int)∧Q (mxD ns y) H2 | _=>False) I h) fun us s1 ⟨vs,H1,I1,r1,q1⟩=>?_
 obtain⟨x,rfl⟩:∃ x,vs=[x]:=by
  rcases vs with _ | ⟨x,_ | ⟨_,_⟩⟩
  ·exact q1.elim
  ·exact⟨x,rfl⟩
  ·exact q1.elim
 refine thn ((pk_cons hf pk_nil) pos pins s1 σ H1 (fun ks H2=>match ks with | [y]=>∃ a ns,x=.ref a∧SqL X.K H2 a (ns.map V.int)∧Q (mxD ns y) H2 | _=>False) I1 q1) fun ws s2 ⟨zs,H2,I2,r2,q2⟩=>?_
 obtain⟨y,rfl⟩:∃ y,zs=[y]:=by
  rcases zs with _ | ⟨x,_ | ⟨_,_⟩⟩
  ·exact q2.elim
  ·exact⟨x,rfl⟩
  ·exact q2.elim
 obtain⟨a,ns,rfl,hq,q2⟩:=q2
 obtain⟨u,rfl,ru⟩:=r1.one
 obtain⟨v,rfl,rv⟩:=r2.one
 cases ru
 rw[hks]
 obtain⟨its,rl,pl,hz⟩:=I2.list hq
 exact call_maxd (I.ok.hd hc) (intsAre_of rl) pl.isList rv fun h' tk u kp ru=>⟨_,H2,I2.kept kp,ru,q2⟩
end
end L2
namespace L2
open PySem PySem.Spec PyProof.Rows
section
variable {X:Cx}
noncomputable def tRng2 (ta:TA):TE:=fun σ H Q=>ta σ H fun vs H1=>∃ i j:Int,vs=[.int i,.int j]∧∀ r,H1 r=none→Q (.ref r) (upd H1 r (.rng i j))
theorem pe_range2 {a b:Expr} {ta:TA} {p pos:Pos} (hg:Gl X "range") (hm:X.mg "range"=none) (ha:PA X [a,b] ta) (hs:starEach [a,b] X.env=[(false,eval a X.env),(false,eval b X.env)]:=by rfl) (hs2:starEach [b] X.env=[(false,eval b X.env)]:=by rfl) :
 PE X (.Call (.Name "range" p) [a,b] [] pos) (tRng2 ta):=by
 intro pins s σ H Q I h
 refine Call_ (ld_blt I hg hm boot_range (PyProof.Rows.callWith_type1 (thn (ha pos pins s σ H _ I h) fun us s1 ⟨vs,H1,I1,r1,q1⟩=>?_) (by rw[hs,hs2]) (by rw[hs2];rfl)))
 obtain⟨i,j,rfl,q⟩:=q1
 obtain⟨u,v,rfl,⟨t,rfl⟩,⟨t',rfl⟩⟩:=r1.two
 refine call_range_2 ⟨.ref s1.heap.objs.size,_,I1.laid (o:=.rng i j) (fun b o e=>Heap.get?_push_of_some _ e) (Nat.le_refl _) ?_,rfl,q _ (I1.hok.fresh (Nat.le_refl _))⟩
 exact⟨_,_,_,Heap.get?_push_size _ rfl⟩
noncomputable def rngL (i:Int) (n:Nat):List Int:=(List.range n).map fun(k:Nat)=>i+(k:Int)
theorem call_list_rng (hc:X.calm=true):CallR X (.type "list") (fun xs H Q=>∃ (r:Addr) (i j:Int),xs=[.ref r]∧H r=some (.rng i j)∧(-(2 ^ 62)≤i∧i<2 ^ 62∧-(2 ^ 62)≤j∧j<2 ^ 62)∧(j - i).toNat≤10000∧∀ l,H l=none→Q (.ref l) (upd H l (.lst ((rngL i (j - i).toNat).map V.int)))):=by
 intro pins s σ H xs us Q I r h
 obtain⟨a,i,j,rfl,hr,⟨b1,b2,b3,b4⟩,hlen,q⟩:=h
 obtain⟨u,rfl,rx⟩:=vals1 r
 cases rx
 obtain⟨t,u,v,e⟩:=(show ObjOk X.prog X.w H s.heap a (.rng i j) from I.hok a _ hr)
 have hn:Builtin.Range.rangeSize i j 1=(((j - i).toNat:Nat):Int):=by rw[rangeSize_one];split <;> omega
 refine call_list_range (I.ok.hd hc) e (small_one b1 b2 b3 b4) hn (Nat.le_trans hlen (by decide)) fun h' tk acc c kp eS hacc=>?_
 refine⟨.ref s.heap.objs.size,_,I.laid (o:=.lst ((rngL i (j - i).toNat).map V.int)) kp (Nat.le_refl _) ?_,rfl,q _ (I.hok.fresh (Nat.le_refl _))⟩
 have hl0:acc.size=(j - i).toNat:=hacc.1
 refine⟨?_,acc.toList,c,?_,by simpa using eS⟩
 ·simp only[rngL,List.length_map,List.length_range]
  exact Nat.le_trans hlen (by decide)
 ·have go:∀ (n:Nat) (l:List Value) (i:Int),l.length=n→(∀ (k:Nat) v,l[k]?=some v→∃ t,v=Value.int (i+(k:Int)) t)→Vals ((rngL i n).map V.int) l:=by
   intro n
   induction n with
   | zero =>
    intro l i hl _
    have:l=[]:=List.length_eq_zero_iff.mp hl
    subst this
    exact .nil
   | succ n ih =>
    intro l i hl hv
    cases l with
    | nil=>cases hl
    | cons v l =>
     have e0:=hv 0 v rfl
     have e1:(rngL i (n+1)).map V.int=V.int (i+((0:Nat):Int)) :: (rngL (i+1) n).map V.int:=by
      unfold rngL
      rw[List.range_succ_eq_map,List.map_cons,List.map_map,List.map_cons,List.map_map,List.map_map]
      congr 1
      apply List.map_congr_left
      intro k _
      simp only[Function.comp]
      congr 1
      omega
     rw[e1]
     refine .cons e0 (ih l (i+1) (by simpa using hl) fun k u hu=>?_)
     obtain⟨t,et⟩:=hv (k+1) u (by simpa using hu)
     exact⟨t,by rw[et];congr 1;omega⟩
  refine go _ _ i (by simpa using hl0) fun k v hv=>?_
  obtain⟨t,et⟩:=hacc.2 k v (by simpa using hv)
  exact⟨t,by rw[et,Int.mul_one]⟩
end
end L2
namespace CW
open PySem L2
end CW
theorem CW.fm0 {α:Type} {p:α→Prop}:∀ q∈([]:List α),p q:=fun _ h=>nomatch h
theorem CW.fm1 {α:Type} {p:α→Prop} {a:α} {l:List α} (h:p a) (t:∀ q∈l,p q):∀ q∈a :: l,p q:=List.forall_mem_cons.mpr ⟨h,t⟩
theorem CW.has_of {names:List (PySem.Str×PySem.NameKind)} {clos:List (PySem.Str×PySem.Addr)} (h:∀ q∈names,q.2=.free→(clos.lookup q.1).isSome=true):∀ x,names.lookup x=some .free→∃ c,clos.lookup x=some c:=fun x e=>Option.isSome_iff_exists.mp (h (x,.free) (PySem.mem_of_lookup e) rfl)
theorem CW.ix_nil {p:Nat→PySem.Str→Prop}:∀ (j:Nat) (x:PySem.Str),([]:List PySem.Str)[j]?=some x→p j x:=fun _ _ h=>nomatch h
theorem CW.ix_cons {a:PySem.Str} {l:List PySem.Str} {p:Nat→PySem.Str→Prop} (h:p 0 a) (t:∀ (j:Nat) (x:PySem.Str),l[j]?=some x→p (j+1) x):∀ (j:Nat) (x:PySem.Str),(a :: l)[j]?=some x→p j x
 | 0,_,e=>by cases e;exact h
 | j+1,x,e=>t j x e
namespace CW
open PySem L2
section
variable {P:Program} {w:World} {K:PySem.W.Frag} {mg:Str→Option Value} {base:Heap}
noncomputable def spXB (K:PySem.W.Frag):Sp:=fun vs H Q E=>∃ e C i a b,vs=[.ref e,.str a,.str b]∧H e=some (XO C e none)∧XCls K C i∧XStore K C "word" ∧
 ∀ dx,H dx=none→dx≠e→Q .non (upd (upd H dx (.xd [("word",.str b)])) e (XO C e (some dx)))
noncomputable def spX0 (nm:Str) (C:Addr):Sp:=fun vs H Q E=>∃ e a,vs=[.ref e,.str a]∧H e=some (XO C e none) ∧
 ∀ dx,H dx=none→dx≠e→Q .non (upd (upd H dx (.xd [("word",.str nm)])) e (XO C e (some dx)))
theorem del_upd {H:Hp} {e dx:Addr} {o o' o'':HO} (he:H e=none) (n:dx≠e):del (upd (upd (upd H e o) dx o') e o'') e=upd H dx o':=by
 funext b
 unfold del upd
 by_cases h1:b=e
 ·subst h1
  rw[if_pos rfl,if_neg (Ne.symm n),he]
 ·rw[if_neg h1,if_neg h1]
  by_cases h2:b=dx
  ·rw[if_pos h2,if_pos h2]
  ·rw[if_neg h2,if_neg h2,if_neg h1]
noncomputable def Rf (E:XK) (C:Addr) (fs:List (Str×V)) (H:Hp):Prop:=∀ dx,H dx=none→E (.ref C) (some dx) (upd H dx (.xd fs))
noncomputable def Rf0 (E:XK) (C:Addr) (nm:Str) (H:Hp):Prop:=Rf E C [("word",.str nm)] H
noncomputable def RfI (E:XK) (C:Addr) (nm:Str) (i:Int) (H:Hp):Prop:=Rf E C [("at",.int i),("word",.str nm)] H
theorem rd0 {E:XK} {C:Addr} {nm a:Str} {H:Hp} (k:Rf0 E C nm H):[V.str a].length≤sizeLine∧∀ e,H e=none→spX0 nm C (.ref e :: [V.str a]) (upd H e (XO C e none)) (fun v H2=>v=.non∧∃ od,H2 e=some (XO C e od)∧E (.ref C) od (del H2 e)) E0 :=
 ⟨by show 1≤sizeLine;decide,fun e he=>⟨e,a,rfl,upd_same,fun dx h1 h2=>⟨rfl,some dx,upd_same,by
  rw[upd_ne h2]at h1
  rw[del_upd he h2]
  exact k dx h1⟩⟩⟩
structure RaisesAs (P:Program) (w:World) (K:PySem.W.Frag) (mg:Str→Option Value) (base:Heap) (x:Str) (C:Addr) (ps:List Str) (sp:Sp):Prop where
 m:mg x=some (.ref C)
 i:∃ fI fd,XCls K C (some (.ref fI))∧PySem.W.isFn K (.ref fI)=true∧FnOk P w K mg base CX0 2 fI fd ps sp∧Binds K fd ps []
theorem ps_raiseR {X:Cx} {E:XK} {C:Addr} {ps:List Str} {sp:Sp} {k:Nat} {x:Str} {e:Expr} {es:List Expr} {t:TA} {np cpos pos:Pos} (RX:Raises X E) (R:RaisesAs X.prog X.w X.K X.mg X.base x C ps sp) (hx:X.ex=[]) (hcalm:X.calm=true)
 (hr:Room k X.A) (hg:Gl X x) (ha:PA X (e :: es) t) (hk:3≤k:=by decide) (hdb:(x == ("__debug__":Str))=false:=by decide)
 (he:starEach (e :: es) X.env=(false,eval e X.env) :: starEach es X.env:=by rfl) (hpl:(backTo cpos (starEach es X.env)).any (·.1)=false:=by rfl):PS X (.Raise (some (.Call (.Name x np) (e :: es) [] cpos)) none pos) (tRaiseI C sp E t):=by
 obtain⟨m,fI,fd,h1,h2,h3,h4⟩:=R
 exact ps_raiseI (hdb:=hdb) (he:=he) (hpl:=hpl) RX hx hcalm h1 h2 h3 (hr.mono hk) h4 hg m ha
noncomputable def xsIn (K:PySem.W.Frag) (C D:Addr) (name:Str):Bool:=(match PySem.W.clsIn K C with
 | some cd=>cd.mro == .ref C :: .ref D :: bmV && cd.hasDict
 | none=>false) && PySem.W.findIn K (.ref C) "__setattr__" == some (some (.builtin "object.__setattr__")) && PySem.W.findIn K (.ref C) name == some none
theorem refuse_tail (D:Addr) (self:Value):PySem.refuseLoop self "__setattr__" (.ref D :: bmV)=pure ():=by
 rw[PySem.refuseLoop_ref]
 rfl
theorem xs_of {C D:Addr} {name:Str} (h:xsIn K C D name=true):XStore K C name:=by
 simp only[xsIn,Bool.and_eq_true,beq_iff_eq]at h
 obtain⟨⟨h1,h2⟩,h3⟩:=h
 split at h1
 ·rename_i cd hc
  rw[Bool.and_eq_true,beq_iff_eq]at h1
  exact⟨⟨cd,.ref D :: bmV,hc,h1.1,refuse_tail D,by rw[List.contains_cons];rfl,h1.2⟩,h2,h3⟩
 ·cases h1
noncomputable def xgIn (K:PySem.W.Frag) (C:Addr) (f:Str):Bool:=PySem.W.findIn K (.ref C) "__getattribute__" == some (some (.builtin "BaseException.__getattribute__")) && PySem.W.findIn K (.ref C) "__getattr__" == some none &&
 PySem.W.subIn K (.ref C) (.type "BaseException") == some true && PySem.W.hasDictIn K C && PySem.W.findIn K (.ref C) f == some none
theorem xg_of {C:Addr} {f:Str} (h:xgIn K C f=true):XGetE K C f:=by
 simp only[xgIn,Bool.and_eq_true,beq_iff_eq]at h
 exact⟨h.1.1.1.1,h.1.1.1.2,h.1.1.2,h.1.2,h.2⟩
structure Errs (K:PySem.W.Frag) (mg:Str→Option Value) where
 row:Addr
 trains:Addr
 sizes:Addr
 many:Addr
 creel:Addr
 number:Addr
 near:Addr
 bare:Addr
 err:Addr
 m_row:mg "BadRow"=some (.ref row)
 m_trains:mg "BadTrains"=some (.ref trains)
 m_sizes:mg "BadSizes"=some (.ref sizes)
 m_many:mg "TooMany"=some (.ref many)
 m_creel:mg "BadCreel"=some (.ref creel)
 m_number:mg "BadNumber"=some (.ref number)
 m_near:mg "TooNear"=some (.ref near)
 m_bare:mg "Bare"=some (.ref bare)
 m_err:mg "CreelError"=some (.ref err)
noncomputable def metIn (K:PySem.W.Frag):List Addr→Bool
 | []=>true
 | a :: l=>PySem.W.exmOne K (.ref a) (.ref a) == some true && l.all (fun b=>PySem.W.exmOne K (.ref b) (.ref a) == some false) && metIn K l
structure Sees (X:Errs K mg):Prop where
 met:metIn K [X.row,X.trains,X.sizes,X.many,X.creel,X.number,X.near,X.bare]=true
 g1:xgIn K X.row "at"=true
 g2:xgIn K X.trains "at"=true
 g3:xgIn K X.sizes "at"=true
 e1:PySem.W.exmOne K (.ref X.row) (.ref X.err)=some true
 e4:PySem.W.exmOne K (.ref X.many) (.ref X.err)=some true
theorem Sees.all {X:Errs K mg} (Z:Sees X):PySem.W.exmOne K (.ref X.row) (.ref X.row)=some true∧PySem.W.exmOne K (.ref X.trains) (.ref X.trains)=some true∧PySem.W.exmOne K (.ref X.sizes) (.ref X.sizes)=some true∧PySem.W.exmOne K (.ref X.many) (.ref X.many)=some true∧PySem.W.exmOne K (.ref X.creel) (.ref X.creel)=some true∧PySem.W.exmOne K (.ref X.number) (.ref X.number)=some true∧PySem.W.exmOne K (.ref X.near) (.ref X.near)=some true∧PySem.W.exmOne K (.ref X.bare) (.ref X.bare)=some true∧PySem.W.exmOne K (.ref X.trains) (.ref X.row)=some false∧PySem.W.exmOne K (.ref X.sizes) (.ref X.row)=some false∧PySem.W.exmOne K (.ref X.sizes) (.ref X.trains)=some false∧PySem.W.exmOne K (.ref X.many) (.ref X.row)=some false∧PySem.W.exmOne K (.ref X.many) (.ref X.trains)=some false∧PySem.W.exmOne K (.ref X.many) (.ref X.sizes)=some false∧PySem.W.exmOne K (.ref X.creel) (.ref X.row)=some false∧PySem.W.exmOne K (.ref X.creel) (.ref X.trains)=some false∧PySem.W.exmOne K (.ref X.creel) (.ref X.sizes)=some false∧PySem.W.exmOne K (.ref X.creel) (.ref X.many)=some false∧PySem.W.exmOne K (.ref X.number) (.ref X.row)=some false∧PySem.W.exmOne K (.ref X.number) (.ref X.trains)=some false∧PySem.W.exmOne K (.ref X.number) (.ref X.sizes)=some false∧PySem.W.exmOne K (.ref X.number) (.ref X.many)=some false∧PySem.W.exmOne K (.ref X.number) (.ref X.creel)=some false∧PySem.W.exmOne K (.ref X.near) (.ref X.row)=some false∧PySem.W.exmOne K (.ref X.near) (.ref X.trains)=some false∧PySem.W.exmOne K (.ref X.near) (.ref X.sizes)=some false∧PySem.W.exmOne K (.ref X.near) (.ref X.many)=some false∧PySem.W.exmOne K (.ref X.near) (.ref X.creel)=some false∧PySem.W.exmOne K (.ref X.near) (.ref X.number)=some false∧PySem.W.exmOne K (.ref X.bare) (.ref X.row)=some false∧PySem.W.exmOne K (.ref X.bare) (.ref X.trains)=some false∧PySem.W.exmOne K (.ref X.bare) (.ref X.sizes)=some false∧PySem.W.exmOne K (.ref X.bare) (.ref X.many)=some false∧PySem.W.exmOne K (.ref X.bare) (.ref X.creel)=some false∧PySem.W.exmOne K (.ref X.bare) (.ref X.number)=some false∧PySem.W.exmOne K (.ref X.bare) (.ref X.near)=some false:=by
 have h:=Z.met
 simp only[metIn,List.all_cons,List.all_nil,Bool.and_eq_true,Bool.and_true,beq_iff_eq]at h
 simp only[h,and_self]
theorem Sees.t0 {X:Errs K mg} (Z:Sees X):PySem.W.exmOne K (.ref X.row) (.ref X.row)=some true:=Z.all.1
theorem Sees.t1 {X:Errs K mg} (Z:Sees X):PySem.W.exmOne K (.ref X.trains) (.ref X.trains)=some true:=Z.all.2.1
theorem Sees.t2 {X:Errs K mg} (Z:Sees X):PySem.W.exmOne K (.ref X.sizes) (.ref X.sizes)=some true:=Z.all.2.2.1
theorem Sees.t3 {X:Errs K mg} (Z:Sees X):PySem.W.exmOne K (.ref X.many) (.ref X.many)=some true:=Z.all.2.2.2.1
theorem Sees.t4 {X:Errs K mg} (Z:Sees X):PySem.W.exmOne K (.ref X.creel) (.ref X.creel)=some true:=Z.all.2.2.2.2.1
theorem Sees.t5 {X:Errs K mg} (Z:Sees X):PySem.W.exmOne K (.ref X.number) (.ref X.number)=some true:=Z.all.2.2.2.2.2.1
theorem Sees.t6 {X:Errs K mg} (Z:Sees X):PySem.W.exmOne K (.ref X.near) (.ref X.near)=some true:=Z.all.2.2.2.2.2.2.1
theorem Sees.t7 {X:Errs K mg} (Z:Sees X):PySem.W.exmOne K (.ref X.bare) (.ref X.bare)=some true:=Z.all.2.2.2.2.2.2.2.1
theorem Sees.f10 {X:Errs K mg} (Z:Sees X):PySem.W.exmOne K (.ref X.trains) (.ref X.row)=some false:=Z.all.2.2.2.2.2.2.2.2.1
theorem Sees.f20 {X:Errs K mg} (Z:Sees X):PySem.W.exmOne K (.ref X.sizes) (.ref X.row)=some false:=Z.all.2.2.2.2.2.2.2.2.2.1
theorem Sees.f21 {X:Errs K mg} (Z:Sees X):PySem.W.exmOne K (.ref X.sizes) (.ref X.trains)=some false:=Z.all.2.2.2.2.2.2.2.2.2.2.1
theorem Sees.f30 {X:Errs K mg} (Z:Sees X):PySem.W.exmOne K (.ref X.many) (.ref X.row)=some false:=Z.all.2.2.2.2.2.2.2.2.2.2.2.1
theorem Sees.f31 {X:Errs K mg} (Z:Sees X):PySem.W.exmOne K (.ref X.many) (.ref X.trains)=some false:=Z.all.2.2.2.2.2.2.2.2.2.2.2.2.1
theorem Sees.f32 {X:Errs K mg} (Z:Sees X):PySem.W.exmOne K (.ref X.many) (.ref X.sizes)=some false:=Z.all.2.2.2.2.2.2.2.2.2.2.2.2.2.1
theorem Sees.f40 {X:Errs K mg} (Z:Sees X):PySem.W.exmOne K (.ref X.creel) (.ref X.row)=some false:=Z.all.2.2.2.2.2.2.2.2.2.2.2.2.2.2.1
theorem Sees.f41 {X:Errs K mg} (Z:Sees X):PySem.W.exmOne K (.ref X.creel) (.ref X.trains)=some false:=Z.all.2.2.2.2.2.2.2.2.2.2.2.2.2.2.2.1
theorem Sees.f42 {X:Errs K mg} (Z:Sees X):PySem.W.exmOne K (.ref X.creel) (.ref X.sizes)=some false:=Z.all.2.2.2.2.2.2.2.2.2.2.2.2.2.2.2.2.1
theorem Sees.f43 {X:Errs K mg} (Z:Sees X):PySem.W.exmOne K (.ref X.creel) (.ref X.many)=some false:=Z.all.2.2.2.2.2.2.2.2.2.2.2.2.2.2.2.2.2.1
theorem Sees.f50 {X:Errs K mg} (Z:Sees X):PySem.W.exmOne K (.ref X.number) (.ref X.row)=some false:=Z.all.2.2.2.2.2.2.2.2.2.2.2.2.2.2.2.2.2.2.1
theorem Sees.f51 {X:Errs K mg} (Z:Sees X):PySem.W.exmOne K (.ref X.number) (.ref X.trains)=some false:=Z.all.2.2.2.2.2.2.2.2.2.2.2.2.2.2.2.2.2.2.2.1
theorem Sees.f52 {X:Errs K mg} (Z:Sees X):PySem.W.exmOne K (.ref X.number) (.ref X.sizes)=some false:=Z.all.2.2.2.2.2.2.2.2.2.2.2.2.2.2.2.2.2.2.2.2.1
theorem Sees.f53 {X:Errs K mg} (Z:Sees X):PySem.W.exmOne K (.ref X.number) (.ref X.many)=some false:=Z.all.2.2.2.2.2.2.2.2.2.2.2.2.2.2.2.2.2.2.2.2.2.1
theorem Sees.f54 {X:Errs K mg} (Z:Sees X):PySem.W.exmOne K (.ref X.number) (.ref X.creel)=some false:=Z.all.2.2.2.2.2.2.2.2.2.2.2.2.2.2.2.2.2.2.2.2.2.2.1
theorem Sees.f60 {X:Errs K mg} (Z:Sees X):PySem.W.exmOne K (.ref X.near) (.ref X.row)=some false:=Z.all.2.2.2.2.2.2.2.2.2.2.2.2.2.2.2.2.2.2.2.2.2.2.2.1
theorem Sees.f61 {X:Errs K mg} (Z:Sees X):PySem.W.exmOne K (.ref X.near) (.ref X.trains)=some false:=Z.all.2.2.2.2.2.2.2.2.2.2.2.2.2.2.2.2.2.2.2.2.2.2.2.2.1
theorem Sees.f62 {X:Errs K mg} (Z:Sees X):PySem.W.exmOne K (.ref X.near) (.ref X.sizes)=some false:=Z.all.2.2.2.2.2.2.2.2.2.2.2.2.2.2.2.2.2.2.2.2.2.2.2.2.2.1
theorem Sees.f63 {X:Errs K mg} (Z:Sees X):PySem.W.exmOne K (.ref X.near) (.ref X.many)=some false:=Z.all.2.2.2.2.2.2.2.2.2.2.2.2.2.2.2.2.2.2.2.2.2.2.2.2.2.2.1
theorem Sees.f64 {X:Errs K mg} (Z:Sees X):PySem.W.exmOne K (.ref X.near) (.ref X.creel)=some false:=Z.all.2.2.2.2.2.2.2.2.2.2.2.2.2.2.2.2.2.2.2.2.2.2.2.2.2.2.2.1
theorem Sees.f65 {X:Errs K mg} (Z:Sees X):PySem.W.exmOne K (.ref X.near) (.ref X.number)=some false:=Z.all.2.2.2.2.2.2.2.2.2.2.2.2.2.2.2.2.2.2.2.2.2.2.2.2.2.2.2.2.1
theorem Sees.f70 {X:Errs K mg} (Z:Sees X):PySem.W.exmOne K (.ref X.bare) (.ref X.row)=some false:=Z.all.2.2.2.2.2.2.2.2.2.2.2.2.2.2.2.2.2.2.2.2.2.2.2.2.2.2.2.2.2.1
theorem Sees.f71 {X:Errs K mg} (Z:Sees X):PySem.W.exmOne K (.ref X.bare) (.ref X.trains)=some false:=Z.all.2.2.2.2.2.2.2.2.2.2.2.2.2.2.2.2.2.2.2.2.2.2.2.2.2.2.2.2.2.2.1
theorem Sees.f72 {X:Errs K mg} (Z:Sees X):PySem.W.exmOne K (.ref X.bare) (.ref X.sizes)=some false:=Z.all.2.2.2.2.2.2.2.2.2.2.2.2.2.2.2.2.2.2.2.2.2.2.2.2.2.2.2.2.2.2.2.1
theorem Sees.f73 {X:Errs K mg} (Z:Sees X):PySem.W.exmOne K (.ref X.bare) (.ref X.many)=some false:=Z.all.2.2.2.2.2.2.2.2.2.2.2.2.2.2.2.2.2.2.2.2.2.2.2.2.2.2.2.2.2.2.2.2.1
theorem Sees.f74 {X:Errs K mg} (Z:Sees X):PySem.W.exmOne K (.ref X.bare) (.ref X.creel)=some false:=Z.all.2.2.2.2.2.2.2.2.2.2.2.2.2.2.2.2.2.2.2.2.2.2.2.2.2.2.2.2.2.2.2.2.2.1
theorem Sees.f75 {X:Errs K mg} (Z:Sees X):PySem.W.exmOne K (.ref X.bare) (.ref X.number)=some false:=Z.all.2.2.2.2.2.2.2.2.2.2.2.2.2.2.2.2.2.2.2.2.2.2.2.2.2.2.2.2.2.2.2.2.2.2.1
theorem Sees.f76 {X:Errs K mg} (Z:Sees X):PySem.W.exmOne K (.ref X.bare) (.ref X.near)=some false:=Z.all.2.2.2.2.2.2.2.2.2.2.2.2.2.2.2.2.2.2.2.2.2.2.2.2.2.2.2.2.2.2.2.2.2.2.2
inductive Why (X:Errs K mg):Value→Option Addr→Hp→Str→Int→Prop where
 | row {H:Hp} {dx:Addr} {fs:List (Str×V)} {i:Int}:H dx=some (.xd fs)→fs.lookup ("at":Str)=some (V.int i)→Why X (.ref X.row) (some dx) H "BadRow" i
 | trains {H:Hp} {dx:Addr} {fs:List (Str×V)} {i:Int}:H dx=some (.xd fs)→fs.lookup ("at":Str)=some (V.int i)→Why X (.ref X.trains) (some dx) H "BadTrains" i
 | sizes {H:Hp} {dx:Addr} {fs:List (Str×V)} {i:Int}:H dx=some (.xd fs)→fs.lookup ("at":Str)=some (V.int i)→Why X (.ref X.sizes) (some dx) H "BadSizes" i
 | many {H:Hp} {od:Option Addr}:Why X (.ref X.many) od H "TooMany" 0
 | creel {H:Hp} {od:Option Addr}:Why X (.ref X.creel) od H "BadCreel" 0
 | number {H:Hp} {od:Option Addr}:Why X (.ref X.number) od H "BadNumber" 0
 | near {H:Hp} {od:Option Addr}:Why X (.ref X.near) od H "TooNear" 0
 | bare {H:Hp} {od:Option Addr}:Why X (.ref X.bare) od H "Bare" 0
noncomputable def Mono (sp:Hp→VK→XK→Prop):Prop:=∀ H Q Q' E E',(∀ v H',Q v H'→Q' v H')→(∀ c o H',E c o H'→E' c o H')→sp H Q E→sp H Q' E'
noncomputable def spWhy (P:Program) (w:World) (base:Heap) (X:Errs K mg) (kL:Nat):SpS:=fun s outer vs H Q E=>∃ f D spL,vs=[.ref f]∧LamOk P w K mg base (CXR P w) kL f D spL∧Mono spL∧(∃ oc od fd sl,(f,(⟨oc,od,.func fd,sl⟩:Obj))∈D)∧Laid D H s.heap (frs outer) ∧
 ∀ t,H t=none→spL (upd H t (.tup [.str "",.int 0])) (fun _ H'=>Q (.ref t) H') fun cls od H'=>∃ nm i,Why X cls od H' nm i∧∀ H'' t',(∀ b u,H' b=some u→H'' b=some u)→H'' t'=some (.tup [.str nm,.int i])→Q (.ref t') H''
theorem sub2 {H:Hp} {e t:Addr} {o o':HO} (he:H e=none) (ht:upd H e o t=none):∀ b u,H b=some u→upd (upd H e o) t o' b=some u:=fun b u q=>by
 have n1:b≠e:=fun z=>by rw[z,he]at q;cases q
 have n2:b≠t:=fun z=>by subst z;rw[upd_ne n1,q]at ht;cases ht
 rw[upd_ne n2,upd_ne n1]
 exact q
theorem sub1 {H:Hp} {t:Addr} {o':HO} (ht:H t=none):∀ b u,H b=some u→upd H t o' b=some u:=fun b u q=>by
 rw[upd_ne (fun z=>by rw[z,ht]at q;cases q)]
 exact q
theorem pe_xatK (K:PySem.W.Frag) {X:Cx} {e:Expr} {ta:TE} {f:Str} {pos:Pos} (hK:X.K=K) (he:PE X e ta) (hb:attributeBase e f X.env (eval e X.env)=eval e X.env):PE X (.Attribute e f pos) (tXatE K ta f):=by
 subst hK
 exact pe_xatE he hb
noncomputable def Good (row:List Int):Prop:=∀ j,1≤j→j<row.length→row.getD (j - 1) 0<row.getD j 0
noncomputable def BadAt (row:List Int) (i:Nat):Prop:=1≤i∧i<row.length∧row.getD i 0≤row.getD (i - 1) 0∧∀ j,1≤j→j<i→row.getD (j - 1) 0<row.getD j 0
inductive WhyRow (row:List Int):Str→Int→Prop where
 | many:60<row.length→WhyRow row "TooMany" 0
 | good:row.length≤60→Good row→WhyRow row "" 0
 | bad {i:Nat}:row.length≤60→BadAt row i→WhyRow row "BadRow" i
noncomputable def WhyAt (P:Program) (w:World) (K:PySem.W.Frag) (mg:Str→Option Value) (base:Heap) (X:Errs K mg) (kL:Nat):Prop :=
 ∃ f fd,FnOkS P w K mg base (CXR P w) (kL+1) f fd ["_law_ask"] (spWhy P w base X kL)∧mg "_law_why"=some (.ref f)∧PySem.W.keepIn K (.ref f)=true∧Binds K fd ["_law_ask"] []
theorem pe_whyL {X:Cx} {Z:Errs X.K X.mg} {params:Arguments} {body:Expr} {scope:Scope} {lpos cpos np:Pos} {c P:Addr} {k j:Nat} {clos:List (Str×Addr)} (NL:List Str) (ix:List Nat) {spL:St→Hp→VK→XK→Prop}
 (Bd:Body X) (W:WhyAt X.prog X.w X.K X.mg X.base Z (k+1)) (hr:Room j X.A) (hg:Gl X "_law_why")
 (hcode:X.env.code=.ref c) (hC:PySem.W.CodeHd X.base c P) (hbm:BMain X.mg X.base) (hdef:defaultsOf params X.env=([],[])) (S:LamSrc X scope clos NL ix)
 (hbind:∀ pm c' ctv,bindArgs (PySem.W.kla_fn "<lambda>" (X.env.qual++"<lambda>") params body scope clos pm (.ref c') ctv) ⟨[],[]⟩=pure [])
 (hlam:∀ (f' c':Addr) (σ':St) (A:Around) (outer:List Env) (s:Shared) (H:Hp) (Q:VK) (E:XK),A.frames=some outer→Room k (A.deeper (PySem.W.envX (X.env.qual++"<lambda>") scope s.heap.objs.size f' (.ref c') clos))→spL σ' H Q E →
  ∃ te,PE (cxLam (CXR X.prog X.w) X.prog X.w X.K X.mg X.base NL (X.env.qual++"<lambda>") scope f' (.ref c') clos A outer s H E) body te∧te σ' H Q) (hj:k+2≤j:=by decide)
 (he:starEach [.Lambda params body scope lpos] X.env=[(false,eval (.Lambda params body scope lpos) X.env)]:=by rfl) :
 PE X (.Call (.Name "_law_why" np) [.Lambda params body scope lpos] [] cpos) (tWhy X P lpos ix (k+1) spL (spWhy X.prog X.w X.base Z (k+1)) E0):=by
 obtain⟨f,fd,F,hm,hk,hb⟩:=W
 exact pe_why (he:=he) Bd F (hr.mono hj) hg hm hk hb passN hcode hC hbm hdef S hbind hlam
structure FunC (K:PySem.W.Frag) (x qual:Str) (st:Stmt) (f:Addr) (fd:FuncData) (c:Addr):Prop where
 ex:∃ (oc:Value) (od:Option Addr) (kV doc pm:Value) (an:Option Addr) (ct:Value) (osl:Array (Option Value)),
  fd=PySem.W.fnOf x qual (defArgs st) (defBody st) (defScope st) .none kV doc pm an (.ref c) ct∧K.lookup f=some ⟨oc,od,.func fd,osl⟩∧PySem.W.codeIn K (.ref c) qual=true
theorem FunC.ok {x qual:Str} {st:Stmt} {f c:Addr} {fd:FuncData} {N ps:List Str} {k:Nat} {sp:Sp} (F:FunC K x qual st f fd c) (S:FnScope N ps (defScope st)) (len:∀ vs H Q E,sp vs H Q E→vs.length=ps.length)
 (hbody:∀ (A:Around) (outer:List Env) (s:Shared) (H:Hp) (vs:List V) (Q:VK) (E:XK),Room k (A.deeper (PyProof.Rows.envOfC qual (defScope st) s.heap.objs.size f (.ref c)))→sp vs H Q E →
  ∃ t,PSs (cxOf CX0 P w K mg base N qual (defScope st) f (.ref c) A outer s H E).nox (defBody st) t∧t { nx:=fun _ H'=>Q .non H',rt:=Q } (start N vs) H):FnOk P w K mg base CX0 (k+1) f fd ps sp:=by
 obtain⟨oc,od,kV,doc,pm,an,ct,osl,rfl,lk,hcd⟩:=F.ex
 refine fn_of lk hcd S len fun A outer s H vs Q E hr hsp=>?_
 obtain⟨t,h,q⟩:=hbody A outer s H vs Q E hr hsp
 exact⟨t,h.nox,q⟩
noncomputable def SameP (P:Addr) (H H':Hp):Prop:=∀ b o,b≠P→H b=some o→H' b=some o
theorem _root_.L2.Same.toP {P:Addr} {H H':Hp} (h:Same H H'):SameP P H H':=fun b o _ e=>h b o e
theorem SameP.trans {P:Addr} {H H1 H2:Hp} (a:SameP P H H1) (b:SameP P H1 H2):SameP P H H2:=fun c o n h=>b c o n (a c o n h)
theorem SameP.tbl {P:Addr} {H:Hp} {o:HO}:SameP P H (upd H P o):=fun b o n h=>by rw[upd_ne n];exact h
theorem tbl_ne {H:Hp} {P b:Addr} {ps:Array Value} {o:HO} (h:H P=some (.tbl ps)) (e:H b=some o) (n:∀ qs,o≠.tbl qs):b≠P:=fun z=>by rw[z,h]at e;cases e;exact n _ rfl
noncomputable def spLawT (K:PySem.W.Frag) (P:Addr):Sp:=fun vs H Q _=>∃ (a:Addr) (ns:List Int),vs=[.ref a]∧H P=some (.tbl #[])∧SqL K H a (ns.map V.int)∧ns.length≤63∧∀ H',Q (.bl true) H'
noncomputable def MonoSp (sp:Sp):Prop:=∀ vs H Q Q' E E',(∀ v H',Q v H'→Q' v H')→(∀ c o H',E c o H'→E' c o H')→sp vs H Q E→sp vs H Q' E'
theorem why_read {Z:Errs K mg} {PT:Addr} {lpos:Pos} {kL:Nat} {spL:Hp→VK→XK→Prop} {H:Hp} {Q:VK} {E:XK} {ps:Array Value} {stack:List Env} (mono:Mono spL)
 (kr:∀ (H':Hp) (c':Value) (ps':Array Value),SameP PT H H'→H' PT=some (.tbl ps')→ps'.toList=ps.toList++[rawInt lpos.line,rawInt lpos.col,c']→∀ t0,H' t0=none →
  spL (upd H' t0 (.tup [.str "",.int 0])) (fun _ H2=>Q (.ref t0) H2) fun cls od H2=>∃ nm i,Why Z cls od H2 nm i∧∀ H3 t',Same H2 H3→H3 t'=some (.tup [.str nm,.int i])→Q (.ref t') H3) :
 ∀ (c' f:Addr) (s1:Shared) (D:List (Addr×Obj)),LamOk P w K mg base (CXR P w) kL f D spL→(∃ oc od fd sl,(f,(⟨oc,od,.func fd,sl⟩:Obj))∈D)→Laid D (upd H PT (.tbl (ps++#[rawInt lpos.line,rawInt lpos.col,.ref c']))) s1.heap (frs stack) →
  spWhy P w base Z kL s1 stack [.ref f] (upd H PT (.tbl (ps++#[rawInt lpos.line,rawInt lpos.col,.ref c']))) Q E :=
 fun c' fl s1 D hL hfo hLd=>⟨fl,D,_,rfl,hL,mono,hfo,hLd,fun t0 ht0=>kr _ (.ref c') _ SameP.tbl upd_same (by simp) t0 ht0⟩
noncomputable def WhyE (Z:Errs K mg) (Q:VK):XK:=fun cls od H2=>∃ nm i,Why Z cls od H2 nm i∧∀ H3 t',Same H2 H3→H3 t'=some (.tup [.str nm,.int i])→Q (.ref t') H3
theorem whyE_many {Z:Errs K mg} {Q:VK} {H:Hp} (k:∀ tv H3,Same H H3→H3 tv=some (.tup [.str "TooMany",.int 0])→Q (.ref tv) H3):Rf0 (WhyE Z Q) Z.many "TooMany" H:=fun dx hdx=>⟨_,_,.many,fun H3 t' g3 h3=>k t' H3 ((Same.upd hdx).trans g3) h3⟩
theorem whyE_creel {Z:Errs K mg} {Q:VK} {H:Hp} (k:∀ tv H3,Same H H3→H3 tv=some (.tup [.str "BadCreel",.int 0])→Q (.ref tv) H3):Rf0 (WhyE Z Q) Z.creel "BadCreel" H:=fun dx hdx=>⟨_,_,.creel,fun H3 t' g3 h3=>k t' H3 ((Same.upd hdx).trans g3) h3⟩
theorem whyE_number {Z:Errs K mg} {Q:VK} {H:Hp} (k:∀ tv H3,Same H H3→H3 tv=some (.tup [.str "BadNumber",.int 0])→Q (.ref tv) H3):Rf0 (WhyE Z Q) Z.number "BadNumber" H:=fun dx hdx=>⟨_,_,.number,fun H3 t' g3 h3=>k t' H3 ((Same.upd hdx).trans g3) h3⟩
theorem whyE_near {Z:Errs K mg} {Q:VK} {H:Hp} (k:∀ tv H3,Same H H3→H3 tv=some (.tup [.str "TooNear",.int 0])→Q (.ref tv) H3):Rf0 (WhyE Z Q) Z.near "TooNear" H:=fun dx hdx=>⟨_,_,.near,fun H3 t' g3 h3=>k t' H3 ((Same.upd hdx).trans g3) h3⟩
theorem whyE_bare {Z:Errs K mg} {Q:VK} {H:Hp} (k:∀ tv H3,Same H H3→H3 tv=some (.tup [.str "Bare",.int 0])→Q (.ref tv) H3):Rf0 (WhyE Z Q) Z.bare "Bare" H:=fun dx hdx=>⟨_,_,.bare,fun H3 t' g3 h3=>k t' H3 ((Same.upd hdx).trans g3) h3⟩
theorem whyE_row {Z:Errs K mg} {Q:VK} {H:Hp} {i:Int} (k:∀ tv H3,Same H H3→H3 tv=some (.tup [.str "BadRow",.int i])→Q (.ref tv) H3):RfI (WhyE Z Q) Z.row "BadRow" i H:=fun dx hdx=>⟨_,_,.row upd_same rfl,fun H3 t' g3 h3=>k t' H3 ((Same.upd hdx).trans g3) h3⟩
theorem whyE_trains {Z:Errs K mg} {Q:VK} {H:Hp} {i:Int} (k:∀ tv H3,Same H H3→H3 tv=some (.tup [.str "BadTrains",.int i])→Q (.ref tv) H3):RfI (WhyE Z Q) Z.trains "BadTrains" i H:=fun dx hdx=>⟨_,_,.trains upd_same rfl,fun H3 t' g3 h3=>k t' H3 ((Same.upd hdx).trans g3) h3⟩
theorem whyE_sizes {Z:Errs K mg} {Q:VK} {H:Hp} {i:Int} (k:∀ tv H3,Same H H3→H3 tv=some (.tup [.str "BadSizes",.int i])→Q (.ref tv) H3):RfI (WhyE Z Q) Z.sizes "BadSizes" i H:=fun dx hdx=>⟨_,_,.sizes upd_same rfl,fun H3 t' g3 h3=>k t' H3 ((Same.upd hdx).trans g3) h3⟩
theorem why_got {Z:Errs K mg} {PT:Addr} {lpos:Pos} {kL:Nat} {spL:Hp→VK→XK→Prop} {H:Hp} {Q:VK} {E:XK} {ps:Array Value} {stack:List Env} (nm:Str) (i:Int) (mono:Mono spL)
 (hsp:∀ (H':Hp) (t0:Addr) (Q':VK),SameP PT H H'→H' t0=some (.tup [.str "",.int 0])→(∀ tv H3,Same H' H3→H3 tv=some (.tup [.str nm,.int i])→Q' (.ref tv) H3)→spL H' (fun _ H2=>Q' (.ref t0) H2) (WhyE Z Q'))
 (kk:∀ (tv:Addr) (H3:Hp) (c':Value) (ps':Array Value),SameP PT H H3→H3 PT=some (.tbl ps')→ps'.toList=ps.toList++[rawInt lpos.line,rawInt lpos.col,c']→H3 tv=some (.tup [.str nm,.int i])→Q (.ref tv) H3) :
 ∀ (c' f:Addr) (s1:Shared) (D:List (Addr×Obj)),LamOk P w K mg base (CXR P w) kL f D spL→(∃ oc od fd sl,(f,(⟨oc,od,.func fd,sl⟩:Obj))∈D)→Laid D (upd H PT (.tbl (ps++#[rawInt lpos.line,rawInt lpos.col,.ref c']))) s1.heap (frs stack) →
  spWhy P w base Z kL s1 stack [.ref f] (upd H PT (.tbl (ps++#[rawInt lpos.line,rawInt lpos.col,.ref c']))) Q E :=
 why_read mono fun H' c' ps' g hP hps t0 ht0=>by
  have g2:=Same.upd (o:=.tup [.str "",.int 0]) ht0
  exact hsp (upd H' t0 (.tup [.str "",.int 0])) t0 Q (g.trans g2.toP) upd_same fun tv H3 g3 e=>kk tv H3 c' ps' ((g.trans g2.toP).trans g3.toP) (g3 _ _ (g2 _ _ hP)) hps e
theorem WhyRow.ok {row:List Int} {nm:Str} {i:Int} (W:WhyRow row nm i):PyData.strOk nm=true:=by
 cases W <;> decide +kernel
theorem WhyRow.eqv {row:List Int} {nm:Str} {i:Int} (W:WhyRow row nm i):PyData.eqv (.str nm) (.str "")=decide (nm=""):=by
 cases W <;> decide +kernel
end
end CW
namespace L2
open PySem PySem.Spec PyProof.Rows
theorem boot_sum:bootBuiltins "sum"=some (.builtin "sum"):=by decide +kernel
theorem boot_enumerate:bootBuiltins "enumerate"=some (.type "enumerate"):=by decide +kernel
theorem ints_are:∀ {ns:List Int} {us:List Value},Vals (ns.map V.int) us→IntsAre us ns
 | [],_,.nil=>.nil
 | _ :: _,_,.cons ⟨_,e⟩ t=>by subst e;exact .cons _ _ (ints_are t)
section
variable {X:Cx}
theorem call_sum (hc:X.calm=true):CallR X (.builtin "sum") (fun xs H Q=>∃ (p:Addr) (ns:List Int),xs=[.ref p]∧H p=some (.lst (ns.map V.int))∧Q (.int ns.sum) H):=by
 intro pins s σ H xs us Q I r h
 obtain⟨p,ns,rfl,hp,q⟩:=h
 obtain⟨u,rfl,rx⟩:=vals1 r
 cases rx
 obtain⟨its,rv,pl,hz⟩:=I.list (SqL.of hp)
 have hl:=pl.isList
 have hi:=ints_are rv
 obtain⟨xs,hx⟩:=hi.allInts.items
 have hl':s.heap.IsList p (intItems xs):=hx ▸ hl
 refine sum_intListG (I.ok.hd hc) hl' fun h' tk t' hk=>?_
 have e1:ns=xs.toList.map (·.1):=by
  rw[← nums_intItems,← hx]
  exact(show numsOf its.toArray.toList=ns from hi.numsOf).symm
 have e2:preSum (numAt xs) xs.size=ns.sum:=by
  rw[preSum_eq,List.take_of_length_le (by simp),e1]
 rw[e2]
 exact⟨.int _,H,I.kept hk,⟨_,rfl⟩,q⟩
theorem Inv.turnedF {h':Heap} {pins:List (Addr×Obj)} {σ:St} {H:Hp} {s:Shared} {t':Nat} {fp:List Addr} (I:Inv X pins σ H s) (k:∀ b o,b∉fp→s.heap.get? b=some o→h'.get? b=some o) (hf:∀ b∈fp,FpOk X pins H b):Inv X pins σ H { s with heap:=h',toks:=t' }:=by
 have nit:∀ b u,H b=some u→b∉fp:=fun b u e z=>by rw[(hf b z).1]at e;cases e
 refine I.step (g':=s.gens) (d':=s.drawn) (ch:=fp) (fun b hb=>?_) (fun b o _ _ hc e _=>k b o hc e) (fun b o _ _ hc e _=>⟨o.slots,k b o hc e⟩) (fun _ _ _ _ n=>n)
  (fun b o hc e=>⟨o,k b o hc e⟩) (fun _ _ e=>e) (fun _ _ _ e=>e) (fun b ps e=>⟨#[],by rw[e];simp⟩) (fun m hm=>?_) (fun b u e=>?_) I.bare
 ·obtain⟨_,h1,_,h3,h4,h5⟩:=hf b hb
  exact⟨h3,h1,h4,h5⟩
 ·obtain⟨o,es,ep,ho,r⟩:=hm
  exact⟨o,es,ep,k _ o (fun z=>(hf _ z).2.1 rfl) ho,r⟩
 ·refine(I.hok b u e).stay (fun c v hc q=>k c v ?_ q) (fun _ q=>q) fun _ _ q=>q
  rcases hc with z | z
  ·rw[z];exact nit b u e
  ·exact nit c _ z
theorem Inv.turnLaid {h':Heap} {pins:List (Addr×Obj)} {σ:St} {H:Hp} {s:Shared} {t':Nat} {fp:List Addr} {a:Addr} {o:HO} (I:Inv X pins σ H s) (k:∀ b o,b∉fp→s.heap.get? b=some o→h'.get? b=some o) (hf:∀ b∈fp,FpOk X pins H b) (hp:s.heap.objs.size≤a) (new:ObjOk X.prog X.w (upd H a o) h' a o) :
 Inv X pins σ (upd H a o) { s with heap:=h',toks:=t' }:=by
 have hn:H a=none:=I.hok.fresh hp
 have nit:∀ b u,H b=some u→b∉fp:=fun b u e z=>by rw[(hf b z).1]at e;cases e
 have ne:∀ b u,H b=some u→b≠a:=fun b u e=>ne_of_none e hn
 refine I.step (g':=s.gens) (d':=s.drawn) (ch:=fp) (fun b hb=>?_) (fun b o _ _ hc e _=>k b o hc e) (fun b o _ _ hc e _=>⟨o.slots,k b o hc e⟩) (fun b ob _ e n=>?_)
  (fun b o hc e=>⟨o,k b o hc e⟩) (fun b _ e=>by rw[upd_ne (ne b _ e)];exact e) (fun b _ _ e=>by rw[upd_ne (ne b _ e)];exact e) (fun b ps e=>⟨#[],by rw[upd_ne (ne b _ e),e];simp⟩) (fun m hm=>?_) (fun b u e=>?_) I.bare
 ·obtain⟨_,h1,_,h3,h4,h5⟩:=hf b hb
  exact⟨h3,h1,h4,h5⟩
 ·have:b≠a:=Nat.ne_of_lt (Nat.lt_of_lt_of_le (Heap.lt_size e) hp)
  rw[upd_ne this];exact n
 ·obtain⟨o,es,ep,ho,r⟩:=hm
  exact⟨o,es,ep,k _ o (fun z=>(hf _ z).2.1 rfl) ho,r⟩
 ·by_cases hb:b=a
  ·subst hb
   rw[upd_same]at e
   cases e
   exact new
  ·rw[upd_ne hb]at e
   refine(I.hok b u e).stay (fun c v hc q=>k c v ?_ q) (fun c q=>by rw[upd_ne (ne c _ q)];exact q) fun c _ q=>by rw[upd_ne (ne c _ q)];exact q
   rcases hc with z | z
   ·rw[z];exact nit b u e
   ·exact nit c _ z
end
noncomputable def Ite (K:PySem.W.Frag) (a:Addr):It :=
 ⟨fun i H=>∃ xs x,SqL K H a xs∧xs[i]?=some x,fun i H v H'=>∃ t x,v=.ref t∧H t=none∧(∀ xs,SqL K H a xs→xs[i]?=some x)∧H'=upd H t (.tup [.int i,x]),fun i H=>∃ xs,SqL K H a xs∧xs.length≤i⟩
theorem turn_enum {P:Program} {w:World} {K:PySem.W.Frag} {elts:List Expr} {x1} {pos:Pos} (a e it:Addr) (hne:e≠it):Turn P w K (.Tuple elts x1 pos) (Ite K a) [e,it] e (fun i h=>(∃ old,IsEnum h e it (i:Nat) old)∧h.IsListIter it a i) where
 mem:=by simp
 obj:=fun i h st b hb=>by
  obtain⟨⟨old,he⟩,o,ho,c,d⟩:=st
  rcases List.mem_cons.mp hb with z | z
  ·subst z;exact⟨_,he,fun v z=>by have z':Data.fields _=Data.cell v:=z;cases z'⟩
  ·have z:b=it:=by simpa using z
   subst z;exact⟨o,ho,fun v z=>by rw[d]at z;cases z⟩
 keep:=fun i h h' st k=>⟨let ⟨old,he⟩:=st.1;⟨old,k e (by simp) _ he⟩,st.2.at fun o e=>k it (by simp) o e⟩
 item:=by
  intro X hP hw hK hc i pins s σ H E I hf st hg
  subst hP hw hK
  obtain⟨xs,x,hq,hx⟩:=hg
  obtain⟨its,rv,p,hz⟩:=I.list hq
  obtain⟨u,hu,ru⟩:=rv.get hx
  obtain⟨⟨old,he⟩,hit⟩:=st
  have le:e<s.heap.objs.size:=Heap.lt_size he
  have li:it<s.heap.objs.size:=by obtain⟨_,z,_⟩:=hit;exact Heap.lt_size z
  refine wpAny_pyNext_enum_item he hit p.isList (x:=u) (by simpa using hu) hne fun h' e1 e2 e3 e4 kp=>?_
  refine⟨_,rfl,?_⟩
  have hn:H s.heap.objs.size=none:=I.hok.fresh (Nat.le_refl _)
  have k1:∀ b o,b∉[e,it]→s.heap.get? b=some o→h'.get? b=some o:=fun b o hb q=>kp b o (fun z=>hb (by simp[z])) (fun z=>hb (by simp[z])) q
  have tupOk:∀ h2:Heap,h2.get? s.heap.objs.size=some { cls:=.type "tuple",data:=.seq #[.int i s.toks,u] }→ObjOk X.prog X.w (upd H s.heap.objs.size (.tup [.int i,x])) h2 s.heap.objs.size (.tup [.int i,x]):=fun h2 q =>
   ⟨by show 2≤sizeLine;decide,[.int i s.toks,u],.cons ⟨_,rfl⟩ (.cons ru .nil),_,q,rfl,_,rfl⟩
  refine wpAny_letOwnedTupleGo_enum (i:=((i:Nat):Int)+1) e1 fun h2 f1 sb=>?_
  have k2:∀ b o,b∉[e,it]→s.heap.get? b=some o→h2.get? b=some o:=fun b o hb q=>sb.extBut b o (fun z=>hb (by simp[z])) (k1 b o hb q)
  have n1:s.heap.objs.size≠e:=Nat.ne_of_gt le
  refine⟨.ref s.heap.objs.size,_,I.turnLaid (t':=s.toks+1) (h':=h2) (o:=.tup [.int i,x]) k2 hf (Nat.le_refl _) (tupOk _ (sb.extBut _ _ n1 e3)),rfl,⟨_,x,rfl,hn,fun ys hy=>by rw[I.list_inj hy hq];exact hx,rfl⟩,⟨⟨u,?_⟩,?_⟩,fun b hb=>?_⟩
  ·have:(((i+1:Nat):Int))=(i:Int)+1:=by omega
   rw[this];exact f1
  ·exact e2.extBut sb.extBut (Ne.symm hne)
  ·have hb':b≠s.heap.objs.size:=by
    rcases List.mem_cons.mp hb with z | z
    ·subst z;exact Nat.ne_of_lt le
    ·have z:b=it:=by simpa using z
     subst z;exact Nat.ne_of_lt li
   rw[upd_ne hb'];exact(hf b hb).1
 done:=by
  intro X hP hw hK hc i pins s σ H E I hf st hg
  subst hP hw hK
  obtain⟨xs,hq,hx⟩:=hg
  obtain⟨its,rv,p,hz⟩:=I.list hq
  have hl:=rv.length
  obtain⟨⟨old,he⟩,hit⟩:=st
  exact wpAny_pyNext_enum_end (I.ok.hd hc) he hit p.isList (by simp;omega) fun h' eb=>⟨rfl,I.turnedF (fp:=[e,it]) (t':=s.toks) (fun b o hb e=>eb b o (fun z=>hb (by simp[z])) e) hf⟩
 self:=fun _ _ _ _ _ st h=>let ⟨_,he⟩:=st.1;wpAny_pyIter_enum he h
noncomputable def iEnum (K:PySem.W.Frag) (ta:TA):TI:=fun σ H R=>ta σ H fun vs H1=>∃ a xs,vs=[.ref a]∧SqL K H1 a xs∧R (Ite K a) H1
theorem pi_enum {X:Cx} {elts:List Expr} {x1} {tpos:Pos} {a:Expr} {ta:TA} {p pos:Pos} (hg:Gl X "enumerate") (hm:X.mg "enumerate"=none) (ha:PA X [a] ta) (hs:starEach [a] X.env=[(false,eval a X.env)]:=by rfl):PI X (.Tuple elts x1 tpos) (.Call (.Name "enumerate" p) [a] [] pos) (iEnum X.K ta):=by
 intro pins s σ H R I h
 refine Call_ (ld_blt I hg hm boot_enumerate (PyProof.Rows.callWith_type1 (thn (ha pos pins s σ H _ I h) fun us s1 ⟨vs,H1,I1,r1,q1⟩=>?_) hs rfl))
 obtain⟨a,xs,e,hq,q⟩:=q1
 subst e
 obtain⟨u,rfl,rx⟩:=vals1 r1
 cases rx
 obtain⟨its,rv,pl,hz⟩:=I1.list hq
 refine call_enumerate_list pl.isList fun h' g1 g2 g3 kp=>?_
 have I2:Inv X pins σ H1 { s1 with heap:=h' }:=I1.kept (t':=s1.toks) kp
 refine wpAny_pyIter_enum g1 ?_
 refine⟨s1.heap.objs.size+1,[s1.heap.objs.size+1,s1.heap.objs.size],_,_,H1,rfl,I2,turn_enum a _ _ (Nat.ne_of_gt (Nat.lt_succ_self _)),⟨⟨_,g1⟩,g2⟩,fun b hb=>?_,q⟩
 have e:s1.heap.objs.size≤b:=by
  rcases List.mem_cons.mp hb with z | z
  ·rw[z];exact Nat.le_succ _
  ·have z:b=s1.heap.objs.size:=by simpa using z
   rw[z];exact Nat.le_refl _
 exact I1.fpOk e (I1.hok.fresh e)
theorem for_enum {K:PySem.W.Frag} {a:Addr} {xs:List V} {g:TG} {tb:TS} {D:Ends} {σ:St} {H:Hp} (Pv:Nat→St→Hp→Prop) (h0:Pv 0 σ H) (hl:∀ i σ H,i≤xs.length→Pv i σ H→SqL K H a xs)
 (hs:∀ i x σ H t,xs[i]?=some x→Pv i σ H→H t=none→g (.ref t) σ (upd H t (.tup [.int i,x])) fun σ2 H2=>tb { D with nx:=Pv (i+1),ct:=Pv (i+1),bk:=D.nx } σ2 H2) (hd:∀ σ H,Pv xs.length σ H→D.nx σ H) :
 ∃ W:Nat→Nat→St→Hp→Prop,(∃ m,W 0 m σ H)∧∀ i m σ H,W i m σ H →
  ((Ite K a).stop i H∧D.nx σ H)∨((Ite K a).go i H∧∃ N:St→Hp→Prop,(∀ σ' H',N σ' H'→∃ m',m'<m∧W (i+1) m' σ' H')∧∀ x H',(Ite K a).yld i H x H'→g x σ H' fun σ2 H2=>tb { D with nx:=N,ct:=N,bk:=D.nx } σ2 H2):=by
 refine⟨fun i m σ H=>m=xs.length - i∧i≤xs.length∧Pv i σ H,⟨xs.length,by simp,Nat.zero_le _,h0⟩,?_⟩
 rintro i m σ H ⟨rfl,hi,p⟩
 have q:=hl i σ H hi p
 by_cases hlt:i<xs.length
 ·refine .inr ⟨⟨xs,xs[i],q,by simp[hlt]⟩,Pv (i+1),fun σ' H' p'=>⟨xs.length - (i+1),by omega,rfl,hlt,p'⟩,fun x H' y=>?_⟩
  obtain⟨t,x,rfl,hn,y,rfl⟩:=y
  exact hs i x σ _ t (y xs q) p hn
 ·have e:i=xs.length:=by omega
  subst e
  exact .inl ⟨⟨xs,q,Nat.le_refl _⟩,hd σ H p⟩
end L2
namespace CW
open PySem L2
noncomputable def LP (H:Hp) (a:Addr) (ps:List (Int×Int)):Prop:=∃ us,H a=some (.lst us)∧Prs H us ps
theorem LP.mono {H H':Hp} (h:Same H H') {a:Addr} {ps:List (Int×Int)} (r:LP H a ps):LP H' a ps:=let ⟨us,e,p⟩:=r;⟨us,h _ _ e,p.mono (TupS.same h)⟩
theorem Prs.len {H:Hp} {us:List V} {ps:List (Int×Int)} (h:Prs H us ps):us.length=ps.length:=Paired.length h
theorem LP.den {H:Hp} {a:Addr} {ps:List (Int×Int)} (h:LP H a ps):Den H (.ref a) (.list (ps.map pD)):=let ⟨_,e,p⟩:=h;.lst e p.dens
noncomputable def szs (ps:List (Int×Int)):List Int:=ps.map (·.1)
noncomputable def lesI (j:Int) (p:Int×Int):Int:=if p.1<j then p.1 else j
noncomputable def lesM (ps:List (Int×Int)) (j:Int):Int:=(ps.map (lesI j)).sum
structure Trn (ps:List (Int×Int)):Prop where
 pos:∀ p∈ps,1≤p.1
 few:(szs ps).sum≤60
theorem len_le_sum:∀ {ps:List (Int×Int)},(∀ p∈ps,1≤p.1)→(ps.length:Int)≤(szs ps).sum
 | [],_=>by simp[szs]
 | p :: r,h=>by
  have h1:=h p (List.mem_cons_self)
  have h2:=len_le_sum (ps:=r) fun q hq=>h q (List.mem_cons_of_mem _ hq)
  simp only[szs,List.map_cons,List.sum_cons,List.length_cons]at h2 ⊢
  omega
theorem Trn.len {ps:List (Int×Int)} (h:Trn ps):ps.length≤60:=by
 have h1:=len_le_sum h.pos
 have:=h.few
 omega
inductive spLookT (vs:List V) (H:Hp) (Q:VK) (E_:XK):Prop
 | mk (a:Addr) (ps:List (Int×Int)) (h0_:vs=[.ref a]) (h1_:LP H a ps) (h2_:Trn ps) (h3_:∀ H',Same H H'→Q .non H'):spLookT vs H Q E_
inductive spLesser (vs:List V) (H:Hp) (Q:VK) (E_:XK):Prop
 | mk (a:Addr) (ps:List (Int×Int)) (j:Int) (h0_:vs=[.ref a,.int j]) (h1_:LP H a ps) (h2_:ps.length≤200) (h3_:∀ H',Same H H'→Q (.int (lesM ps j)) H'):spLesser vs H Q E_
theorem paired_at {H:Hp} {us:List V} {ps:List (Int×Int)} (h:Prs H us ps) {i:Nat} {x:V} (e:us[i]?=some x):∃ p t,ps[i]?=some p∧x=.ref t∧H t=some (.tup [.int p.1,.int p.2]):=by
 obtain⟨p,hp,t,e1,e2⟩:=paired_get h e
 exact⟨p,t,hp,e1,e2⟩
theorem snoc_pairs {ps:List (Int×Int)} {i:Nat} {p:Int×Int} (f:Int×Int→Int) (h:ps[i]?=some p):((ps.take i).map f).map V.int++[V.int (f p)]=((ps.take (i+1)).map f).map V.int:=by
 rw[List.take_succ,h]
 simp
end CW
namespace CW
open PySem L2
noncomputable def rkP (p q:Int×Int):Prop:=p.2 - p.1≤q.2 - q.1∧p.2 - p.1+1≤q.1 - p.2 - 1
noncomputable def Rnk (ps:List (Int×Int)):Prop:=∀ (j:Nat) (p q:Int×Int),ps[j]?=some p→ps[j+1]?=some q→rkP p q
theorem Rnk.nil:Rnk (runsM []):=fun j p q h=>by simp[runsM]at h
end CW
namespace L2
open PySem PySem.Spec PyProof.Rows
section
variable {X:Cx} {tg:Expr}
end
end L2
namespace CW
open PySem L2
end CW
namespace CW
open PySem L2
inductive Ref where
 | ok | many | row (i:Int) | trains (i:Int) | sizes (i:Int) | creel | number | near | bare
noncomputable def Ref.nm:Ref→Str
 | .ok=>"" | .many=>"TooMany" | .row _=>"BadRow" | .trains _=>"BadTrains" | .sizes _=>"BadSizes" | .creel=>"BadCreel" | .number=>"BadNumber" | .near=>"TooNear" | .bare=>"Bare"
noncomputable def Ref.at:Ref→Int
 | .row i=>i | .trains i=>i | .sizes i=>i | _=>0
theorem Ref.strOk (r:Ref):PyData.strOk r.nm=true:=by cases r <;> simp only[Ref.nm] <;> decide +kernel
section
variable {P:Program} {w:World} {K:PySem.W.Frag} {mg:Str→Option Value} {base:Heap}
noncomputable def Ref.go (X:Errs K mg) (E:XK) (H:Hp):Ref→Prop
 | .ok=>False
 | .many=>Rf0 E X.many "TooMany" H
 | .row i=>RfI E X.row "BadRow" i H
 | .trains i=>RfI E X.trains "BadTrains" i H
 | .sizes i=>RfI E X.sizes "BadSizes" i H
 | .creel=>Rf0 E X.creel "BadCreel" H
 | .number=>Rf0 E X.number "BadNumber" H
 | .near=>Rf0 E X.near "TooNear" H
 | .bare=>Rf0 E X.bare "Bare" H
theorem go_why {Z:Errs K mg} {Q:VK} {H:Hp} {r:Ref} (h:r≠.ok) (k:∀ tv H3,Same H H3→H3 tv=some (.tup [.str r.nm,.int r.at])→Q (.ref tv) H3):r.go Z (WhyE Z Q) H:=by
 cases r with
 | ok=>exact h rfl
 | many=>exact whyE_many k
 | row i=>exact whyE_row k
 | trains i=>exact whyE_trains k
 | sizes i=>exact whyE_sizes k
 | creel=>exact whyE_creel k
 | number=>exact whyE_number k
 | near=>exact whyE_near k
 | bare=>exact whyE_bare k
theorem go_mono {Z:Errs K mg} {E E':XK} {H:Hp} {r:Ref} (hE:∀ c o H',E c o H'→E' c o H') (h:r.go Z E H):r.go Z E' H:=by
 cases r <;> first | exact h | exact fun dx hd=>hE _ _ _ (h dx hd)
noncomputable def spOr (a b:Sp):Sp:=fun vs H Q E=>a vs H Q E∨b vs H Q E
theorem fn_or {j k:Nat} {f:Addr} {fd:FuncData} {ps:List Str} {a b:Sp} (F:FnOk P w K mg base CX0 j f fd ps a) (G:FnOk P w K mg base (CXR P w) k f fd ps b) (h:j≤k:=by decide):FnOk P w K mg base (CXR P w) k f fd ps (spOr a b) where
 len:=fun vs H Q E h=>h.elim (F.len _ _ _ _) (G.len _ _ _ _)
 run:=fun A outer s H args us vs Q E hr e0 hb r hsp=>by
  rcases hsp with q | q
  ·refine codeAny_mono (F.run A outer s H args us vs Q E (hr.mono h) e0 hb r q) fun r s' z=>?_
   cases r with
   | error e=>exact z.elim
   | ok fl=>cases fl <;> exact z
  ·exact G.run A outer s H args us vs Q E hr e0 hb r q
noncomputable def spLookCreelX (X:Errs K mg):Sp:=fun vs H Q E=>∃ c:Int,vs=[.int c]∧(1≤c→Q .non H)∧(c<1→Rf0 E X.creel "BadCreel" H)
theorem monoRetL {H:Hp} {Q Q':VK} {l:List Int} (hQ:∀ v H',Q v H'→Q' v H') (h:RetL H Q l):RetL H Q' l:=fun a H' h1 h2 h3=>hQ _ _ (h a H' h1 h2 h3)
section
variable {X:Errs K mg} {row:List Int} {c p:Int} {H:Hp} {Q:VK} {lh t0:Addr}
end
theorem triples_snoc {ps ps':Array Value} {a b:Int} {c:Value} (h:TriplesOk ps.toList) (e:ps'.toList=ps.toList++[rawInt a,rawInt b,c]):TriplesOk ps'.toList:=by
 rw[e]
 generalize ps.toList=l at h
 clear e ps ps'
 match l,h with
 | [],_=>exact True.intro
 | .int _ _ :: .int _ _ :: _ :: rest,h=>exact triples_app rest h
where triples_app {a b:Int} {c:Value}:∀ (l:List Value),TriplesOk l→TriplesOk (l++[rawInt a,rawInt b,c])
 | [],_=>True.intro
 | .int _ _ :: .int _ _ :: _ :: rest,h=>triples_app rest h
theorem upd_keep {H:Hp} {l b:Addr} {o u v:HO} (hl:H l=some u) (hb:H b=some v) (n:u≠v):upd H l o b=some v:=by
 rw[upd_ne (fun z=>by rw[z,hl]at hb;exact n (Option.some.inj hb))]
 exact hb
end
end CW
namespace L2
open PySem PySem.W PySem.Spec PyProof.Rows
section
variable {O:KeyOrd} {key:Nat→O.α} {n:Nat} {cmp:Nat→Nat→(Bool→Shared→Prop)→Shared→Prop} {s:Shared}
noncomputable def Ans (O:KeyOrd) (key:Nat→O.α) (n:Nat) (cmp:Nat→Nat→(Bool→Shared→Prop)→Shared→Prop) (s:Shared):Prop:=∀ i j C,i<n→j<n→C (O.blt (key i) (key j)) s→cmp i j C s
noncomputable def KP (O:KeyOrd) (key:Nat→O.α) (p:Array Nat) (i:Nat):O.α:=key (p.getD i 0)
structure InR (n:Nat) (p:Array Nat):Prop where
 pos:0<n
 size:p.size=n
 mem:∀ x∈p,x<n
theorem InR.at {p:Array Nat} (h:InR n p) (i:Nat):p.getD i 0<n:=by
 unfold Array.getD
 split
 ·exact h.mem _ (Array.getElem_mem _)
 ·exact h.pos
theorem InR.perm {p q:Array Nat} (h:InR n p) (e:q.Perm p):InR n q:=⟨h.pos,e.size_eq.trans h.size,fun x hx=>h.mem x (e.mem_iff.mp hx)⟩
theorem getD_of {p q:Array Nat} {i j:Nat} (h:p[i]?=q[j]?):p.getD i 0=q.getD j 0:=by
 rw[Array.getD_eq_getD_getElem?,Array.getD_eq_getD_getElem?,h]
theorem KP_rev {p:Array Nat} {i j:Nat} (hj:j≤p.size) (k:Nat):KP O key (kas_rev p i j) k=if i≤k∧k<j then KP O key p (i+j - 1 - k)else KP O key p k:=by
 have e:=getElem?_mirror_all (i:=i) hj k
 unfold KP kas_rev
 by_cases h:i≤k∧k<j
 ·rw[if_pos h]at e ⊢;exact congrArg key (getD_of e)
 ·rw[if_neg h]at e ⊢;exact congrArg key (getD_of e)
theorem KP_bub {p:Array Nat} {k d:Nat} (hk:k<p.size) (hd:d≤k) (x:Nat):KP O key (bubble p k d) x=if x=k - d then KP O key p k else if k - d<x∧x≤k then KP O key p (x - 1)else KP O key p x:=by
 have e:=getElem?_bubble hk d hd x
 unfold KP
 by_cases h1:x=k - d
 ·rw[if_pos h1]at e ⊢;exact congrArg key (getD_of e)
 ·rw[if_neg h1]at e ⊢
  by_cases h2:k - d<x∧x≤k
  ·rw[if_pos h2]at e ⊢;exact congrArg key (getD_of e)
  ·rw[if_neg h2]at e ⊢;exact congrArg key (getD_of e)
noncomputable def Up (O:KeyOrd) (key:Nat→O.α) (p:Array Nat) (m:Nat):Prop:=∀ i j,i≤j→j<m→O.kle (KP O key p i) (KP O key p j)
noncomputable def Dn (O:KeyOrd) (key:Nat→O.α) (p:Array Nat) (m:Nat):Prop:=∀ i j,i≤j→j<m→O.kle (KP O key p j) (KP O key p i)
theorem Up.more {p:Array Nat} {m:Nat} (h:Up O key p m) (hm:1≤m) (hl:O.kle (KP O key p (m - 1)) (KP O key p m)):Up O key p (m+1):=fun i j hij hj=>by
 by_cases q:j<m
 ·exact h i j hij q
 ·have:j=m:=by omega
  subst this
  by_cases r:i=j
  ·subst r;exact KeyOrd.kle_refl _
  ·exact KeyOrd.kle_trans (h i (j - 1) (by omega) (by omega)) hl
theorem Dn.more {p:Array Nat} {m:Nat} (h:Dn O key p m) (hm:1≤m) (hl:O.kle (KP O key p m) (KP O key p (m - 1))):Dn O key p (m+1):=fun i j hij hj=>by
 by_cases q:j<m
 ·exact h i j hij q
 ·have:j=m:=by omega
  subst this
  by_cases r:i=j
  ·subst r;exact KeyOrd.kle_refl _
  ·exact KeyOrd.kle_trans hl (h i (j - 1) (by omega) (by omega))
theorem asc_ok (A:Ans O key n cmp s) {p:Array Nat} (hp:InR n p):∀ (f m:Nat) (Q:Nat→Shared→Prop),1≤m→Up O key p m →
 (∀ m',m≤m'→m'≤m+f→Up O key p m'→(m'<m+f→O.klt (KP O key p m') (KP O key p (m' - 1)))→Q m' s)→(kas_asc p f m).kasWp cmp Q s
 | 0,m,Q,hm,hu,hQ=>hQ m (Nat.le_refl _) (Nat.le_refl _) hu fun z=>absurd z (Nat.lt_irrefl _)
 | f+1,m,Q,hm,hu,hQ=>by
  show cmp _ _ _ s
  refine A _ _ _ (hp.at _) (hp.at _) ?_
  cases hb:O.blt (key (p.getD m 0)) (key (p.getD (m - 1) 0))with
  | true =>
   show KasT.kasWp cmp (if true=true then _ else _) Q s
   rw[if_pos rfl]
   exact hQ m (Nat.le_refl _) (Nat.le_add_right _ _) hu fun _=>hb
  | false =>
   show KasT.kasWp cmp (if false=true then _ else _) Q s
   rw[if_neg Bool.false_ne_true]
   exact asc_ok A hp f (m+1) Q (by omega) (hu.more hm hb) fun m' h1 h2 h3 h4=>hQ m' (by omega) (by omega) h3 fun z=>h4 (by omega)
noncomputable def EqRun (O:KeyOrd) (key:Nat→O.α) (p:Array Nat) (m q:Nat):Prop:=∀ k,m - (q+1)≤k→k<m→KP O key p k=KP O key p (m - 1)
theorem rev_same {p:Array Nat} {i j:Nat} (hj:j≤p.size) (h:∀ k,i≤k→k<j→KP O key p k=KP O key p (j - 1)) (k:Nat):KP O key (kas_rev p i j) k=KP O key p k:=by
 rw[KP_rev hj]
 by_cases q:i≤k∧k<j
 ·rw[if_pos q,h _ (by omega) (by omega),h k q.1 q.2]
 ·rw[if_neg q]
theorem Dn.same {p q:Array Nat} {m:Nat} (h:Dn O key p m) (e:∀ k,KP O key q k=KP O key p k):Dn O key q m:=fun i j h1 h2=>by rw[e,e];exact h i j h1 h2
theorem rev_perm (p:Array Nat) (i j:Nat):(kas_rev p i j).Perm p:=mirror_perm _ _ _ _
theorem desc_ok (A:Ans O key n cmp s):∀ (f:Nat) (p:Array Nat) (m q:Nat) (Q:Array Nat×Nat×Nat→Shared→Prop),InR n p→m+f≤n→1≤m→q+1≤m→Dn O key p m→EqRun O key p m q →
 (∀ p' m' q',p'.Perm p→m≤m'→m'≤n→q'+1≤m'→Dn O key p' m'→EqRun O key p' m' q'→Q (p',m',q') s)→(kas_desc f p m q).kasWp cmp Q s
 | 0,p,m,q,Q,hp,hf,hm,hq,hd,he,hQ=>hQ p m q (Array.Perm.refl _) (Nat.le_refl _) (by omega) hq hd he
 | f+1,p,m,q,Q,hp,hf,hm,hq,hd,he,hQ=>by
  show cmp _ _ _ s
  refine A _ _ _ (hp.at _) (hp.at _) ?_
  have one:∀ p:Array Nat,EqRun O key p (m+1) 0:=fun p k h1 h2=>by rw[show k=m+1 - 1 by omega]
  cases hb:O.blt (key (p.getD m 0)) (key (p.getD (m - 1) 0))with
  | true =>
   show KasT.kasWp cmp (if true=true then _ else _) Q s
   rw[if_pos rfl]
   have hl:O.kle (KP O key p m) (KP O key p (m - 1)):=KeyOrd.kle_of_klt hb
   by_cases q0:q > 0
   ·rw[if_pos q0]
    have sm:=rev_same (O:=O) (key:=key) (p:=p) (i:=m - (q+1)) (j:=m) (by rw[hp.size];omega) he
    refine desc_ok A f _ (m+1) 0 Q (hp.perm (rev_perm ..)) (by omega) (by omega) (by omega) (Dn.same (hd.more hm hl) sm) (one _) fun p' m' q' e h1 h2 h3 h4 h5=>hQ p' m' q' (e.trans (rev_perm ..)) (by omega) h2 h3 h4 h5
   ·rw[if_neg q0]
    exact desc_ok A f p (m+1) 0 Q hp (by omega) (by omega) (by omega) (hd.more hm hl) (one _) fun p' m' q' e h1 h2 h3 h4 h5=>hQ p' m' q' e (by omega) h2 h3 h4 h5
  | false =>
   show KasT.kasWp cmp (if false=true then _ else _) Q s
   rw[if_neg Bool.false_ne_true]
   show cmp _ _ _ s
   refine A _ _ _ (hp.at _) (hp.at _) ?_
   cases hc:O.blt (key (p.getD (m - 1) 0)) (key (p.getD m 0))with
   | true =>
    show KasT.kasWp cmp (if true=true then _ else _) Q s
    rw[if_pos rfl]
    exact hQ p m q (Array.Perm.refl _) (Nat.le_refl _) (by omega) hq hd he
   | false =>
    show KasT.kasWp cmp (if false=true then _ else _) Q s
    rw[if_neg Bool.false_ne_true]
    have eq:KP O key p m=KP O key p (m - 1):=O.total _ _ hb hc
    refine desc_ok A f p (m+1) (q+1) Q hp (by omega) (by omega) (by omega) (hd.more hm hc) (fun k h1 h2=>?_) fun p' m' q' e h1 h2 h3 h4 h5=>hQ p' m' q' e (by omega) h2 h3 h4 h5
    show KP O key p k=KP O key p m
    by_cases z:k=m
    ·rw[z]
    ·rw[eq];exact he k (by omega) (by omega)
theorem tail_ok (A:Ans O key n cmp s) {p:Array Nat} {m:Nat} {Q:Nat×Array Nat→Shared→Prop} (hp:InR n p) (hm:1≤m) (hn:m≤n) (hd:Dn O key p m)
 (hQ:∀ m' p',p'.Perm p→1≤m'→m'≤n→Up O key p' m'→Q (m',p') s):(kas_tail3 m n p).kasWp cmp Q s:=by
 unfold kas_tail3
 rw[KasT.kasWp_bind]
 have up:Up O key (kas_rev p 0 m) m:=fun i j h1 h2=>by
  rw[KP_rev (by rw[hp.size];exact hn),KP_rev (by rw[hp.size];exact hn),if_pos (by omega),if_pos (by omega)]
  exact hd _ _ (by omega) (by omega)
 exact asc_ok A (hp.perm (rev_perm ..)) _ _ _ hm up fun m' h1 h2 h3 _=>hQ m' _ (rev_perm ..) (by omega) (by omega) h3
theorem part_ok (A:Ans O key n cmp s) {p:Array Nat} {m:Nat} {Q:Nat×Array Nat→Shared→Prop} (hp:InR n p) (hn:m+1≤n) (hd:Dn O key p (m+1))
 (hQ:∀ m' p',p'.Perm p→1≤m'→m'≤n→Up O key p' m'→Q (m',p') s):(kas_descPart m n p).kasWp cmp Q s:=by
 unfold kas_descPart
 rw[KasT.kasWp_bind]
 refine desc_ok A _ p (m+1) 0 _ hp (by omega) (by omega) (by omega) hd (fun k h1 h2=>by rw[show k=m+1 - 1 by omega]) fun p' m' q' e h1 h2 h3 h4 h5=>?_
 show KasT.kasWp cmp (if q' > 0 then _ else _) Q s
 by_cases q0:q' > 0
 ·rw[if_pos q0]
  have hp':=hp.perm e
  have sm:=rev_same (O:=O) (key:=key) (p:=p') (i:=m' - (q'+1)) (j:=m') (by rw[hp'.size];exact h2) h5
  exact tail_ok A (hp'.perm (rev_perm ..)) (show 1≤m' by omega) h2 (Dn.same h4 sm) fun m2 p2 e2 a b c=>hQ m2 p2 ((e2.trans (rev_perm ..)).trans e) a b c
 ·rw[if_neg q0]
  exact tail_ok A (hp.perm e) (show 1≤m' by omega) h2 h4 fun m2 p2 e2 a b c=>hQ m2 p2 (e2.trans e) a b c
theorem count_ok (A:Ans O key n cmp s) {p:Array Nat} {Q:Nat×Array Nat→Shared→Prop} (hp:InR n p)
 (hQ:∀ m' p',p'.Perm p→1≤m'→m'≤n→Up O key p' m'→Q (m',p') s):(kas_count n p).kasWp cmp Q s:=by
 have h1n:=hp.pos
 unfold kas_count
 rw[KasT.kasWp_bind]
 refine asc_ok A hp _ 1 _ (Nat.le_refl _) (fun i j h1 h2=>by rw[show i=j by omega];exact KeyOrd.kle_refl _) fun m h1 h2 hu hl=>?_
 show KasT.kasWp cmp (if (m == n)=true then _ else _) Q s
 by_cases e:m=n
 ·rw[if_pos (by simpa using e)]
  exact hQ m p (Array.Perm.refl _) h1 (by omega) hu
 ·rw[if_neg (by simpa using e)]
  have hl:=hl (by omega)
  by_cases g:m > 1
  ·rw[if_pos g]
   show cmp _ _ _ s
   refine A _ _ _ (hp.at _) (hp.at _) ?_
   cases hb:O.blt (key (p.getD 0 0)) (key (p.getD (m - 1) 0))with
   | true =>
    show KasT.kasWp cmp (if true=true then _ else _) Q s
    rw[if_pos rfl]
    exact hQ m p (Array.Perm.refl _) h1 (by omega) hu
   | false =>
    show KasT.kasWp cmp (if false=true then _ else _) Q s
    rw[if_neg Bool.false_ne_true]
    have all:∀ k,0≤k→k<m→KP O key p k=KP O key p (m - 1):=fun k _ hk =>
     KeyOrd.kle_antisymm (hu k (m - 1) (by omega) (by omega)) (KeyOrd.kle_trans (show O.kle (KP O key p (m - 1)) (KP O key p 0) from hb) (hu 0 k (by omega) hk))
    have sm:=rev_same (O:=O) (key:=key) (p:=p) (i:=0) (j:=m) (by rw[hp.size];omega) all
    refine part_ok A (hp.perm (rev_perm ..)) (by omega) (Dn.same (Dn.more (fun i j h1 h2=>?_) h1 (KeyOrd.kle_of_klt hl)) sm) fun m2 p2 e2 a b c=>hQ m2 p2 (e2.trans (rev_perm ..)) a b c
    rw[all i (by omega) (by omega),all j (by omega) h2]
    exact KeyOrd.kle_refl _
  ·rw[if_neg g]
   refine part_ok A hp (by omega) (Dn.more (fun i j h1 h2=>?_) h1 (KeyOrd.kle_of_klt hl)) hQ
   rw[show i=j by omega]
   exact KeyOrd.kle_refl _
theorem place_ok (A:Ans O key n cmp s) {p:Array Nat} (hp:InR n p) {k:Nat}:∀ (f l r:Nat) (Q:Nat→Shared→Prop),Up O key p k→l≤r→r≤k→r - l≤f→(∀ i,i<l→O.kle (KP O key p i) (KP O key p k))→(∀ i,r≤i→i<k→O.kle (KP O key p k) (KP O key p i)) →
 (∀ l',l'≤k→(∀ i,i<l'→O.kle (KP O key p i) (KP O key p k))→(∀ i,l'≤i→i<k→O.kle (KP O key p k) (KP O key p i))→Q l' s)→(kas_place p k f l r).kasWp cmp Q s
 | 0,l,r,Q,hu,h1,h2,h3,h4,h5,hQ=>hQ l (by omega) h4 fun i a b=>h5 i (by omega) b
 | f+1,l,r,Q,hu,h1,h2,h3,h4,h5,hQ=>by
  unfold kas_place
  by_cases e:l≥r
  ·rw[if_pos e]
   exact hQ l (by omega) h4 fun i a b=>h5 i (by omega) b
  ·rw[if_neg e]
   show cmp _ _ _ s
   refine A _ _ _ (hp.at _) (hp.at _) ?_
   have m1:l≤(l+r) / 2:=by omega
   have m2:(l+r) / 2<r:=by omega
   cases hb:O.blt (key (p.getD k 0)) (key (p.getD ((l+r) / 2) 0))with
   | true =>
    show KasT.kasWp cmp (if true=true then _ else _) Q s
    rw[if_pos rfl]
    refine place_ok A hp f l ((l+r) / 2) Q hu m1 (by omega) (by omega) h4 (fun i a b=>?_) hQ
    exact KeyOrd.kle_trans (KeyOrd.kle_of_klt (show O.klt (KP O key p k) (KP O key p ((l+r) / 2)) from hb)) (hu _ i a b)
   | false =>
    show KasT.kasWp cmp (if false=true then _ else _) Q s
    rw[if_neg Bool.false_ne_true]
    refine place_ok A hp f ((l+r) / 2+1) r Q hu (by omega) h2 (by omega) (fun i a=>?_) h5 hQ
    exact KeyOrd.kle_trans (hu i ((l+r) / 2) (by omega) (by omega)) (show O.kle (KP O key p ((l+r) / 2)) (KP O key p k) from hb)
theorem bin_ok (A:Ans O key n cmp s):∀ (f:Nat) (p:Array Nat) (k:Nat) (Q:Array Nat→Shared→Prop),InR n p→1≤k→k+f=n→Up O key p k→(∀ p',p'.Perm p→Up O key p' n→Q p' s)→(kas_bin f p k).kasWp cmp Q s
 | 0,p,k,Q,hp,hk,hf,hu,hQ=>hQ p (Array.Perm.refl _) (by rw[← hf];exact hu)
 | f+1,p,k,Q,hp,hk,hf,hu,hQ=>by
  unfold kas_bin
  rw[KasT.kasWp_bind]
  refine place_ok A hp k 0 k _ hu (Nat.zero_le _) (Nat.le_refl _) (by omega) (fun i a=>absurd a (Nat.not_lt_zero _)) (fun i a b=>by omega) fun l hl h1 h2=>?_
  have bp:(bubble p k (k - l)).Perm p:=bubble_perm _ _ _
  refine bin_ok A f _ (k+1) Q (hp.perm bp) (by omega) (by omega) (fun i j hij hj=>?_) fun p' e u=>hQ p' (e.trans bp) u
  have kb:=fun x=>KP_bub (O:=O) (key:=key) (p:=p) (k:=k) (d:=k - l) (by rw[hp.size];omega) (by omega) x
  rw[kb i,kb j,show k - (k - l)=l by omega]
  by_cases i1:i=l
  ·rw[if_pos i1]
   by_cases j1:j=l
   ·rw[if_pos j1];exact KeyOrd.kle_refl _
   ·rw[if_neg j1,if_pos (by omega)]
    exact h2 (j - 1) (by omega) (by omega)
  ·rw[if_neg i1]
   by_cases i2:l<i∧i≤k
   ·rw[if_pos i2,if_neg (show ¬ j=l by omega),if_pos (by omega)]
    exact hu (i - 1) (j - 1) (by omega) (by omega)
   ·rw[if_neg i2]
    by_cases j1:j=l
    ·rw[if_pos j1];exact h1 i (by omega)
    ·rw[if_neg j1]
     by_cases j2:l<j∧j≤k
     ·rw[if_pos j2];exact hu i (j - 1) (by omega) (by omega)
     ·rw[if_neg j2];exact hu i j hij (by omega)
theorem sort_ok (A:Ans O key n cmp s) (hn:0<n) {Q:Array Nat→Shared→Prop} (hQ:∀ p,p.Perm (List.range n).toArray→Up O key p n→Q p s):(kas_sort n).kasWp cmp Q s:=by
 unfold kas_sort
 rw[KasT.kasWp_bind]
 have hp:InR n (List.range n).toArray:=⟨hn,by simp,fun x hx=>by simpa using hx⟩
 refine count_ok A hp fun m p e h1 h2 hu=>?_
 show KasT.kasWp cmp (if m<n then _ else _) Q s
 by_cases q:m<n
 ·rw[if_pos q]
  have em:max m 1=m:=by omega
  show KasT.kasWp cmp (kas_bin (n - max m 1) p (max m 1)) Q s
  rw[em]
  exact bin_ok A _ p m Q (hp.perm e) h1 (by omega) hu fun p' e' u=>hQ p' (e'.trans e) u
 ·rw[if_neg q]
  have:m=n:=by omega
  subst this
  exact hQ p e hu
end
end L2
namespace L2
open PySem PySem.W PySem.Spec PyProof.Rows
noncomputable def plt (a b:Int×Int):Bool:=decide (a.1<b.1) || (decide (a.1=b.1) && decide (a.2<b.2))
theorem plt_iff {a b:Int×Int}:plt a b=true↔a.1<b.1∨(a.1=b.1∧a.2<b.2):=by simp[plt]
theorem plt_not {a b:Int×Int}:plt a b=false↔¬ (a.1<b.1∨(a.1=b.1∧a.2<b.2)):=by rw[← plt_iff];simp
noncomputable def pairO:KeyOrd where
 α:=Int×Int
 blt:=plt
 irrefl a:=by rw[plt_not];omega
 trans a b c h1 h2:=by rw[plt_iff]at *;omega
 negTrans a b c h:=by rw[plt_iff]at *;rw[plt_iff];omega
 total a b h1 h2:=by
  rw[plt_not]at h1 h2
  exact Prod.ext (by omega) (by omega)
noncomputable def PairV (h:Heap) (v:Value) (p:Int×Int):Prop:=∃ t o n k1 k2,v=.ref t∧h.get? t=some o∧o.cls=.type "tuple"∧o.data=.seq #[.int p.1 k1,.int p.2 k2] n
theorem paired_getD {α β:Type} {F:α→β→Prop} {x:α} {y:β}:∀ {l:List α} {m:List β} {i:Nat},Paired F l m→i<l.length→F (l.getD i x) (m.getD i y)
 | _,_,0,.cons r _,_=>r
 | _,_,i+1,.cons _ t,h=>by
  simp only[List.getD_cons_succ]
  exact paired_getD t (by simpa using h)
 | _,_,_,.nil,h=>absurd h (Nat.not_lt_zero _)
section
variable {prog:Program} {w:World} {A:Around} {E:Value→Shared→Prop} {s:Shared}
theorem lt_pairV {x y:Value} {p q:Int×Int} {Q:Bool→Shared→Prop} (hx:PairV s.heap x p) (hy:PairV s.heap y q) (h:Q (plt p q) s):wpAny (model prog w) A (keyLt' (tuples' true) x y) Q E s:=by
 obtain⟨t,o,n,k1,k2,rfl,e1,c1,d1⟩:=hx
 obtain⟨t',o',n',k1',k2',rfl,e2,c2,d2⟩:=hy
 refine kat_lt e1 d1 e2 d2 ?_
 refine kat_cons (wpAny_eqBool_int ?_)
 by_cases g1:p.1=q.1
 ·rw[show (p.1 == q.1)=true by simpa using g1]
  refine kat_yes (kat_cons (wpAny_eqBool_int ?_))
  by_cases g2:p.2=q.2
  ·rw[show (p.2 == q.2)=true by simpa using g2]
   refine kat_yes (kat_nil ?_)
   have e:plt p q=false:=by rw[plt_not];omega
   rw[e]at h
   exact h
  ·rw[show (p.2 == q.2)=false by simpa using g2]
   refine kat_no (kat_one _ _ (lt_int ?_))
   have e:plt p q=decide (p.2<q.2):=by
    rw[Bool.eq_iff_iff,plt_iff];simp;omega
   rw[e]at h
   exact h
 ·rw[show (p.1 == q.1)=false by simpa using g1]
  refine kat_no (oneLt_int ?_)
  have e:plt p q=decide (p.1<q.1):=by
   rw[Bool.eq_iff_iff,plt_iff];simp;omega
  rw[e]at h
  exact h
theorem firsts_of {h:Heap}:∀ {vs:List Value} {ps:List (Int×Int)},Paired (PairV h) vs ps→∃ fs:List Value,KatTups h vs fs∧fs.length=vs.length∧∀ v∈fs,∃ i t,v=Value.int i t
 | _,_,.nil=>⟨[],.nil,rfl,fun v hv=>(by cases hv)⟩
 | _,_,.cons ⟨t,o,n,k1,k2,e,ho,hc,hd⟩ r=>by
  subst e
  obtain⟨fs,a,b,c⟩:=firsts_of r
  refine⟨.int _ k1 :: fs,.cons ho hc hd rfl a,by simp[b],fun v hv=>?_⟩
  rcases List.mem_cons.mp hv with z | z
  ·exact⟨_,_,z⟩
  ·exact c v z
noncomputable abbrev ordL (vs:List Value) (p:Array Nat):List Value:=p.toList.map fun i=>vs.getD i Value.none
theorem ord_short {vs:List Value} (hl:vs.length<2):ordL vs (List.range vs.length).toArray=vs:=by
 cases vs with
 | nil=>rfl
 | cons v t =>
  cases t with
  | nil=>rfl
  | cons w r=>exact absurd hl (by show ¬ r.length+1+1<2;omega)
theorem list_sortP {a:Addr} {vs:List Value} {ps:List (Int×Int)} {n:Nat} {P:Fin→Shared→Prop} (ho:s.heap.get? a=some (seqObj "list" vs.toArray n)) (hv:Paired (PairV s.heap) vs ps) (h64:vs.length<64)
 (h:∀ p:Array Nat,p.Perm (List.range vs.length).toArray→Up pairO (fun i=>ps.getD i (0,0)) p vs.length→P (.done (.ret .none)) { s with heap:=sortedHeap s.heap a vs (ordL vs p).toArray }) :
 wpAny (model prog w) A (Builtin.«list.sort» ⟨[.ref a],[]⟩) P E s:=by
 have ha:a<s.heap.objs.size:=Heap.lt_size ho
 have hbig:vs.length≤sizeLine:=Nat.le_trans (Nat.le_of_lt h64) (by decide)
 rw[list_sort_plain]
 refine wpAny_bind (listItems_at ho rfl (wpAny_bind (listUpdate_at ho rfl ?_ (by rw[List.size_toArray];omega) (Nat.zero_le _))))
 obtain⟨e1,ho1⟩:∃ e1,(s.heap.update a (Obj.mapSeq fun _=>(#[]:Array Value))).get? a=some (seqObj "list" #[] e1):=⟨_,get?_update_seq ho _⟩
 refine wpAny_bind (seqEpoch_at ho1 rfl (wpAny_bind (wpAny_newTuple (wpAny_bind (wpAny_newList (wpAny_holding ?_) (Nat.zero_le _))) (by show vs.length≤_;exact hbig))))
 have k6:∀ b o,b≠a→s.heap.get? b=some o→(((s.heap.update a (Obj.mapSeq fun _=>(#[]:Array Value))).push (seqObj "tuple" vs.toArray 0)).push (seqObj "list" #[] 0)).get? b=some o:=fun b o hb q =>
  Heap.get?_push_of_some _ (Heap.get?_push_of_some _ ((Heap.get?_update_ne _ _ _ _ hb).trans q))
 have ho6:(((s.heap.update a (Obj.mapSeq fun _=>(#[]:Array Value))).push (seqObj "tuple" vs.toArray 0)).push (seqObj "list" #[] 0)).get? a=some (seqObj "list" #[] e1):=Heap.get?_push_of_some _ (Heap.get?_push_of_some _ ho1)
 have hv6:Paired (PairV (((s.heap.update a (Obj.mapSeq fun _=>(#[]:Array Value))).push (seqObj "tuple" vs.toArray 0)).push (seqObj "list" #[] 0))) vs ps:=Paired.mapP hv fun v p ⟨t,o,n,k1,k2,e,q,c,d⟩ =>
  ⟨t,o,n,k1,k2,e,k6 t o (fun z=>by subst z;rw[ho]at q;cases q;exact absurd c (by simp[seqObj])) q,c,d⟩
 show wpAny (model prog w) A _ P E { s with heap:=((s.heap.update a (Obj.mapSeq fun _=>(#[]:Array Value))).push (seqObj "tuple" vs.toArray 0)).push (seqObj "list" #[] 0) }
 have fin:∀ p:Array Nat,p.Perm (List.range vs.length).toArray→Up pairO (fun i=>ps.getD i (0,0)) p vs.length→P (.done (.ret .none)) { s with heap:=sortedHeap s.heap a vs (ordL vs p).toArray }:=h
 clear h
 unfold sortedHeap at fin
 generalize ((s.heap.update a (Obj.mapSeq fun _=>(#[]:Array Value))).push (seqObj "tuple" vs.toArray 0)).push (seqObj "list" #[] 0)=h6 at ho6 hv6 fin
 dsimp only
 by_cases h2:vs.toArray.size<2
 ·rw[if_pos h2,if_pos h2]
  refine wpAny_bind (wpAny_pure ?_)
  rw[StateT.run_pure]
  refine wpAny_bind (wpAny_pure ?_)
  dsimp only
  have eo:ordL vs (List.range vs.length).toArray=vs:=ord_short (by simpa using h2)
  have ea:(arrOf (SortSt.mk' general' (vs.toArray.zip vs.toArray) #[] 7 none)).map (·.2)=vs.toArray:=by
   show (vs.toArray.zip vs.toArray).map (·.2)=vs.toArray
   apply Array.toList_inj.mp
   simp
   exact List.map_snd_zip (Nat.le_refl _)
  rw[ea]
  refine wpAny_bind (seqEpoch_at ho6 rfl (wpAny_bind (listUpdate_at ho6 rfl ?_ (Nat.zero_le _) (by rw[List.size_toArray];omega))))
  simp only[bne_self_eq_false,Bool.false_eq_true,if_false]
  have f:=fin (List.range vs.length).toArray (Array.Perm.refl _) fun i j hij hj=>by
   have:i=j:=by simp at h2;omega
   subst this
   exact KeyOrd.kle_refl _
  rw[eo]at f
  exact wpAny_pure f
 ·rw[if_neg h2,if_neg h2]
  have hl2:2≤vs.length:=by simp at h2;omega
  obtain⟨fs,t6,lf,hf⟩:=firsts_of hv6
  refine wpAny_bind (kat_kind (s:={ s with heap:=h6 }) (T:=.type "int") t6 (by omega) (fun v hv=>?_) rfl ?_)
  ·obtain⟨i,t,rfl⟩:=hf v hv
   exact Looks.now
  have A2:Ans pairO (fun i=>ps.getD i (0,0)) vs.length (kas_ask prog w A (tuples' true) vs) { s with heap:=h6 }:=fun i j C hi hj hC=>by
   unfold kas_ask
   exact lt_pairV (s:={ s with heap:=h6 }) (paired_getD hv6 hi) (paired_getD hv6 hj) hC
  refine wpAny_bind (wpAny_mono (kat_run (s:={ s with heap:=h6 }) (κ:=tuples' true) (ks:=vs) (vs:=vs) (Q:=fun st' s'=>s'={ s with heap:=h6 }∧failedOf st'=none∧∃ p:Array Nat,p.Perm (List.range vs.length).toArray∧Up pairO (fun i=>ps.getD i (0,0)) p vs.length∧(arrOf st').map (·.2)=(ordL vs p).toArray)
   (G:=fun p s'=>s'={ s with heap:=h6 }∧p.Perm (List.range vs.length).toArray∧Up pairO (fun i=>ps.getD i (0,0)) p vs.length) rfl hl2 h64 (fun p st' s' g1 g2 g3 ⟨g4,g5,g6⟩=>⟨g4,g3,p,g5,g6,kat_snds rfl g2⟩) (sort_ok A2 (by omega) fun p e u=>⟨rfl,e,u⟩)) ?_ fun _ _ e=>e)
  rintro ⟨⟨⟩,st'⟩ s' ⟨rfl,hf',p,e,u,ea⟩
  dsimp only
  rw[ea,hf']
  have hsz:(ordL vs p).toArray.size≤sizeLine:=by
   have:=e.size_eq
   simp only[List.size_toArray,List.length_range]at this
   rw[List.size_toArray,List.length_map,Array.length_toList,this]
   exact hbig
  refine wpAny_bind (seqEpoch_at ho6 rfl (wpAny_bind (listUpdate_at ho6 rfl ?_ (Nat.zero_le _) (by omega))))
  simp only[bne_self_eq_false,Bool.false_eq_true,if_false]
  exact wpAny_pure (fin p e u)
theorem sortedP {l:Addr} {vs:List Value} {ps:List (Int×Int)} {Q:Value→Shared→Prop} (hl:s.heap.IsList l vs.toArray) (hv:Paired (PairV s.heap) vs ps) (h64:vs.length<64)
 (h:∀ p:Array Nat,p.Perm (List.range vs.length).toArray→Up pairO (fun i=>ps.getD i (0,0)) p vs.length→Q (.ref (s.heap.objs.size+1)) { s with heap:=sortedAll s.heap vs (ordL vs p).toArray }) :
 wpAny (model prog w) A (call (.builtin "sorted") [.ref l]) Q E s:=by
 have hbig:vs.length≤sizeLine:=Nat.le_trans (Nat.le_of_lt h64) (by decide)
 refine Calls.call_function_entry kind_sorted plain_sorted entry_sorted (args_sorted1 _) ?_
 unfold Builtin.«sorted»
 refine wpAny_bind (m:=checkCount "sorted" 1 1 _) (wpAny_pure (wpAny_bind (collect_list hl (wpAny_bind (wpAny_newList ?_ hbig)) hbig)))
 unfold sortedAll at h
 have z1:((s.heap.push (seqObj "list" #[] 0)).update s.heap.objs.size (Obj.mapSeq (·++vs.toArray))).objs.size=s.heap.objs.size+1:=by rw[Heap.size_update,size_push']
 have oL:(((s.heap.push (seqObj "list" #[] 0)).update s.heap.objs.size (Obj.mapSeq (·++vs.toArray))).push (seqObj "list" vs.toArray 0)).get? (s.heap.objs.size+1)=some (seqObj "list" vs.toArray 0):=z1 ▸ Heap.get?_push_size _ rfl
 have kp:∀ b o,s.heap.get? b=some o→(((s.heap.push (seqObj "list" #[] 0)).update s.heap.objs.size (Obj.mapSeq (·++vs.toArray))).push (seqObj "list" vs.toArray 0)).get? b=some o:=fun b o q =>
  Heap.get?_push_of_some _ ((Heap.get?_update_ne _ _ _ _ (Nat.ne_of_lt (Heap.lt_size q))).trans (Heap.get?_push_of_some _ q))
 show wpAny _ _ _ _ _ { s with heap:=((s.heap.push (seqObj "list" #[] 0)).update s.heap.objs.size (Obj.mapSeq (·++vs.toArray))).push (seqObj "list" vs.toArray 0) }
 rw[z1]
 generalize ((s.heap.push (seqObj "list" #[] 0)).update s.heap.objs.size (Obj.mapSeq (·++vs.toArray))).push (seqObj "list" vs.toArray 0)=h2 at oL kp h
 have hv2:Paired (PairV h2) vs ps:=Paired.mapP hv fun v p ⟨t,o,n,k1,k2,e,q,c,d⟩=>⟨t,o,n,k1,k2,e,kp t o q,c,d⟩
 refine wpAny_bind (wpAny_holding (wpAny_call_entry slot_list_sort ⟨_,oL,rfl⟩ entry_list_sort (list_sortP (s:={ s with heap:=h2 }) oL hv2 h64 fun p e u=>⟨_,rfl,?_⟩) (args_list_sort _)))
 exact wpAny_pure ⟨_,rfl,h p e u⟩
end
noncomputable def ple (a b:Int×Int):Prop:=a.1<b.1∨(a.1=b.1∧a.2≤b.2)
theorem map_getD_perm {α:Type} (d:α) (l:List α) {p:List Nat} (h:p.Perm (List.range l.length)):(p.map fun i=>l.getD i d).Perm l:=by
 have e:(List.range l.length).map (fun i=>l.getD i d)=l:=by
  apply List.ext_getElem
  ·simp
  ·intro i h1 h2
   simp[h2]
 have:=h.map fun i=>l.getD i d
 rwa [e]at this
section
variable {X:Cx}
theorem call_sortedP:CallR X (.builtin "sorted") (fun xs H Q=>∃ (a:Addr) (us:List V) (ps:List (Int×Int)),xs=[.ref a]∧H a=some (.lst us)∧CW.Prs H us ps∧ps.length<64 ∧
 ∀ (l:Addr) (us':List V) (qs:List (Int×Int)),H l=none→CW.Prs H us' qs→qs.Perm ps→qs.Pairwise ple→Q (.ref l) (upd H l (.lst us'))):=by
 intro pins s σ H xs us Q I r h
 obtain⟨a,us0,ps,rfl,ha,pr,h64,q⟩:=h
 obtain⟨u,rfl,rx⟩:=vals1 r
 cases rx
 obtain⟨its,rv,pl,hz⟩:=I.list (SqL.of ha)
 have l1:us0.length=ps.length:=Paired.length pr
 have l2:us0.length=its.length:=rv.length
 have hv:Paired (PairV s.heap) its ps:=by
  have go:∀ (us0:List V) (its:List Value) (ps:List (Int×Int)),Vals us0 its→CW.Prs H us0 ps→Paired (PairV s.heap) its ps:=by
   intro us0
   induction us0 with
   | nil=>intro its ps r p;cases r;cases p;exact .nil
   | cons x xs ih =>
    intro its ps r p
    cases r with
    | cons r1 r2 =>
     cases p with
     | cons p1 p2 =>
      refine .cons ?_ (ih _ _ r2 p2)
      obtain⟨t,e,et⟩:=p1
      subst e
      cases r1
      obtain⟨_,its',rv',o,ho,hc,n,hd⟩:=(show ObjOk X.prog X.w H s.heap t (.tup [.int _,.int _]) from I.hok t _ et)
      obtain⟨u1,u2,rfl,⟨k1,rfl⟩,⟨k2,rfl⟩⟩:=rv'.two
      exact⟨t,o,n,k1,k2,rfl,ho,hc,hd⟩
  exact go us0 its ps rv pr
 refine sortedP pl.isList hv (by omega) fun p e u=>?_
 have pl':p.toList.Perm (List.range its.length):=by
  have:=e.toList
  simpa using this
 have pmem:∀ i∈p.toList,i<its.length:=fun i hi=>by
  have:=pl'.mem_iff.mp hi
  simpa using this
 have psz:p.toList.length=its.length:=by rw[pl'.length_eq,List.length_range]
 have key:∀ (q:List Nat),(∀ i∈q,i<its.length)→Vals (q.map fun i=>us0.getD i V.non) (q.map fun i=>its.getD i Value.none)∧CW.Prs H (q.map fun i=>us0.getD i V.non) (q.map fun i=>ps.getD i (0,0)):=by
  intro q
  induction q with
  | nil=>intro _;exact⟨.nil,.nil⟩
  | cons i q ih =>
   intro hq
   have hi:=hq i List.mem_cons_self
   obtain⟨a1,a2⟩:=ih fun j hj=>hq j (List.mem_cons_of_mem _ hj)
   exact⟨.cons (paired_getD rv (by omega)) a1,.cons (paired_getD pr (by omega)) a2⟩
 obtain⟨k1,k2⟩:=key p.toList pmem
 obtain⟨e0,at0⟩:=sortedAll_at s.heap its (ordL its p).toArray
 have hn:H (s.heap.objs.size+1)=none:=I.hok.fresh (Nat.le_succ _)
 refine⟨.ref (s.heap.objs.size+1),_,I.laid (t':=s.toks) (o:=.lst (p.toList.map fun i=>us0.getD i V.non)) (fun b o e=>sortedAll_old e) (Nat.le_succ _) ⟨?_,ordL its p,e0,k1,at0⟩,rfl,q _ _ (p.toList.map fun i=>ps.getD i (0,0)) hn k2 ?_ ?_⟩
 ·rw[List.length_map,psz]
  exact Nat.le_trans (show its.length≤64 by omega) (by decide)
 ·exact map_getD_perm (0,0) ps (by rw[← l1,l2];exact pl')
 ·rw[List.pairwise_iff_getElem]
  intro i j hi hj hij
  simp only[List.length_map]at hi hj
  have z:=u i j (Nat.le_of_lt hij) (by omega)
  have gd:∀ (k:Nat) (hk:k<p.toList.length),(p.toList.map fun i=>ps.getD i (0,0))[k]'(by simpa using hk)=KP pairO (fun i=>ps.getD i (0,0)) p k:=fun k hk=>by
   unfold KP
   rw[List.getElem_map]
   congr 1
   rw[Array.getElem_toList,Array.getD,dif_pos (by simpa using hk)]
   rfl
  rw[gd i hi,gd j hj]
  have z':plt (KP pairO (fun i=>ps.getD i (0,0)) p j) (KP pairO (fun i=>ps.getD i (0,0)) p i)=false:=z
  generalize KP pairO (fun i=>ps.getD i (0,0)) p j=x at z'
  generalize KP pairO (fun i=>ps.getD i (0,0)) p i=y at z'
  have z2:=plt_not.mp z'
  show (y:Int×Int).1<(x:Int×Int).1∨((y:Int×Int).1=(x:Int×Int).1∧(y:Int×Int).2≤(x:Int×Int).2)
  have z3:¬ ((x:Int×Int).1<(y:Int×Int).1∨((x:Int×Int).1=(y:Int×Int).1∧(x:Int×Int).2<(y:Int×Int).2)):=z2
  omega
theorem call_sortedI:CallR X (.builtin "sorted") (fun xs H Q=>∃ (a:Addr) (ns:List Int),xs=[.ref a]∧H a=some (.lst (ns.map V.int))∧ns.length<64 ∧
 ∀ (l:Addr) (ms:List Int),H l=none→ms.Perm ns→ms.Pairwise (·≤·)→Q (.ref l) (upd H l (.lst (ms.map V.int)))):=by
 intro pins s σ H xs us Q I r h
 obtain⟨a,ns,rfl,ha,h64,q⟩:=h
 obtain⟨u,rfl,rx⟩:=vals1 r
 cases rx
 obtain⟨its,rv,pl,hz⟩:=I.list (SqL.of ha)
 have hl:=rv.length
 rw[List.length_map]at hl
 refine sorted_ints pl.isList (ints_are rv) (by omega) fun out ns' hI hp hs=>?_
 obtain⟨e0,at0⟩:=sortedAll_at s.heap its out
 have hn:H (s.heap.objs.size+1)=none:=I.hok.fresh (Nat.le_succ _)
 refine⟨.ref (s.heap.objs.size+1),_,I.laid (t':=s.toks) (o:=.lst (ns'.map V.int)) (fun b o e=>sortedAll_old e) (Nat.le_succ _) ⟨?_,out.toList,e0,vals_ints hI,at0⟩,rfl,q _ ns' hn hp hs⟩
 rw[List.length_map,hp.length_eq]
 exact Nat.le_trans (show ns.length≤64 by omega) (by decide)
end
end L2
namespace CW
open PySem L2
noncomputable def gainI (s:Int) (q:Int×Int):Int:=q.2 * (if s<q.1 then s else q.1)
noncomputable def gainM (ws:List (Int×Int)) (s:Int):Int:=(ws.map (gainI s)).sum
noncomputable def addsM (ps ws:List (Int×Int)):List (Int×Int):=ps.map fun p=>(p.1,p.2+gainM ws p.1)
noncomputable def Crl (ws:List (Int×Int)):Prop:=∀ q∈ws,1≤q.1
inductive spLookW (vs:List V) (H:Hp) (Q:VK) (E_:XK):Prop
 | mk (a:Addr) (ws:List (Int×Int)) (h0_:vs=[.ref a]) (h1_:LP H a ws) (h2_:Crl ws) (h3_:Q .non H):spLookW vs H Q E_
inductive spGain (vs:List V) (H:Hp) (Q:VK) (E_:XK):Prop
 | mk (a:Addr) (ws:List (Int×Int)) (s:Int) (h0_:vs=[.ref a,.int s]) (h1_:LP H a ws) (h2_:ws.length≤200) (h3_:Crl ws) (h4_:0≤s) (h5_:s≤1000) (h6_:∀ H',Same H H'→Q (.int (gainM ws s)) H'):spGain vs H Q E_
inductive spAdded (vs:List V) (H:Hp) (Q:VK) (E_:XK):Prop
 | mk (a b:Addr) (ps ws:List (Int×Int)) (h0_:vs=[.ref a,.ref b]) (h1_:LP H a ps) (h2_:Trn ps) (h3_:LP H b ws) (h4_:ws.length≤200) (h5_:Crl ws) (h6_:∀ qs:List (Int×Int),qs.Perm (addsM ps ws)→qs.Pairwise ple→RetP H Q qs):spAdded vs H Q E_
inductive spWalks (vs:List V) (H:Hp) (Q:VK) (E_:XK):Prop
 | mk (a:Addr) (ns:List Int) (m:Nat) (h0_:vs=[.ref a,.int m]) (h1_:H a=some (.lst (ns.map V.int))) (h2_:2 * m+1≤ns.length) (h3_:m≤60) (h4_:∀ ws:List (Int×Int),ws.length≤m→Crl ws→(∀ q∈ws,-4≤q.2∧q.2≤4)→RetP H Q ws):spWalks vs H Q E_
inductive spAdds (vs:List V) (H:Hp) (Q:VK) (E_:XK):Prop
 | mk (a b:Addr) (ps ws:List (Int×Int)) (h0_:vs=[.ref a,.ref b]) (h1_:LP H a ps) (h2_:Trn ps) (h3_:LP H b ws) (h4_:ws.length≤200) (h5_:Crl ws) (h6_:∀ qs:List (Int×Int),qs.Perm (addsM ps ws)→qs.Pairwise ple→RetP H Q qs):spAdds vs H Q E_
theorem trn_le {ps:List (Int×Int)} (h:Trn ps) {p:Int×Int} (hp:p∈ps):p.1≤60:=by
 have:=h.few
 have:∀ {l:List (Int×Int)},(∀ q∈l,1≤q.1)→p∈l→p.1≤(szs l).sum:=by
  intro l
  induction l with
  | nil=>intro _ z;cases z
  | cons x r ih =>
   intro hpos hm
   simp only[szs,List.map_cons,List.sum_cons]
   have hx:=hpos x List.mem_cons_self
   have hr:=len_le_sum (ps:=r) fun q hq=>hpos q (List.mem_cons_of_mem _ hq)
   rcases List.mem_cons.mp hm with rfl | hm
   ·simp only[szs]at hr;omega
   ·have:=ih (fun q hq=>hpos q (List.mem_cons_of_mem _ hq)) hm
    simp only[szs]at this
    omega
 have:=this h.pos hp
 omega
end CW
namespace CW
open PySem L2
theorem pairs_unique:∀ {a b:List (Int×Int)},a.Perm b→a.Pairwise ple→b.Pairwise ple→a=b
 | [],b,h,_,_=>by rw[h.symm.eq_nil]
 | x :: a,[],h,_,_=>by have:=h.eq_nil;cases this
 | x :: a,y :: b,h,ha,hb=>by
  have ha':=List.pairwise_cons.mp ha
  have hb':=List.pairwise_cons.mp hb
  have hx:x∈y :: b:=h.mem_iff.mp List.mem_cons_self
  have hy:y∈x :: a:=h.mem_iff.mpr List.mem_cons_self
  have e:x=y:=by
   rcases List.mem_cons.mp hx with q | q
   ·exact q
   ·rcases List.mem_cons.mp hy with r | r
    ·exact r.symm
    ·have h1:=ha'.1 y r
     have h2:=hb'.1 x q
     unfold ple at h1 h2
     exact Prod.ext (by omega) (by omega)
  subst e
  rw[pairs_unique (List.perm_cons x |>.mp h) ha'.2 hb'.2]
section
variable {P:Program} {w:World} {K:PySem.W.Frag} {mg:Str→Option Value} {base:Heap}
noncomputable def spLookWR (X:Errs K mg):Sp:=fun vs H Q E=>∃ (a:Addr) (ws:List (Int×Int)),vs=[.ref a]∧LP H a ws∧¬ Crl ws∧Rf0 E X.creel "BadCreel" H
theorem paired_set {α β:Type} {F:α→β→Prop} {x:α} {y:β} (hf:F x y):∀ {l:List α} {m:List β} (i:Nat),Paired F l m→Paired F (l.set i x) (m.set i y)
 | _,_,_,.nil=>.nil
 | _,_,0,.cons _ r=>.cons hf r
 | _,_,i+1,.cons h r=>.cons h (paired_set hf i r)
theorem LP.monoP {PT:Addr} {H H':Hp} {ps:Array Value} (h:SameP PT H H') (hP:H PT=some (.tbl ps)) {a:Addr} {l:List (Int×Int)} (r:LP H a l):LP H' a l:=by
 obtain⟨us,e,p⟩:=r
 exact⟨us,h _ _ (tbl_ne hP e fun _ z=>by cases z) e,p.mono fun t xs q=>h _ _ (tbl_ne hP q fun _ z=>by cases z) q⟩
theorem shaped_two (ps ws:List (Int×Int)):SeqAt.shaped (.list [.list (ps.map pD),.list (ws.map pD)])=true:=by
 have h1:=depth_pairs ps
 have h2:=depth_pairs ws
 simp[SeqAt.shaped,PyData.canLay0,PyData.canLayAll0,canLay_pairs,PyData.depth,PyData.depthAll]
 omega
end
end CW
namespace L2
open PySem PySem.Spec PyProof.Rows
section
variable {κ:Type} [DecidableEq κ]
noncomputable def valV (kvs:List (κ×V)) (k:κ):Option V:=(kvs.find? fun kv=>decide (kv.1=k)).map (·.2)
noncomputable def putK (kvs:List (κ×V)) (k:κ) (v:V):List (κ×V) :=
 if (kvs.any fun kv=>decide (kv.1=k))=true then kvs.map (fun kv=>if kv.1=k then (kv.1,v)else kv)else kvs++[(k,v)]
noncomputable def dropK (kvs:List (κ×V)) (k:κ):List (κ×V):=kvs.filter fun kv=>decide (kv.1≠k)
theorem valV_pos {p:κ×V} {r:List (κ×V)} {k:κ} (e:p.1=k):valV (p :: r) k=some p.2:=by simp[valV,List.find?_cons,e]
theorem valV_neg {p:κ×V} {r:List (κ×V)} {k:κ} (e:¬ p.1=k):valV (p :: r) k=valV r k:=by simp[valV,List.find?_cons,e]
theorem valV_any (k:κ):∀ kvs:List (κ×V),(kvs.any fun kv=>decide (kv.1=k))=(valV kvs k).isSome
 | []=>rfl
 | p :: r=>by
  rw[List.any_cons]
  by_cases e:p.1=k
  ·simp only[valV_pos e,decide_eq_true e,Bool.true_or,Option.isSome_some]
  ·rw[valV_neg e,decide_eq_false e,Bool.false_or];exact valV_any k r
theorem valV_map (k j:κ) (y:V):∀ kvs:List (κ×V),valV (kvs.map fun kv=>if kv.1=k then (kv.1,y)else kv) j=(valV kvs j).map fun x=>if j=k then y else x
 | []=>rfl
 | p :: r=>by
  have ih:=valV_map k j y r
  rw[List.map_cons]
  by_cases h:p.1=k
  ·rw[if_pos h]
   by_cases e:p.1=j
   ·rw[valV_pos (p:=(p.1,y)) e,valV_pos e,Option.map_some,if_pos (e.symm.trans h)]
   ·rw[valV_neg (p:=(p.1,y)) e,valV_neg e,ih]
  ·rw[if_neg h]
   by_cases e:p.1=j
   ·rw[valV_pos (p:=p) e,valV_pos e,Option.map_some,if_neg (fun z=>h (e.trans z))]
   ·rw[valV_neg (p:=p) e,valV_neg e,ih]
theorem valV_snoc (k j:κ) (y:V):∀ kvs:List (κ×V),valV kvs k=none→valV (kvs++[(k,y)]) j=if j=k then some y else valV kvs j
 | [],_=>by
  by_cases e:k=j
  ·rw[if_pos e.symm];exact valV_pos (p:=(k,y)) e
  ·rw[if_neg (fun z=>e z.symm)];exact valV_neg (p:=(k,y)) e
 | p :: r,hn=>by
  rw[List.cons_append]
  have hk:¬ p.1=k:=fun z=>by rw[valV_pos z]at hn;cases hn
  rw[valV_neg hk]at hn
  have ih:=valV_snoc k j y r hn
  by_cases e:p.1=j
  ·rw[valV_pos e,valV_pos e,if_neg (fun z=>hk (e.trans z))]
  ·rw[valV_neg e,valV_neg e,ih]
theorem valV_put (kvs:List (κ×V)) (k j:κ) (y:V):valV (putK kvs k y) j=if j=k then some y else valV kvs j:=by
 unfold putK
 by_cases a:(kvs.any fun kv=>decide (kv.1=k))=true
 ·rw[if_pos a,valV_map]
  rw[valV_any]at a
  by_cases e:j=k
  ·obtain⟨x,hx⟩:=Option.isSome_iff_exists.mp a
   rw[if_pos e,e,hx,Option.map_some,if_pos rfl]
  ·rw[if_neg e]
   cases valV kvs j with
   | none=>rfl
   | some x=>rw[Option.map_some,if_neg e]
 ·rw[if_neg a]
  refine valV_snoc k j y kvs ?_
  rw[valV_any]at a
  cases q:valV kvs k with
  | none=>rfl
  | some x=>rw[q]at a;exact(a rfl).elim
theorem length_putK (kvs:List (κ×V)) (k:κ) (v:V):(putK kvs k v).length≤kvs.length+1:=by
 unfold putK
 split
 ·rw[List.length_map];omega
 ·rw[List.length_append,List.length_cons,List.length_nil];omega
theorem putK_new {kvs:List (κ×V)} {k:κ} (v:V) (h:valV kvs k=none):putK kvs k v=kvs++[(k,v)]:=by
 unfold putK
 rw[valV_any,h]
 exact if_neg (by decide)
theorem RelO.isSome_eq {o:Option V} {u:Option Value} (r:RelO o u):o.isSome=u.isSome:=by
 cases o with
 | none=>cases u with
  | none=>rfl
  | some _=>exact(show False from r).elim
 | some _=>cases u with
  | none=>exact(show False from r).elim
  | some _=>rfl
theorem RelO.getD {o:Option V} {u:Option Value} {d:V} {d':Value} (r:RelO o u) (rd:RelV d d'):RelV (o.getD d) (u.getD d'):=by
 cases o with
 | none=>cases u with
  | none=>exact rd
  | some _=>exact(show False from r).elim
 | some _=>cases u with
  | none=>exact(show False from r).elim
  | some _=>exact r
theorem KV.val {kvs:List (κ×V)} {vs:List (κ×Value)} (r:KV kvs vs) (k:κ):RelO (valV kvs k) (valueAt vs k):=by
 unfold KV at r
 induction r with
 | nil=>exact True.intro
 | @cons p q ps qs h t ih =>
  obtain⟨h1,h2⟩:=h
  by_cases e:p.1=k
  ·have e':q.1=k:=h1.symm.trans e
   have b:valueAt (q :: qs) k=some q.2:=by simp[valueAt,List.find?_cons,e']
   rw[valV_pos e,b];exact h2
  ·have e':¬ q.1=k:=fun z=>e (h1.trans z)
   have b:valueAt (q :: qs) k=valueAt qs k:=by simp[valueAt,List.find?_cons,e']
   rw[valV_neg e,b];exact ih
theorem KV.any {kvs:List (κ×V)} {vs:List (κ×Value)} (r:KV kvs vs) (k:κ):(kvs.any fun kv=>decide (kv.1=k))=vs.any fun kv=>decide (kv.1=k):=by
 unfold KV at r
 induction r with
 | nil=>rfl
 | cons h t ih=>rw[List.any_cons,List.any_cons,ih,h.1]
theorem KV.repl {kvs:List (κ×V)} {vs:List (κ×Value)} (r:KV kvs vs) (k:κ) {y:V} {u:Value} (ry:RelV y u) :
 KV (kvs.map fun kv=>if kv.1=k then (kv.1,y)else kv) (vs.map fun kv=>if kv.1=k then (kv.1,u)else kv):=by
 unfold KV at r ⊢
 induction r with
 | nil=>exact .nil
 | @cons p q ps qs h t ih =>
  rw[List.map_cons,List.map_cons]
  refine .cons ?_ ih
  obtain⟨h1,h2⟩:=h
  by_cases e:p.1=k
  ·rw[if_pos e,if_pos (h1.symm.trans e)];exact⟨h1,ry⟩
  ·rw[if_neg e,if_neg (fun z=>e (h1.trans z))];exact⟨h1,h2⟩
theorem KV.put {kvs:List (κ×V)} {vs:List (κ×Value)} (r:KV kvs vs) (k:κ) {y:V} {u:Value} (ry:RelV y u):KV (putK kvs k y) (stored vs k u):=by
 unfold putK stored
 rw[r.any k]
 by_cases e:(vs.any fun kv=>decide (kv.1=k))=true
 ·rw[if_pos e,if_pos e];exact r.repl k ry
 ·rw[if_neg e,if_neg e];exact Paired.snoc r ⟨rfl,ry⟩
theorem KV.drop {kvs:List (κ×V)} {vs:List (κ×Value)} (r:KV kvs vs) (k:κ):KV (dropK kvs k) (without vs k):=by
 unfold KV at r ⊢
 unfold dropK without
 induction r with
 | nil=>exact .nil
 | @cons p q ps qs h t ih =>
  obtain⟨h1,h2⟩:=h
  rw[List.filter_cons,List.filter_cons]
  by_cases e:p.1=k
  ·have a:¬ decide (p.1≠k)=true:=by simp[e]
   have b:¬ decide (q.1≠k)=true:=by simp[h1.symm.trans e]
   rw[if_neg a,if_neg b];exact ih
  ·have e':¬ q.1=k:=fun z=>e (h1.trans z)
   have a:decide (p.1≠k)=true:=by simp[e]
   have b:decide (q.1≠k)=true:=by simp[e']
   rw[if_pos a,if_pos b];exact .cons ⟨h1,h2⟩ ih
theorem KV.length {kvs:List (κ×V)} {vs:List (κ×Value)} (r:KV kvs vs):kvs.length=vs.length:=Paired.length r
theorem dropK_le (kvs:List (κ×V)) (k:κ):(dropK kvs k).length≤kvs.length:=List.length_filter_le _ _
end
theorem kV_is {P:Program} {w:World} {k:Key} {u:Value} (r:RelV (kV k) u):(mixKind P w).is k u=true:=by
 cases k with
 | inl i=>obtain⟨t,e⟩:=(show ∃ t,u=Value.int i t from r);subst e;exact mixKind_int P w i t
 | inr x=>obtain⟨t,e⟩:=(show ∃ t,u=Value.str x t from r);subst e;exact mixKind_str P w x t
theorem items_are {P:Program} {w:World}:∀ {ks:List Key} {us:List Value},Vals (ks.map kV) us→ItemsAre (mixKind P w) ks us
 | [],_,r=>by rw[List.map_nil]at r;cases r;exact .nil
 | k :: ks,_,r=>by
  rw[List.map_cons]at r
  cases r with
  | cons h t=>exact .cons (kV_is h) (items_are t)
noncomputable abbrev KT (H:Hp):List (List Key×V)→List (List Key×Addr×Value)→Prop:=Paired fun p q=>p.1=q.1∧H q.2.1=some (.tup (p.1.map kV))∧RelV p.2 q.2.2
theorem KT.val {H:Hp} {kvs:List (List Key×V)} {xs:List (List Key×Addr×Value)} (r:KT H kvs xs) (k:List Key):RelO (valV kvs k) ((atKey xs k).map (·.2)):=by
 induction r with
 | nil=>exact True.intro
 | @cons p q ps qs h t ih =>
  obtain⟨h1,_,h2⟩:=h
  by_cases e:p.1=k
  ·have e':q.1=k:=h1.symm.trans e
   have b:atKey (q :: qs) k=some q.2:=by simp[atKey,List.find?_cons,e']
   rw[valV_pos e,b];exact h2
  ·have e':¬ q.1=k:=fun z=>e (h1.trans z)
   have b:atKey (q :: qs) k=atKey qs k:=by simp[atKey,List.find?_cons,e']
   rw[valV_neg e,b];exact ih
theorem KT.repl {H:Hp} {kvs:List (List Key×V)} {xs:List (List Key×Addr×Value)} (r:KT H kvs xs) (k:List Key) {y:V} {u:Value} (ry:RelV y u) :
 KT H (kvs.map fun kv=>if kv.1=k then (kv.1,y)else kv) (xs.map (putAt k u)):=by
 induction r with
 | nil=>exact .nil
 | @cons p q ps qs h t ih =>
  rw[List.map_cons,List.map_cons]
  refine .cons ?_ ih
  obtain⟨h1,h2,h3⟩:=h
  unfold putAt
  by_cases e:p.1=k
  ·rw[if_pos e,if_pos (h1.symm.trans e)];exact⟨h1,h2,ry⟩
  ·rw[if_neg e,if_neg (fun z=>e (h1.trans z))];exact⟨h1,h2,h3⟩
theorem KT.put {H:Hp} {kvs:List (List Key×V)} {xs:List (List Key×Addr×Value)} (r:KT H kvs xs) (k:List Key) {b:Addr} {y:V} {u:Value} (hb:H b=some (.tup (k.map kV))) (ry:RelV y u) :
 KT H (putK kvs k y) (storedH xs k b u):=by
 have e:(kvs.any fun kv=>decide (kv.1=k))=(atKey xs k).isSome:=by
  rw[valV_any,(r.val k).isSome_eq,Option.isSome_map]
 unfold putK storedH
 rw[e]
 by_cases q:(atKey xs k).isSome=true
 ·rw[if_pos q,if_pos q];exact r.repl k ry
 ·rw[if_neg q,if_neg q];exact Paired.snoc r ⟨rfl,hb,ry⟩
theorem KT.keeps {H H':Hp} {kvs:List (List Key×V)} {xs:List (List Key×Addr×Value)} (r:KT H kvs xs) (ht:∀ b ys,H b=some (.tup ys)→H' b=some (.tup ys)):KT H' kvs xs :=
 Paired.mapP r fun _ _ z=>⟨z.1,ht _ _ z.2.1,z.2.2⟩
section
variable {P:Program} {w:World} {H:Hp} {h:Heap} {a:Addr}
theorem rd_of {u:HO} (ok:HOk P w H h) (e:Rd H a u):ObjOk P w H h a u:=e.ok ok
theorem dk_rd {kvs:List (Key×V)} (ok:HOk P w H h) (e:Rd H a (.dK kvs)):kvs.length≤sizeLine∧(a == sysModules)=false∧∃ vs,KV kvs vs∧h.DictOf (mixKind P w) a vs :=
 show ObjOk P w H h a (.dK kvs) from rd_of ok e
theorem dk_of {kvs:List (Key×V)} (ok:HOk P w H h) (e:H a=some (.dK kvs)):kvs.length≤sizeLine∧(a == sysModules)=false∧∃ vs,KV kvs vs∧h.DictOf (mixKind P w) a vs:=dk_rd ok (.inl e)
theorem key_of {ks:List Key} (ok:HOk P w H h) (e:H a=some (.tup (ks.map kV))):(tupleKind (mixKind P w)).is h ks a:=by
 obtain⟨_,its,r,o,h1,h2,n,h3⟩:=(show ObjOk P w H h a (.tup (ks.map kV)) from ok a _ e)
 exact⟨o,its.toArray,n,h1,h2,h3,by simpa using items_are r⟩
theorem dt_rd {kvs:List (List Key×V)} (ok:HOk P w H h) (e:Rd H a (.dT kvs)):kvs.length≤sizeLine∧(a == sysModules)=false ∧
 ∃ xs,KT H kvs xs∧h.DictOfH (tupleKind (mixKind P w)) a xs:=by
 obtain⟨z,y,xs,r,o,es,ep,h1,h2,h3,h4,h5⟩:=(show ObjOk P w H h a (.dT kvs) from rd_of ok e)
 refine⟨z,y,xs,r,o,es,ep,h1,h2,h3,h4,fun x hx=>?_,h5⟩
 have all:∀ {l:List (List Key×V)} {m:List (List Key×Addr×Value)},KT H l m→∀ x∈m,(tupleKind (mixKind P w)).is h x.1 x.2.1:=by
  intro l m q
  induction q with
  | nil=>intro x hx;exact nomatch hx
  | @cons p q ps qs hq t ih =>
   intro x hx
   rcases List.mem_cons.mp hx with e | hx
   ·subst e
    exact key_of ok (by rw[← hq.1];exact hq.2.1)
   ·exact ih x hx
 exact all r x hx
theorem dt_of {kvs:List (List Key×V)} (ok:HOk P w H h) (e:H a=some (.dT kvs)):kvs.length≤sizeLine∧(a == sysModules)=false ∧
 ∃ xs,KT H kvs xs∧h.DictOfH (tupleKind (mixKind P w)) a xs:=dt_rd ok (.inl e)
end
noncomputable def DGet (H:Hp) (a:Addr) (y:V) (r:Option V):Prop :=
 (∃ kvs k,Rd H a (.dK kvs)∧y=kV k∧r=valV kvs k)∨∃ kvs k b,Rd H a (.dT kvs)∧y=.ref b∧H b=some (.tup (k.map kV))∧r=valV kvs k
noncomputable def DPut (H:Hp) (a:Addr) (y v:V) (H':Hp):Prop :=
 (∃ kvs k,H a=some (.dK kvs)∧y=kV k∧kvs.length<sizeLine∧H'=upd H a (.dK (putK kvs k v))) ∨
 ∃ kvs k b,H a=some (.dT kvs)∧y=.ref b∧H b=some (.tup (k.map kV))∧kvs.length<sizeLine∧H'=upd H a (.dT (putK kvs k v))
theorem DGet.k {H:Hp} {a:Addr} {kvs:List (Key×V)} {k:Key} (e:H a=some (.dK kvs)):DGet H a (kV k) (valV kvs k):=.inl ⟨kvs,k,.inl e,rfl,rfl⟩
theorem DPut.k {H:Hp} {a:Addr} {kvs:List (Key×V)} {k:Key} {v:V} (e:H a=some (.dK kvs)) (hl:kvs.length<sizeLine):DPut H a (kV k) v (upd H a (.dK (putK kvs k v))):=.inl ⟨kvs,k,e,rfl,hl,rfl⟩
section
variable {X:Cx} {pins:List (Addr×Obj)} {σ:St} {H:Hp} {s:Shared} {a:Addr} {y v:V} {u r:Value} {o:Option V} {A:Around} {E:Value→Shared→Prop}
theorem Inv.big (I:Inv X pins σ H s):sysModules<s.heap.objs.size:=by
 have h:mainGlobals<s.heap.objs.size:=(I.mod.glob.keeps I.bk).lt
 exact Nat.lt_trans (by decide) h
theorem d_getItem {Q:Value→Shared→Prop} (hu:A.units+1<cLine) (I:Inv X pins σ H s) (g:DGet H a y (some v)) (ry:RelV y u) (h:∀ w' s',Inv X pins σ H s'→RelV v w'→Q w' s') :
 wpAny (model X.prog X.w) A (getItem (.ref a) u) Q E s:=by
 rcases g with ⟨kvs,k,e,ey,l⟩ | ⟨kvs,k,b,e,ey,eb,l⟩
 ·subst ey
  obtain⟨z,hd,vs,rel,dd⟩:=dk_rd I.hok e
  obtain⟨w',hw,rw'⟩:=RelO.some_of (v:=v) (o:=valueAt vs k) (by rw[l];exact rel.val k)
  exact wpAny_getItem_of (kV_is ry) dd.mapOf hw (h w' _ (I.tok _) rw')
 ·subst ey
  cases (show u=Value.ref b from ry)
  obtain⟨z,hd,xs,rel,dd⟩:=dt_rd I.hok e
  obtain⟨w',hw,rw'⟩:=RelO.some_of (v:=v) (o:=(atKey xs k).map (·.2)) (by rw[l];exact rel.val k)
  obtain⟨p,hp,hp2⟩:=Option.map_eq_some_iff.mp hw
  refine wpAny_getItem_heap (tupleKind_room_in1 hu) (key_of I.hok eb) dd hp ?_
  rw[hp2]
  exact h w' _ (I.tok _) rw'
theorem d_write {h':Heap} {t':Nat} {ob:HO} (I:Inv X pins σ H s) (mu:Mut (H a)) (hs:Heap.SameBut a s.heap h') (he:∃ q,h'.get? a=some q) (new:ObjOk X.prog X.w (upd H a ob) h' a ob) :
 Inv X pins σ (upd H a ob) { s with heap:=h',toks:=t' } :=
 I.write (x:=a) (e:=a) mu (.inl rfl) (fun b q hb z=>(hs.2 b hb).trans z) he new
theorem dk_new {P:Program} {w:World} {H':Hp} {h':Heap} {kvs:List (Key×V)} {vs:List (Key×Value)} (z:kvs.length≤sizeLine) (hd:(a == sysModules)=false) (rel:KV kvs vs) (dd:h'.DictOf (mixKind P w) a vs) :
 ObjOk P w H' h' a (.dK kvs):=⟨z,hd,vs,rel,dd⟩
theorem d_setItem {H':Hp} {Q:Unit→Shared→Prop} (hu:A.units+1<cLine) (I:Inv X pins σ H s) (g:DPut H a y v H') (ry:RelV y u) (rv:RelV v r) (h:∀ s',Inv X pins σ H' s'→Q () s') :
 wpAny (model X.prog X.w) A (setItem (.ref a) u r) Q E s:=by
 rcases g with ⟨kvs,k,e,ey,l,eH⟩ | ⟨kvs,k,b,e,ey,eb,l,eH⟩
 ·subst ey eH
  obtain⟨z,hd,vs,rel,dd⟩:=dk_of I.hok e
  have hz:vs.length≤sizeLine:=by rw[← rel.length];exact z
  have hl:(putK kvs k v).length≤sizeLine:=by have:=length_putK kvs k v;omega
  refine wpAny_setItem_pairs (hsz:=hz) (kV_is ry) dd fun h' dd' hs=>h _ ?_
  have he:∃ q,h'.get? a=some q:=let ⟨q,_,_,hq,_⟩:=dd';⟨q,hq⟩
  exact d_write I (by rw[e];exact True.intro) hs he (dk_new hl hd (rel.put k rv) dd')
 ·subst ey eH
  cases (show u=Value.ref b from ry)
  obtain⟨z,hd,xs,rel,dd⟩:=dt_of I.hok e
  have hz:xs.length≤sizeLine:=by rw[← Paired.length rel];exact z
  have hl:(putK kvs k v).length≤sizeLine:=by have:=length_putK kvs k v;omega
  refine wpAny_setItem_heap (hsz:=hz) (tupleKind_room_in1 hu) (key_of I.hok eb) dd fun h' dd' hs=>h _ ?_
  obtain⟨q,es,ep,hq,h2,h3,h4,_,h5⟩:=dd'
  refine d_write I (by rw[e];exact True.intro) hs ⟨q,hq⟩ ⟨hl,hd,_,(rel.put k eb rv).keeps fun c ys ec=>?_,q,es,ep,hq,h2,h3,h4,h5⟩
  rw[upd_ne (ne_of ec e (fun z=>nomatch z))]
  exact ec
end
section
variable {X:Cx} {pins:List (Addr×Obj)} {σ:St} {H:Hp} {s:Shared} {a:Addr} {kvs:List (Key×V)} {k:Key} {u:Value} {A:Around} {E:Value→Shared→Prop}
theorem d_delItem {Q:Unit→Shared→Prop} (I:Inv X pins σ H s) (e:H a=some (.dK kvs)) (ry:RelV (kV k) u) (l:(valV kvs k).isSome=true) (h:∀ s',Inv X pins σ (upd H a (.dK (dropK kvs k))) s'→Q () s') :
 wpAny (model X.prog X.w) A (delItem (.ref a) u) Q E s:=by
 obtain⟨z,hd,vs,rel,dd⟩:=dk_of I.hok e
 refine wpAny_delItem_slot dd.typeIs (by decide) PySem.F.slot_dict_delitem
  (call_meetsIn PySem.F.slot_dict_delitem dd.typeIs PySem.F.entry_dict_delitem (PySem.F.args_dict_delitem_2 _ _) (meets_dict_delitem_pairs (mixKind X.prog X.w) a (kV_is ry)) ⟨vs,dd,by rw[← rel.length];exact z,by rw[← (rel.val k).isSome_eq];exact l,fun h' dd' hs=>h _ ?_⟩)
 have he:∃ q,h'.get? a=some q:=let ⟨q,_,_,hq,_⟩:=dd';⟨q,hq⟩
 exact d_write I (by rw[e];exact True.intro) hs he (dk_new (Nat.le_trans (dropK_le kvs k) z) hd (rel.drop k) dd')
theorem d_truth {Q:Bool→Shared→Prop} (I:Inv X pins σ H s) (e:Rd H a (.dK kvs)) (h:∀ s',Inv X pins σ H s'→Q (!kvs.isEmpty) s'):wpAny (model X.prog X.w) A (truthy (.ref a)) Q E s:=by
 obtain⟨z,hd,vs,rel,dd⟩:=dk_rd I.hok e
 refine wpAny_truthy_dict hd dd (by rw[← rel.length];rw[sizeLine_eq]at z;omega) ?_
 have q:kvs.isEmpty=vs.isEmpty:=by cases rel <;> rfl
 rw[← q]
 exact h _ (I.tok _)
end
noncomputable def NoSl (i:Expr):Prop:=∀ ov iv,subscripted i false ov iv=operate [ov,iv] (getItem ov iv)
theorem subD_of {prog:Program} {w:World} {A:Around} {E:Value→Shared→Prop} {s:Shared} {env:Env} {value slice:Expr} {pos:Pos} {T id:String} {Q:Value→Shared→Prop}
 (hl:typeLookup (.type T) "__getitem__"=pure (some (.builtin id))) (hs:NoSl slice)
 (h:wpAny (model prog w) A (eval value env) (fun o s₁=>wpAny (model prog w) A (eval slice env) (fun i s₂=>s₂.TypeIs o T∧wpAny (model prog w) A (getItem o i) Q E s₂) E s₁) E s) :
 wpAny (model prog w) A (eval (.Subscript value slice pos) env) Q E s:=by
 refine Subscript_ (wpAny_mono h (fun o s₁ h₁=>wpAny_mono h₁ (fun i s₂ h₂=>?_) fun _ _ x=>x) fun _ _ x=>x)
 obtain⟨hT,h₂⟩:=h₂
 unfold subscriptTail
 refine wpAny_bind ?_
 rw[getitemInPython_of_ne hT.not_modules]
 refine wpAny_bind (wpAny_specialOf hT hl ?_)
 have fin:wpAny (model prog w) A (subscripted slice false o i) (fun r s₃=>wpAny (model prog w) A (letTemporaryGo value o r >>= fun _=>pure r) Q E s₃) E s₂:=by
  rw[hs o i]
  exact wpAny_operating (wpAny_mono h₂ (fun r s₃ h₃=>wpAny_bind (wpAny_letTemporaryGo (wpAny_pure h₃))) fun _ _ x=>x)
 first
  | exact wpAny_pure (wpAny_bind fin)
  | exact wpAny_bind (wpAny_pure (wpAny_bind fin))
  | exact wpAny_bind fin
theorem dict_typeIs {X:Cx} {pins:List (Addr×Obj)} {σ:St} {H:Hp} {s:Shared} {a:Addr} {y:V} {o:Option V} (I:Inv X pins σ H s) (g:DGet H a y o):s.TypeIs (.ref a) "dict":=by
 rcases g with ⟨kvs,k,e,_,_⟩ | ⟨kvs,k,b,e,_,_,_⟩
 ·obtain⟨_,_,vs,_,dd⟩:=dk_rd I.hok e
  exact dd.typeIs
 ·obtain⟨_,_,xs,_,dd⟩:=dt_rd I.hok e
  exact dd.typeIs
noncomputable def tDGet (td ty:TE):TE:=fun σ H Q=>td σ H fun x H1=>ty σ H1 fun y H2=>∃ a v,x=.ref a∧DGet H2 a y (some v)∧Q v H2
noncomputable def sDPut (td ty tv:TE):TS:=fun D σ H=>tv σ H fun v H1=>td σ H1 fun x H2=>ty σ H2 fun y H3=>∃ a H4,x=.ref a∧DPut H3 a y v H4∧D.nx σ H4
noncomputable def sDDel (td ty:TE):TS:=fun D σ H=>td σ H fun x H1=>ty σ H1 fun y H2=>∃ a kvs k,x=.ref a∧H2 a=some (.dK kvs)∧y=kV k∧(valV kvs k).isSome=true∧D.nx σ (upd H2 a (.dK (dropK kvs k)))
section
variable {X:Cx} {o i e value:Expr} {pos pos' tpos:Pos} {td ty tv:TE}
theorem pe_dget (hu:X.A.units+1<cLine) (ho:PE X o td) (hi:PE X i ty) (hs:NoSl i):PE X (.Subscript o i pos) (tDGet td ty):=by
 intro pins s σ H Q I h
 refine subD_of PySem.F.slot_dict_getitem.lookup hs (thn (ho pins s σ H _ I h) fun u s1 ⟨x,H1,I1,rx,q1⟩=>thn (hi pins s1 σ H1 _ I1 q1) fun iv s2 ⟨y,H2,I2,ry,a,v,ex,g,q2⟩=>?_)
 subst ex
 obtain rfl:u=Value.ref a:=rx
 exact⟨dict_typeIs I2 g,d_getItem hu I2 g ry fun w' s3 I3 rw'=>⟨v,H2,I3,rw',q2⟩⟩
theorem ps_dput (hu:X.A.units+1<cLine) (ho:PE X o td) (hi:PE X i ty) (hv:PE X value tv) (hs:swapsWith value (some (.Subscript o i pos')) pos.line X.env=pure false) :
 PS X (.Assign [.Subscript o i pos'] value pos) (sDPut td ty tv):=by
 intro pins s σ H D I h
 refine wpAny_Assign_Subscript (thn (hv pins s σ H _ I h) fun r s1 ⟨v,H1,I1,rv,q1⟩=>thn (ho pins s1 σ H1 _ I1 q1) fun u s2 ⟨x,H2,I2,rx,q2⟩=>thn (hi pins s2 σ H2 _ I2 q2) fun iv s3 ⟨y,H3,I3,ry,a,H4,ex,g,q3⟩=>?_) hs
 subst ex
 obtain rfl:u=Value.ref a:=rx
 exact d_setItem hu I3 g ry rv fun s4 I4=>⟨σ,H4,I4,q3⟩
theorem ps_ddel (ho:PE X o td) (hi:PE X i ty):PS X (.Delete [.Subscript o i tpos] pos) (sDDel td ty):=by
 intro pins s σ H D I h
 refine wpAny_Delete (wpAny_deleteEach_cons (wpAny_delete_Subscript (thn (ho pins s σ H _ I h) fun u s1 ⟨x,H1,I1,rx,q1⟩=>thn (hi pins s1 σ H1 _ I1 q1) fun iv s2 ⟨y,H2,I2,ry,a,kvs,k,ex,e,ey,l,q2⟩=>?_)))
 subst ex ey
 obtain rfl:u=Value.ref a:=rx
 exact d_delItem I2 e ry l fun s3 I3=>wpAny_deleteEach_nil ⟨σ,_,I3,q2⟩
end
theorem dk_empty {P:Program} {w:World} {H:Hp} (h:Heap) (hb:sysModules<h.objs.size):ObjOk P w H (h.push { cls:=.type "dict",data:=.dict #[] }) h.objs.size (.dK []) :=
 ⟨Nat.zero_le _,beq_eq_false_iff_ne.mpr (Ne.symm (Nat.ne_of_lt hb)),[],.nil,Heap.DictOf.new h⟩
noncomputable def tDNewK:TE:=fun _ H Q=>∀ p,H p=none→Q (.ref p) (upd H p (.dK []))
section
variable {X:Cx} {pos:Pos}
theorem pe_dnewK:PE X (.Dict [] [] pos) tDNewK:=fun pins s σ H Q I h =>
 wpAny_Dict_empty ⟨.ref s.heap.objs.size,_,I.laid (a:=s.heap.objs.size) (o:=.dK []) (t':=s.toks) (fun _ _ q=>Heap.get?_push_of_some _ q) (Nat.le_refl _) (dk_empty s.heap I.big),rfl,h _ (I.hok.fresh (Nat.le_refl _))⟩
end
structure M1 (X:Cx) (o:Expr) (m:Str) (apos:Pos) (e:Expr) (cpos:Pos):Prop where
 base:attributeBase o m X.env (eval o X.env)=eval o X.env
 few:((backTo cpos (starEach [e] X.env)).all (fun x=>!x.1) && (backToKw cpos (keywordEach [] X.env)).all (fun x=>x.1.isSome)
  && decide (([e]:List Expr).length+([]:List Keyword).length+(if ([]:List Keyword).isEmpty then 0 else 1)<30))=true
 line:(apos.endLine == cpos.line)=true
 trees:backTo cpos (starEach [e] X.env)=[(false,eval e X.env)]
structure M2 (X:Cx) (o:Expr) (m:Str) (apos:Pos) (e f:Expr) (cpos:Pos):Prop where
 base:attributeBase o m X.env (eval o X.env)=eval o X.env
 few:((backTo cpos (starEach [e,f] X.env)).all (fun x=>!x.1) && (backToKw cpos (keywordEach [] X.env)).all (fun x=>x.1.isSome)
  && decide (([e,f]:List Expr).length+([]:List Keyword).length+(if ([]:List Keyword).isEmpty then 0 else 1)<30))=true
 line:(apos.endLine == cpos.line)=true
 trees:backTo cpos (starEach [e,f] X.env)=[(false,eval e X.env),(false,eval f X.env)]
noncomputable def IsD (H:Hp) (a:Addr):Prop:=(∃ kvs,Rd H a (.dK kvs))∨∃ kvs,Rd H a (.dT kvs)
theorem isD_at {X:Cx} {pins:List (Addr×Obj)} {σ:St} {H:Hp} {s:Shared} {a:Addr} (I:Inv X pins σ H s) (d:IsD H a) :
 s.TypeIs (.ref a) "dict"∧(∀ b,Value.ref a=.ref b→∃ ob,s.heap.get? b=some ob∧ob.dict=none)∧(a == sysModules)=false:=by
 rcases d with ⟨kvs,e⟩ | ⟨kvs,e⟩
 ·obtain⟨_,hd,vs,_,dd⟩:=dk_rd I.hok e
  refine⟨dd.typeIs,fun b q=>?_,hd⟩
  cases q
  obtain⟨ob,_,_,h1,h2,_⟩:=dd
  exact⟨ob,h1,h2.2.1⟩
 ·obtain⟨_,hd,xs,_,dd⟩:=dt_rd I.hok e
  refine⟨dd.typeIs,fun b q=>?_,hd⟩
  cases q
  obtain⟨ob,_,_,h1,h2,_⟩:=dd
  exact⟨ob,h1,h2.2.1⟩
section
variable {X:Cx} {pins:List (Addr×Obj)} {σ:St} {H:Hp} {s:Shared} {a:Addr} {y d:V} {u r:Value} {o:Option V} {A:Around} {E:Value→Shared→Prop}
theorem d_get2 {Q:Value→Shared→Prop} (hu:A.units+1<cLine) (I:Inv X pins σ H s) (g:DGet H a y o) (ry:RelV y u) (rd:RelV d r) (h:∀ w' s',Inv X pins σ H s'→RelV (o.getD d) w'→Q w' s') :
 wpAny (model X.prog X.w) A (call (.builtin "dict.get") [.ref a,u,r]) Q E s:=by
 rcases g with ⟨kvs,k,e,ey,l⟩ | ⟨kvs,k,b,e,ey,eb,l⟩
 ·subst ey
  obtain⟨z,hd,vs,rel,dd⟩:=dk_rd I.hok e
  refine call_meetsIn PySem.F.slot_dict_get dd.typeIs PySem.F.entry_dict_get (PySem.F.args_dict_get_3 _ _ _) (meets_dict_get_default (mixKind X.prog X.w) a (kV_is ry) hd r) ⟨_,dd.mapOf,h _ _ (I.tok _) ?_⟩
  rw[l]
  exact(rel.val k).getD rd
 ·subst ey
  cases (show u=Value.ref b from ry)
  obtain⟨z,hd,xs,rel,dd⟩:=dt_rd I.hok e
  refine call_meetsIn PySem.F.slot_dict_get dd.typeIs PySem.F.entry_dict_get (PySem.F.args_dict_get_3 _ _ _) (meetsH_dict_get_default (tupleKind (mixKind X.prog X.w)) a b hd r) ⟨tupleKind_room_in1 hu,k,xs,key_of I.hok eb,dd,h _ _ (I.tok _) ?_⟩
  rw[l]
  exact(rel.val k).getD rd
end
noncomputable def tDGet2 (td ty tx:TE):TE:=fun σ H Q=>td σ H fun x H1=>∃ a,x=.ref a∧IsD H1 a∧ty σ H1 fun y H2=>tx σ H2 fun z H3=>∃ o,DGet H3 a y o∧Q (o.getD z) H3
section
variable {X:Cx} {o e f:Expr} {apos cpos:Pos} {td ty tx:TE}
theorem pe_dget2 (hu:X.A.units+1<cLine) (ho:PE X o td) (he:PE X e ty) (hf:PE X f tx) (m:M2 X o "get" apos e f cpos):PE X (.Call (.Attribute o "get" apos) [e,f] [] cpos) (tDGet2 td ty tx):=by
 intro pins s σ H Q I h
 refine wpAny_Call_method m.base m.few m.line PySem.F.plainAttrs_dict PySem.F.slot_dict_get PySem.F.type_dict_get (thn (ho pins s σ H _ I h) fun u s1 ⟨x,H1,I1,rx,a,ex,d,q1⟩=>?_)
 subst ex
 obtain rfl:u=Value.ref a:=rx
 obtain⟨t1,t2,_⟩:=isD_at I1 d
 refine⟨t1,t2,?_⟩
 rw[m.trees]
 refine Calls.callWith_builtin rfl (Calls.evalArgs_plain (Calls.spliced_cons (thn (he pins s1 σ H1 _ I1 q1) fun iv s2 ⟨y,H2,I2,ry,q2⟩ =>
  Calls.spliced_cons (thn (hf pins s2 σ H2 _ I2 q2) fun fv s3 ⟨z,H3,I3,rz,ov,g,q3⟩=>Calls.spliced_nil ?_))))
 exact d_get2 hu I3 g ry rz fun w' s4 I4 rw'=>⟨_,H3,I4,rw',q3⟩
end
section
variable {X:Cx} {pins:List (Addr×Obj)} {σ:St} {H:Hp} {s:Shared} {a:Addr} {kvs:List (Key×V)} {A:Around} {E:Value→Shared→Prop}
end
section
variable {X:Cx} {pins:List (Addr×Obj)} {σ:St} {H:Hp} {s:Shared} {a:Addr} {y:V} {u:Value} {A:Around} {E:Value→Shared→Prop}
end
end L2
namespace L2
open PySem PySem.Spec PyProof.Rows
section
variable {X:Cx} {pins:List (Addr×Obj)} {σ:St} {H:Hp} {s:Shared} {d:Addr} {kvs:List (Key×V)}
theorem Inv.freezeD (I:Inv X pins σ H s) (e:H d=some (.dK kvs)):∃ od,s.heap.get? d=some od∧Inv X pins σ (upd H d (.frz od (.dK kvs))) s:=by
 obtain⟨z,hd,vs,rel,dd⟩:=dk_of I.hok e
 obtain⟨ep,hat⟩:=dd.dictAt
 obtain⟨od,es,ho,_⟩:=id hat
 refine⟨od,ho,?_⟩
 have ne:∀ b u,H b=some u→(∀ ks,u≠.dK ks)→b≠d:=fun b u q n z=>by rw[z,e]at q;cases q;exact n _ rfl
 have nb:∀ b,H b=none→b≠d:=fun b q z=>by rw[z,e]at q;cases q
 have up:∀ b u,H b=some u→(∀ ks,u≠.dK ks)→upd H d (.frz od (.dK kvs)) b=some u:=fun b u q n=>by rw[upd_ne (ne b u q n)];exact q
 have un:Un X.fs [] H (upd H d (.frz od (.dK kvs))) s.heap s.heap:=⟨fun _ _ q _ _ _=>q,fun _ o q _ _ _=>⟨o.slots,q⟩,fun b _ _ n _=>by rw[upd_ne (nb b n)];exact n,fun _ o q _=>⟨o,q⟩,
  fun b xs q=>up b _ q (fun _ z=>by cases z),fun b o u q=>up b _ q (fun _ z=>by cases z),fun b ps q=>⟨#[],by rw[up b _ q (fun _ z=>by cases z)];simp⟩⟩
 exact I.un (t':=s.toks) un fun b u q=>by
  by_cases hb:b=d
  ·subst hb
   rw[upd_same]at q
   cases q
   exact⟨ho,z,hd,vs,rel,dd⟩
  ·rw[upd_ne hb]at q
   exact(I.hok b u q).stay (fun _ _ _ z=>z) (fun c z=>up c _ z fun _ z=>by cases z) fun c xs z=>up c _ z fun _ z=>by cases z
end
noncomputable def Itd (d:Addr) (od:Obj) (kvs:List (Key×V)):It :=
 ⟨fun i H=>H d=some (.frz od (.dK kvs))∧i<kvs.length,fun i H v H'=>∃ t k x,v=.ref t∧H t=none∧kvs[i]?=some (k,x)∧H'=upd H t (.tup [kV k,x]),fun i H=>H d=some (.frz od (.dK kvs))∧kvs.length≤i⟩
theorem kv_at {kvs:List (Key×V)} {vs:List (Key×Value)} (r:KV kvs vs) {i:Nat} {k:Key} {x:V} (e:kvs[i]?=some (k,x)):∃ u,vs[i]?=some (k,u)∧RelV x u:=by
 induction r generalizing i with
 | nil=>simp at e
 | cons h _ ih =>
  cases i with
  | zero =>
   rename_i p q _ _ _
   obtain⟨p1,p2⟩:=p
   obtain⟨q1,q2⟩:=q
   simp only[List.getElem?_cons_zero,Option.some.injEq,Prod.mk.injEq]at e
   obtain⟨rfl,rfl⟩:=e
   obtain⟨h1,h2⟩:=h
   simp only at h1 h2
   subst h1
   exact⟨_,rfl,h2⟩
  | succ i=>exact ih e
theorem kV_rel {P:Program} {w:World} {k:Key} {u:Value} (h:(mixKind P w).is k u=true):RelV (kV k) u:=by
 rw[mixKind_is]at h
 rcases keyIs_shape h with ⟨i,t,rfl,rfl⟩ | ⟨x,t,rfl,rfl⟩
 ·exact⟨_,rfl⟩
 ·exact⟨_,rfl⟩
theorem turn_items {P:Program} {w:World} {K:PySem.W.Frag} {elts:List Expr} {x1} {pos:Pos} (d it:Addr) (od:Obj) (kvs:List (Key×V)) (vs:List (Key×Value)) (ep:Nat) (rel:KV kvs vs) (hat:∀ h:Heap,h.get? d=some od→h.DictAt (mixKind P w) d vs ep) (hne:d≠it) :
 Turn P w K (.Tuple elts x1 pos) (Itd d od kvs) [it] it (fun i h=>∃ ok ov,IsItemIter h it d i vs.length ep ok ov) where
 mem:=by simp
 obj:=fun i h st b hb=>by
  obtain⟨ok,ov,he⟩:=st
  have z:b=it:=by simpa using hb
  subst z
  exact⟨_,he,fun v z=>by have z':Data.fields _=Data.cell v:=z;cases z'⟩
 keep:=fun i h h' st k=>let ⟨ok,ov,he⟩:=st;⟨ok,ov,k it (by simp) _ he⟩
 item:=by
  intro X hP hw hK hc i pins s σ H E I hf st hg
  subst hP hw hK
  obtain⟨hd,hi⟩:=hg
  obtain⟨⟨k,x⟩,hx⟩:∃ p,kvs[i]?=some p:=⟨kvs[i],by simp[hi]⟩
  obtain⟨u,hu,ru⟩:=kv_at rel hx
  obtain⟨ok,ov,he⟩:=st
  have hod:s.heap.get? d=some od:=(I.hok d _ hd).1
  have li:it<s.heap.objs.size:=Heap.lt_size he
  refine wpAny_pyNext_items_item he (hat _ hod) hu fun key h' hkey ho hT hsz kp=>?_
  refine⟨_,rfl,?_⟩
  have hn:H s.heap.objs.size=none:=I.hok.fresh (Nat.le_refl _)
  have tupOk:∀ h2:Heap,h2.get? s.heap.objs.size=some { cls:=.type "tuple",data:=.seq #[key,u] }→ObjOk X.prog X.w (upd H s.heap.objs.size (.tup [kV k,x])) h2 s.heap.objs.size (.tup [kV k,x]):=fun h2 q =>
   ⟨by show 2≤sizeLine;decide,[key,u],.cons (kV_rel hkey) (.cons ru .nil),_,q,rfl,_,rfl⟩
  refine wpAny_letOwnedTupleGo_items ho fun h2 f1 sb=>?_
  have k2:∀ b o,b∉[it]→s.heap.get? b=some o→h2.get? b=some o:=fun b o hb q=>sb.extBut b o (fun z=>hb (by simp[z])) (kp b o (fun z=>hb (by simp[z])) q)
  have n1:s.heap.objs.size≠it:=Nat.ne_of_gt li
  refine⟨.ref s.heap.objs.size,_,I.turnLaid (t':=s.toks) (h':=h2) (o:=.tup [kV k,x]) k2 hf (Nat.le_refl _) (tupOk _ (sb.extBut _ _ n1 hT)),rfl,⟨_,k,x,rfl,hn,hx,rfl⟩,⟨_,_,f1⟩,fun b hb=>?_⟩
  have hb':b≠s.heap.objs.size:=by
   have z:b=it:=by simpa using hb
   subst z;exact Nat.ne_of_lt li
  rw[upd_ne hb'];exact(hf b hb).1
 done:=by
  intro X hP hw hK hc i pins s σ H E I hf st hg
  subst hP hw hK
  obtain⟨hd,hi⟩:=hg
  obtain⟨ok,ov,he⟩:=st
  have hod:s.heap.get? d=some od:=(I.hok d _ hd).1
  have hl:=rel.length
  exact wpAny_pyNext_items_end (I.ok.hd hc) he (hat _ hod) (by simp;omega) fun h' eb=>⟨rfl,I.turnedF (fp:=[it]) (t':=s.toks) (fun b o hb e=>eb b o (fun z=>hb (by simp[z])) e) hf⟩
 self:=fun _ _ _ _ _ st h=>let ⟨_,_,he⟩:=st;PySem.W.kcp_self he h
noncomputable def iItems (td:TE):TI:=fun σ H R=>td σ H fun x H1=>∃ d kvs,x=.ref d∧H1 d=some (.dK kvs)∧∀ od,R (Itd d od kvs) (upd H1 d (.frz od (.dK kvs)))
theorem pi_items {X:Cx} {elts:List Expr} {x1} {tpos:Pos} {o:Expr} {td:TE} {apos pos:Pos} (ho:PE X o td) (hbase:attributeBase o "items" X.env (eval o X.env)=eval o X.env:=by rfl) (hline:(apos.endLine == pos.line)=true:=by rfl) :
 PI X (.Tuple elts x1 tpos) (.Call (.Attribute o "items" apos) [] [] pos) (iItems td):=by
 intro pins s σ H R I h
 refine wpAny_Call_method0_late hbase hline (thn (ho pins s σ H _ I h) fun u s1 ⟨x,H1,I1,rx,d,kvs,ex,hd,q⟩=>?_)
 subst ex
 obtain rfl:u=Value.ref d:=rx
 obtain⟨z,hsys,vs,rel,dd⟩:=dk_of I1.hok hd
 obtain⟨ep,hat⟩:=id dd.dictAt
 obtain⟨od,hod,I2⟩:=I1.freezeD hd
 obtain⟨t1,t2,_⟩:=isD_at I1 (.inl ⟨kvs,.inl hd⟩)
 refine⟨"dict","dict.items",PySem.F.plainAttrs_dict,PySem.F.slot_dict_items,PySem.F.type_dict_items,t1,t2,Calls.callWith_builtin rfl (PySem.evalArgs_none ?_)⟩
 refine call_meetsIn PySem.F.slot_dict_items dd.typeIs PySem.F.entry_dict_items (PySem.F.args_dict_items_1 _) (meets_dict_items (mixKind X.prog X.w) d hsys) ⟨⟨vs,dd⟩,?_⟩
 have hv:(s1.heap.push { cls:=.type "dict_items",data:=.fields #[.ref d] }).IsItemsView s1.heap.objs.size d:=⟨_,Heap.get?_push_size _ rfl,rfl,rfl⟩
 have h1:(s1.heap.push { cls:=.type "dict_items",data:=.fields #[.ref d] }).get? d=some od:=Heap.get?_push_of_some _ hod
 have hat':∀ h:Heap,h.get? d=some od→h.DictAt (mixKind X.prog X.w) d vs ep:=fun h e=>hat.at fun o q=>by rw[hod]at q;cases q;exact e
 refine wpAny_pyIter_items hv (hat' _ h1) ?_
 generalize hob:({ cls:=.type "dict_itemiterator",data:=.fields #[.none,.bool false,.ref d,.int 0 0,.int vs.length 0,.int ep 0,.none,.none] }:Obj)=ob
 have kp:∀ b o,s1.heap.get? b=some o→((s1.heap.push { cls:=.type "dict_items",data:=.fields #[.ref d] }).push ob).get? b=some o:=fun b o e=>Heap.get?_push_of_some _ (Heap.get?_push_of_some _ e)
 have hsz:(s1.heap.push { cls:=.type "dict_items",data:=.fields #[.ref d] }).objs.size=s1.heap.objs.size+1:=Heap.size_push ..
 have I3:=I2.kept (t':=s1.toks) kp
 have hge:s1.heap.objs.size≤(s1.heap.push { cls:=.type "dict_items",data:=.fields #[.ref d] }).objs.size:=by rw[hsz];exact Nat.le_succ _
 have hne:d≠(s1.heap.push { cls:=.type "dict_items",data:=.fields #[.ref d] }).objs.size:=fun z=>by
  have:=Heap.lt_size hod
  rw[z]at this
  exact absurd this (Nat.not_lt.mpr hge)
 refine⟨_,[_],_,_,_,rfl,I3,turn_items d _ od kvs vs ep rel hat' hne,⟨.none,.none,?_⟩,fun b hb=>?_,q od⟩
 ·rw[← hob]
  exact Heap.get?_push_size _ rfl
 ·have z:b=(s1.heap.push { cls:=.type "dict_items",data:=.fields #[.ref d] }).objs.size:=by simpa using hb
  rw[z]
  exact I2.fpOk hge (I2.hok.fresh hge)
theorem comp_items {d:Addr} {od:Obj} {kvs:List (Key×V)} {σ0:St} {g:TG} {tt:TT} {te:TE} {H:Hp} {Q:VK} (Pv:Nat→List V→Hp→Prop) (h0:Pv 0 [] H) (hl:∀ i ys H,i≤kvs.length→Pv i ys H→H d=some (.frz od (.dK kvs))∧ys.length<sizeLine)
 (hs:∀ i k x ys H t,kvs[i]?=some (k,x)→Pv i ys H→H t=none→g (.ref t) σ0 (upd H t (.tup [kV k,x])) fun σ2 H2=>tt σ2 H2 fun b H3=>if b=true then te σ2 H3 fun y H4=>Pv (i+1) (ys++[y]) H4 else Pv (i+1) ys H3) (hd:∀ ys H,Pv kvs.length ys H→∀ D,H D=none→Q (.ref D) (upd H D (.lst ys))) :
 CompR (Itd d od kvs) σ0 g tt te Q H:=by
 refine⟨fun i m ys H=>m=kvs.length - i∧i≤kvs.length∧Pv i ys H,⟨kvs.length,by simp,Nat.zero_le _,h0⟩,?_⟩
 rintro i m ys H ⟨rfl,hi,p⟩
 obtain⟨q,hz⟩:=hl i ys H hi p
 refine⟨hz,?_⟩
 by_cases hlt:i<kvs.length
 ·refine .inr ⟨⟨q,hlt⟩,Pv (i+1),fun ys' H' p'=>⟨kvs.length - (i+1),by omega,rfl,hlt,p'⟩,fun x H' y=>?_⟩
  obtain⟨t,k,v,rfl,hn,hx,rfl⟩:=y
  exact hs i k v ys _ t hx p hn
 ·have e:i=kvs.length:=by omega
  subst e
  exact .inl ⟨⟨q,Nat.le_refl _⟩,hd ys H p⟩
noncomputable def tDSet (td ty tx:TE):TE:=fun σ H Q=>td σ H fun x H1=>∃ a,x=.ref a∧IsD H1 a∧ty σ H1 fun y H2=>tx σ H2 fun z H3=>∃ kvs k,H3 a=some (.dK kvs)∧y=kV k∧kvs.length<sizeLine ∧
 (∀ v,valV kvs k=some v→Q v H3)∧(valV kvs k=none→Q z (upd H3 a (.dK (putK kvs k z))))
section
variable {X:Cx} {o e f:Expr} {apos cpos:Pos} {td ty tx:TE}
theorem pe_dset (ho:PE X o td) (he:PE X e ty) (hf:PE X f tx) (m:M2 X o "setdefault" apos e f cpos):PE X (.Call (.Attribute o "setdefault" apos) [e,f] [] cpos) (tDSet td ty tx):=by
 intro pins s σ H Q I h
 refine wpAny_Call_method m.base m.few m.line PySem.F.plainAttrs_dict PySem.F.slot_dict_setdefault PySem.F.type_dict_setdefault (thn (ho pins s σ H _ I h) fun u s1 ⟨x,H1,I1,rx,a,ex,d,q1⟩=>?_)
 subst ex
 obtain rfl:u=Value.ref a:=rx
 obtain⟨t1,t2,_⟩:=isD_at I1 d
 refine⟨t1,t2,?_⟩
 rw[m.trees]
 refine Calls.callWith_builtin rfl (Calls.evalArgs_plain (Calls.spliced_cons (thn (he pins s1 σ H1 _ I1 q1) fun iv s2 ⟨y,H2,I2,ry,q2⟩ =>
  Calls.spliced_cons (thn (hf pins s2 σ H2 _ I2 q2) fun fv s3 ⟨z,H3,I3,rz,kvs,k,ea,ey,hl,q3,q4⟩=>Calls.spliced_nil ?_))))
 subst ey
 obtain⟨hz,hsys,vs,rel,dd⟩:=dk_of I3.hok ea
 refine call_meetsIn PySem.F.slot_dict_setdefault dd.typeIs PySem.F.entry_dict_setdefault (PySem.F.args_dict_setdefault_3 _ _ _) (kt_meets_setdefault (mixKind X.prog X.w) a (kV_is ry) hsys fv) ⟨vs,dd,by rw[← rel.length];exact hz,fun v hv=>?_,fun hn h' hd' hs=>?_⟩
 ·have r:=rel.val k
  rw[hv]at r
  cases hq:valV kvs k with
  | none=>rw[hq]at r;exact r.elim
  | some v'=>rw[hq]at r;exact⟨v',H3,I3.tok _,r,q3 v' hq⟩
 ·have r:=rel.val k
  rw[hn]at r
  have hq:valV kvs k=none:=by
   cases hq:valV kvs k with
   | none=>rfl
   | some v'=>rw[hq]at r;exact r.elim
  refine⟨z,_,d_write (t':=_) I3 (by rw[ea];exact True.intro) hs ?_ (dk_new ?_ hsys (rel.put k rz) hd'),rz,q4 hq⟩
  ·obtain⟨_,hat⟩:=hd'.dictAt
   obtain⟨o,es,ho,_⟩:=id hat
   exact⟨o,ho⟩
  ·have:=length_putK kvs k z
   omega
end
end L2
namespace CW
open PySem L2
noncomputable def kvI (ms:List (Int×Int)):List (Key×V):=ms.map fun m=>((Sum.inl m.1:Key),V.int m.2)
noncomputable def lkI (ms:List (Int×Int)) (c:Int):Option Int:=(ms.find? fun m=>decide (m.1=c)).map (·.2)
theorem valV_kvI (k:Int):∀ ms:List (Int×Int),valV (kvI ms) (Sum.inl k:Key)=(lkI ms k).map V.int
 | []=>rfl
 | m :: r=>by
  by_cases h:m.1=k
  ·have:valV (kvI (m :: r)) (Sum.inl k:Key)=some (V.int m.2):=valV_pos (p:=((Sum.inl m.1:Key),V.int m.2)) (by rw[h])
   rw[this]
   unfold lkI
   rw[List.find?_cons,decide_eq_true h]
   rfl
  ·have:valV (kvI (m :: r)) (Sum.inl k:Key)=valV (kvI r) (Sum.inl k:Key):=valV_neg (p:=((Sum.inl m.1:Key),V.int m.2)) (fun z=>h (Sum.inl.inj z))
   rw[this,valV_kvI k r]
   unfold lkI
   rw[List.find?_cons,decide_eq_false h]
noncomputable def putI (ms:List (Int×Int)) (k v:Int):List (Int×Int):=if ms.any (fun m=>decide (m.1=k))then ms.map (fun m=>if m.1=k then (m.1,v)else m)else ms++[(k,v)]
theorem kvI_put (ms:List (Int×Int)) (k v:Int):putK (kvI ms) (Sum.inl k:Key) (V.int v)=kvI (putI ms k v):=by
 have e:(kvI ms).any (fun kv=>decide (kv.1=(Sum.inl k:Key)))=ms.any (fun m=>decide (m.1=k)):=by
  unfold kvI
  rw[List.any_map]
  congr 1
  funext m
  simp only[Function.comp]
  by_cases h:m.1=k
  ·rw[decide_eq_true h,decide_eq_true (by rw[h])]
  ·rw[decide_eq_false h,decide_eq_false (fun z=>h (Sum.inl.inj z))]
 unfold putK putI
 rw[e]
 by_cases h:ms.any (fun m=>decide (m.1=k))=true
 ·rw[if_pos h,if_pos h]
  unfold kvI
  rw[List.map_map,List.map_map]
  refine List.map_congr_left fun m _=>?_
  simp only[Function.comp]
  by_cases hm:m.1=k
  ·rw[if_pos hm,if_pos (by rw[hm])]
  ·rw[if_neg hm,if_neg (fun z=>hm (Sum.inl.inj z))]
 ·rw[if_neg h,if_neg h]
  unfold kvI
  rw[List.map_append]
  rfl
theorem lkI_put (ms:List (Int×Int)) (k v c:Int):lkI (putI ms k v) c=if c=k then some v else lkI ms c:=by
 have h:=valV_put (kvI ms) (Sum.inl k:Key) (Sum.inl c:Key) (V.int v)
 rw[kvI_put,valV_kvI,valV_kvI]at h
 by_cases hc:c=k
 ·subst hc
  rw[if_pos rfl]at h ⊢
  cases hq:lkI (putI ms c v) c with
  | none=>rw[hq]at h;cases h
  | some x =>
   rw[hq]at h
   have:V.int x=V.int v:=Option.some.inj h
   cases this
   rfl
 ·rw[if_neg (fun z=>hc (Sum.inl.inj z))]at h
  rw[if_neg hc]
  cases hq:lkI (putI ms k v) c with
  | none =>
   rw[hq]at h
   cases hr:lkI ms c with
   | none=>rfl
   | some y=>rw[hr]at h;cases h
  | some x =>
   rw[hq]at h
   cases hr:lkI ms c with
   | none=>rw[hr]at h;cases h
   | some y =>
    rw[hr]at h
    have:V.int x=V.int y:=Option.some.inj h
    cases this
    rfl
theorem key_put {ms:List (Int×Int)} {k v:Int} (h:(ms.map (·.1)).Nodup):((putI ms k v).map (·.1)).Nodup:=by
 unfold putI
 by_cases ha:ms.any (fun m=>decide (m.1=k))=true
 ·rw[if_pos ha,List.map_map]
  have:ms.map ((fun x=>x.1)∘fun m=>if m.1=k then (m.1,v)else m)=ms.map (·.1):=by
   refine List.map_congr_left fun m _=>?_
   simp only[Function.comp]
   split <;> rfl
  rw[this]
  exact h
 ·rw[if_neg ha,List.map_append,List.nodup_append]
  refine⟨h,by simp,fun x hx y hy=>?_⟩
  obtain⟨m,hm,rfl⟩:=List.mem_map.mp hx
  have hy':y=k:=by simpa using hy
  rw[hy']
  intro e
  exact ha (List.any_eq_true.mpr ⟨m,hm,by simpa using e⟩)
theorem len_put (ms:List (Int×Int)) (k v:Int):(putI ms k v).length≤ms.length+1:=by
 unfold putI
 split
 ·rw[List.length_map];omega
 ·rw[List.length_append,List.length_singleton];omega
theorem mem_put {ms:List (Int×Int)} {k v:Int} {x:Int×Int} (h:x∈putI ms k v):x.1=k∨x∈ms:=by
 unfold putI at h
 split at h
 ·obtain⟨m,hm,rfl⟩:=List.mem_map.mp h
  by_cases hk:m.1=k
  ·rw[if_pos hk];exact .inl hk
  ·rw[if_neg hk];exact .inr hm
 ·rcases List.mem_append.mp h with h | h
  ·exact .inr h
  ·rw[List.mem_singleton.mp h];exact .inl rfl
theorem lkI_mem {ms:List (Int×Int)} {c m:Int} (h:lkI ms c=some m):(c,m)∈ms:=by
 unfold lkI at h
 obtain⟨x,hx,rfl⟩:=Option.map_eq_some_iff.mp h
 have h1:=List.mem_of_find?_eq_some hx
 have h2:x.1=c:=by simpa using List.find?_some hx
 rw[← h2]
 exact h1
theorem mem_lkI:∀ {ms:List (Int×Int)} {c m:Int},(ms.map (·.1)).Nodup→(c,m)∈ms→lkI ms c=some m
 | [],_,_,_,h=>by cases h
 | x :: r,c,m,hn,h=>by
  rw[List.map_cons,List.nodup_cons]at hn
  unfold lkI
  rw[List.find?_cons]
  by_cases hx:x.1=c
  ·rw[decide_eq_true hx]
   rcases List.mem_cons.mp h with e | e
   ·rw[← e];rfl
   ·exact absurd (List.mem_map.mpr ⟨_,e,hx.symm⟩) hn.1
  ·rw[decide_eq_false hx]
   rcases List.mem_cons.mp h with e | e
   ·rw[← e]at hx;exact absurd rfl hx
   ·exact mem_lkI hn.2 e
noncomputable def useI (n:Int) (q:Int×Int):Int:=if n<q.1 then n else q.1
noncomputable def sumW (ws:List (Int×Int)) (n c:Int):Int:=((ws.filter fun q=>decide (useI n q=c)).map (·.2)).sum
theorem sumW_take {ws:List (Int×Int)} {n c:Int} {i:Nat} {q:Int×Int} (h:ws[i]?=some q):sumW (ws.take (i+1)) n c=sumW (ws.take i) n c+if useI n q=c then q.2 else 0:=by
 unfold sumW
 rw[List.take_succ,h,List.filter_append,List.map_append,List.sum_append]
 by_cases hc:useI n q=c
 ·simp[hc]
 ·simp[hc]
noncomputable def tidyTo (ws:List (Int×Int)) (n:Int):Nat→List (Int×Int)
 | 0=>[]
 | i+1=>tidyTo ws n i++(if sumW ws n ((i:Int)+1)=0 then []else [((i:Int)+1,sumW ws n ((i:Int)+1))])
theorem mem_tidy {ws:List (Int×Int)} {n:Int}:∀ {i:Nat} {x:Int×Int},x∈tidyTo ws n i↔(1≤x.1∧x.1≤i)∧x.2=sumW ws n x.1∧x.2≠0
 | 0,x=>⟨fun h=>(nomatch h),fun h=>absurd h.1 (by omega)⟩
 | i+1,x=>by
  unfold tidyTo
  rw[List.mem_append,mem_tidy (i:=i)]
  constructor
  ·rintro (⟨h1,h2⟩ | h)
   ·exact⟨⟨h1.1,by omega⟩,h2⟩
   ·split at h
    ·cases h
    ·rename_i hz
     rw[List.mem_singleton.mp h]
     exact⟨⟨by show 1≤(i:Int)+1;omega,by show (i:Int)+1≤_;omega⟩,rfl,hz⟩
  ·rintro ⟨h1,h2,h3⟩
   by_cases hx:x.1=(i:Int)+1
   ·right
    rw[if_neg (by rw[← hx,← h2];exact h3),List.mem_singleton]
    exact Prod.ext hx (by rw[h2,hx])
   ·exact .inl ⟨⟨h1.1,by omega⟩,h2,h3⟩
theorem tidy_sorted {ws:List (Int×Int)} {n:Int}:∀ i:Nat,(tidyTo ws n i).Pairwise ple∧(tidyTo ws n i).Nodup
 | 0=>⟨List.Pairwise.nil,List.Pairwise.nil⟩
 | i+1=>by
  have ih:=tidy_sorted (ws:=ws) (n:=n) i
  unfold tidyTo
  split
  ·rw[List.append_nil];exact ih
  ·refine⟨List.pairwise_append.mpr ⟨ih.1,List.pairwise_singleton _ _,fun a ha b hb=>?_⟩,List.nodup_append.mpr ⟨ih.2,by simp,fun a ha b hb e=>?_⟩⟩
   ·rw[List.mem_singleton.mp hb]
    have:=(mem_tidy.mp ha).1
    exact .inl (by show a.1<(i:Int)+1;omega)
   ·rw[List.mem_singleton.mp hb]at e
    have:=(mem_tidy.mp ha).1
    rw[e]at this
    simp only at this
    omega
theorem perm_of_nodup:∀ {a b:List (Int×Int)},a.Nodup→b.Nodup→(∀ x,x∈a↔x∈b)→a.Perm b:=fun h1 h2 h=>(List.perm_ext_iff_of_nodup h1 h2).mpr h
noncomputable def dueTidy (ws:List (Int×Int)) (n:Int):Ref:=open Classical in if n<1∨60<n then .number else if Crl ws then .ok else .creel
section
variable {P:Program} {w:World} {K:PySem.W.Frag} {mg:Str→Option Value} {base:Heap}
noncomputable def spLookStones (X:Errs K mg):Sp:=fun vs H Q E=>∃ n:Int,vs=[.int n]∧(¬ (n<1∨60<n)→Q .non H)∧(n<1∨60<n→Rf0 E X.number "BadNumber" H)
noncomputable def spTidied (X:Errs K mg):Sp:=fun vs H Q E=>∃ (a:Addr) (ws:List (Int×Int)) (n:Int),vs=[.ref a,.int n]∧LP H a ws∧ws.length≤60∧(dueTidy ws n=.ok→RetP H Q (tidyTo ws n n.toNat))∧(dueTidy ws n≠.ok→(dueTidy ws n).go X E H)
end
end CW
namespace CW
open PySem L2
end CW
namespace CW
open PySem L2
theorem nodup_inj {α β:Type} {f:α→β}:∀ {l:List α},(l.map f).Nodup→∀ {x y:α},x∈l→y∈l→f x=f y→x=y
 | [],_,_,_,hx,_,_=>by cases hx
 | z :: r,h,x,y,hx,hy,e=>by
  rw[List.map_cons,List.nodup_cons]at h
  rcases List.mem_cons.mp hx with ex | hx'
  ·rcases List.mem_cons.mp hy with ey | hy'
   ·rw[ex,ey]
   ·exact absurd (List.mem_map.mpr ⟨y,hy',by rw[← e,ex]⟩) h.1
  ·rcases List.mem_cons.mp hy with ey | hy'
   ·exact absurd (List.mem_map.mpr ⟨x,hx',by rw[e,ey]⟩) h.1
   ·exact nodup_inj h.2 hx' hy' e
noncomputable abbrev Grp:=Int×Addr×List Int
noncomputable def kvG (gs:List Grp):List (Key×V):=gs.map fun g=>((Sum.inl g.1:Key),V.ref g.2.1)
structure DG (H:Hp) (d:Addr) (gs:List Grp):Prop where
 at_:H d=some (.dK (kvG gs))
 lst:∀ g∈gs,H g.2.1=some (.lst (g.2.2.map V.int))
 adr:(gs.map (·.2.1)).Nodup
 key:(gs.map (·.1)).Nodup
noncomputable def SameD (d:Addr) (H H':Hp):Prop:=∀ b o,b≠d→H b=some o→H' b=some o
noncomputable def wgt (f:Int→Int) (gs:List Grp):Int:=(gs.map fun g=>f g.1 * (g.2.2.length:Int)).sum
noncomputable def tot (f:Int→Int) (ps:List (Int×Int)):Int:=(ps.map fun p=>f p.1).sum
theorem valV_kvG (k:Int):∀ gs:List Grp,valV (kvG gs) (Sum.inl k:Key)=(gs.find? fun g=>decide (g.1=k)).map fun g=>V.ref g.2.1
 | []=>rfl
 | g :: r=>by
  by_cases h:g.1=k
  ·have:valV (kvG (g :: r)) (Sum.inl k:Key)=some (V.ref g.2.1):=valV_pos (p:=((Sum.inl g.1:Key),V.ref g.2.1)) (by rw[h])
   rw[this,List.find?_cons,decide_eq_true h]
   rfl
  ·have:valV (kvG (g :: r)) (Sum.inl k:Key)=valV (kvG r) (Sum.inl k:Key):=valV_neg (p:=((Sum.inl g.1:Key),V.ref g.2.1)) (fun z=>h (Sum.inl.inj z))
   rw[this,List.find?_cons,decide_eq_false h]
   exact valV_kvG k r
noncomputable def grow (k o:Int) (gs:List Grp):List Grp:=gs.map fun g=>if g.1=k then (g.1,g.2.1,g.2.2++[o])else g
theorem kvG_grow (k o:Int) (gs:List Grp):kvG (grow k o gs)=kvG gs:=by
 unfold kvG grow
 rw[List.map_map]
 refine List.map_congr_left fun g _=>?_
 simp only[Function.comp]
 split <;> rfl
theorem adr_grow (k o:Int) (gs:List Grp):(grow k o gs).map (·.2.1)=gs.map (·.2.1):=by
 unfold grow
 rw[List.map_map]
 refine List.map_congr_left fun g _=>?_
 simp only[Function.comp]
 split <;> rfl
theorem key_grow (k o:Int) (gs:List Grp):(grow k o gs).map (·.1)=gs.map (·.1):=by
 unfold grow
 rw[List.map_map]
 refine List.map_congr_left fun g _=>?_
 simp only[Function.comp]
 split <;> rfl
theorem len_grow (k o:Int) (gs:List Grp):(grow k o gs).length=gs.length:=by simp[grow]
theorem grow_none {k o:Int}:∀ {gs:List Grp},(∀ g∈gs,g.1≠k)→grow k o gs=gs
 | [],_=>rfl
 | g :: r,h=>by
  have h1:=h g List.mem_cons_self
  unfold grow
  rw[List.map_cons,if_neg h1]
  congr 1
  exact grow_none fun x hx=>h x (List.mem_cons_of_mem _ hx)
theorem wgt_grow (f:Int→Int) {k o:Int}:∀ {gs:List Grp},(gs.map (·.1)).Nodup→(∃ g∈gs,g.1=k)→wgt f (grow k o gs)=wgt f gs+f k
 | [],_,⟨g,h,_⟩=>by cases h
 | g :: r,hn,hex=>by
  have hn':=List.nodup_cons.mp hn
  by_cases h:g.1=k
  ·have hr:grow k o r=r:=grow_none fun x hx e=>hn'.1 (List.mem_map.mpr ⟨x,hx,e.trans h.symm⟩)
   have:grow k o (g :: r)=(g.1,g.2.1,g.2.2++[o]) :: r:=by
    show (if g.1=k then (g.1,g.2.1,g.2.2++[o])else g) :: grow k o r=_
    rw[if_pos h,hr]
   rw[this]
   simp only[wgt,List.map_cons,List.sum_cons,List.length_append,List.length_singleton]
   rw[← h]
   have:f g.1 * ((g.2.2.length+1:Nat):Int)=f g.1 * (g.2.2.length:Int)+f g.1:=by
    rw[show ((g.2.2.length+1:Nat):Int)=(g.2.2.length:Int)+1 by omega,Int.mul_add,Int.mul_one]
   rw[this]
   omega
  ·have hex':∃ g∈r,g.1=k:=by
    obtain⟨x,hx,e⟩:=hex
    rcases List.mem_cons.mp hx with rfl | hx
    ·exact absurd e h
    ·exact⟨x,hx,e⟩
   have ih:=wgt_grow f (o:=o) hn'.2 hex'
   have:grow k o (g :: r)=g :: grow k o r:=by
    show (if g.1=k then (g.1,g.2.1,g.2.2++[o])else g) :: grow k o r=_
    rw[if_neg h]
   rw[this]
   simp only[wgt,List.map_cons,List.sum_cons]at ih ⊢
   omega
noncomputable def lesJ (j k:Int):Int:=if k<j then k else j
section
variable {P:Program} {w:World} {K:PySem.W.Frag} {mg:Str→Option Value} {base:Heap}
end
end CW
namespace L2
open PySem PySem.Spec PyProof.Rows
theorem Inv.thaw {X:Cx} {pins:List (Addr×Obj)} {σ:St} {H:Hp} {s:Shared} {d:Addr} {od:Obj} {kvs:List (Key×V)} (I:Inv X pins σ H s) (e:H d=some (.frz od (.dK kvs))) (h0:∀ o u,X.H₀ d≠some (.frz o u)):Inv X pins σ (upd H d (.dK kvs)) s:=by
 obtain⟨ho,hok⟩:=I.hok d _ e
 have ne:∀ b u,H b=some u→(∀ o v,u≠.frz o v)→b≠d:=fun b u q n z=>by rw[z,e]at q;cases q;exact n _ _ rfl
 have nb:∀ b,H b=none→b≠d:=fun b q z=>by rw[z,e]at q;cases q
 have up:∀ b u,H b=some u→(∀ o v,u≠.frz o v)→upd H d (.dK kvs) b=some u:=fun b u q n=>by rw[upd_ne (ne b u q n)];exact q
 refine⟨I.ok,I.os,I.bare,⟨I.base.keep,I.base.slot,fun b o q n x=>?_,I.base.there,fun b xs q=>up b _ (I.base.tups b xs q) (fun _ _ z=>by cases z),fun b o u q=>?_,fun b ps q=>?_⟩,I.loc,I.cell,?_,fun x c q=>?_,fun p q=>?_,fun b u q=>?_,I.len⟩
 ·rw[upd_ne (nb b (I.base.free b o q n x))]
  exact I.base.free b o q n x
 ·have hb:b≠d:=fun z=>by rw[z]at q;exact h0 _ _ q
  rw[upd_ne hb]
  exact I.base.frzs b o u q
 ·obtain⟨more,e'⟩:=I.base.tbls b ps q
  exact⟨more,up b _ e' (fun _ _ z=>by cases z)⟩
 ·rw[upd_ne (nb _ I.free)]
  exact I.free
 ·rw[upd_ne (nb _ (I.freeC x c q))]
  exact I.freeC x c q
 ·obtain⟨e',n,ne',nf,dd⟩:=I.pin p q
  exact⟨e',by rw[upd_ne (nb _ n)];exact n,ne',nf,dd⟩
 ·by_cases hb:b=d
  ·subst hb
   rw[upd_same]at q
   cases q
   exact hok
  ·rw[upd_ne hb]at q
   exact(I.hok b u q).stay (fun _ _ _ z=>z) (fun c z=>up c _ z fun _ _ z=>by cases z) fun c xs z=>up c _ z fun _ _ z=>by cases z
noncomputable def tThaw (t:TE):TE:=fun σ H Q=>∃ d kvs,H d=some (.dK kvs)∧t σ H fun v H'=>∃ od,H' d=some (.frz od (.dK kvs))∧Q v (upd H' d (.dK kvs))
theorem pe_thaw {X:Cx} {e:Expr} {t:TE} (h:PE X e t):PE X e (tThaw t):=by
 intro pins s σ H Q I q
 obtain⟨d,kvs,hd,q⟩:=q
 have h0:∀ o u,X.H₀ d≠some (.frz o u):=fun o u z=>by
  have:=I.base.frzs d o u z
  rw[hd]at this
  cases this
 exact thn (h pins s σ H _ I q) fun u s1 ⟨v,H1,I1,rv,od,hf,q1⟩=>⟨v,_,I1.thaw hf h0,rv,q1⟩
end L2
namespace L2
open PySem PySem.W PySem.Spec PyProof.Rows
theorem ints_of_keys {P:Program} {w:World} {ks:List Int} {vs:List Value} (hl:vs.length=ks.length) (h:∀ (j:Nat) (v:Value),vs[j]?=some v→∃ k,ks[j]?=some k∧(mixKind P w).is (Sum.inl k) v=true):IntsAre vs ks:=by
 induction vs generalizing ks with
 | nil=>cases ks with
  | nil=>exact .nil
  | cons _ _=>cases hl
 | cons v r ih=>cases ks with
  | nil=>cases hl
  | cons k ks =>
   obtain⟨k',h1,h2⟩:=h 0 v rfl
   cases h1
   rw[mixKind_is]at h2
   rcases keyIs_shape h2 with ⟨i,t,e1,e2⟩ | ⟨x,t,e1,e2⟩
   ·cases e1
    subst e2
    exact .cons _ _ (ih (by simpa using hl) fun j v e=>h (j+1) v e)
   ·cases e1
noncomputable def KeysI (kvs:List (Key×V)) (ks:List Int):Prop:=kvs.map Prod.fst=ks.map Sum.inl
section
variable {X:Cx}
theorem call_sortedD (hc:X.calm=true):CallR X (.builtin "sorted") (fun xs H Q=>∃ (a:Addr) (kvs:List (Key×V)) (ks:List Int),xs=[.ref a]∧H a=some (.dK kvs)∧KeysI kvs ks∧ks.length<64 ∧
 ∀ (l:Addr) (ms:List Int),H l=none→ms.Perm ks→ms.Pairwise (·≤·)→Q (.ref l) (upd H l (.lst (ms.map V.int)))):=by
 intro pins s σ H xs us Q I r h
 obtain⟨a,kvs,ks,rfl,ha,hk,h64,q⟩:=h
 obtain⟨u,rfl,rx⟩:=vals1 r
 cases rx
 obtain⟨z,hsys,vs,rel,dd⟩:=dk_of I.hok ha
 obtain⟨ep,hat⟩:=id dd.dictAt
 have hlen:vs.length=ks.length:=by
  have e1:=rel.length
  have e2:=congrArg List.length hk
  simp at e2
  omega
 have hbig:vs.length≤sizeLine:=Nat.le_trans (show vs.length≤64 by omega) (by decide)
 refine Calls.call_function_entry kind_sorted plain_sorted entry_sorted (args_sorted1 _) ?_
 unfold Builtin.«sorted»
 refine wpAny_bind (m:=checkCount "sorted" 1 1 _) (wpAny_pure ?_)
 refine wpAny_bind (kdu_collect (A:=X.A.in1) (kdl_dict (knd:=mixKind X.prog X.w) (kvs:=vs) (ep:=ep) hsys) (I.ok.hd hc) hat hbig fun h' tk acc hk' hacc=>?_)
 have hl:acc.toList.length=vs.length:=by rw[Array.length_toList];exact hacc.1
 have hI:IntsAre acc.toList ks:=ints_of_keys (P:=X.prog) (w:=X.w) (by omega) fun j v e=>by
  obtain⟨k,x,h1,h2⟩:=hacc.2 j v (by rw[← Array.getElem?_toList];exact e)
  have hj:j<vs.length:=(List.getElem?_eq_some_iff.mp h1).1
  have h3:(kvs.map Prod.fst)[j]?=some k:=by
   have hj':j<kvs.length:=by rw[rel.length];exact hj
   obtain⟨u,e1,e2⟩:=kv_at rel (i:=j) (k:=(kvs[j]).1) (x:=(kvs[j]).2) (List.getElem?_eq_getElem hj')
   rw[h1]at e1
   cases e1
   simp[hj']
  rw[hk,List.getElem?_map]at h3
  obtain⟨n,h4,h5⟩:=Option.map_eq_some_iff.mp h3
  subst h5
  exact⟨n,h4,h2⟩
 refine wpAny_bind (wpAny_newList ?_ (by omega))
 have e0:(h'.push (seqObj "list" acc.toList.toArray 0)).get? h'.objs.size=some (seqObj "list" acc.toList.toArray 0):=Heap.get?_push_size _ rfl
 have kp:∀ b o,h'.get? b=some o→(h'.push (seqObj "list" acc.toList.toArray 0)).get? b=some o:=fun b o e=>Heap.get?_push_of_some _ e
 have I':=I.kept (t':=tk) hk'
 have hlt2:h'.objs.size<(h'.push (seqObj "list" acc.toList.toArray 0)).objs.size:=by rw[size_push'];exact Nat.lt_succ_self _
 have hsz2:(h'.push (seqObj "list" acc.toList.toArray 0)).objs.size=h'.objs.size+1:=size_push' ..
 show wpAny _ _ _ _ _ { s with heap:=h'.push (seqObj "list" acc.toList.toArray 0),toks:=tk }
 generalize h'.push (seqObj "list" acc.toList.toArray 0)=h2 at e0 kp hlt2 hsz2
 refine wpAny_bind (wpAny_holding (wpAny_call_entry slot_list_sort ⟨_,e0,rfl⟩ entry_list_sort (list_sort_tree (s:={ s with heap:=h2,toks:=tk }) e0 hI (by omega) fun out ns' hI' hp hs=>⟨_,rfl,?_⟩) (args_list_sort _)))
 obtain⟨n0,at0⟩:=sortedHeap_at (out:=out) e0
 have hn:H h'.objs.size=none:=I'.hok.fresh (Nat.le_refl _)
 refine wpAny_pure ⟨_,rfl,.ref h'.objs.size,_,I'.laid (t':=tk) (o:=.lst (ns'.map V.int)) (fun b o e=>?_) (Nat.le_refl _) ⟨?_,out.toList,n0,vals_ints hI',at0⟩,rfl,q _ ns' hn hp hs⟩
 ·have hb:=Heap.lt_size e
  have hb':b<h'.objs.size:=hb
  exact(sortedHeap_old (Nat.ne_of_lt hb') (by show b<h2.objs.size;rw[hsz2];exact Nat.lt_succ_of_lt hb')).trans (kp b o e)
 ·rw[List.length_map,hp.length_eq]
  exact Nat.le_trans (show ks.length≤64 by omega) (by decide)
end
end L2
namespace L2
open PySem PySem.Spec PyProof.Rows
noncomputable def Itw (d:Addr) (od:Obj) (kvs:List (Key×V)):It :=
 ⟨fun i H=>H d=some (.frz od (.dK kvs))∧i<kvs.length,fun i H v H'=>H'=H∧∃ k,kvs[i]?=some (k,v),fun i H=>H d=some (.frz od (.dK kvs))∧kvs.length≤i⟩
theorem turn_values {P:Program} {w:World} {K:PySem.W.Frag} {tg:Expr} (d it:Addr) (od:Obj) (kvs:List (Key×V)) (vs:List (Key×Value)) (ep:Nat) (rel:KV kvs vs) (hat:∀ h:Heap,h.get? d=some od→h.DictAt (mixKind P w) d vs ep) (hne:d≠it) :
 Turn P w K tg (Itw d od kvs) [it] it (fun i h=>h.IsValIter it d i vs.length ep) where
 mem:=by simp
 obj:=fun i h st b hb=>by
  obtain⟨o,he,hc,hd⟩:=st
  have z:b=it:=by simpa using hb
  subst z
  exact⟨o,he,fun v z=>by rw[hd]at z;cases z⟩
 keep:=fun i h h' st k=>let ⟨o,he,r⟩:=st;⟨o,k it (by simp) _ he,r⟩
 item:=by
  intro X hP hw hK hc i pins s σ H E I hf st hg
  subst hP hw hK
  obtain⟨hd,hi⟩:=hg
  obtain⟨⟨k,x⟩,hx⟩:∃ p,kvs[i]?=some p:=⟨kvs[i],by simp[hi]⟩
  obtain⟨u,hu,ru⟩:=kv_at rel hx
  have hod:s.heap.get? d=some od:=(I.hok d _ hd).1
  refine wpAny_pyNext_values_item st (hat _ hod) hu fun h' st' sb=>?_
  obtain⟨o,e,c,dd⟩:=id st'
  exact⟨u,rfl,go_of (s:={ s with heap:=h' }) e c dd (by decide) ⟨x,H,I.turnedF (fp:=[it]) (t':=s.toks) (fun b o hb e=>sb.extBut b o (fun z=>hb (by simp[z])) e) hf,ru,⟨rfl,k,hx⟩,st',fun b hb=>(hf b hb).1⟩⟩
 done:=by
  intro X hP hw hK hc i pins s σ H E I hf st hg
  subst hP hw hK
  obtain⟨hd,hi⟩:=hg
  have hod:s.heap.get? d=some od:=(I.hok d _ hd).1
  have hl:=rel.length
  exact wpAny_pyNext_values_end (I.ok.hd hc) st (hat _ hod) (by simp;omega) fun h' eb=>⟨rfl,I.turnedF (fp:=[it]) (t':=s.toks) (fun b o hb e=>eb b o (fun z=>hb (by simp[z])) e) hf⟩
 self:=fun _ _ _ _ _ st h=>wpAny_pyIter_valiter st h
noncomputable def iValues (td:TE):TI:=fun σ H R=>td σ H fun x H1=>∃ d kvs,x=.ref d∧H1 d=some (.dK kvs)∧∀ od,R (Itw d od kvs) (upd H1 d (.frz od (.dK kvs)))
theorem pi_values {X:Cx} {tg:Expr} {o:Expr} {td:TE} {apos pos:Pos} (ho:PE X o td) (hbase:attributeBase o "values" X.env (eval o X.env)=eval o X.env:=by rfl) (hline:(apos.endLine == pos.line)=true:=by rfl) :
 PI X tg (.Call (.Attribute o "values" apos) [] [] pos) (iValues td):=by
 intro pins s σ H R I h
 refine wpAny_Call_method0_late hbase hline (thn (ho pins s σ H _ I h) fun u s1 ⟨x,H1,I1,rx,d,kvs,ex,hd,q⟩=>?_)
 subst ex
 obtain rfl:u=Value.ref d:=rx
 obtain⟨z,hsys,vs,rel,dd⟩:=dk_of I1.hok hd
 obtain⟨ep,hat⟩:=id dd.dictAt
 obtain⟨od,hod,I2⟩:=I1.freezeD hd
 obtain⟨t1,t2,_⟩:=isD_at I1 (.inl ⟨kvs,.inl hd⟩)
 refine⟨"dict","dict.values",PySem.F.plainAttrs_dict,PySem.F.slot_dict_values,PySem.F.type_dict_values,t1,t2,Calls.callWith_builtin rfl (PySem.evalArgs_none ?_)⟩
 refine call_meetsIn PySem.F.slot_dict_values dd.typeIs PySem.F.entry_dict_values (PySem.F.args_dict_values_1 _) (meets_dict_values (mixKind X.prog X.w) d hsys) ⟨⟨vs,dd⟩,?_⟩
 have hv:(s1.heap.push { cls:=.type "dict_values",data:=.fields #[.ref d] }).IsValuesView s1.heap.objs.size d:=⟨_,Heap.get?_push_size _ rfl,rfl,rfl⟩
 have h1:(s1.heap.push { cls:=.type "dict_values",data:=.fields #[.ref d] }).get? d=some od:=Heap.get?_push_of_some _ hod
 have hat':∀ h:Heap,h.get? d=some od→h.DictAt (mixKind X.prog X.w) d vs ep:=fun h e=>hat.at fun o q=>by rw[hod]at q;cases q;exact e
 refine wpAny_pyIter_values hv (hat' _ h1) ?_
 generalize hob:({ cls:=.type "dict_valueiterator",data:=.fields #[.ref d,.int 0 0,.int vs.length 0,.int ep 0] }:Obj)=ob
 have kp:∀ b o,s1.heap.get? b=some o→((s1.heap.push { cls:=.type "dict_values",data:=.fields #[.ref d] }).push ob).get? b=some o:=fun b o e=>Heap.get?_push_of_some _ (Heap.get?_push_of_some _ e)
 have hsz:(s1.heap.push { cls:=.type "dict_values",data:=.fields #[.ref d] }).objs.size=s1.heap.objs.size+1:=Heap.size_push ..
 have I3:=I2.kept (t':=s1.toks) kp
 have hge:s1.heap.objs.size≤(s1.heap.push { cls:=.type "dict_values",data:=.fields #[.ref d] }).objs.size:=by rw[hsz];exact Nat.le_succ _
 have hne:d≠(s1.heap.push { cls:=.type "dict_values",data:=.fields #[.ref d] }).objs.size:=fun z=>by
  have:=Heap.lt_size hod
  rw[z]at this
  exact absurd this (Nat.not_lt.mpr hge)
 refine⟨_,[_],_,_,_,rfl,I3,turn_values d _ od kvs vs ep rel hat' hne,?_,fun b hb=>?_,q od⟩
 ·rw[← hob]
  exact⟨_,Heap.get?_push_size _ rfl,rfl,rfl⟩
 ·have z:b=(s1.heap.push { cls:=.type "dict_values",data:=.fields #[.ref d] }).objs.size:=by simpa using hb
  rw[z]
  exact I2.fpOk hge (I2.hok.fresh hge)
theorem comp_values {d:Addr} {od:Obj} {kvs:List (Key×V)} {σ0:St} {g:TG} {tt:TT} {te:TE} {H:Hp} {Q:VK} (Pv:Nat→List V→Hp→Prop) (h0:Pv 0 [] H) (hl:∀ i ys H,i≤kvs.length→Pv i ys H→H d=some (.frz od (.dK kvs))∧ys.length<sizeLine)
 (hs:∀ i k x ys H,kvs[i]?=some (k,x)→Pv i ys H→g x σ0 H fun σ2 H2=>tt σ2 H2 fun b H3=>if b=true then te σ2 H3 fun y H4=>Pv (i+1) (ys++[y]) H4 else Pv (i+1) ys H3) (hd:∀ ys H,Pv kvs.length ys H→∀ D,H D=none→Q (.ref D) (upd H D (.lst ys))) :
 CompR (Itw d od kvs) σ0 g tt te Q H:=by
 refine⟨fun i m ys H=>m=kvs.length - i∧i≤kvs.length∧Pv i ys H,⟨kvs.length,by simp,Nat.zero_le _,h0⟩,?_⟩
 rintro i m ys H ⟨rfl,hi,p⟩
 obtain⟨q,hz⟩:=hl i ys H hi p
 refine⟨hz,?_⟩
 by_cases hlt:i<kvs.length
 ·refine .inr ⟨⟨q,hlt⟩,Pv (i+1),fun ys' H' p'=>⟨kvs.length - (i+1),by omega,rfl,hlt,p'⟩,fun x H' y=>?_⟩
  obtain⟨rfl,k,hx⟩:=y
  exact hs i k x ys _ hx p
 ·have e:i=kvs.length:=by omega
  subst e
  exact .inl ⟨⟨q,Nat.le_refl _⟩,hd ys H p⟩
end L2
namespace L2
open PySem PySem.Spec PyProof.Rows
theorem rcGt_int (A:Around) (s:Shared) (a:Int) (t:Tok) (c:Int) (u:Tok) (prog:Program) (w:World) (E:Value→Shared→Prop) (Q:Value→Shared→Prop) (h:Q (.bool (decide (c<a))) s) :
 wpAny (model prog w) A (richCompare .Gt (.int a t) (.int c u)) Q E s :=
 (PyProof.Rows.gt_int h:wpAny (model prog w) A (compareOp .Gt (.int a t) (.int c u)) Q E s)
section
open PySem.SeqAt
open PySem.AutoSeq1 (wpAny_loadPart')
open PySem.MeetsSeq PySem.MeetsSeq2 PySem.MeetsSeq3
theorem pair_gt (l b:Addr) (p q:Int×Int) (k1 k2 m1 m2:Tok) (n n2:Nat) (dd dd2:Option Addr) (sl sl2:Array (Option Value)) :
 Meets (Builtin.«tuple.__gt__» ⟨[.ref l,.ref b],[]⟩)
  (fun _ R s=>s.heap.get? l=some { cls:=.type "tuple",dict:=dd,data:=.seq #[.int p.1 k1,.int p.2 k2] n,slots:=sl }∧s.heap.get? b=some { cls:=.type "tuple",dict:=dd2,data:=.seq #[.int q.1 m1,.int q.2 m2] n2,slots:=sl2 } ∧
   R (.ok (.ret (.bool (plt q p)))) s) :=
 .of_wp fun prog w A R s h=>by
  obtain⟨hp,g,d,tk,os⟩:=s;obtain⟨hl,hb,h⟩:=h
  have f2:=AutoSeq1.sub_tuple_tuple
  wp_walk using wpAny_loadPart' hl,wpAny_loadPart' hb,wpAny_forIn_list _ (fun rest b s'=>b.1=none∧s'=⟨hp,g,d,tk,os⟩∧(rest=[(Value.int p.1 k1,Value.int q.1 m1),(Value.int p.2 k2,Value.int q.2 m2)] ∨
   (p.1=q.1∧rest=[(Value.int p.2 k2,Value.int q.2 m2)])∨(p.1=q.1∧p.2=q.2∧rest=[]))) _
  case turn =>
   rintro ⟨y,x⟩ rest b s' ⟨hb',rfl,hc⟩
   rcases hc with hz | ⟨e1,hz⟩ | ⟨_,_,hz⟩
   ·injection hz with hyx hrest
    injection hyx with hy hx
    subst hy hx
    obtain⟨e,he,hiff⟩:=HT.eqAt_int A.in1 ⟨hp,g,d,tk,os⟩ p.1 k1 q.1 m1
    refine wpAny_bind (he prog w _ _ ?_)
    cases e with
    | true =>
     wp_walk
     exact⟨rfl,rfl,.inr (.inl ⟨hiff.mp rfl,hrest⟩)⟩
    | false =>
     have hne:p.1≠q.1:=fun z=>absurd (hiff.mpr z) Bool.false_ne_true
     have hri:=rcGt_int A.in1 ⟨hp,g,d,tk,os⟩ p.1 k1 q.1 m1 prog w
     have ev:plt q p=decide (q.1<p.1):=by rw[Bool.eq_iff_iff,plt_iff];simp;omega
     rw[ev]at h
     wp_walk using hri
     exact⟨_,rfl,by simpa using h⟩
   ·injection hz with hyx hrest
    injection hyx with hy hx
    subst hy hx
    obtain⟨e,he,hiff⟩:=HT.eqAt_int A.in1 ⟨hp,g,d,tk,os⟩ p.2 k2 q.2 m2
    refine wpAny_bind (he prog w _ _ ?_)
    cases e with
    | true =>
     wp_walk
     exact⟨rfl,rfl,.inr (.inr ⟨e1,hiff.mp rfl,hrest⟩)⟩
    | false =>
     have hne:p.2≠q.2:=fun z=>absurd (hiff.mpr z) Bool.false_ne_true
     have hri:=rcGt_int A.in1 ⟨hp,g,d,tk,os⟩ p.2 k2 q.2 m2 prog w
     have ev:plt q p=decide (q.2<p.2):=by rw[Bool.eq_iff_iff,plt_iff];simp;omega
     rw[ev]at h
     wp_walk using hri
     exact⟨_,rfl,by simpa using h⟩
   ·cases hz
  case fin =>
   rintro ⟨b1,b2⟩ s' ⟨hb',rfl,hc⟩
   simp only at hb'
   subst hb'
   rcases hc with hz | ⟨_,hz⟩ | ⟨e1,e2,_⟩
   ·cases hz
   ·cases hz
   have ev:plt q p=false:=by rw[plt_not];omega
   rw[ev]at h
   wp_walk
   exact⟨_,rfl,by simpa[Builtin.Tuple.tupleCompareSizes]using h⟩
  case h=>exact⟨rfl,rfl,.inl rfl⟩
end
section
variable {prog:Program} {w:World} {A:Around} {E:Value→Shared→Prop} {s:Shared}
theorem gt_pairV {x y:Value} {p q:Int×Int} {Q:Value→Shared→Prop} (hx:PairV s.heap x p) (hy:PairV s.heap y q) (hu:A.units<cLine) (h:Q (.bool (plt q p)) s):wpAny (model prog w) A (richCompare .Gt x y) Q E s:=by
 obtain⟨t,⟨cls,dd,data,sl⟩,n,k1,k2,rfl,ho,hc,hd⟩:=hx
 obtain⟨t',⟨cls2,dd2,data2,sl2⟩,n2,m1,m2,rfl,ho2,hc2,hd2⟩:=hy
 simp only at hc hd hc2 hd2
 subst hc hd hc2 hd2
 exact richCompare_meets_room (op:=.Gt) ⟨_,ho,rfl⟩ ⟨_,ho2,rfl⟩ PySem.F.slot_tuple_gt PySem.F.entry_tuple_gt (PySem.F.args_tuple_gt_2 _ _) (pair_gt t t' p q k1 k2 m1 m2 n n2 dd dd2 sl sl2)
  ⟨ho,ho2,show Value.bool (plt q p)≠Value.notImplemented∧Q (.bool (plt q p)) s from ⟨(fun x=>nomatch x),h⟩⟩ hu
end
noncomputable def Top (ps:List (Int×Int)) (i:Nat) (j:Nat):Prop:=j<i∧∀ k,k<i→plt (ps.getD j (0,0)) (ps.getD k (0,0))=false
theorem Top.keep {ps:List (Int×Int)} {i j:Nat} (h:Top ps i j) (g:plt (ps.getD j (0,0)) (ps.getD i (0,0))=false):Top ps (i+1) j:=⟨Nat.lt_succ_of_lt h.1,fun k hk=>by
 by_cases e:k=i
 ·rw[e];exact g
 ·exact h.2 k (by omega)⟩
theorem Top.take {ps:List (Int×Int)} {i j:Nat} (h:Top ps i j) (g:plt (ps.getD j (0,0)) (ps.getD i (0,0))=true):Top ps (i+1) i:=⟨Nat.lt_succ_self i,fun k hk=>by
 by_cases e:k=i
 ·rw[e,plt_not];omega
 ·have h1:=h.2 k (by omega)
  rw[plt_not]at h1 ⊢
  rw[plt_iff]at g
  omega⟩
noncomputable abbrev twoV (v:Value) (c:Nat):Obj:={ cls:=.type "list",dict:=none,data:=.seq #[v,v] c,slots:=#[] }
section
variable {prog:Program} {w:World} {A:Around} {R:Result→Shared→Prop} {l it S:Addr} {its:List Value} {ps:List (Int×Int)}
theorem PairV.at {h h':Heap} {v:Value} {p:Int×Int} (x:PairV h v p) (k:∀ t o,v=.ref t→h.get? t=some o→o.cls=.type "tuple"→h'.get? t=some o):PairV h' v p:=by
 obtain⟨t,o,n,k1,k2,e,ho,hc,hd⟩:=x
 exact⟨t,o,n,k1,k2,e,k t o e ho hc,hc,hd⟩
theorem mp_loop (hh:A.handled=none) (hu:A.in1.units<cLine) (hlt:l≠it) (hiS:it≠S) (hlS:l≠S) :
 ∀ (k i:Nat) (s:Shared) (j:Nat) (c:Nat),its.length - i=k→i≤its.length→Top ps i j→s.heap.IsListIter it l i→s.heap.IsList l its.toArray→s.heap.get? S=some (twoV (its.getD j .none) c)→Paired (PairV s.heap) its ps →
  (∀ h' tk j',(∀ x o,x≠it→x≠S→s.heap.get? x=some o→h'.get? x=some o)→Top ps its.length j'→R (.ok (.ret (its.getD j' .none))) { s with heap:=h',toks:=tk }) →
  codeAny (model prog w) A (.builtin "max.loop" ⟨[.ref it,.none,.ref S],[]⟩) R s:=by
 have nm:(toString "max"++toString ".loop":String)="max.loop":=by decide
 intro k
 induction k with
 | zero =>
  intro i s j c hk hi ht st hl hS hP hR
  have e:i=its.length:=by omega
  refine codeAny_builtin PySem.F.entry_max_loop (by
   rw[Around.under_plainId PySem.F.plain_max_loop _]
   show wpAny _ A.in1 (seqItems? (Value.ref S) >>= _) _ _ s
   refine wpAny_bind (wpAny_seqItems hS rfl ?_)
   show wpAny _ A.in1 (tryCatch (pyNext (Value.ref it)) _ >>= _) _ _ s
   refine wpAny_bind (wpAny_tryCatch (wpAny_pyNext_list_end hh st hl (by simp;omega) fun h' eb=>?_))
   have hS':=eb S _ (Ne.symm hiS) hS
   show wpAny _ A.in1 (updateSeq S (fun _=>#[]) >>= _) _ _ { s with heap:=h' }
   refine wpAny_bind (wpAny_updateSeq hS' rfl (wpAny_bind (wpAny_letGo (wpAny_pure ?_))))
   exact hR (h'.update S (Obj.mapSeq fun _=>#[])) s.toks j (fun x o h1 h2 e=>(Heap.get?_update_other _ _ (Ne.symm h2)).trans (eb x o h1 e)) (e ▸ ht))
 | succ k ih =>
  intro i s j c hk hi ht st hl hS hP hR
  have hi':i<its.length:=by omega
  have hj':j<its.length:=Nat.lt_trans ht.1 hi'
  have hx:its[i]?=some (its.getD i .none):=by simp[List.getD_eq_getElem?_getD,hi']
  refine codeAny_builtin PySem.F.entry_max_loop (by
   rw[Around.under_plainId PySem.F.plain_max_loop _]
   show wpAny _ A.in1 (seqItems? (Value.ref S) >>= _) _ _ s
   refine wpAny_bind (wpAny_seqItems hS rfl ?_)
   show wpAny _ A.in1 (tryCatch (pyNext (Value.ref it)) _ >>= _) _ _ s
   refine wpAny_bind (wpAny_tryCatch (wpAny_pyNext_list_item st hl (x:=its.getD i .none) (by simpa using hx) fun h' st' sb=>?_))
   have hS':=sb.extBut S _ (Ne.symm hiS) hS
   have hl':=hl.extBut sb.extBut hlt
   have hit:∀ t o,s.heap.get? t=some o→o.cls=.type "tuple"→t≠it:=fun t o e c z=>by
    obtain⟨o',e',c',_⟩:=st
    rw[z,e']at e;cases e;rw[c']at c;exact absurd c (by simp)
   have hnS:∀ t o,s.heap.get? t=some o→o.cls=.type "tuple"→t≠S:=fun t o e c z=>by
    rw[z,hS]at e;cases e;exact absurd c (by simp)
   have hP':Paired (PairV h') its ps:=Paired.mapP hP fun v p x=>x.at fun t o _ e c=>sb.extBut t o (hit t o e c) e
   have pi:PairV h' (its.getD i .none) (ps.getD i (0,0)):=paired_getD hP' hi'
   have pj:PairV h' (its.getD j .none) (ps.getD j (0,0)):=paired_getD hP' hj'
   show wpAny _ A.in1 (tryCatch (holding [its.getD i .none,its.getD i .none] (richCompare .Gt (its.getD i .none) (its.getD j .none) >>= _)) _ >>= _) _ _ { s with heap:=h' }
   refine wpAny_bind (wpAny_tryCatch (wpAny_holding (wpAny_bind (gt_pairV (s:={ s with heap:=h' }) pi pj hu ?_))))
   refine wpAny_bind (wpAny_holding (wpAny_truthy_bool (wpAny_bind (wpAny_letGo (wpAny_pure ?_)))))
   cases hb:plt (ps.getD j (0,0)) (ps.getD i (0,0))with
   | true =>
    simp only[if_true]
    refine wpAny_bind (wpAny_updateSeq hS' rfl (wpAny_bind (wpAny_letGo ?_)))
    rw[nm]
    obtain⟨c',e1⟩:∃ c',(h'.update S (Obj.mapSeq fun _=>#[its.getD i .none,its.getD i .none])).get? S=some (twoV (its.getD i .none) c'):=⟨_,Heap.get?_update_self _ hS' rfl⟩
    refine wpAny_pure ⟨plainId_quiet PySem.F.plain_max_loop _,ih (i+1) { s with heap:=h'.update S (Obj.mapSeq fun _=>#[its.getD i .none,its.getD i .none]) } i _ (by omega) hi' (ht.take hb) (st'.at fun o e=>(Heap.get?_update_other _ _ (Ne.symm hiS)).trans e) (hl'.at fun o e=>(Heap.get?_update_other _ _ (Ne.symm hlS)).trans e) e1 (Paired.mapP hP fun v p x=>x.at fun t o _ e c=>(Heap.get?_update_other _ _ (Ne.symm (hnS t o e c))).trans (sb.extBut t o (hit t o e c) e)) fun h'' tk t' kp=>?_⟩
    exact hR h'' tk t' (fun x o h1 h2 e=>kp x o h1 h2 ((Heap.get?_update_other _ _ (Ne.symm h2)).trans (sb.extBut x o h1 e)))
   | false =>
    simp only[Bool.false_eq_true,if_false]
    refine wpAny_bind (wpAny_letGo ?_)
    rw[nm]
    refine wpAny_pure ⟨plainId_quiet PySem.F.plain_max_loop _,ih (i+1) { s with heap:=h' } j c (by omega) hi' (ht.keep hb) st' hl' hS' hP' fun h'' tk t' kp=>?_⟩
    exact hR h'' tk t' (fun x o h1 h2 e=>kp x o h1 h2 (sb.extBut x o h1 e)))
theorem mp_first (hh:A.handled=none) (hu:A.in1.units<cLine) (hlt:l≠it) (hiS:it≠S) (hlS:l≠S) {s:Shared} {c:Nat} (h0:0<its.length) (st:s.heap.IsListIter it l 0) (hl:s.heap.IsList l its.toArray)
 (hS:s.heap.get? S=some { cls:=.type "list",dict:=none,data:=.seq #[] c,slots:=#[] }) (hP:Paired (PairV s.heap) its ps)
 (hR:∀ h' tk j',(∀ x o,x≠it→x≠S→s.heap.get? x=some o→h'.get? x=some o)→Top ps its.length j'→R (.ok (.ret (its.getD j' .none))) { s with heap:=h',toks:=tk }) :
 codeAny (model prog w) A (.builtin "max.loop" ⟨[.ref it,.none,.ref S],[]⟩) R s:=by
 have nm:(toString "max"++toString ".loop":String)="max.loop":=by decide
 have hx:its[0]?=some (its.getD 0 .none):=by simp[List.getD_eq_getElem?_getD,h0]
 refine codeAny_builtin PySem.F.entry_max_loop (by
  rw[Around.under_plainId PySem.F.plain_max_loop _]
  show wpAny _ A.in1 (seqItems? (Value.ref S) >>= _) _ _ s
  refine wpAny_bind (wpAny_seqItems hS rfl ?_)
  show wpAny _ A.in1 (tryCatch (pyNext (Value.ref it)) _ >>= _) _ _ s
  refine wpAny_bind (wpAny_tryCatch (wpAny_pyNext_list_item st hl (x:=its.getD 0 .none) (by simpa using hx) fun h' st' sb=>?_))
  have hS':=sb.extBut S _ (Ne.symm hiS) hS
  have hl':=hl.extBut sb.extBut hlt
  have hit:∀ t o,s.heap.get? t=some o→o.cls=.type "tuple"→t≠it:=fun t o e c z=>by
   obtain⟨o',e',c',_⟩:=st
   rw[z,e']at e;cases e;rw[c']at c;exact absurd c (by simp)
  have hnS:∀ t o,s.heap.get? t=some o→o.cls=.type "tuple"→t≠S:=fun t o e c z=>by
   rw[z,hS]at e;cases e;exact absurd c (by simp)
  show wpAny _ A.in1 (updateSeq S (fun _=>#[its.getD 0 .none,its.getD 0 .none]) >>= _) _ _ { s with heap:=h' }
  refine wpAny_bind (wpAny_updateSeq hS' rfl ?_)
  rw[nm]
  obtain⟨c',e1⟩:∃ c',(h'.update S (Obj.mapSeq fun _=>#[its.getD 0 .none,its.getD 0 .none])).get? S=some (twoV (its.getD 0 .none) c'):=⟨_,Heap.get?_update_self _ hS' rfl⟩
  have t1:Top ps 1 0:=⟨by decide,fun k hk=>by
   have e:k=0:=by omega
   rw[e,plt_not];omega⟩
  refine wpAny_pure ⟨plainId_quiet PySem.F.plain_max_loop _,mp_loop (ps:=ps) (its:=its) hh hu hlt hiS hlS _ 1 { s with heap:=h'.update S (Obj.mapSeq fun _=>#[its.getD 0 .none,its.getD 0 .none]) } 0 _ rfl h0 t1 (st'.at fun o e=>(Heap.get?_update_other _ _ (Ne.symm hiS)).trans e) (hl'.at fun o e=>(Heap.get?_update_other _ _ (Ne.symm hlS)).trans e) e1 (Paired.mapP hP fun v p x=>x.at fun t o _ e c=>(Heap.get?_update_other _ _ (Ne.symm (hnS t o e c))).trans (sb.extBut t o (hit t o e c) e)) fun h'' tk t' kp=>?_⟩
  exact hR h'' tk t' (fun x o h1 h2 e=>kp x o h1 h2 ((Heap.get?_update_other _ _ (Ne.symm h2)).trans (sb.extBut x o h1 e))))
theorem args_max1 (a:Value):argsOk "max" ⟨[a],[]⟩:=by unfold argsOk;kernel_rfl
theorem call_maxPV {E:Value→Shared→Prop} {s:Shared} {Q:Value→Shared→Prop} (hh:A.handled=none) (hu:A.in1.in1.units<cLine) (hl:s.heap.IsList l its.toArray) (h0:0<its.length) (hP:Paired (PairV s.heap) its ps)
 (h:∀ h' tk j,(∀ x o,s.heap.get? x=some o→h'.get? x=some o)→Top ps its.length j→Q (its.getD j .none) { s with heap:=h',toks:=tk }):wpAny (model prog w) A (call (.builtin "max") [.ref l]) Q E s:=by
 have nm:(toString "max"++toString ".loop":String)="max.loop":=by decide
 refine kmk_tree PySem.F.kind_max PySem.F.plain_max PySem.F.entry_max (args_max1 _) (by
  show wpAny _ A.in1 (Builtin.Builtins.bindParams "max" ["key","default"] 0 ⟨[],[]⟩ >>= _) _ _ s
  refine wpAny_bind (wpAny_of_eq (show Builtin.Builtins.bindParams "max" ["key","default"] 0 ⟨[],[]⟩=pure [none,none] from rfl) (wpAny_bind (wpAny_pure ?_)))
  refine wpAny_bind (wpAny_pyIter_list hl ?_)
  refine wpAny_bind (wpAny_newObj_type ?_)
  rw[nm]
  have hlt:l<s.heap.objs.size:=by obtain⟨_,e,_⟩:=hl;exact Heap.lt_size e
  refine wpAny_pure ⟨plainId_quiet PySem.F.plain_max_loop _,mp_first (l:=l) (it:=s.heap.objs.size) (its:=its) (ps:=ps) hh (by first | exact hu | (simp at hu ⊢;omega)) (Nat.ne_of_lt hlt) (by rw[Heap.size_push];exact Nat.ne_of_lt (Nat.lt_succ_self _)) (by rw[Heap.size_push];exact Nat.ne_of_lt (Nat.lt_succ_of_lt hlt)) h0 ⟨_,Heap.get?_push_of_some _ (Heap.get?_push_size _ rfl),rfl,rfl⟩ ((hl.push _).push _) (Heap.get?_push_size _ rfl) (Paired.mapP hP fun v p x=>x.at fun t o _ e _=>Heap.get?_push_of_some _ (Heap.get?_push_of_some _ e)) fun h' tk j kp ht=>?_⟩
  refine h h' tk j (fun x o e=>?_) ht
  have hx:=Heap.lt_size e
  exact kp x o (Nat.ne_of_lt hx) (by rw[Heap.size_push];exact Nat.ne_of_lt (Nat.lt_succ_of_lt hx)) (Heap.get?_push_of_some _ (Heap.get?_push_of_some _ e)))
end
end L2
namespace L2
open PySem PySem.Spec PyProof.Rows
section
variable {X:Cx} {pins:List (Addr×Obj)} {σ:St} {H:Hp} {s:Shared}
theorem pairs_at (I:Inv X pins σ H s):∀ {us0:List V} {its:List Value} {ps:List (Int×Int)},Vals us0 its→CW.Prs H us0 ps→Paired (PairV s.heap) its ps:=by
 intro us0
 induction us0 with
 | nil=>intro its ps r p;cases r;cases p;exact .nil
 | cons x xs ih =>
  intro its ps r p
  cases r with
  | cons r1 r2 =>
   cases p with
   | cons p1 p2 =>
    refine .cons ?_ (ih r2 p2)
    obtain⟨t,e,et⟩:=p1
    subst e
    cases r1
    obtain⟨_,its',rv',o,ho,hc,n,hd⟩:=(show ObjOk X.prog X.w H s.heap t (.tup [.int _,.int _]) from I.hok t _ et)
    obtain⟨u1,u2,rfl,⟨k1,rfl⟩,⟨k2,rfl⟩⟩:=rv'.two
    exact⟨t,o,n,k1,k2,rfl,ho,hc,hd⟩
theorem call_maxP (hc:X.calm=true) (hu:X.A.units+64<cLine):CallR X (.builtin "max") (fun xs H Q=>∃ (a:Addr) (us:List V) (ps:List (Int×Int)),xs=[.ref a]∧H a=some (.lst us)∧CW.Prs H us ps∧us≠[] ∧
 ∀ j x,Top ps ps.length j→us[j]?=some x→Q x H):=by
 intro pins s σ H xs us Q I r h
 obtain⟨a,us0,ps,rfl,ha,pr,hne,q⟩:=h
 obtain⟨u,rfl,rx⟩:=vals1 r
 cases rx
 obtain⟨its,rv,pl,hz⟩:=I.list (SqL.of ha)
 have l1:us0.length=ps.length:=Paired.length pr
 have l2:us0.length=its.length:=rv.length
 have h0:0<its.length:=by rw[← l2];exact List.length_pos_iff.mpr hne
 refine call_maxPV (I.ok.hd hc) (by simp only[Around.in1_units];omega) pl.isList h0 (pairs_at I rv pr) fun h' tk j kp ht=>?_
 have hj:j<us0.length:=by rw[l2];exact ht.1
 have hx:us0[j]?=some us0[j]:=List.getElem?_eq_getElem hj
 obtain⟨v,hv,rv'⟩:=rv.get hx
 refine⟨us0[j],H,I.kept kp,?_,q j us0[j] (by rw[← l1,l2];exact ht) hx⟩
 rw[List.getD_eq_getElem?_getD,hv]
 exact rv'
end
end L2
namespace L2
open PySem PySem.Spec PyProof.Rows
theorem pt_dtruth {X:Cx} {a:Expr} {ta:TE} (ha:PE X a ta) (he:∀ whole,isTrue a X.env whole=(do let v ← whole;standAt a.pos;holding [v] (truthy v))) :
 PT X a (fun σ H Q=>ta σ H fun x H'=>∃ d kvs,x=.ref d∧H' d=some (.dK kvs)∧Q (!kvs.isEmpty) H'):=by
 intro pins s σ H Q I h
 refine isTrue_plain (thn (ha pins s σ H _ I h) fun v s1 ⟨x,H1,I1,r1,d,kvs,ex,hd,q1⟩=>?_) (he _)
 subst ex
 obtain rfl:v=Value.ref d:=r1
 exact d_truth I1 (.inl hd) fun s' I'=>⟨H1,I',q1⟩
end L2
namespace CW
open PySem L2
noncomputable def StayG (d:Addr) (gs:List Grp) (H H':Hp):Prop:=∀ b o,b≠d→(∀ g∈gs,b≠g.2.1)→H b=some o→H' b=some o
noncomputable def pops (k:Int) (gs:List Grp):List Grp:=gs.map fun g=>if g.1=k then (g.1,g.2.1,g.2.2.dropLast)else g
noncomputable def outs (k:Int) (gs:List Grp):List Grp:=gs.filter fun g=>decide (g.1≠k)
theorem kvG_pops (k:Int) (gs:List Grp):kvG (pops k gs)=kvG gs:=by
 unfold kvG pops
 rw[List.map_map]
 refine List.map_congr_left fun g _=>?_
 simp only[Function.comp]
 split <;> rfl
theorem adr_pops (k:Int) (gs:List Grp):(pops k gs).map (·.2.1)=gs.map (·.2.1):=by
 unfold pops
 rw[List.map_map]
 refine List.map_congr_left fun g _=>?_
 simp only[Function.comp]
 split <;> rfl
theorem key_pops (k:Int) (gs:List Grp):(pops k gs).map (·.1)=gs.map (·.1):=by
 unfold pops
 rw[List.map_map]
 refine List.map_congr_left fun g _=>?_
 simp only[Function.comp]
 split <;> rfl
theorem mem_pops {k:Int} {gs:List Grp} {g':Grp} (h:g'∈pops k gs):∃ g∈gs,g'.2.1=g.2.1∧g'.1=g.1∧g'.2.2=if g.1=k then g.2.2.dropLast else g.2.2:=by
 obtain⟨g,hg,rfl⟩:=List.mem_map.mp h
 refine⟨g,hg,?_⟩
 by_cases hk:g.1=k
 ·rw[if_pos hk,if_pos hk];exact⟨rfl,rfl,rfl⟩
 ·rw[if_neg hk,if_neg hk];exact⟨rfl,rfl,rfl⟩
theorem DG.pops {H:Hp} {d:Addr} {gs:List Grp} (dg:DG H d gs) {g:Grp} (hg:g∈gs):DG (upd H g.2.1 (.lst (g.2.2.dropLast.map V.int))) d (pops g.1 gs):=by
 have hnd:d≠g.2.1:=ne_of dg.at_ (dg.lst g hg) (by intro z;cases z)
 refine⟨by rw[kvG_pops,upd_ne hnd];exact dg.at_,fun g' hg'=>?_,by rw[adr_pops];exact dg.adr,by rw[key_pops];exact dg.key⟩
 obtain⟨g0,h0,e1,e2,e3⟩:=mem_pops hg'
 rw[e1,e3]
 by_cases ha:g0.2.1=g.2.1
 ·have:g0=g:=nodup_inj (f:=fun g:Grp=>g.2.1) dg.adr h0 hg ha
  subst this
  rw[upd_same,if_pos rfl]
 ·have hk:g0.1≠g.1:=fun e=>ha (by rw[nodup_inj (f:=fun g:Grp=>g.1) dg.key h0 hg e])
  rw[upd_ne ha,if_neg hk]
  exact dg.lst g0 h0
theorem kvG_outs (k:Int):∀ gs:List Grp,dropK (kvG gs) (Sum.inl k:Key)=kvG (outs k gs):=by
 intro gs
 unfold dropK kvG outs
 rw[List.filter_map]
 congr 1
 refine List.filter_congr fun g _=>?_
 simp only[Function.comp,ne_eq,Sum.inl.injEq]
theorem DG.outs {H:Hp} {d:Addr} {gs:List Grp} (dg:DG H d gs) (k:Int):DG (upd H d (.dK (dropK (kvG gs) (Sum.inl k:Key)))) d (outs k gs):=by
 refine⟨by rw[upd_same,kvG_outs],fun g hg=>?_,?_,?_⟩
 ·have hm:=(List.mem_filter.mp hg).1
  rw[upd_ne (ne_of (dg.lst g hm) dg.at_ (by intro z;cases z))]
  exact dg.lst g hm
 ·exact dg.adr.sublist (List.filter_sublist.map _)
 ·exact dg.key.sublist (List.filter_sublist.map _)
theorem find_key {gs:List Grp} {g:Grp} (hk:(gs.map (·.1)).Nodup) (hg:g∈gs):gs.find? (fun x=>decide (x.1=g.1))=some g:=by
 cases h:gs.find? (fun x=>decide (x.1=g.1))with
 | none=>exact absurd (List.find?_eq_none.mp h g hg) (by simp)
 | some x =>
  have h1:=List.mem_of_find?_eq_some h
  have h2:x.1=g.1:=by simpa using List.find?_some h
  rw[nodup_inj (f:=fun g:Grp=>g.1) hk h1 hg h2]
theorem DG.get {H:Hp} {d:Addr} {gs:List Grp} (dg:DG H d gs) {g:Grp} (hg:g∈gs):DGet H d (.int g.1) (some (.ref g.2.1)):=by
 have h:=DGet.k (k:=(Sum.inl g.1:Key)) dg.at_
 rw[valV_kvG,find_key dg.key hg]at h
 exact h
noncomputable def shr (k:Int) (gs:List Grp):List Grp:=if (pops k gs).any (fun g=>decide (g.1=k) && g.2.2.isEmpty)then outs k (pops k gs)else pops k gs
section
variable {P:Program} {w:World} {K:PySem.W.Frag} {mg:Str→Option Value} {base:Heap}
inductive spCrowdS (vs:List V) (H:Hp) (Q:VK) (E_:XK):Prop
 | mk (d:Addr) (gs:List Grp) (j:Int) (h0_:vs=[.ref d,.int j]) (h1_:DG H d gs) (h2_:gs.length≤60) (h3_:(∀ g∈gs,g.2.2.length≤60)) (h4_:∀ H',Same H H'→Q (.int (2 * wgt (lesJ j) gs)) H'):spCrowdS vs H Q E_
inductive spDropLast (vs:List V) (H:Hp) (Q:VK) (E_:XK):Prop
 | mk (d:Addr) (gs:List Grp) (g:Grp) (h0_:vs=[.ref d,.int g.1]) (h1_:DG H d gs) (h2_:g∈gs) (h3_:g.2.2≠[]) (h4_:∀ H',StayG d gs H H'→DG H' d (shr g.1 gs)→Q .non H'):spDropLast vs H Q E_
end
end CW
namespace CW
open PySem L2
noncomputable def GoodG (gs:List Grp):Prop:=∀ g∈gs,1≤g.1∧g.2.2≠[]
noncomputable def sto (gs:List Grp):Int:=wgt (fun k=>k) gs
theorem wgt_cons (f:Int→Int) (g:Grp) (r:List Grp):wgt f (g :: r)=f g.1 * (g.2.2.length:Int)+wgt f r:=by simp[wgt]
theorem GoodG.tail {g:Grp} {r:List Grp} (h:GoodG (g :: r)):GoodG r:=fun x hx=>h x (List.mem_cons_of_mem _ hx)
theorem GoodG.one {g:Grp} {r:List Grp} (h:GoodG (g :: r)):(g.2.2.length:Int)≤g.1 * (g.2.2.length:Int)∧1≤(g.2.2.length:Int):=by
 obtain⟨h1,h2⟩:=h g List.mem_cons_self
 have h3:0<g.2.2.length:=List.length_pos_iff.mpr h2
 refine⟨?_,by omega⟩
 have:=Int.mul_le_mul_of_nonneg_right h1 (show (0:Int)≤(g.2.2.length:Int)by omega)
 omega
theorem GoodG.bound:∀ {gs:List Grp},GoodG gs→(gs.length:Int)≤sto gs∧∀ g∈gs,(g.2.2.length:Int)≤sto gs
 | [],_=>⟨Int.le_refl _,fun g hg=>(nomatch hg)⟩
 | g :: r,h=>by
  obtain⟨a,b⟩:=GoodG.bound h.tail
  obtain⟨c,d⟩:=h.one
  unfold sto at a b ⊢
  rw[wgt_cons]
  refine⟨by simp only[List.length_cons];omega,fun x hx=>?_⟩
  rcases List.mem_cons.mp hx with e | hx
  ·rw[e];omega
  ·have:=b x hx;omega
theorem pops_none {k:Int}:∀ {gs:List Grp},(∀ g∈gs,g.1≠k)→pops k gs=gs
 | [],_=>rfl
 | g :: r,h=>by
  have h1:=h g List.mem_cons_self
  show (if g.1=k then (g.1,g.2.1,g.2.2.dropLast)else g) :: pops k r=g :: r
  rw[if_neg h1,pops_none fun x hx=>h x (List.mem_cons_of_mem _ hx)]
theorem wgt_pops (f:Int→Int):∀ {gs:List Grp},(gs.map (·.1)).Nodup→∀ {g:Grp},g∈gs→g.2.2≠[]→wgt f (pops g.1 gs)=wgt f gs - f g.1
 | [],_,g,hg,_=>by cases hg
 | x :: r,hn,g,hg,hne=>by
  have hn':=List.nodup_cons.mp hn
  have e0:pops g.1 (x :: r)=(if x.1=g.1 then (x.1,x.2.1,x.2.2.dropLast)else x) :: pops g.1 r:=rfl
  rw[e0]
  by_cases h:x.1=g.1
  ·have hx:x=g:=nodup_inj (f:=fun g:Grp=>g.1) hn List.mem_cons_self hg h
   subst hx
   rw[if_pos rfl,pops_none fun y hy e=>hn'.1 (List.mem_map.mpr ⟨y,hy,e⟩),wgt_cons,wgt_cons]
   have h3:0<x.2.2.length:=List.length_pos_iff.mpr hne
   have h4:((x.2.2.dropLast.length:Nat):Int)=(x.2.2.length:Int) - 1:=by rw[List.length_dropLast];omega
   simp only[h4,Int.mul_sub,Int.mul_one]
   omega
  ·have hg':g∈r:=by
    rcases List.mem_cons.mp hg with e | e
    ·exact absurd (by rw[e]) h
    ·exact e
   rw[if_neg h,wgt_cons,wgt_cons,wgt_pops f hn'.2 hg' hne]
   omega
theorem wgt_outs (f:Int→Int) {k:Int}:∀ {gs:List Grp},(∀ g∈gs,g.1=k→g.2.2=[])→wgt f (outs k gs)=wgt f gs
 | [],_=>rfl
 | g :: r,h=>by
  have ih:=wgt_outs f (k:=k) (gs:=r) fun x hx=>h x (List.mem_cons_of_mem _ hx)
  unfold outs at ih ⊢
  rw[List.filter_cons,wgt_cons]
  by_cases e:g.1=k
  ·have:=h g List.mem_cons_self e
   rw[if_neg (by simp[e]),ih,this]
   simp
  ·rw[if_pos (by simp[e]),wgt_cons,ih]
theorem wgt_shr (f:Int→Int) {gs:List Grp} (hn:(gs.map (·.1)).Nodup) {g:Grp} (hg:g∈gs) (hne:g.2.2≠[]):wgt f (shr g.1 gs)=wgt f gs - f g.1:=by
 unfold shr
 split
 ·next h =>
  obtain⟨x,hx,hp⟩:=List.any_eq_true.mp h
  simp only[Bool.and_eq_true,decide_eq_true_eq,List.isEmpty_iff]at hp
  rw[wgt_outs f fun y hy e=>?_,wgt_pops f hn hg hne]
  have:y=x:=nodup_inj (f:=fun g:Grp=>g.1) (by rw[key_pops];exact hn) hy hx (e.trans hp.1.symm)
  rw[this];exact hp.2
 ·exact wgt_pops f hn hg hne
theorem GoodG.shr {gs:List Grp} (h:GoodG gs) (k:Int):GoodG (shr k gs):=by
 have hp:∀ x∈pops k gs,1≤x.1∧(x.1≠k→x.2.2≠[]):=fun x hx=>by
  obtain⟨g,hg,e1,e2,e3⟩:=mem_pops hx
  obtain⟨h1,h2⟩:=h g hg
  refine⟨by rw[e2];exact h1,fun n=>?_⟩
  rw[e3,if_neg (by rw[← e2];exact n)]
  exact h2
 intro x hx
 unfold CW.shr at hx
 split at hx
 ·obtain⟨h1,h2⟩:=List.mem_filter.mp hx
  exact⟨(hp x h1).1,(hp x h1).2 (by simpa using h2)⟩
 ·next hn =>
  refine⟨(hp x hx).1,fun e=>?_⟩
  by_cases hk:x.1=k
  ·exact hn (List.any_eq_true.mpr ⟨x,hx,by simp[hk,e]⟩)
  ·exact(hp x hx).2 hk e
theorem shr_adr {gs:List Grp} {k:Int} {x:Grp} (hx:x∈shr k gs):∃ g∈gs,x.2.1=g.2.1:=by
 unfold shr at hx
 have hp:x∈pops k gs:=by
  split at hx
  ·exact(List.mem_filter.mp hx).1
  ·exact hx
 obtain⟨g,hg,e1,_⟩:=mem_pops hp
 exact⟨g,hg,e1⟩
noncomputable def Puts (H:Hp) (k o:Int) (gs gs':List Grp):Prop:=(∃ g∈gs,g.1=k)∧gs'=grow k o gs∨(∀ g∈gs,g.1≠k)∧∃ z,H z=none∧gs'=gs++[(k,z,[o])]
theorem wgt_puts (f:Int→Int) {H:Hp} {k o:Int} {gs gs':List Grp} (hn:(gs.map (·.1)).Nodup) (h:Puts H k o gs gs'):wgt f gs'=wgt f gs+f k:=by
 rcases h with ⟨hg,rfl⟩ | ⟨_,z,_,rfl⟩
 ·exact wgt_grow f hn hg
 ·simp[wgt]
theorem GoodG.puts {H:Hp} {k o:Int} {gs gs':List Grp} (g:GoodG gs) (hk:1≤k) (h:Puts H k o gs gs'):GoodG gs':=by
 rcases h with ⟨hg,rfl⟩ | ⟨_,z,_,rfl⟩
 ·intro x hx
  obtain⟨g0,h0,rfl⟩:=List.mem_map.mp hx
  obtain⟨h1,h2⟩:=g g0 h0
  by_cases e:g0.1=k
  ·rw[if_pos e];exact⟨h1,by simp⟩
  ·rw[if_neg e];exact⟨h1,h2⟩
 ·intro x hx
  rcases List.mem_append.mp hx with hx | hx
  ·exact g x hx
  ·rw[List.mem_singleton.mp hx];exact⟨hk,by simp⟩
theorem puts_adr {H:Hp} {k o:Int} {gs gs':List Grp} (h:Puts H k o gs gs') {x:Grp} (hx:x∈gs'):(∃ g∈gs,x.2.1=g.2.1)∨H x.2.1=none:=by
 rcases h with ⟨hg,rfl⟩ | ⟨_,z,hz,rfl⟩
 ·obtain⟨g0,h0,rfl⟩:=List.mem_map.mp hx
  refine .inl ⟨g0,h0,?_⟩
  split <;> rfl
 ·rcases List.mem_append.mp hx with hx | hx
  ·exact .inl ⟨x,hx,rfl⟩
  ·rw[List.mem_singleton.mp hx];exact .inr hz
end CW
namespace CW
open PySem L2
section
variable {P:Program} {w:World} {K:PySem.W.Frag} {mg:Str→Option Value} {base:Heap}
end
end CW
namespace CW
open PySem L2
theorem StayG.same {H H1 H2:Hp} {d r:Addr} {gs:List Grp} (st:StayG d gs H1 H2) (sm:Same H H1) (hd:H d=none) (hfr:∀ g∈gs,H g.2.1=none∧g.2.1≠r):Same H H2:=fun b o e =>
 st b o (fun z=>by rw[z,hd]at e;cases e) (fun g hg z=>by rw[z,(hfr g hg).1]at e;cases e) (sm b o e)
end CW
namespace CW
noncomputable abbrev Trs:=List (Int×Int)
noncomputable def les (ps:Trs) (j:Int):Int:=(ps.map fun q=>min j q.1).sum
theorem les_nil (j:Int):les [] j=0:=rfl
theorem les_cons (q:Int×Int) (ps:Trs) (j:Int):les (q :: ps) j=min j q.1+les ps j:=by simp[les]
theorem les_append (ps qs:Trs) (j:Int):les (ps++qs) j=les ps j+les qs j:=by simp[les]
theorem les_perm {ps qs:Trs} (h:ps.Perm qs) (j:Int):les ps j=les qs j:=by
 unfold les
 induction h with
 | nil=>rfl
 | cons x _ ih=>simp only[List.map_cons,List.sum_cons];omega
 | swap x y l=>simp only[List.map_cons,List.sum_cons];omega
 | trans _ _ h1 h2=>exact h1.trans h2
noncomputable def Bd (ps:Trs) (n:Int):Prop:=∀ q∈ps,1≤q.1∧q.2+2 * les ps q.1≤n
theorem Bd.mono {ps:Trs} {n m:Int} (h:Bd ps n) (e:n≤m):Bd ps m:=fun q hq=>⟨(h q hq).1,Int.le_trans (h q hq).2 e⟩
noncomputable def Add (ps:Trs) (p:Int) (qs:Trs):Prop:=∃ (s:Int) (rest:Trs),0≤s∧(s=0∧ps.Perm rest∨1≤s∧ps.Perm ((s,p - 1 - 2 * les ps s) :: rest))∧(∀ q∈ps,s<q.1→q.2+2 * les ps q.1≠p - 1)∧qs.Perm ((s+1,p - 2 * les rest (s+1) - 2 * (s+1)) :: rest)
theorem Add.perm {ps ps' qs qs':Trs} {p:Int} (h:Add ps p qs) (e:ps.Perm ps') (f:qs.Perm qs'):Add ps' p qs':=by
 obtain⟨s,rest,h0,h1,h2,h3⟩:=h
 refine⟨s,rest,h0,?_,fun q hq hs=>?_,f.symm.trans h3⟩
 ·rcases h1 with ⟨a,b⟩ | ⟨a,b⟩
  ·exact .inl ⟨a,e.symm.trans b⟩
  ·refine .inr ⟨a,?_⟩
   rw[← les_perm e]
   exact e.symm.trans b
 ·rw[← les_perm e]
  exact h2 q (e.mem_iff.mpr hq) hs
theorem Add.uniq {ps qs qs':Trs} {p:Int} (h:Add ps p qs) (h':Add ps p qs'):qs.Perm qs':=by
 obtain⟨s,rest,h0,h1,h2,h3⟩:=h
 obtain⟨s',rest',h0',h1',h2',h3'⟩:=h'
 have hs:s=s':=by
  rcases h1 with ⟨a,b⟩ | ⟨a,b⟩ <;> rcases h1' with ⟨a',b'⟩ | ⟨a',b'⟩
  ·omega
  ·exact absurd (show (p - 1 - 2 * les ps s')+2 * les ps s'=p - 1 by omega) (h2 _ (b'.mem_iff.mpr List.mem_cons_self) (show s<s' by omega))
  ·exact absurd (show (p - 1 - 2 * les ps s)+2 * les ps s=p - 1 by omega) (h2' _ (b.mem_iff.mpr List.mem_cons_self) (show s'<s by omega))
  ·rcases Int.lt_trichotomy s s' with l | l | l
   ·exact absurd (show (p - 1 - 2 * les ps s')+2 * les ps s'=p - 1 by omega) (h2 _ (b'.mem_iff.mpr List.mem_cons_self) l)
   ·exact l
   ·exact absurd (show (p - 1 - 2 * les ps s)+2 * les ps s=p - 1 by omega) (h2' _ (b.mem_iff.mpr List.mem_cons_self) l)
 subst hs
 have hr:rest.Perm rest':=by
  rcases h1 with ⟨a,b⟩ | ⟨a,b⟩ <;> rcases h1' with ⟨a',b'⟩ | ⟨a',b'⟩
  ·exact b.symm.trans b'
  ·omega
  ·omega
  ·exact List.Perm.cons_inv (b.symm.trans b')
 refine h3.trans (List.Perm.trans ?_ h3'.symm)
 rw[les_perm hr]
 exact hr.cons _
theorem Add.bd {ps qs:Trs} {p:Int} (h:Add ps p qs) (b:Bd ps (p - 1)):Bd qs p:=by
 obtain⟨s,rest,h0,h1,h2,h3⟩:=h
 have hl:∀ j,1≤j→les qs j=les ps j+if s<j then 1 else 0:=fun j hj=>by
  rw[les_perm h3,les_cons]
  rcases h1 with ⟨a,b⟩ | ⟨a,b⟩
  ·rw[les_perm b]
   simp only
   split <;> omega
  ·rw[les_perm b,les_cons]
   simp only
   split <;> omega
 intro q hq
 rcases List.mem_cons.mp (h3.mem_iff.mp hq)with rfl | hq
 ·refine⟨show 1≤s+1 by omega,?_⟩
  have:les qs (s+1)=s+1+les rest (s+1):=by
   rw[les_perm h3,les_cons]
   simp only
   omega
  show (p - 2 * les rest (s+1) - 2 * (s+1))+2 * les qs (s+1)≤p
  omega
 ·have hm:q∈ps:=by
   rcases h1 with ⟨_,e⟩ | ⟨_,e⟩
   ·exact e.mem_iff.mpr hq
   ·exact e.mem_iff.mpr (List.mem_cons_of_mem _ hq)
  obtain⟨b1,b2⟩:=b q hm
  refine⟨b1,?_⟩
  have:=h2 q hm
  rw[hl q.1 b1]
  split <;> omega
noncomputable def Tak (ps:Trs) (p:Int) (qs:Trs):Prop:=∃ (s:Int) (rest:Trs),1≤s∧ps.Perm ((s,p - 2 * les ps s) :: rest)∧(∀ q∈ps,q.2+2 * les ps q.1≤p)∧(∀ q∈ps,q.1<s→q.2+2 * les ps q.1<p) ∧
 (s=1∧qs.Perm rest∨2≤s∧qs.Perm ((s - 1,p - 1 - 2 * les rest (s - 1) - 2 * (s - 1)) :: rest))
theorem Tak.add {ps qs:Trs} {p:Int} (h:Tak ps p qs) (hp:∀ q∈ps,1≤q.1):Bd qs (p - 1)∧Add qs p ps:=by
 obtain⟨s,rest,h0,h1,h2,h3,h4⟩:=h
 have hl:∀ j,0≤j→les ps j=les qs j+if s≤j then 1 else 0:=fun j hj=>by
  rw[les_perm h1,les_cons]
  rcases h4 with ⟨a,b⟩ | ⟨a,b⟩
  ·rw[les_perm b];simp only;split <;> omega
  ·rw[les_perm b,les_cons];simp only;split <;> omega
 have hold:∀ q∈rest,1≤q.1∧q.2+2 * les qs q.1≤p - 1∧(s≤q.1→q.2+2 * les qs q.1≤p - 2):=fun q hq=>by
  have hm:q∈ps:=h1.mem_iff.mpr (List.mem_cons_of_mem _ hq)
  have a1:=hp q hm
  have a2:=h2 q hm
  have a3:=h3 q hm
  have a4:=hl q.1 (by omega)
  refine⟨a1,?_,fun hs=>?_⟩
  ·by_cases hs:s≤q.1
   ·rw[if_pos hs]at a4;omega
   ·rw[if_neg hs]at a4;have:=a3 (by omega);omega
  ·rw[if_pos hs]at a4;omega
 have hnew:2≤s→les qs (s - 1)=(s - 1)+les rest (s - 1):=fun h=>by
  rcases h4 with ⟨a,b⟩ | ⟨a,b⟩
  ·omega
  ·rw[les_perm b,les_cons];simp only;omega
 refine⟨fun q hq=>?_,s - 1,rest,by omega,?_,fun q hq hs=>?_,?_⟩
 ·rcases h4 with ⟨a,b⟩ | ⟨a,b⟩
  ·have:=hold q (b.mem_iff.mp hq);exact⟨this.1,this.2.1⟩
  ·rcases List.mem_cons.mp (b.mem_iff.mp hq)with rfl | hq
   ·refine⟨show 1≤s - 1 by omega,?_⟩
    have:=hnew a
    show (p - 1 - 2 * les rest (s - 1) - 2 * (s - 1))+2 * les qs (s - 1)≤p - 1
    omega
   ·have:=hold q hq;exact⟨this.1,this.2.1⟩
 ·rcases h4 with ⟨a,b⟩ | ⟨a,b⟩
  ·exact .inl ⟨by omega,b⟩
  ·refine .inr ⟨by omega,?_⟩
   have e:p - 1 - 2 * les qs (s - 1)=p - 1 - 2 * les rest (s - 1) - 2 * (s - 1):=by have:=hnew a;omega
   rw[e]
   exact b
 ·have hq':q∈rest:=by
   rcases h4 with ⟨a,b⟩ | ⟨a,b⟩
   ·exact b.mem_iff.mp hq
   ·rcases List.mem_cons.mp (b.mem_iff.mp hq)with rfl | hq
    ·exact absurd hs (by show ¬ (s - 1<s - 1);omega)
    ·exact hq
  have:=(hold q hq').2.2 (by omega)
  omega
 ·have e:s - 1+1=s:=by omega
  rw[e]
  have e2:p - 2 * les rest s - 2 * s=p - 2 * les ps s:=by rw[les_perm h1,les_cons];simp only;omega
  rw[e2]
  exact h1
theorem Add.tak {ps qs:Trs} {p:Int} (h:Add ps p qs) (b:Bd ps (p - 1)):Tak qs p ps:=by
 have hb:=h.bd b
 obtain⟨s,rest,h0,h1,h2,h3⟩:=h
 have hl:∀ j,0≤j→les qs j=les ps j+if s<j then 1 else 0:=fun j hj=>by
  rw[les_perm h3,les_cons]
  rcases h1 with ⟨a,b⟩ | ⟨a,b⟩
  ·rw[les_perm b];simp only;split <;> omega
  ·rw[les_perm b,les_cons];simp only;split <;> omega
 have e2:p - 2 * les qs (s+1)=p - 2 * les rest (s+1) - 2 * (s+1):=by rw[les_perm h3,les_cons];simp only;omega
 refine⟨s+1,rest,by omega,by rw[e2];exact h3,fun q hq=>(hb q hq).2,fun q hq hs=>?_,?_⟩
 ·rcases List.mem_cons.mp (h3.mem_iff.mp hq)with rfl | hq
  ·exact absurd hs (by show ¬ (s+1<s+1);omega)
  ·have hm:q∈ps:=by
    rcases h1 with ⟨_,e⟩ | ⟨_,e⟩
    ·exact e.mem_iff.mpr hq
    ·exact e.mem_iff.mpr (List.mem_cons_of_mem _ hq)
   obtain⟨b1,b2⟩:=b q hm
   have:=hl q.1 (by omega)
   rw[if_neg (by omega)]at this
   omega
 ·rcases h1 with ⟨a,e⟩ | ⟨a,e⟩
  ·exact .inl ⟨by omega,e⟩
  ·refine .inr ⟨by omega,?_⟩
   have e3:s+1 - 1=s:=by omega
   rw[e3]
   have e4:p - 1 - 2 * les rest s - 2 * s=p - 1 - 2 * les ps s:=by rw[les_perm e,les_cons];simp only;omega
   rw[e4]
   exact e
theorem Tak.uniq {ps ps' qs qs':Trs} {p p':Int} (h:Tak ps p qs) (h':Tak ps' p' qs') (e:ps.Perm ps'):p=p'∧qs.Perm qs':=by
 obtain⟨s,rest,h0,h1,h2,h3,h4⟩:=h
 obtain⟨s',rest',h0',h1',h2',h3',h4'⟩:=h'
 have m1:(s,p - 2 * les ps s)∈ps:=h1.mem_iff.mpr List.mem_cons_self
 have m2:(s',p' - 2 * les ps' s')∈ps':=h1'.mem_iff.mpr List.mem_cons_self
 have a1:=h2' _ (e.mem_iff.mp m1)
 have a2:=h2 _ (e.mem_iff.mpr m2)
 have l1:=les_perm e s
 have l2:=les_perm e s'
 simp only at a1 a2
 have hp:p=p':=by omega
 subst hp
 have b1:=h3' _ (e.mem_iff.mp m1)
 have b2:=h3 _ (e.mem_iff.mpr m2)
 simp only at b1 b2
 have hs:s=s':=by
  rcases Int.lt_trichotomy s s' with l | l | l
  ·have:=b1 l;omega
  ·exact l
  ·have:=b2 l;omega
 subst hs
 rw[← l1]at h1'
 have hr:rest.Perm rest':=List.Perm.cons_inv ((h1.symm.trans e).trans h1')
 refine⟨rfl,?_⟩
 rcases h4 with ⟨a,b⟩ | ⟨a,b⟩ <;> rcases h4' with ⟨a',b'⟩ | ⟨a',b'⟩
 ·exact b.trans (hr.trans b'.symm)
 ·omega
 ·omega
 ·refine b.trans (List.Perm.trans ?_ b'.symm)
  rw[les_perm hr]
  exact hr.cons _
inductive Lst:List Int→Trs→Prop
 | nil:Lst [] []
 | snoc {r:List Int} {ps:Trs} {p:Int} {qs:Trs}:Lst r ps→(∀ x∈r,x<p)→Add ps p qs→Lst (r++[p]) qs
theorem Add.ne {ps qs:Trs} {p:Int} (h:Add ps p qs):qs≠[]:=by
 obtain⟨s,rest,_,_,_,h3⟩:=h
 intro e
 rw[e]at h3
 exact absurd h3.symm.eq_nil (by simp)
theorem Lst.perm {r:List Int} {ps qs:Trs} (h:Lst r ps) (e:ps.Perm qs):Lst r qs:=by
 cases h with
 | nil=>rw[e.symm.eq_nil];exact .nil
 | snoc a b c=>exact .snoc a b (c.perm (.refl _) e)
theorem Lst.inv {r:List Int} {p:Int} {qs:Trs} (h:Lst (r++[p]) qs):∃ ps,Lst r ps∧(∀ x∈r,x<p)∧Add ps p qs:=by
 generalize e:r++[p]=t at h
 cases h with
 | nil=>simp at e
 | snoc a b c =>
  obtain⟨rfl,e2⟩:=List.append_inj' e rfl
  obtain rfl:p=_:=by simpa using e2
  exact⟨_,a,b,c⟩
theorem Lst.nilr {qs:Trs} (h:Lst [] qs):qs=[]:=by
 generalize e:([]:List Int)=t at h
 cases h with
 | nil=>rfl
 | snoc a b c=>simp at e
theorem Lst.bd {r:List Int} {ps:Trs} (h:Lst r ps) {n:Int}:(∀ x∈r,x≤n)→Bd ps n:=by
 induction h generalizing n with
 | nil=>intro _ q hq;cases hq
 | snoc a b c ih =>
  intro hn
  rename_i r ps p qs
  have hp:p≤n:=hn p (by simp)
  have:=ih (n:=p - 1) fun x hx=>by have:=b x hx;omega
  exact(c.bd this).mono hp
theorem Lst.uniq {r:List Int} {ps qs:Trs} (h:Lst r ps) (h':Lst r qs):ps.Perm qs:=by
 induction h generalizing qs with
 | nil=>rw[h'.nilr]
 | snoc a b c ih =>
  obtain⟨ps',a',b',c'⟩:=h'.inv
  exact(c.perm (ih a') (.refl _)).uniq c'
theorem Lst.row {r:List Int} {ps:Trs} (h:Lst r ps) {r':List Int} {qs:Trs} (h':Lst r' qs) (e:ps.Perm qs):r=r':=by
 induction h generalizing r' qs with
 | nil =>
  cases h' with
  | nil=>rfl
  | snoc a b c=>exact absurd e.symm.eq_nil c.ne
 | snoc a b c ih =>
  cases h' with
  | nil=>exact absurd e.eq_nil c.ne
  | snoc a' b' c' =>
   rename_i r ps p qs r' ps' p'
   have bd:=a.bd (n:=p - 1) fun x hx=>by have:=b x hx;omega
   have bd':=a'.bd (n:=p' - 1) fun x hx=>by have:=b' x hx;omega
   obtain⟨rfl,e2⟩:=(c.tak bd).uniq (c'.tak bd') e
   rw[ih a' e2]
noncomputable def siz (ps:Trs):Int:=(ps.map (·.1)).sum
theorem siz_perm {ps qs:Trs} (h:ps.Perm qs):siz ps=siz qs:=by
 unfold siz
 induction h with
 | nil=>rfl
 | cons x _ ih=>simp only[List.map_cons,List.sum_cons];omega
 | swap x y l=>simp only[List.map_cons,List.sum_cons];omega
 | trans _ _ h1 h2=>exact h1.trans h2
theorem siz_cons (q:Int×Int) (ps:Trs):siz (q :: ps)=q.1+siz ps:=by simp[siz]
theorem Add.sizx {ps qs:Trs} {p:Int} (h:Add ps p qs):siz qs=siz ps+1:=by
 obtain⟨s,rest,h0,h1,h2,h3⟩:=h
 rw[siz_perm h3,siz_cons]
 rcases h1 with ⟨a,b⟩ | ⟨a,b⟩
 ·rw[siz_perm b];simp only;omega
 ·rw[siz_perm b,siz_cons];simp only;omega
theorem Lst.sizx {r:List Int} {ps:Trs} (h:Lst r ps):siz ps=(r.length:Int):=by
 induction h with
 | nil=>rfl
 | snoc a b c ih=>rw[c.sizx,ih];simp
theorem Lst.pos {r:List Int} {ps:Trs} (h:Lst r ps):∀ q∈ps,1≤q.1:=by
 obtain⟨n,hn⟩:∃ n:Int,∀ x∈r,x≤n:=by
  clear h
  induction r with
  | nil=>exact⟨0,fun x hx=>(nomatch hx)⟩
  | cons a r ih =>
   obtain⟨n,hn⟩:=ih
   refine⟨max a n,fun x hx=>?_⟩
   rcases List.mem_cons.mp hx with rfl | hx
   ·omega
   ·have:=hn x hx;omega
 exact fun q hq=>(h.bd hn q hq).1
end CW
namespace CW
open PySem L2
noncomputable def flat (gs:List Grp):Trs:=gs.flatMap fun g=>g.2.2.map fun o=>(g.1,o)
theorem flat_cons (g:Grp) (r:List Grp):flat (g :: r)=g.2.2.map (fun o=>(g.1,o))++flat r:=rfl
theorem flat_append (a b:List Grp):flat (a++b)=flat a++flat b:=by simp[flat]
theorem mem_flat {gs:List Grp} {q:Int×Int}:q∈flat gs↔∃ g∈gs,g.1=q.1∧q.2∈g.2.2:=by
 unfold flat
 rw[List.mem_flatMap]
 constructor
 ·rintro ⟨g,hg,h⟩
  obtain⟨o,ho,rfl⟩:=List.mem_map.mp h
  exact⟨g,hg,rfl,ho⟩
 ·rintro ⟨g,hg,h1,h2⟩
  exact⟨g,hg,List.mem_map.mpr ⟨q.2,h2,by rw[h1]⟩⟩
theorem tot_append (f:Int→Int) (a b:Trs):tot f (a++b)=tot f a+tot f b:=by simp[tot]
theorem wgt_flat (f:Int→Int):∀ gs:List Grp,wgt f gs=tot f (flat gs)
 | []=>rfl
 | g :: r=>by
  rw[wgt_cons,flat_cons,tot_append,wgt_flat f r]
  congr 1
  generalize g.2.2=l
  induction l with
  | nil=>simp[tot]
  | cons x l ih =>
   have:tot f ((x :: l).map fun o=>(g.1,o))=f g.1+tot f (l.map fun o=>(g.1,o)):=by simp[tot]
   rw[this,← ih,List.length_cons,show ((l.length+1:Nat):Int)=(l.length:Int)+1 by omega,Int.mul_add,Int.mul_one]
   omega
theorem lesJ_min (j k:Int):lesJ j k=min j k:=by unfold lesJ;split <;> omega
theorem tot_lesJ (ps:Trs) (j:Int):tot (lesJ j) ps=les ps j:=by
 unfold tot les
 congr 1
 exact List.map_congr_left fun q _=>lesJ_min j q.1
theorem lesM_les (ps:Trs) (j:Int):lesM ps j=les ps j:=tot_lesJ ps j
theorem wgt_les (gs:List Grp) (j:Int):wgt (lesJ j) gs=les (flat gs) j:=by rw[wgt_flat,tot_lesJ]
theorem sto_siz (gs:List Grp):sto gs=siz (flat gs):=wgt_flat _ gs
theorem flat_grow {k o:Int}:∀ {gs:List Grp},(gs.map (·.1)).Nodup→(∃ g∈gs,g.1=k)→(flat (grow k o gs)).Perm ((k,o) :: flat gs)
 | [],_,⟨g,h,_⟩=>by cases h
 | g :: r,hn,hex=>by
  have hn':=List.nodup_cons.mp hn
  by_cases h:g.1=k
  ·have hr:grow k o r=r:=grow_none fun x hx e=>hn'.1 (List.mem_map.mpr ⟨x,hx,e.trans h.symm⟩)
   have:grow k o (g :: r)=(g.1,g.2.1,g.2.2++[o]) :: r:=by
    show (if g.1=k then (g.1,g.2.1,g.2.2++[o])else g) :: grow k o r=_
    rw[if_pos h,hr]
   rw[this,flat_cons,flat_cons]
   simp only[List.map_append,List.map_cons,List.map_nil,List.append_assoc,h]
   exact List.perm_middle
  ·have hex':∃ g∈r,g.1=k:=by
    obtain⟨x,hx,e⟩:=hex
    rcases List.mem_cons.mp hx with rfl | hx
    ·exact absurd e h
    ·exact⟨x,hx,e⟩
   have ih:=flat_grow (o:=o) hn'.2 hex'
   have:grow k o (g :: r)=g :: grow k o r:=by
    show (if g.1=k then (g.1,g.2.1,g.2.2++[o])else g) :: grow k o r=_
    rw[if_neg h]
   rw[this,flat_cons,flat_cons]
   exact(ih.append_left _).trans List.perm_middle
theorem flat_puts {H:Hp} {k o:Int} {gs gs':List Grp} (hn:(gs.map (·.1)).Nodup) (h:Puts H k o gs gs'):(flat gs').Perm ((k,o) :: flat gs):=by
 rcases h with ⟨hg,rfl⟩ | ⟨_,z,_,rfl⟩
 ·exact flat_grow hn hg
 ·rw[flat_append]
  exact List.perm_append_comm
theorem flat_pops:∀ {gs:List Grp},(gs.map (·.1)).Nodup→∀ {g:Grp} (_:g∈gs) (hne:g.2.2≠[]),(flat gs).Perm ((g.1,g.2.2.getLast hne) :: flat (pops g.1 gs))
 | [],_,g,hg,_=>by cases hg
 | x :: r,hn,g,hg,hne=>by
  have hn':=List.nodup_cons.mp hn
  have e0:pops g.1 (x :: r)=(if x.1=g.1 then (x.1,x.2.1,x.2.2.dropLast)else x) :: pops g.1 r:=rfl
  rw[e0]
  by_cases h:x.1=g.1
  ·have hx:x=g:=nodup_inj (f:=fun g:Grp=>g.1) hn List.mem_cons_self hg h
   subst hx
   rw[if_pos rfl,pops_none fun y hy e=>hn'.1 (List.mem_map.mpr ⟨y,hy,e⟩),flat_cons,flat_cons]
   have e1:x.2.2.map (fun o=>(x.1,o))=x.2.2.dropLast.map (fun o=>(x.1,o))++[(x.1,x.2.2.getLast hne)]:=by
    conv=>lhs;rw[← List.dropLast_concat_getLast hne]
    rw[List.map_append]
    rfl
   rw[e1,List.append_assoc]
   exact List.perm_middle
  ·have hg':g∈r:=by
    rcases List.mem_cons.mp hg with e | e
    ·exact absurd (by rw[e]) h
    ·exact e
   rw[if_neg h,flat_cons,flat_cons]
   exact((flat_pops hn'.2 hg' hne).append_left _).trans List.perm_middle
theorem flat_outs {k:Int}:∀ {gs:List Grp},(∀ g∈gs,g.1=k→g.2.2=[])→flat (outs k gs)=flat gs
 | [],_=>rfl
 | g :: r,h=>by
  have ih:=flat_outs (k:=k) (gs:=r) fun x hx=>h x (List.mem_cons_of_mem _ hx)
  unfold outs at ih ⊢
  rw[List.filter_cons,flat_cons]
  by_cases e:g.1=k
  ·have:=h g List.mem_cons_self e
   rw[if_neg (by simp[e]),ih,this]
   rfl
  ·rw[if_pos (by simp[e]),flat_cons,ih]
theorem flat_shr {gs:List Grp} (hn:(gs.map (·.1)).Nodup) {g:Grp} (hg:g∈gs) (hne:g.2.2≠[]):(flat gs).Perm ((g.1,g.2.2.getLast hne) :: flat (shr g.1 gs)):=by
 unfold shr
 split
 ·next h =>
  obtain⟨x,hx,hp⟩:=List.any_eq_true.mp h
  simp only[Bool.and_eq_true,decide_eq_true_eq,List.isEmpty_iff]at hp
  rw[flat_outs fun y hy e=>?_]
  ·exact flat_pops hn hg hne
  have:y=x:=nodup_inj (f:=fun g:Grp=>g.1) (by rw[key_pops];exact hn) hy hx (e.trans hp.1.symm)
  rw[this];exact hp.2
 ·exact flat_pops hn hg hne
noncomputable def Asc (gs:List Grp):Prop:=∀ g∈gs,g.2.2.Pairwise (·≤·)
theorem Asc.last {gs:List Grp} (h:Asc gs) {g:Grp} (hg:g∈gs) (hne:g.2.2≠[]) {o:Int} (ho:o∈g.2.2):o≤g.2.2.getLast hne:=by
 have hp:=h g hg
 rw[← List.dropLast_concat_getLast hne]at ho hp
 rcases List.mem_append.mp ho with h1 | h1
 ·exact(List.pairwise_append.mp hp).2.2 o h1 _ (by simp)
 ·rw[List.mem_singleton.mp h1];exact Int.le_refl _
theorem Asc.shr {gs:List Grp} (h:Asc gs) (k:Int):Asc (shr k gs):=by
 have hp:Asc (pops k gs):=fun x hx=>by
  obtain⟨g,hg,e1,e2,e3⟩:=mem_pops hx
  rw[e3]
  split
  ·exact(h g hg).sublist (List.dropLast_sublist _)
  ·exact h g hg
 intro x hx
 unfold CW.shr at hx
 split at hx
 ·exact hp x (List.mem_filter.mp hx).1
 ·exact hp x hx
theorem Asc.puts {H:Hp} {k o:Int} {gs gs':List Grp} (h:Asc gs) (hp:Puts H k o gs gs') (hle:∀ q∈flat gs,q.1=k→q.2≤o):Asc gs':=by
 rcases hp with ⟨hg,rfl⟩ | ⟨_,z,_,rfl⟩
 ·intro x hx
  obtain⟨g0,h0,rfl⟩:=List.mem_map.mp hx
  by_cases e:g0.1=k
  ·rw[if_pos e]
   refine List.pairwise_append.mpr ⟨h g0 h0,by simp,fun a ha b hb=>?_⟩
   rw[List.mem_singleton.mp hb]
   exact hle (g0.1,a) (mem_flat.mpr ⟨g0,h0,rfl,ha⟩) e
  ·rw[if_neg e];exact h g0 h0
 ·intro x hx
  rcases List.mem_append.mp hx with hx | hx
  ·exact h x hx
  ·rw[List.mem_singleton.mp hx];simp
theorem shr_key {gs:List Grp} (k:Int) (h:(gs.map (·.1)).Nodup):((shr k gs).map (·.1)).Nodup:=by
 unfold shr
 split
 ·exact(show ((pops k gs).map (·.1)).Nodup by rw[key_pops];exact h).sublist (List.filter_sublist.map _)
 ·rw[key_pops];exact h
theorem add_groups {H:Hp} {gs gs':List Grp} {p s:Int} (hn:(gs.map (·.1)).Nodup) (gd:GoodG gs) (ac:Asc gs) (bd:Bd (flat gs) (p - 1)) {gs1:List Grp}
 (hs:s=0∧gs1=gs∨1≤s∧∃ g∈gs,∃ hne:g.2.2≠[],g.1=s∧g.2.2.getLast hne=p - 1 - 2 * les (flat gs) s∧gs1=shr s gs)
 (htop:∀ g∈gs,∀ hne:g.2.2≠[],s<g.1→g.2.2.getLast hne≠p - 1 - 2 * les (flat gs) g.1)
 (hp:Puts H (s+1) (p - 2 * les (flat gs1) (s+1) - 2 * (s+1)) gs1 gs'):Add (flat gs) p (flat gs')∧Asc gs'∧GoodG gs':=by
 have ha:Add (flat gs) p (flat gs'):=by
  refine⟨s,flat gs1,?_,?_,fun q hq hlt e=>?_,?_⟩
  ·rcases hs with h | h <;> omega
  ·rcases hs with ⟨h,rfl⟩ | ⟨h,g,hg,hne,e1,e2,rfl⟩
   ·exact .inl ⟨h,.refl _⟩
   ·refine .inr ⟨h,?_⟩
    have:=flat_shr hn hg hne
    rw[e1,e2]at this
    exact this
  ·obtain⟨g,hg,e1,e2⟩:=mem_flat.mp hq
   have hne:=(gd g hg).2
   have h1:=ac.last hg hne e2
   have h2:=(bd (g.1,g.2.2.getLast hne) (mem_flat.mpr ⟨g,hg,rfl,List.getLast_mem hne⟩)).2
   simp only at h2
   rw[← e1]at e hlt
   exact htop g hg hne hlt (by omega)
  ·have hn1:(gs1.map (·.1)).Nodup:=by
    rcases hs with ⟨h,rfl⟩ | ⟨h,g,hg,hne,e1,e2,rfl⟩
    ·exact hn
    ·exact shr_key s hn
   exact flat_puts hn1 hp
 have hb:=ha.bd bd
 have hn1:(gs1.map (·.1)).Nodup∧Asc gs1∧GoodG gs1:=by
  rcases hs with ⟨h,rfl⟩ | ⟨h,g,hg,hne,e1,e2,rfl⟩
  ·exact⟨hn,ac,gd⟩
  ·exact⟨shr_key s hn,ac.shr s,gd.shr s⟩
 have hfp:=flat_puts hn1.1 hp
 refine⟨ha,hn1.2.1.puts hp fun q hq e=>?_,hn1.2.2.puts (by rcases hs with h | h <;> omega) hp⟩
 have h1:=(hb q (hfp.mem_iff.mpr (List.mem_cons_of_mem _ hq))).2
 rw[les_perm hfp,les_cons,e]at h1
 simp only at h1
 omega
theorem tak_groups {H:Hp} {gs gs':List Grp} {p:Int} (hn:(gs.map (·.1)).Nodup) (gd:GoodG gs) (ac:Asc gs) {g:Grp} (hg:g∈gs) (hne:g.2.2≠[]) (hp:g.2.2.getLast hne+2 * les (flat gs) g.1=p)
 (htop:∀ x∈gs,∀ hx:x.2.2≠[],x.2.2.getLast hx+2 * les (flat gs) x.1≤p∧(x.1<g.1→x.2.2.getLast hx+2 * les (flat gs) x.1<p))
 (hq:g.1=1∧gs'=shr g.1 gs∨2≤g.1∧Puts H (g.1 - 1) (p - 1 - 2 * les (flat (shr g.1 gs)) (g.1 - 1) - 2 * (g.1 - 1)) (shr g.1 gs) gs'):Tak (flat gs) p (flat gs')∧Asc gs'∧GoodG gs':=by
 have hn1:=shr_key g.1 hn
 have hfs:=flat_shr hn hg hne
 have hpos:∀ q∈flat gs,1≤q.1:=fun q hq=>by
  obtain⟨x,hx,e1,_⟩:=mem_flat.mp hq
  rw[← e1];exact(gd x hx).1
 have hlast:g.2.2.getLast hne=p - 2 * les (flat gs) g.1:=by omega
 have ht:Tak (flat gs) p (flat gs'):=by
  refine⟨g.1,flat (shr g.1 gs),(gd g hg).1,by rw[← hlast];exact hfs,fun q hq=>?_,fun q hq hl=>?_,?_⟩
  ·obtain⟨x,hx,e1,e2⟩:=mem_flat.mp hq
   have h1:=ac.last hx (gd x hx).2 e2
   have h2:=(htop x hx (gd x hx).2).1
   rw[← e1];omega
  ·obtain⟨x,hx,e1,e2⟩:=mem_flat.mp hq
   have h1:=ac.last hx (gd x hx).2 e2
   have h2:=(htop x hx (gd x hx).2).2 (by rw[e1];exact hl)
   rw[← e1];omega
  ·rcases hq with ⟨h,rfl⟩ | ⟨h,h2⟩
   ·exact .inl ⟨h,.refl _⟩
   ·exact .inr ⟨h,flat_puts hn1 h2⟩
 refine⟨ht,?_⟩
 obtain⟨hb,_⟩:=ht.add hpos
 rcases hq with ⟨h,rfl⟩ | ⟨h,h2⟩
 ·exact⟨ac.shr _,gd.shr _⟩
 ·have hfp:=flat_puts hn1 h2
  refine⟨(ac.shr _).puts h2 fun q hq e=>?_,(gd.shr _).puts (by omega) h2⟩
  have h1:=(hb q (hfp.mem_iff.mpr (List.mem_cons_of_mem _ hq))).2
  rw[les_perm hfp,les_cons,e]at h1
  simp only at h1
  omega
noncomputable def lng (b:Int) (gs:List Grp):Int:=wgt (fun k=>if b<k then 1 else 0) gs
theorem wgt_add (f h:Int→Int):∀ gs:List Grp,wgt (fun k=>f k+h k) gs=wgt f gs+wgt h gs
 | []=>rfl
 | g :: r=>by
  rw[wgt_cons,wgt_cons,wgt_cons,wgt_add f h r]
  have:(f g.1+h g.1) * (g.2.2.length:Int)=f g.1 * (g.2.2.length:Int)+h g.1 * (g.2.2.length:Int):=Int.add_mul ..
  omega
theorem wgt_mul (c:Int) (f:Int→Int):∀ gs:List Grp,wgt (fun k=>c * f k) gs=c * wgt f gs
 | []=>by simp[wgt]
 | g :: r=>by rw[wgt_cons,wgt_cons,wgt_mul c f r,Int.mul_add,Int.mul_assoc]
theorem wgt_congr {f h:Int→Int} {gs:List Grp} (e:∀ g∈gs,f g.1=h g.1):wgt f gs=wgt h gs:=by
 unfold wgt
 congr 1
 exact List.map_congr_left fun g hg=>by rw[e g hg]
theorem wgt_zero:∀ gs:List Grp,wgt (fun _=>0) gs=0
 | []=>rfl
 | g :: r=>by rw[wgt_cons,wgt_zero r];simp
theorem crowd_step {gs:List Grp} {b m:Int} (hbm:b≤m) (h:∀ g∈gs,b<g.1→m≤g.1):wgt (lesJ m) gs=wgt (lesJ b) gs+(m - b) * lng b gs:=by
 unfold lng
 rw[← wgt_mul,← wgt_add]
 refine wgt_congr fun g hg=>?_
 rw[lesJ_min,lesJ_min]
 have:=h g hg
 split
 ·have:=this (by assumption);omega
 ·omega
theorem lng_step {gs:List Grp} {b m:Int} (hbm:b<m) (h:∀ g∈gs,b<g.1→m≤g.1) (hn:(gs.map (·.1)).Nodup) {g:Grp} (hg:g∈gs) (hm:g.1=m):lng m gs=lng b gs - (g.2.2.length:Int):=by
 have h1:lng b gs=lng m gs+wgt (fun k=>if k=m then 1 else 0) gs:=by
  unfold lng
  rw[← wgt_add]
  refine wgt_congr fun x hx=>?_
  have:=h x hx
  by_cases c:b<x.1
  ·have:=this c
   rw[if_pos c]
   by_cases d:x.1=m
   ·rw[if_neg (by omega),if_pos d];omega
   ·rw[if_pos (by omega),if_neg d];omega
  ·rw[if_neg c,if_neg (by omega),if_neg (by omega)];omega
 have h2:wgt (fun k=>if k=m then 1 else 0) gs=(g.2.2.length:Int):=by
  clear h1 h
  induction gs with
  | nil=>cases hg
  | cons x r ih =>
   have hn':=List.nodup_cons.mp hn
   rw[wgt_cons]
   rcases List.mem_cons.mp hg with e | e
   ·subst e
    have:wgt (fun k=>if k=m then 1 else 0) r=0:=by
     have:wgt (fun k=>if k=m then 1 else 0) r=wgt (fun _=>0) r:=wgt_congr fun y hy=>if_neg fun z=>hn'.1 (List.mem_map.mpr ⟨y,hy,by show y.1=g.1;omega⟩)
     rw[this]
     exact wgt_zero r
    rw[this,if_pos hm];omega
   ·have hx:x.1≠m:=fun z=>hn'.1 (List.mem_map.mpr ⟨g,e,by show g.1=x.1;omega⟩)
    rw[if_neg hx,ih hn'.2 e];omega
 omega
theorem lng_zero {gs:List Grp} (gd:GoodG gs):lng 0 gs=(gs.map (fun g:Grp=>(g.2.2.length:Int))).sum:=by
 unfold lng wgt
 congr 1
 exact List.map_congr_left fun g hg=>by show (if 0<g.1 then (1:Int)else 0) * _=_;rw[if_pos (by have:=(gd g hg).1;omega)];omega
theorem les_zero {gs:List Grp} (gd:GoodG gs):wgt (lesJ 0) gs=0:=by
 have:wgt (lesJ 0) gs=wgt (fun _=>0) gs:=wgt_congr fun g hg=>by rw[lesJ_min];have:=(gd g hg).1;omega
 rw[this]
 exact wgt_zero gs
end CW
namespace L2
open PySem PySem.Spec PyProof.Rows
noncomputable def CompG (J:It) (σ0:St) (g:TG) (tt:TT) (te:TE) (ys0:List V) (N:List V→Hp→Prop) (H1:Hp):Prop:=∃ W:Nat→Nat→List V→Hp→Prop,(∃ m,W 0 m ys0 H1)∧∀ i m ys H,W i m ys H →
 ys.length<sizeLine∧((J.stop i H∧N ys H) ∨
  (J.go i H∧∃ N':List V→Hp→Prop,(∀ ys' H',N' ys' H'→∃ m',m'<m∧W (i+1) m' ys' H')∧∀ x H',J.yld i H x H'→g x σ0 H' fun σ2 H2=>tt σ2 H2 fun b H3 =>
   if b=true then te σ2 H3 fun y H4=>N' (ys++[y]) H4 else N' ys H3))
noncomputable def CompR2 (J:It) (σ0:St) (g:TG) (tt:TT) (wi:TI) (g2:TG) (tt2:TT) (te:TE) (Q:VK) (H1:Hp):Prop:=∃ W:Nat→Nat→List V→Hp→Prop,(∃ m,W 0 m [] H1)∧∀ i m ys H,W i m ys H →
 ys.length<sizeLine∧((J.stop i H∧∀ D,H D=none→Q (.ref D) (upd H D (.lst ys))) ∨
  (J.go i H∧∃ N:List V→Hp→Prop,(∀ ys' H',N ys' H'→∃ m',m'<m∧W (i+1) m' ys' H')∧∀ x H',J.yld i H x H'→g x σ0 H' fun σ2 H2=>tt σ2 H2 fun b H3 =>
   if b=true then wi σ2 H3 fun J2 H4=>CompG J2 σ2 g2 tt2 te ys N H4 else N ys H3))
noncomputable def tComp2 (wi:TI) (nt:Nat) (js:List Nat) (g:TG) (tt:TT) (wi2:TI) (g2:TG) (tt2:TT) (te:TE):TE:=fun σ H Q=>wi σ H fun J H1=>CompR2 J (sIn nt js σ) g tt wi2 g2 tt2 te Q H1
noncomputable def GR (lo hi:Nat) (g:TG):Prop:=∀ v σ H Q,g v σ H Q→g v σ H fun σ' H'=>((∀ i,(i<lo∨hi≤i)→σ'[i]?=σ[i]?)∧σ'.length=σ.length)∧Q σ' H'
theorem gr_name {lo hi i:Nat} (h:lo≤i) (h2:i<hi):GR lo hi (gName i):=fun v σ H Q q=>⟨⟨fun j hj=>by rw[List.getElem?_set_ne (by omega)],by simp⟩,q⟩
theorem compTurn_list2a (elt t1 i1 t2 i2:Expr) (f1 f2:List Expr) (scope:Scope) (pos:Pos) (it acc:Value) (env:Env) :
 compTurn (.ListComp elt [⟨t1,i1,f1,0⟩,⟨t2,i2,f2,0⟩] scope pos) 0 it acc env=(do
  standAt i1.pos
  match ← pyNext it with
  | none=>pure (.done .next)
  | some v =>
   letOwnedTupleGo t1 it v
   assign t1 env v
   let mut ok:=true
   for c in f1 do
    if ok then ok ← isTrue c env (eval c env)
   if ok then
    let x ← eval i2 env
    standAt i2.pos
    let x ← foldedSetIterable i2 env x
    let _ ← runOwn (.compStart (.ListComp elt [⟨t1,i1,f1,0⟩,⟨t2,i2,f2,0⟩] scope pos) 1 (← holding [x] (pyIter x)) acc env) env
   again (.compLoop (.ListComp elt [⟨t1,i1,f1,0⟩,⟨t2,i2,f2,0⟩] scope pos) 0 it acc env)):=by rfl
theorem compTurn_list2b (elt t1 i1 t2 i2:Expr) (f1 f2:List Expr) (scope:Scope) (pos:Pos) (it acc:Value) (env:Env) :
 compTurn (.ListComp elt [⟨t1,i1,f1,0⟩,⟨t2,i2,f2,0⟩] scope pos) 1 it acc env=(do
  standAt i2.pos
  match ← pyNext it with
  | none=>pure (.done .next)
  | some v =>
   letOwnedTupleGo t2 it v
   assign t2 env v
   let mut ok:=true
   for c in f2 do
    if ok then ok ← isTrue c env (eval c env)
   if ok then
    (do let _ ← call (.builtin "list.append") [acc,← eval elt env])
   again (.compLoop (.ListComp elt [⟨t1,i1,f1,0⟩,⟨t2,i2,f2,0⟩] scope pos) 1 it acc env)):=by rfl
theorem codeAny_compStart_list2 {prog:Program} {w:World} {A:Around} {R:Result→Shared→Prop} {s:Shared} {elt g1 target iter ifs rest scope pos it acc env}
 (h0:codeAny (model prog w) A (.compLoop (.ListComp elt (g1 :: ⟨target,iter,ifs,0⟩ :: rest) scope pos) 1 it acc env) R s)
 (h:wpAny (model prog w) A (pyIter it) (fun it' s'=>codeAny (model prog w) A (.compLoop (.ListComp elt (g1 :: ⟨target,iter,ifs,0⟩ :: rest) scope pos) 1 it' acc env) R s')
  (notedBy (model prog w) A env fun x s'=>R (.error x) s') s) :
 codeAny (model prog w) A (.compStart (.ListComp elt (g1 :: ⟨target,iter,ifs,0⟩ :: rest) scope pos) 1 it acc env) R s:=by
 refine codeAny_of_tree ?_
 show wpAny _ _ ((compStart (.ListComp elt (g1 :: ⟨target,iter,ifs,0⟩ :: rest) scope pos) 1 it acc env).onRaise (fun x=>do noteFrame x env;standAt theWindowsPlace)) _ _ s
 refine wpAny_notedAt ?_
 unfold compStart
 show wpAny _ _ (ask >>= _) _ _ s
 refine wpAny_bind (wpAny_askSetting (wpAny_ite ?_))
 split
 ·first
   | exact wpAny_bind (wpAny_pure (wpAny_pure (And.intro rfl h0)))
   | exact wpAny_pure (And.intro rfl h0)
 ·first
   | exact wpAny_bind (wpAny_rule (wpAny_bind (wpAny_standAt (wpAny_bind (wpAny_mono h (fun it' s' h'=>wpAny_pure (And.intro rfl h')) fun _ _ x=>x)))))
   | (refine wpAny_bind (wpAny_rule ?_);show wpAny _ _ (standAt iter.pos >>= _) _ _ s;exact wpAny_bind (wpAny_standAt (wpAny_bind (wpAny_mono h (fun it' s' h'=>wpAny_pure (And.intro rfl h')) fun _ _ x=>x))))
theorem inner_core {X:Cx} {pl:List (Addr×Obj)} {σ:St} {elt t1 i1 tg iter:Expr} {f1 ifs:List Expr} {inn:Scope} {pos:Pos} {g:TG} {tt:TT} {te:TE} {lo hi:Nat} {J:It} {fp:List Addr} {it:Addr} {tn:Nat→Heap→Prop} {H2:Hp} {s2:Shared} {ys0:List V} {N:List V→Hp→Prop} {RR:Result→Shared→Prop} {D:Addr}
 (hcalm:X.calm=true) (hxe:X.xe=fun _ _=>False) (DX:D∈X.ex) (Dl:D≠X.env.locals) (hpl:∀ p∈X.pn++pl,p.1≠D) (hDf:D∉fp)
 (hgX:PG X tg g) (hk:GR lo hi g) (htX:PIf X ifs tt) (heX:PE X elt te) (hσ:∀ i v,lo≤i→i<hi→σ[i]?≠some (some v))
 (I2:Inv X pl σ H2 s2) (T:Turn X.prog X.w X.K tg J fp it tn) (st2:tn 0 s2.heap) (f2:∀ b∈fp,FpOk X pl H2 b) (fD2:H2 D=none) {its0:List Value} {c0:Nat} (rv0:Vals ys0 its0) (eD0:s2.heap.get? D=some { cls:=.type "list",data:=.seq its0.toArray c0 })
 (R:CompG J σ g tt te ys0 N H2)
 (hRR:∀ s' H' ys its c,Inv X pl σ H' s'→Vals ys its→s'.heap.get? D=some { cls:=.type "list",data:=.seq its.toArray c }→H' D=none→N ys H'→RR (.ok .next) s') :
 codeAny (model X.prog X.w) X.A (.compStart (.ListComp elt [⟨t1,i1,f1,0⟩,⟨tg,iter,ifs,0⟩] inn pos) 1 (.ref it) (.ref D) X.env) RR s2:=by
 have okX:=I2.ok
 obtain⟨W,⟨m0,w0⟩,turn⟩:=R
 have stat:∀ {H':Hp} {ql:List (Addr×Obj)},(∀ b∈fp,H' b=none)→(∀ p∈ql,p.1=D)→∀ b∈fp,FpOk X (pl++ql) H' b:=fun {H' ql} hn hql b hb=>by
  obtain⟨_,a1,a2,a3,a4,a5⟩:=f2 b hb
  refine⟨hn b hb,a1,a2,a3,a4,fun p hp=>?_⟩
  rw[← List.append_assoc]at hp
  rcases List.mem_append.mp hp with hp | hp
  ·exact a5 p hp
  ·rw[hql p hp];intro e;exact hDf (e ▸ hb)
 have loop:codeAny (model X.prog X.w) X.A (.compLoop (.ListComp elt [⟨t1,i1,f1,0⟩,⟨tg,iter,ifs,0⟩] inn pos) 1 (.ref it) (.ref D) X.env) RR s2:=by
  refine codeAny_loop rfl (fun n s'=>∃ i ys H',Inv X pl σ H' s'∧tn i s'.heap∧(∀ b∈fp,H' b=none)∧H' D=none∧(∃ (its:List Value) (c:Nat),Vals ys its∧s'.heap.get? D=some { cls:=.type "list",data:=.seq its.toArray c })∧W i n ys H') ?_ m0
   ⟨0,ys0,H2,I2,st2,fun b hb=>(f2 b hb).1,fD2,⟨its0,c0,rv0,eD0⟩,w0⟩
  rintro n s5 ⟨i,ys,H5,I5,st5,fr5,fD5,⟨its,c,rv,eD⟩,w5⟩
  show wpAny _ X.A ((compTurn (.ListComp elt [⟨t1,i1,f1,0⟩,⟨tg,iter,ifs,0⟩] inn pos) 1 (.ref it) (.ref D) X.env).onRaise (fun x=>do noteFrame x X.env;theTreesLotGoes x)) _ _ s5
  refine wpAny_noted ?_
  rw[compTurn_list2b]
  refine wpAny_bind (wpAny_standAt (wpAny_bind ?_))
  have pinD:Inv X (pl++pinsAt [D] s5.heap) σ H5 s5:=by
   refine I5.pinned (fp:=[D]) (fun b hb=>?_) (fun b hb=>?_)
   ·have e:b=D:=by simpa using hb
    subst e
    exact⟨fD5,Dl,fun z=>okX.exfs b DX z,.inl DX,(okX.exf b DX).2,hpl⟩
   ·have e:b=D:=by simpa using hb
    subst e
    exact⟨_,eD,fun v z=>by cases z⟩
  have plD:∀ p∈pinsAt [D] s5.heap,p.1=D:=fun p hp=>by simpa using (of_pinsAt hp).1
  have memD:(D,({ cls:=.type "list",data:=.seq its.toArray c }:Obj))∈pinsAt [D] s5.heap:=mem_pinsAt (by simp) eD
  obtain⟨hz,tn5⟩:=turn i n ys H5 w5
  rcases tn5 with ⟨stop,fin⟩ | ⟨go,N',hN,step⟩
  ·have q:=T.done X rfl rfl rfl hcalm i _ s5 _ H5 (notedBy (model X.prog X.w) X.A X.env fun e s'=>RR (.error e) s') pinD (stat fr5 plD) st5 stop
   refine wpAny_mono q (fun r s6 ⟨hr,I6⟩=>?_) fun _ _ z=>z
   subst hr
   refine wpAny_pure ?_
   have eD6:=(I6.pin (D,_) (List.mem_append_right _ (List.mem_append_right _ memD))).1
   exact hRR s6 H5 ys its c (I6.pins_of fun p hp=>I6.pin p (List.mem_append_right _ (List.mem_append_left _ hp))) rv eD6 fD5 fin
  ·have q:=T.item X rfl rfl rfl hcalm i _ s5 _ H5 (notedBy (model X.prog X.w) X.A X.env fun e s'=>RR (.error e) s') pinD (stat fr5 plD) st5 go
   refine wpAny_mono q (fun r s6 ⟨u,hr,h6⟩=>?_) fun _ _ z=>z
   subst hr
   refine wpAny_bind (wpAny_mono h6 (fun _ s7 ⟨x,H7,I7,r7,y7,st7,fr7⟩=>?_) fun _ _ z=>z)
   have I7':=I7.pinned (fp:=fp) (fun b hb=>stat fr7 plD b hb) (T.obj _ _ st7)
   have q8:=hgX _ s7 _ H7 x u _ I7' r7 (hk x _ H7 _ (step x H7 y7))
   rw[hxe]at q8
   refine wpAny_bind (wpAny_mono q8 (fun _ s8 ⟨σ8,H8,I8,⟨k8,l8⟩,q8⟩=>?_) fun _ _ z=>z.elim)
   have q9:=htX _ s8 σ8 H8 _ I8 q8
   rw[hxe]at q9
   refine wpAny_bind (wpAny_mono q9 (fun ok s9 ⟨H9,I9,q9⟩=>?_) fun _ _ z=>z.elim)
   have keepσ:∀ (j:Nat) v,σ[j]?=some (some v)→σ8[j]?=some (some v):=fun j v e=>by
    by_cases hj:j<lo∨hi≤j
    ·rw[k8 j hj];exact e
    ·exact absurd e (hσ j v (by omega) (by omega))
   have ends:∀ {H9:Hp} {s9:Shared} {ys':List V},Inv X ((pl++pinsAt [D] s5.heap)++pinsAt fp s7.heap) σ8 H9 s9→∀ {h':Heap} {its':List Value} {c':Nat},(∀ b o,b≠D→s9.heap.get? b=some o→h'.get? b=some o)→Vals ys' its'→h'.get? D=some { cls:=.type "list",data:=.seq its'.toArray c' }→N' ys' H9 →
    ∀ tk,∃ m,m<n∧∃ i ys H',Inv X pl σ H' { s9 with heap:=h',toks:=tk }∧tn i h'∧(∀ b∈fp,H' b=none)∧H' D=none∧(∃ (its:List Value) (c:Nat),Vals ys its∧h'.get? D=some { cls:=.type "list",data:=.seq its.toArray c })∧W i m ys H':=fun {H9 s9 ys'} I9 {h' its' c'} kp rv' eD' n9 tk=>by
    obtain⟨m',hm,w9⟩:=hN ys' H9 n9
    have fD9:H9 D=none:=(I9.pin (D,_) (List.mem_append_right _ (List.mem_append_left _ (List.mem_append_right _ memD)))).2.1
    have fr9:∀ b∈fp,H9 b=none:=fun b hb=>by
     obtain⟨o,e,d⟩:=T.obj _ _ st7 b hb
     exact(I9.pin (b,o) (List.mem_append_right _ (List.mem_append_right _ (mem_pinsAt hb e)))).2.1
    have I10:Inv X pl σ8 H9 s9:=I9.pins_of fun p hp=>I9.pin p (List.mem_append_right _ (List.mem_append_left _ (List.mem_append_left _ hp)))
    have I11:Inv X pl σ8 H9 { s9 with heap:=h',toks:=tk }:=I10.turned (it:=D) kp fD9 Dl (.inl DX) (okX.exf D DX).2 hpl
    refine⟨m',hm,i+1,ys',H9,I11.weak l8.symm keepσ,T.keep _ _ _ st7 fun b hb o e=>kp b o (fun z=>hDf (z ▸ hb)) (I9.pin (b,o) (List.mem_append_right _ (List.mem_append_right _ (mem_pinsAt hb e)))).1,fr9,fD9,⟨its',c',rv',eD'⟩,w9⟩
   cases ok with
   | false =>
    rw[if_neg Bool.false_ne_true]at q9
    have eD9:=(I9.pin (D,_) (List.mem_append_right _ (List.mem_append_left _ (List.mem_append_right _ memD)))).1
    exact wpAny_pure ⟨rfl,ends I9 (h':=s9.heap) (fun _ _ _ e=>e) rv eD9 q9 s9.toks⟩
   | true =>
    rw[if_pos rfl]at q9
    have q10:=heX _ s9 σ8 H9 _ I9 q9
    rw[hxe]at q10
    refine wpAny_bind (wpAny_bind (wpAny_mono q10 (fun v s10 ⟨y,H10,I10,r10,q10⟩=>?_) fun _ _ z=>z.elim))
    have eD10:=(I10.pin (D,_) (List.mem_append_right _ (List.mem_append_left _ (List.mem_append_right _ memD)))).1
    have hlen:=rv.length
    refine wpAny_bind (wpAny_list_append_plain (items:=its.toArray) ⟨c,eD10⟩ (fun h' hl hs=>wpAny_pure (wpAny_pure ⟨rfl,?_⟩)) (by rw[List.size_toArray];omega))
    obtain⟨c',e'⟩:=hl
    have e'':h'.get? D=some { cls:=.type "list",data:=.seq (its++[v]).toArray c' }:=by rw[e'];simp
    exact ends I10 (h':=h') (fun b o hb e=>hs.extBut b o hb e) (rv.append (.cons r10 .nil)) e'' q10 s10.toks
 refine codeAny_compStart_list2 loop ?_
 exact T.self X.A 0 _ _ _ st2 loop
end L2
namespace L2
open PySem PySem.Spec PyProof.Rows
section
variable {X:Cx} {pins:List (Addr×Obj)} {σ:St} {inn:Scope} {js:List Nat} {cs ts:List Str} {nt lo:Nat} {elt tg iter t2 i2:Expr} {ifs f2:List Expr} {pos:Pos} {g g2:TG} {tt tt2:TT} {te:TE} {wi wi2:TI}
theorem comp_core2 {J:It} {fp:List Addr} {it:Addr} {tn:Nat→Heap→Prop} {H2:Hp} {s2:Shared} {E:Value→Shared→Prop} {Q:VK} {RR:Value→Addr→Result→Shared→Prop}
 (hcalm:X.calm=true) (O:CompOk X.env.scope inn X.N js cs) (hts:ts.length=nt)
 (hlo:lo≤nt) (hg:∀ s₀ H₀ ex,PG (cxIn X inn (ts++cs) s₀ H₀ ex) tg g) (hk:GK lo g) (hi2:∀ s₀ H₀ ex,PI (cxIn X inn (ts++cs) s₀ H₀ ex) t2 i2 wi2) (hg2:∀ s₀ H₀ ex,PG (cxIn X inn (ts++cs) s₀ H₀ ex) t2 g2) (hk2:GR lo nt g2) (ht2:∀ s₀ H₀ ex,PIf (cxIn X inn (ts++cs) s₀ H₀ ex) f2 tt2) (hs2:∀ env x,foldedSetIterable i2 env x=pure x) (ht:∀ s₀ H₀ ex,PIf (cxIn X inn (ts++cs) s₀ H₀ ex) ifs tt) (he:∀ s₀ H₀ ex,PE (cxIn X inn (ts++cs) s₀ H₀ ex) elt te)
 (I2:Inv X pins σ H2 s2) (T:Turn X.prog X.w X.K tg J fp it tn) (st2:tn 0 s2.heap) (fo:∀ b∈fp,FpOk X pins H2 b)
 (R:CompR2 J (sIn nt js σ) g tt wi2 g2 tt2 te Q H2)
 (hRR:∀ D C s' H',Inv X pins σ H' s'→(∃ m,s'.heap.Ns C m)→H' C=none→C≠X.env.locals→X.s₀.heap.objs.size≤C→(∀ x c,X.env.cells.lookup x=some c→c≠C)→(∀ p∈X.pn++pins,p.1≠C)→Q (.ref D) H'→RR (.ref D) C (.ok .next) s') :
 wpAny (model X.prog X.w) X.A (newList []) (fun acc s₃=>wpAny (model X.prog X.w) X.A (newFunctionEnv inn X.env.globals (closL inn X.env) [] X.env.qual none .none (some X.env)) (fun cenv s₄ =>
  codeAny (model X.prog X.w) X.A (.compStart (.ListComp elt [⟨tg,iter,ifs,0⟩,⟨t2,i2,f2,0⟩] inn pos) 0 (.ref it) acc { cenv with scope:=relabel inn X.env }) (RR acc cenv.locals) s₄) E s₃) E s2:=by
 refine wpAny_newObj_type (wpAny_newFunctionEnv O.nocell (by intro y hy;simp at hy) (fun h₁ hns₁ hsb₁=>?_) O.kind)
 dsimp only at hns₁ hsb₁ ⊢
 generalize hD:s2.heap.objs.size=D
 have I3:Inv X pins σ H2 { s2 with heap:=s2.heap.push { cls:=.type "list",dict:=none,data:=.seq ([]:List Value).toArray } }:=I2.kept (t':=s2.toks) fun b o e=>Heap.get?_push_of_some _ e
 generalize hs3:({ s2 with heap:=s2.heap.push { cls:=.type "list",dict:=none,data:=.seq ([]:List Value).toArray } }:Shared)=s3 at I3
 have e3:s3.heap=s2.heap.push { cls:=.type "list",dict:=none,data:=.seq ([]:List Value).toArray }:=by rw[← hs3]
 have hD3:s3.heap.get? D=some { cls:=.type "list",dict:=none,data:=.seq ([]:List Value).toArray }:=by rw[e3,← hD];exact Heap.get?_push_size _ rfl
 have hsz3:s3.heap.objs.size=D+1:=by rw[e3,Heap.size_push,hD]
 have e3':(s2.heap.push { cls:=.type "list",dict:=none,data:=.seq ([]:List Value).toArray })=s3.heap:=e3.symm
 rw[e3']at hns₁ hsb₁ ⊢
 have fH2D:H2 D=none:=I2.hok.fresh (by rw[hD];exact Nat.le_refl _)
 have up:∀ b o,s3.heap.get? b=some o→h₁.get? b=some o:=fun b o e=>hsb₁.extBut b o (Nat.ne_of_lt (Heap.lt_size e)) (Heap.get?_push_of_some _ e)
 have fpo:∀ b∈fp,b<s3.heap.objs.size∧b≠D:=fun b hb=>by
  obtain⟨o,eo,_⟩:=T.obj 0 _ st2 b hb
  have h1:=Heap.lt_size eo
  rw[hD]at h1
  exact⟨by rw[hsz3];exact Nat.lt_succ_of_lt h1,Nat.ne_of_lt h1⟩
 have nb:∀ b,X.s₀.heap.objs.size≤b→∀ o,X.base.get? b≠some o:=fun b hb o e=>absurd (Nat.lt_of_lt_of_le (Heap.lt_size e) (Nat.le_trans I2.ok.bsz hb)) (Nat.lt_irrefl _)
 have dge:s2.heap.objs.size≤D:=by rw[hD];exact Nat.le_refl _
 have fD:FpOk X pins H2 D:=I2.fpOk dge fH2D
 have hex:∀ b∈D :: fp,b<s3.heap.objs.size∧b≠X.env.locals∧b∉X.fs∧(∀ x c,X.env.cells.lookup x=some c→c≠b)∧∀ o,X.base.get? b≠some o:=fun b hb=>by
  rcases List.mem_cons.mp hb with rfl | hb
  ·exact⟨by rw[hsz3];exact Nat.lt_succ_self _,fD.2.1,fD.2.2.1,fD.2.2.2.2.1,nb _ (Nat.le_trans I2.sz dge)⟩
  ·obtain⟨f0,f1,f2',f3,f4,f5⟩:=fo b hb
   refine⟨(fpo b hb).1,f1,f2',f4,fun o e=>?_⟩
   rcases f3 with z | z
   ·exact I2.ok.noex b o e z
   ·exact nb b z o e
 have hC:s3.heap.objs.size=s3.heap.objs.size:=rfl
 generalize hXi:cxIn X inn (ts++cs) s3 H2 (D :: fp)=Xi
 have I4:Inv Xi [] (sIn nt js σ) H2 { s3 with heap:=h₁,toks:=s3.toks }:=by
  rw[← hXi];exact in_inv hts I3 O hex ⟨_,hns₁⟩ up
 have xp:Xi.prog=X.prog:=by rw[← hXi];rfl
 have xw:Xi.w=X.w:=by rw[← hXi];rfl
 have xK:Xi.K=X.K:=by rw[← hXi];rfl
 have xA:Xi.A=X.A:=by rw[← hXi];rfl
 have xc:Xi.calm=true:=by rw[← hXi];exact hcalm
 have xe:Xi.env=compEnvC inn (closL inn X.env) s3.heap.objs.size X.env:=by rw[← hXi];rfl
 have xx:Xi.xe=fun _ _=>False:=by rw[← hXi];rfl
 have xex:Xi.ex=D :: fp:=by rw[← hXi];rfl
 have xpn:Xi.pn=[]:=by rw[← hXi];rfl
 have xs0:Xi.s₀=s3:=by rw[← hXi];rfl
 have xH0:Xi.H₀=H2:=by rw[← hXi];rfl
 have xfs:Xi.fs=frs X.stack:=by rw[← hXi];rfl
 have hgX:PG Xi tg g:=by rw[← hXi];exact hg _ _ _
 have htX:PIf Xi ifs tt:=by rw[← hXi];exact ht _ _ _
 have heX:PE Xi elt te:=by rw[← hXi];exact he _ _ _
 have hi2X:PI Xi t2 i2 wi2:=by rw[← hXi];exact hi2 _ _ _
 have hg2X:PG Xi t2 g2:=by rw[← hXi];exact hg2 _ _ _
 have ht2X:PIf Xi f2 tt2:=by rw[← hXi];exact ht2 _ _ _
 have okX:=I4.ok
 have xl:Xi.env.locals=s3.heap.objs.size:=by rw[xe];rfl
 have Dl:D≠Xi.env.locals:=by rw[xl,hsz3];exact Nat.ne_of_lt (Nat.lt_succ_self _)
 have stat:∀ {H':Hp} {pl:List (Addr×Obj)},(∀ b∈fp,H' b=none)→(∀ p∈pl,p.1=D)→∀ b∈fp,FpOk Xi pl H' b:=fun {H' pl} hn hpl b hb=>by
  have hbx:b∈Xi.ex:=by rw[xex];exact List.mem_cons_of_mem _ hb
  refine⟨hn b hb,(okX.exf b hbx).1,fun z=>okX.exfs b hbx z,.inl hbx,(okX.exf b hbx).2,fun p hp=>?_⟩
  rw[xpn,List.nil_append]at hp
  rw[hpl p hp]
  exact Ne.symm (fpo b hb).2
 have DX:D∈Xi.ex:=by rw[xex];exact List.mem_cons_self
 obtain⟨W,⟨m0,w0⟩,turn⟩:=R
 have loop:codeAny (model X.prog X.w) X.A (.compLoop (.ListComp elt [⟨tg,iter,ifs,0⟩,⟨t2,i2,f2,0⟩] inn pos) 0 (.ref it) (.ref D) Xi.env) (RR (.ref D) s3.heap.objs.size) { s3 with heap:=h₁,toks:=s3.toks }:=by
  refine codeAny_loop rfl (fun n s'=>∃ i ys H',Inv Xi [] (sIn nt js σ) H' s'∧tn i s'.heap∧(∀ b∈fp,H' b=none)∧H' D=none∧(∃ (its:List Value) (c:Nat),Vals ys its∧s'.heap.get? D=some { cls:=.type "list",data:=.seq its.toArray c })∧W i n ys H') ?_ m0
   ⟨0,[],H2,I4,?_,fun b hb=>(fo b hb).1,fH2D,⟨[],0,.nil,up D _ hD3⟩,w0⟩
  ·rintro n s5 ⟨i,ys,H5,I5,st5,fr5,fD5,⟨its,c,rv,eD⟩,w5⟩
   show wpAny _ X.A ((compTurn (.ListComp elt [⟨tg,iter,ifs,0⟩,⟨t2,i2,f2,0⟩] inn pos) 0 (.ref it) (.ref D) Xi.env).onRaise (fun x=>do noteFrame x Xi.env;theTreesLotGoes x)) _ _ s5
   refine wpAny_noted ?_
   rw[compTurn_list2a]
   refine wpAny_bind (wpAny_standAt (wpAny_bind ?_))
   have pinD:Inv Xi (pinsAt [D] s5.heap) (sIn nt js σ) H5 s5:=by
    have q:=I5.pinned (fp:=[D]) (fun b hb=>?_) (fun b hb=>?_)
    ·simpa using q
    ·have e:b=D:=by simpa using hb
     subst e
     refine⟨fD5,Dl,fun z=>okX.exfs b DX z,.inl DX,(okX.exf b DX).2,fun p hp=>?_⟩
     rw[xpn,List.nil_append]at hp;cases hp
    ·have e:b=D:=by simpa using hb
     subst e
     exact⟨_,eD,fun v z=>by cases z⟩
   have plD:∀ p∈pinsAt [D] s5.heap,p.1=D:=fun p hp=>by simpa using (of_pinsAt hp).1
   have memD:(D,({ cls:=.type "list",data:=.seq its.toArray c }:Obj))∈pinsAt [D] s5.heap:=mem_pinsAt (by simp) eD
   obtain⟨hz,tn5⟩:=turn i n ys H5 w5
   rcases tn5 with ⟨stop,fin⟩ | ⟨go,N,hN,step⟩
   ·have q:=T.done Xi xp xw xK xc i _ s5 _ H5 (notedBy (model X.prog X.w) X.A Xi.env fun e s'=>RR (.ref D) s3.heap.objs.size (.error e) s') pinD (stat fr5 plD) st5 stop
    rw[xA]at q
    refine wpAny_mono q (fun r s6 ⟨hr,I6⟩=>?_) fun _ _ z=>z
    subst hr
    refine wpAny_pure ?_
    have eD6:=(I6.pin (D,_) (List.mem_append_right _ memD)).1
    have un:Un (frs X.stack) (D :: fp) H2 H5 s3.heap s6.heap:=by
     have z:=I6.base
     rw[xfs,xex,xH0,xs0]at z
     exact z
    have os6:s6.os=s3.os:=by have z:=I6.os;rw[xs0]at z;exact z
    have hok6:HOk X.prog X.w H5 s6.heap:=by have z:=I6.hok;rw[xp,xw]at z;exact z
    have I7:Inv X pins σ H5 s6:=I3.call' os6 un hok6 I6.bare fun b hb=>by
     rcases List.mem_cons.mp hb with e | hb
     ·rw[e];exact⟨.inr (Nat.le_trans I2.sz dge),fD.2.1,fD.2.2.2.2.1,fD.2.2.2.2.2⟩
     ·obtain⟨f0,f1,f2',f3,f4,f5⟩:=fo b hb
      exact⟨f3,f1,f4,f5⟩
    have I8:Inv X pins σ (upd H5 D (.lst ys)) s6:=I7.track fD5 (Nat.le_trans I2.sz dge) fD.2.1 fD.2.2.2.2.1 fD.2.2.2.2.2 ⟨Nat.le_of_lt hz,its,c,rv,eD6⟩
    have Cge:s3.heap.objs.size≤s3.heap.objs.size:=Nat.le_refl _
    have fC:FpOk X pins (upd H5 D (.lst ys)) s3.heap.objs.size:=I3.fpOk Cge (by
     rw[upd_ne (by rw[← xl];exact Ne.symm Dl)]
     have z:=I6.free
     rw[xl]at z;exact z)
    obtain⟨mm,hmm,_⟩:=I6.loc
    rw[xl]at hmm
    exact hRR D _ s6 _ I8 ⟨mm,hmm⟩ fC.1 fC.2.1 (Nat.le_trans I3.sz Cge) fC.2.2.2.2.1 fC.2.2.2.2.2 (fin D fD5)
   ·have q:=T.item Xi xp xw xK xc i _ s5 _ H5 (notedBy (model X.prog X.w) X.A Xi.env fun e s'=>RR (.ref D) s3.heap.objs.size (.error e) s') pinD (stat fr5 plD) st5 go
    rw[xA]at q
    refine wpAny_mono q (fun r s6 ⟨u,hr,h6⟩=>?_) fun _ _ z=>z
    subst hr
    refine wpAny_bind (wpAny_mono h6 (fun _ s7 ⟨x,H7,I7,r7,y7,st7,fr7⟩=>?_) fun _ _ z=>z)
    have I7':=I7.pinned (fp:=fp) (fun b hb=>stat fr7 plD b hb) (T.obj _ _ st7)
    have q8:=hgX _ s7 _ H7 x u _ I7' r7 (hk x _ H7 _ (step x H7 y7))
    rw[xp,xw,xA,xx]at q8
    refine wpAny_bind (wpAny_mono q8 (fun _ s8 ⟨σ8,H8,I8,⟨k8,l8⟩,q8⟩=>?_) fun _ _ z=>z.elim)
    have q9:=htX _ s8 σ8 H8 _ I8 q8
    rw[xp,xw,xA,xx]at q9
    refine wpAny_bind (wpAny_mono q9 (fun ok s9 ⟨H9,I9,q9⟩=>?_) fun _ _ z=>z.elim)
    have keepσ:∀ (j:Nat) v,(sIn nt js σ)[j]?=some (some v)→σ8[j]?=some (some v):=fun j v e=>by
     have hj:=(sIn_get e).1
     rw[k8 j (Nat.le_trans hlo hj)];exact e
    have ends:∀ {H9:Hp} {s9:Shared} {ys':List V},Inv Xi (pinsAt [D] s5.heap++pinsAt fp s7.heap) σ8 H9 s9→∀ {h':Heap} {its':List Value} {c':Nat},(∀ b o,b≠D→s9.heap.get? b=some o→h'.get? b=some o)→Vals ys' its'→h'.get? D=some { cls:=.type "list",data:=.seq its'.toArray c' }→N ys' H9 →
     ∀ tk,∃ m,m<n∧∃ i ys H',Inv Xi [] (sIn nt js σ) H' { s9 with heap:=h',toks:=tk }∧tn i h'∧(∀ b∈fp,H' b=none)∧H' D=none∧(∃ (its:List Value) (c:Nat),Vals ys its∧h'.get? D=some { cls:=.type "list",data:=.seq its.toArray c })∧W i m ys H':=fun {H9 s9 ys'} I9 {h' its' c'} kp rv' eD' n9 tk=>by
     obtain⟨m',hm,w9⟩:=hN ys' H9 n9
     have fD9:H9 D=none:=(I9.pin (D,_) (List.mem_append_right _ (List.mem_append_left _ memD))).2.1
     have fr9:∀ b∈fp,H9 b=none:=fun b hb=>by
      obtain⟨o,e,d⟩:=T.obj _ _ st7 b hb
      exact(I9.pin (b,o) (List.mem_append_right _ (List.mem_append_right _ (mem_pinsAt hb e)))).2.1
     have I10:Inv Xi [] σ8 H9 s9:=I9.pins_of fun p hp=>by cases hp
     have I11:Inv Xi [] σ8 H9 { s9 with heap:=h',toks:=tk }:=I10.turned (it:=D) kp fD9 Dl (.inl DX) (okX.exf D DX).2 (fun p hp=>by rw[xpn]at hp;cases hp)
     refine⟨m',hm,i+1,ys',H9,I11.weak l8.symm keepσ,T.keep _ _ _ st7 fun b hb o e=>kp b o (fpo b hb).2 (I9.pin (b,o) (List.mem_append_right _ (List.mem_append_right _ (mem_pinsAt hb e)))).1,fr9,fD9,⟨its',c',rv',eD'⟩,w9⟩
    cases ok with
    | false =>
     rw[if_neg Bool.false_ne_true]at q9
     have eD9:=(I9.pin (D,_) (List.mem_append_right _ (List.mem_append_left _ memD))).1
     exact wpAny_pure ⟨rfl,ends I9 (h':=s9.heap) (fun _ _ _ e=>e) rv eD9 q9 s9.toks⟩
    | true =>
     rw[if_pos rfl]at q9
     have q10:=hi2X _ s9 σ8 H9 _ I9 q9
     rw[xp,xw,xA,xx]at q10
     refine wpAny_bind (wpAny_mono q10 (fun v s10 q11=>?_) fun _ _ z=>z.elim)
     refine wpAny_bind (wpAny_standAt (wpAny_bind (wpAny_of_eq (hs2 _ v) (wpAny_bind (wpAny_holding (wpAny_mono q11 (fun itv s11 q12=>?_) fun _ _ z=>z.elim))))))
     obtain⟨it2,fp2,tn2,J2,H11,ei,I11,T2,st11,f11,R11⟩:=q12
     subst ei
     have pm:(D,({ cls:=.type "list",data:=.seq its.toArray c }:Obj))∈Xi.pn++(pinsAt [D] s5.heap++pinsAt fp s7.heap):=List.mem_append_right _ (List.mem_append_left _ memD)
     have eD11:=(I11.pin (D,_) pm).1
     have fD11:H11 D=none:=(I11.pin (D,_) pm).2.1
     have hpl:∀ p∈Xi.pn++pinsAt fp s7.heap,p.1≠D:=fun p hp=>by
      rw[xpn,List.nil_append]at hp
      exact(fpo p.1 (of_pinsAt hp).1).2
     have xcc:Xi.calm=true:=xc
     refine wpAny_bind (wpAny_runOwn ?_)
     have core:=inner_core (X:=Xi) (pl:=pinsAt fp s7.heap) (σ:=σ8) (elt:=elt) (t1:=tg) (i1:=iter) (tg:=t2) (iter:=i2) (f1:=ifs) (ifs:=f2) (inn:=inn) (pos:=pos) (lo:=lo) (hi:=nt) (D:=D) (N:=N)
      (RR:=fun r s'=>match r with | .ok f=>wpAny (model Xi.prog Xi.w) Xi.A (again (.compLoop (.ListComp elt [⟨tg,iter,ifs,0⟩,⟨t2,i2,f2,0⟩] inn pos) 0 (.ref it) (.ref D) Xi.env)) (fun f s'=>f=Fin.again (.compLoop (.ListComp elt [⟨tg,iter,ifs,0⟩,⟨t2,i2,f2,0⟩] inn pos) 0 (.ref it) (.ref D) Xi.env)∧∃ m,m<n∧∃ i ys H',Inv Xi [] (sIn nt js σ) H' s'∧tn i s'.heap∧(∀ b∈fp,H' b=none)∧H' D=none∧(∃ (its:List Value) (c:Nat),Vals ys its∧s'.heap.get? D=some { cls:=.type "list",data:=.seq its.toArray c })∧W i m ys H') (fun _ _=>False) s' | .error e=>False)
      xc xx DX Dl hpl (fun hb=>(f11 D hb).2.2.2.2.2 _ pm rfl) hg2X hk2 ht2X heX (fun j v h1 h2 e=>?_) (I11.pins_of fun p hp=>I11.pin p (List.mem_append_right _ (List.mem_append_right _ hp))) T2 st11
      (fun b hb=>let ⟨a0,a1,a2,a3,a4,a5⟩:=f11 b hb;⟨a0,a1,a2,a3,a4,fun p hp=>a5 p ((List.mem_append.mp hp).elim (List.mem_append_left _) fun z=>List.mem_append_right _ (List.mem_append_right _ z))⟩) fD11 rv eD11 R11 ?_
     ·rw[xp,xw,xA]at core
      refine codeAny_mono core fun r s' hr=>?_
      cases r with
      | ok f=>exact wpAny_mono hr (fun _ _ z=>by obtain⟨rfl,z⟩:=z;exact⟨rfl,z⟩) fun _ _ z=>z.elim
      | error e=>exact hr.elim
     ·have e':=(k8 j h1).symm.trans e
      exact absurd (sIn_get e').1 (by omega)
     ·intro s' H' ys' its' c' I' rv' eD' fD' n'
      obtain⟨m',hm,w9⟩:=hN ys' H' n'
      have fr':∀ b∈fp,H' b=none:=fun b hb=>by
       obtain⟨o,e,d⟩:=T.obj _ _ st7 b hb
       exact(I'.pin (b,o) (List.mem_append_right _ (mem_pinsAt hb e))).2.1
      refine wpAny_pure ⟨rfl,m',hm,i+1,ys',H',(I'.pins_of fun p hp=>by cases hp).weak l8.symm keepσ,T.keep _ _ _ st7 fun b hb o e=>(I'.pin (b,o) (List.mem_append_right _ (mem_pinsAt hb e))).1,fr',fD',⟨its',c',rv',eD'⟩,w9⟩
  ·exact T.keep 0 _ _ st2 fun b hb o e=>up b o (by rw[e3];exact Heap.get?_push_of_some _ e)
 have e4:({ s2 with heap:=h₁,toks:=s2.toks+([]:List (Str×Value)).length }:Shared)={ s3 with heap:=h₁,toks:=s3.toks }:=by rw[← hs3];rfl
 rw[e4]
 show codeAny _ _ (.compStart (.ListComp elt [⟨tg,iter,ifs,0⟩,⟨t2,i2,f2,0⟩] inn pos) 0 (.ref it) (.ref D) (compEnvC inn (closL inn X.env) s3.heap.objs.size X.env)) (RR (.ref D) s3.heap.objs.size) _
 rw[← xe]
 refine codeAny_compStart_list loop ?_
 refine T.self X.A 0 _ _ _ ?_ loop
 exact T.keep 0 _ _ st2 fun b hb o e=>up b o (by rw[e3];exact Heap.get?_push_of_some _ e)
theorem pe_comp2 (ts1 ts2 cs:List Str) (js:List Nat) (hcalm:X.calm=true) (O:CompOk X.env.scope inn X.N js cs) (hi:PI X tg iter wi)
 (hg:∀ s₀ H₀ ex,PG (cxIn X inn ((ts1++ts2)++cs) s₀ H₀ ex) tg g) (hk:GK ts1.length g) (ht:∀ s₀ H₀ ex,PIf (cxIn X inn ((ts1++ts2)++cs) s₀ H₀ ex) ifs tt)
 (hi2:∀ s₀ H₀ ex,PI (cxIn X inn ((ts1++ts2)++cs) s₀ H₀ ex) t2 i2 wi2) (hg2:∀ s₀ H₀ ex,PG (cxIn X inn ((ts1++ts2)++cs) s₀ H₀ ex) t2 g2) (hk2:GR ts1.length (ts1++ts2).length g2) (ht2:∀ s₀ H₀ ex,PIf (cxIn X inn ((ts1++ts2)++cs) s₀ H₀ ex) f2 tt2) (he:∀ s₀ H₀ ex,PE (cxIn X inn ((ts1++ts2)++cs) s₀ H₀ ex) elt te)
 (hs:∀ x,foldedSetIterable iter X.env x=pure x:=by intro _;rfl) (hs2:∀ env x,foldedSetIterable i2 env x=pure x:=by intro _ _;rfl):PE X (.ListComp elt [⟨tg,iter,ifs,0⟩,⟨t2,i2,f2,0⟩] inn pos) (tComp2 wi (ts1++ts2).length js g tt wi2 g2 tt2 te):=by
 intro pins s σ H Q I h
 rw[eval_ListComp]
 refine wpAny_comprehension_free (use:=none) rfl hs (closFor fun y hy e=>I.ok.has y.1 (O.frees y hy e)) O.kind O.names (thn (hi pins s σ H _ I h) fun xv s1 h1=>thn h1 fun itv s2 h2=>?_)
 obtain⟨it,fp,tn,J,H2,e,I2,T,st2,f2,R⟩:=h2
 subst e
 refine comp_core2 (Q:=Q) (RR:=fun acc C=>compPost (model X.prog X.w) X.A X.xe none (EP X pins σ Q) acc C) hcalm O rfl (lo:=ts1.length) (by simp) hg hk hi2 hg2 hk2 ht2 hs2 ht he I2 T st2 f2 R ?_
 intro D C s' H' I' ⟨m,hm⟩ c1 c2 c3 c4 c5 q
 refine⟨m,hm,fun h' hsb=>?_⟩
 exact⟨.ref D,H',I'.turned (it:=C) (t':=s'.toks) (fun b o hb e=>hsb.extBut b o hb e) c1 c2 (.inr c3) c4 c5,rfl,q⟩
end
end L2
namespace L2
open PySem PySem.Spec PyProof.Rows
theorem pi_listK {X:Cx} {tg:Expr} (K:PySem.W.Frag) (h:X.K=K) {l:Expr} {tl:TE} (hl:PE X l tl):PI X tg l (iList K tl):=h ▸ pi_list hl
theorem comp2_list {K:PySem.W.Frag} {a:Addr} {xs:List V} {σ0:St} {g g2:TG} {tt tt2:TT} {wi:TI} {te:TE} {H:Hp} {Q:VK} (Pv:Nat→List V→Hp→Prop) (h0:Pv 0 [] H) (hl:∀ i ys H,i≤xs.length→Pv i ys H→SqL K H a xs∧ys.length<sizeLine)
 (hs:∀ i x ys H,xs[i]?=some x→Pv i ys H→g x σ0 H fun σ2 H2=>tt σ2 H2 fun b H3=>if b=true then wi σ2 H3 fun J2 H4=>CompG J2 σ2 g2 tt2 te ys (Pv (i+1)) H4 else Pv (i+1) ys H3) (hd:∀ ys H,Pv xs.length ys H→∀ D,H D=none→Q (.ref D) (upd H D (.lst ys))) :
 CompR2 (Itl K a) σ0 g tt wi g2 tt2 te Q H:=by
 refine⟨fun i m ys H=>m=xs.length - i∧i≤xs.length∧Pv i ys H,⟨xs.length,by simp,Nat.zero_le _,h0⟩,?_⟩
 rintro i m ys H ⟨rfl,hi,p⟩
 obtain⟨q,hz⟩:=hl i ys H hi p
 refine⟨hz,?_⟩
 by_cases hlt:i<xs.length
 ·refine .inr ⟨⟨xs,xs[i],q,by simp[hlt]⟩,Pv (i+1),fun ys' H' p'=>⟨xs.length - (i+1),by omega,rfl,hlt,p'⟩,fun x H' y=>?_⟩
  obtain⟨e,y⟩:=y
  subst e
  exact hs i x ys _ (y xs q) p
 ·have e:i=xs.length:=by omega
  subst e
  exact .inl ⟨⟨xs,q,Nat.le_refl _⟩,hd ys H p⟩
theorem inner_list {K:PySem.W.Frag} {a:Addr} {xs:List V} {σ0:St} {g:TG} {tt:TT} {te:TE} {H:Hp} {N:List V→Hp→Prop} {ys0:List V} (Pv:Nat→List V→Hp→Prop) (h0:Pv 0 ys0 H) (hl:∀ i ys H,i≤xs.length→Pv i ys H→SqL K H a xs∧ys.length<sizeLine)
 (hs:∀ i x ys H,xs[i]?=some x→Pv i ys H→g x σ0 H fun σ2 H2=>tt σ2 H2 fun b H3=>if b=true then te σ2 H3 fun y H4=>Pv (i+1) (ys++[y]) H4 else Pv (i+1) ys H3) (hd:∀ ys H,Pv xs.length ys H→N ys H) :
 CompG (Itl K a) σ0 g tt te ys0 N H:=by
 refine⟨fun i m ys H=>m=xs.length - i∧i≤xs.length∧Pv i ys H,⟨xs.length,by simp,Nat.zero_le _,h0⟩,?_⟩
 rintro i m ys H ⟨rfl,hi,p⟩
 obtain⟨q,hz⟩:=hl i ys H hi p
 refine⟨hz,?_⟩
 by_cases hlt:i<xs.length
 ·refine .inr ⟨⟨xs,xs[i],q,by simp[hlt]⟩,Pv (i+1),fun ys' H' p'=>⟨xs.length - (i+1),by omega,rfl,hlt,p'⟩,fun x H' y=>?_⟩
  obtain⟨e,y⟩:=y
  subst e
  exact hs i x ys _ (y xs q) p
 ·have e:i=xs.length:=by omega
  subst e
  exact .inl ⟨⟨xs,q,Nat.le_refl _⟩,hd ys H p⟩
noncomputable def tSeqO (t u:TS):TS:=fun D σ H=>∀ M:St→Hp→Prop,(∀ σ' H',u D σ' H'→M σ' H')→t { D with nx:=M } σ H
theorem pss_consO {X:Cx} {st:Stmt} {rest:List Stmt} {t u:TS} (h1:PS X st t) (h2:PSs X rest u):PSs X (st :: rest) (tSeqO t u):=fun pins s σ H D I h=>pss_cons h1 h2 pins s σ H D I (h (u D) fun _ _ z=>z)
end L2
namespace L2
open PySem
end L2
namespace L2
open PySem PySem.Spec PyProof.Rows PySem.SeqAt PySem.MeetsSeq
open PySem.AutoSeq1 (wpAny_loadPart')
theorem remove_loopAt (l:Addr) (items:Array Value) (n:Nat) (x:Value) (e:Value→Bool) (j:Nat) (hj:j<items.size) (hit:e items[j]=true) (k:Nat) (hs1:items.size≤sizeLine) :
 ∀ i:Nat,j - i=k→i≤j→(∀ m (hm:m<items.size),i≤m→m<j→e items[m]=false)→Meets (Builtin.«list.remove.loop» ⟨[.ref l,x,rawInt i],[]⟩)
  (fun A R s=>s.heap.get? l=some { cls:=.type "list",dict:=none,data:=.seq items n,slots:=#[] }∧(∀ y,y∈items→EqAt A.in1 s y x (e y))∧R (.ok (.ret .none)) { s with heap:=s.heap.update l (Obj.mapSeq fun xs=>xs.eraseIdxIfInBounds j) }):=by
 induction k with
 | zero =>
  intro i hk hij hno prog w A R s h
  obtain⟨hp,g,d,tk,os⟩:=s;obtain⟨hl,he,h⟩:=h
  have hij':i=j:=by omega
  subst hij'
  wp_walk using wpAny_loadPart' hl
  have hi:items[((i:Nat):Int).toNat]?=some items[i]:=by simp[hj]
  rw[hi]
  refine wpAny_bind (he _ (Array.getElem_mem hj) prog w _ _ ?_)
  rw[hit]
  have hz':(items.eraseIdxIfInBounds i).size≤sizeLine+1:=Nat.le_trans (size_erased items _) (Nat.le_succ_of_le hs1)
  wp_walk using (wpAny_updateSeq hl rfl (hz:=hs1) (_hz':=hz')),wpAny_loadPart' hl
  simpa using h
 | succ k ih =>
  intro i hk hij hno prog w A R s h
  obtain⟨hp,g,d,tk,os⟩:=s;obtain⟨hl,he,h⟩:=h
  have hlt:i<items.size:=by omega
  wp_walk using wpAny_loadPart' hl
  have hi:items[((i:Nat):Int).toNat]?=some items[i]:=by simp[hlt]
  have hc:((i:Int)+1)=((i+1:Nat):Int):=by push_cast;rfl
  rw[hi]
  refine wpAny_bind (he _ (Array.getElem_mem hlt) prog w _ _ ?_)
  rw[hno i hlt (Nat.le_refl _) (by omega)]
  wp_walk
  rw[hc]
  exact⟨plainId_quiet plain_remove_loop _,codeAny_builtin entry_remove_loop (by
   rw[Around.under_plainId plain_remove_loop _]
   exact ih (i+1) (by omega) (by omega) (fun m hm h1 h2=>hno m hm (by omega) h2) prog w A R _ ⟨hl,he,h⟩)⟩
theorem list_removeAt (l:Addr) (items:Array Value) (n:Nat) (x:Value) (e:Value→Bool) (j:Nat) (hj:j<items.size)
 (hit:e items[j]=true) (hno:∀ m (hm:m<items.size),m<j→e items[m]=false) (hs1:items.size≤sizeLine) :
 Meets (Builtin.«list.remove» ⟨[.ref l,x],[]⟩)
  (fun A R s=>s.heap.get? l=some { cls:=.type "list",dict:=none,data:=.seq items n,slots:=#[] }∧(∀ y,y∈items→EqAt A.in1 s y x (e y))∧R (.ok (.ret .none)) { s with heap:=s.heap.update l (Obj.mapSeq fun xs=>xs.eraseIdxIfInBounds j) }):=by
 intro prog w A R s h
 obtain⟨hp,g,d,tk,os⟩:=s;obtain⟨hl,he,h⟩:=h
 wp_walk using wpAny_loadPart' hl
 exact⟨plainId_quiet plain_remove_loop _,codeAny_builtin entry_remove_loop (by
  rw[Around.under_plainId plain_remove_loop _]
  exact remove_loopAt l items n x e j hj hit _ hs1 0 rfl (Nat.zero_le _) (fun m hm _ h2=>hno m hm h2) prog w A R _ ⟨hl,he,h⟩)⟩
theorem PairV.inj {h:Heap} {v:Value} {p q:Int×Int} (a:PairV h v p) (b:PairV h v q):p=q:=by
 obtain⟨t,o,n,k1,k2,rfl,ho,_,hd⟩:=a
 obtain⟨t',o',n',k1',k2',e,ho',_,hd'⟩:=b
 cases e
 rw[ho]at ho'
 cases ho'
 rw[hd]at hd'
 obtain⟨p1,p2⟩:=p
 obtain⟨q1,q2⟩:=q
 simp only[Data.seq.injEq,Array.mk.injEq,List.cons.injEq,Value.int.injEq,and_true]at hd'
 obtain⟨⟨⟨rfl,_⟩,rfl,_⟩,_⟩:=hd'
 rfl
theorem EqAt.pairs {A:Around} {s:Shared} {x y:Value} {p q:Int×Int} (hx:PairV s.heap x p) (hy:PairV s.heap y q) (hu:A.units+1<cLine):EqAt A s x y (decide (p=q)):=by
 obtain⟨t,o,n,k1,k2,rfl,ho,hc,hd⟩:=id hx
 obtain⟨t',o',n',k1',k2',rfl,ho',hc',hd'⟩:=id hy
 by_cases ht:t=t'
 ·subst ht
  have:p=q:=hx.inj hy
  rw[decide_eq_true this]
  exact EqAt.same _
 ·refine EqAt.of_refs ht ?_
  have h:=RcAt.tuples (A:=A) (s:=s) (l:=t) (b:=t') (e:=fun j=>if j=0 then p.1 == q.1 else p.2 == q.2) ⟨o,ho,hc,n,hd⟩ ⟨o',ho',hc',n',hd'⟩ (by omega) fun j h1 h2=>?_
  ·have e:((List.range (min (#[Value.int p.1 k1,Value.int p.2 k2]:Array Value).size (#[Value.int q.1 k1',Value.int q.2 k2']:Array Value).size)).all (fun j=>if j=0 then p.1 == q.1 else p.2 == q.2) && (#[Value.int p.1 k1,Value.int p.2 k2]:Array Value).size == (#[Value.int q.1 k1',Value.int q.2 k2']:Array Value).size)=decide (p=q):=by
    show ((p.1 == q.1) && ((p.2 == q.2) && true) && true)=decide (p=q)
    obtain⟨p1,p2⟩:=p
    obtain⟨q1,q2⟩:=q
    rw[Bool.eq_iff_iff]
    simp
   rw[e]at h
   exact h
  ·match j,h1,h2 with
   | 0,_,_=>exact EqAt.int_int p.1 k1 q.1 k1'
   | 1,_,_=>exact EqAt.int_int p.2 k2 q.2 k2'
section
variable {X:Cx}
open Classical in
noncomputable def rRemoveP:V→List V→Hp→VK→Prop:=fun x vs H Q=>∃ l us ps t p,x=.ref l∧vs=[.ref t]∧H l=some (.lst us)∧CW.Prs H us ps∧H t=some (.tup [.int p.1,.int p.2])∧p∈ps∧∀ us':List V,CW.Prs H us' (ps.erase p)→us'.length<us.length→Q .non (upd H l (.lst us'))
theorem prs_erase {H:Hp} {p:Int×Int}:∀ {us:List V} {ps:List (Int×Int)},CW.Prs H us ps→p∈ps→∃ j,j<ps.length∧ps[j]?=some p∧(∀ m,m<j→ps[m]?≠some p)∧CW.Prs H (us.eraseIdx j) (ps.erase p)
 | [],[],_,h=>by cases h
 | u :: us,q :: ps,.cons a r,h=>by
  by_cases e:q=p
  ·subst e
   refine⟨0,by simp,rfl,fun m hm=>by omega,?_⟩
   rw[List.erase_cons_head]
   exact r
  ·have hp:p∈ps:=by
    rcases List.mem_cons.mp h with z | z
    ·exact absurd z.symm e
    ·exact z
   obtain⟨j,h1,h2,h3,h4⟩:=prs_erase r hp
   refine⟨j+1,by simpa using h1,h2,fun m hm=>?_,?_⟩
   ·cases m with
    | zero=>simpa using e
    | succ m=>exact h3 m (by omega)
   ·rw[List.erase_cons_tail (by simpa using e)]
    exact .cons a h4
theorem mt_removeP (hu:X.A.units+64<cLine):MtM X "list.remove" rRemoveP:=by
 intro pins s σ H x vs v us Q I rx rv h
 obtain⟨l,xs,ps,t,p,rfl,rfl,hH,pr,ht,hp,q⟩:=h
 cases rx
 obtain⟨u,rfl,ru⟩:=rv.one
 obtain⟨z,its,n,r,hl,e⟩:=I.lstM hH
 obtain⟨j,h1,h2,h3,h4⟩:=prs_erase pr hp
 have hv:=pairs_at I r pr
 have hu2:PairV s.heap u p:=by
  have:=pairs_at I (us0:=[.ref t]) (its:=[u]) (ps:=[p]) (.cons ru .nil) (.cons ⟨t,rfl,ht⟩ .nil)
  cases this with
  | cons a _=>exact a
 have hlp:xs.length=ps.length:=CW.Prs.len pr
 have at':∀ m (hm:m<its.toArray.size),PairV s.heap its.toArray[m] (ps[m]'(by simp at hm;omega)):=fun m hm=>by
  have hm':m<its.length:=by simpa using hm
  obtain⟨q',hq,hP⟩:=CW.paired_get hv (i:=m) (x:=its[m]) (by simp[hm'])
  have:ps[m]'(by omega)=q':=by
   have:=List.getElem?_eq_getElem (l:=ps) (i:=m) (by omega)
   rw[this]at hq
   exact Option.some.inj hq
  rw[this]
  simpa using hP
 refine call_meets F.slot_list_remove ⟨_,e,rfl⟩ F.entry_list_remove (F.args_list_remove_2 _ _) (list_removeAt l its.toArray n u (fun y=>@decide (PairV s.heap y p) (Classical.propDecidable _)) j (by simp;omega) ?_ (fun m hm hlt=>?_) (by rw[List.size_toArray];omega)) ⟨e,fun y hy=>?_,?_⟩
 ·have:=at' j (by simp;omega)
  have e2:ps[j]'(by omega)=p:=by
   have:=List.getElem?_eq_getElem (l:=ps) (i:=j) (by omega)
   rw[this]at h2
   exact Option.some.inj h2
  rw[e2]at this
  exact @decide_eq_true _ (Classical.propDecidable _) this
 ·refine @decide_eq_false _ (Classical.propDecidable _) fun hP=>h3 m hlt ?_
  have e2:=(at' m hm).inj hP
  rw[List.getElem?_eq_getElem (by simp at hm;omega),e2]
 ·obtain⟨m,hm,rfl⟩:=Array.mem_iff_getElem.mp hy
  have hP:=at' m hm
  have h5:=EqAt.pairs (A:=X.A.in1) hP hu2 (by show X.A.units+1+1<cLine;omega)
  have:(@decide (PairV s.heap its.toArray[m] p) (Classical.propDecidable _))=decide (ps[m]'(by simp at hm;omega)=p):=by
   rw[Bool.eq_iff_iff,@decide_eq_true_iff _ (Classical.propDecidable _),decide_eq_true_iff]
   exact⟨fun z=>hP.inj z,fun z=>z ▸ hP⟩
  rw[this]
  exact h5
 ·have hlen:(xs.eraseIdx j).length<xs.length:=by rw[List.length_eraseIdx];split <;> omega
  refine⟨.non,_,I.lset (its':=its.eraseIdx j) hH e ?_ (r.eraseIdx j) (by omega),rfl,q _ h4 hlen⟩
  apply Array.toList_inj.mp
  simp[Array.toList_eraseIdxIfInBounds]
noncomputable def tThawS (t:TS):TS:=fun D σ H=>∃ d kvs,H d=some (.dK kvs)∧t { D with nx:=fun σ' H'=>∃ od,H' d=some (.frz od (.dK kvs))∧D.nx σ' (upd H' d (.dK kvs)) } σ H
theorem ps_thaw {st:Stmt} {t:TS} (h:PS X st t):PS X st (tThawS t):=by
 intro pins s σ H D I q
 obtain⟨d,kvs,hd,q⟩:=q
 have h0:∀ o u,X.H₀ d≠some (.frz o u):=fun o u z=>by
  have:=I.base.frzs d o u z
  rw[hd]at this
  cases this
 refine thn (h pins s σ H _ I q) fun f s1 q1=>?_
 cases f with
 | next =>
  obtain⟨σ',H',I',od,hf,q1⟩:=q1
  exact⟨σ',_,I'.thaw hf h0,q1⟩
 | ret v=>exact q1
 | brk=>exact q1
 | cont=>exact q1
end
end L2
namespace CW
open PySem L2
theorem lng_le {b:Int}:∀ {gs:List Grp},(∀ g∈gs,g.2.2.length≤60)→0≤lng b gs∧lng b gs≤60 * (gs.length:Int)
 | [],_=>⟨Int.le_refl _,Int.le_refl _⟩
 | g :: r,h=>by
  obtain⟨h1,h2⟩:=lng_le (b:=b) (gs:=r) fun x hx=>h x (List.mem_cons_of_mem _ hx)
  have h3:=h g List.mem_cons_self
  unfold lng at h1 h2 ⊢
  rw[wgt_cons,List.length_cons]
  by_cases c:b<g.1
  ·rw[if_pos c];omega
  ·rw[if_neg c];omega
noncomputable def laid (ms:List Int) (gs:List Grp):Trs:=ms.flatMap fun m=>match gs.find? (fun g=>decide (g.1=m))with | some g=>g.2.2.map fun o=>(m,o) | none=>[]
theorem laid_cons (m:Int) (ms:List Int) (gs:List Grp):laid (m :: ms) gs=(match gs.find? (fun g=>decide (g.1=m))with | some g=>g.2.2.map (fun o=>(m,o)) | none=>[])++laid ms gs:=rfl
theorem laid_append (a b:List Int) (gs:List Grp):laid (a++b) gs=laid a gs++laid b gs:=by simp[laid]
theorem laid_one {gs:List Grp} (hn:(gs.map (·.1)).Nodup) {g:Grp} (hg:g∈gs):laid [g.1] gs=g.2.2.map fun o=>(g.1,o):=by
 rw[laid_cons,find_key hn hg]
 exact List.append_nil _
theorem laid_perm {ms ks:List Int} (gs:List Grp) (h:ms.Perm ks):(laid ms gs).Perm (laid ks gs):=h.flatMap_right _
theorem laid_keys:∀ {gs:List Grp},(gs.map (·.1)).Nodup→laid (gs.map (·.1)) gs=flat gs:=by
 intro gs hn
 have go:∀ us:List Grp,(∀ g∈us,g∈gs)→laid (us.map (·.1)) gs=flat us:=by
  intro us
  induction us with
  | nil=>intro _;rfl
  | cons g r ih =>
   intro h
   rw[List.map_cons,laid_cons,find_key hn (h g List.mem_cons_self),flat_cons,ih fun x hx=>h x (List.mem_cons_of_mem _ hx)]
 exact go gs fun _ h=>h
theorem mem_laid {ms:List Int} {gs:List Grp} {q:Int×Int} (h:q∈laid ms gs):q.1∈ms:=by
 unfold laid at h
 obtain⟨m,hm,hq⟩:=List.mem_flatMap.mp h
 split at hq
 ·obtain⟨o,_,rfl⟩:=List.mem_map.mp hq
  exact hm
 ·cases hq
theorem laid_sorted {gs:List Grp} (ac:Asc gs):∀ {ms:List Int},ms.Pairwise (·<·)→(laid ms gs).Pairwise ple
 | [],_=>List.Pairwise.nil
 | m :: ms,h=>by
  obtain⟨h1,h2⟩:=List.pairwise_cons.mp h
  rw[laid_cons]
  refine List.pairwise_append.mpr ⟨?_,laid_sorted ac h2,fun a ha b hb=>?_⟩
  ·split
   ·next g hg =>
    rw[List.pairwise_map]
    exact(ac g (List.mem_of_find?_eq_some hg)).imp fun {x y} hxy=>.inr ⟨rfl,hxy⟩
   ·exact List.Pairwise.nil
  ·have hb1:=h1 _ (mem_laid hb)
   split at ha
   ·obtain⟨o,_,rfl⟩:=List.mem_map.mp ha
    exact .inl hb1
   ·cases ha
theorem strict_of {ms ks:List Int} (hp:ms.Perm ks) (hs:ms.Pairwise (·≤·)) (hn:ks.Nodup):ms.Pairwise (·<·):=by
 have h:=hp.nodup_iff.mpr hn
 exact(List.pairwise_and_iff.mpr ⟨hs,h⟩).imp fun {x y} ⟨a,b⟩=>by omega
section
variable {P:Program} {w:World} {K:PySem.W.Frag} {mg:Str→Option Value} {base:Heap}
inductive spCrowdsV (vs:List V) (H:Hp) (Q:VK) (E_:XK):Prop
 | mk (d:Addr) (gs:List Grp) (h0_:vs=[.ref d]) (h1_:DG H d gs) (h2_:GoodG gs) (h3_:gs.length≤60) (h4_:(∀ g∈gs,g.2.2.length≤60)) (h5_:∀ (e:Addr) (kvs:List (Key×V)) (H':Hp),H e=none→Same H H'→H' e=some (.dK kvs)→(∀ g∈gs,valV kvs (Sum.inl g.1:Key)=some (.int (2 * les (flat gs) g.1)))→Q (.ref e) H'):spCrowdsV vs H Q E_
inductive spAddTrainV (vs:List V) (H:Hp) (Q:VK) (E_:XK):Prop
 | mk (d:Addr) (gs:List Grp) (k p:Int) (h0_:vs=[.ref d,.int k,.int p]) (h1_:DG H d gs) (h2_:gs.length≤60) (h3_:(∀ g∈gs,g.2.2.length≤60)) (h4_:∀ (gs':List Grp) (H':Hp),StayG d gs H H'→DG H' d gs'→Puts H k (p - 2 * wgt (lesJ k) gs - 2 * k) gs gs'→Q .non H'):spAddTrainV vs H Q E_
inductive spAddStone (vs:List V) (H:Hp) (Q:VK) (E_:XK):Prop
 | mk (d:Addr) (gs:List Grp) (p:Int) (H0:Hp) (h0_:vs=[.ref d,.int p]) (h1_:DG H d gs) (h2_:GoodG gs) (h3_:Asc gs) (h4_:sto gs≤59) (h5_:Bd (flat gs) (p - 1)) (h6_:Same H0 H) (h7_:H0 d=none) (h8_:(∀ g∈gs,H0 g.2.1=none)) (h9_:∀ (gs':List Grp) (H':Hp),Same H0 H'→DG H' d gs'→GoodG gs'→Asc gs'→Add (flat gs) p (flat gs')→(∀ g∈gs',H0 g.2.1=none)→Q .non H'):spAddStone vs H Q E_
inductive spListOf (vs:List V) (H:Hp) (Q:VK) (E_:XK):Prop
 | mk (a:Addr) (row:List Int) (h0_:vs=[.ref a]) (h1_:H a=some (.lst (row.map V.int))) (h2_:Row row) (h3_:row.length≤60) (h4_:∀ qs:Trs,Lst row qs→qs.Pairwise ple→RetP H Q qs):spListOf vs H Q E_
inductive spLawList (vs:List V) (H:Hp) (Q:VK) (E_:XK):Prop
 | mk (a:Addr) (row:List Int) (h0_:vs=[.ref a]) (h1_:H a=some (.lst (row.map V.int))) (h2_:Row row) (h3_:row.length≤60) (h4_:∀ qs:Trs,Lst row qs→qs.Pairwise ple→RetP H Q qs):spLawList vs H Q E_
end
end CW
namespace CW
open PySem L2
theorem last_at {l:List Int} (h:l≠[]):atI (l.map V.int) (-1)=some (V.int (l.getLast h)):=by
 have e:l.map V.int=l.dropLast.map V.int++[V.int (l.getLast h)]:=by
  rw[← List.map_singleton (f:=V.int),← List.map_append,List.dropLast_concat_getLast h]
 rw[e]
 exact atI_last _ _
theorem foldl_max_spec:∀ (r:List Int) (n:Int),(r.foldl max n=n∨r.foldl max n∈r)∧n≤r.foldl max n∧∀ x∈r,x≤r.foldl max n
 | [],n=>⟨.inl rfl,Int.le_refl _,fun x hx=>(nomatch hx)⟩
 | a :: r,n=>by
  obtain⟨h1,h2,h3⟩:=foldl_max_spec r (max n a)
  rw[List.foldl_cons]
  refine⟨?_,by omega,fun x hx=>?_⟩
  ·rcases h1 with h1 | h1
   ·rcases Int.le_total n a with c | c
    ·right;rw[h1];rw[show max n a=a by omega];exact List.mem_cons_self
    ·left;rw[h1];omega
   ·exact .inr (List.mem_cons_of_mem _ h1)
  ·rcases List.mem_cons.mp hx with rfl | hx
   ·omega
   ·exact h3 x hx
theorem ready_top {gs:List Grp} {p:Int} (gd:GoodG gs) {ns:List Int} (h1:∀ n∈ns,∃ g∈gs,∃ hne:g.2.2≠[],n=g.1∧g.2.2.getLast hne=p - 1 - 2 * les (flat gs) g.1)
 (h2:∀ g∈gs,∀ hne:g.2.2≠[],g.2.2.getLast hne=p - 1 - 2 * les (flat gs) g.1→g.1∈ns) :
 ∃ s:Int,mxD ns (.int 0)=.int s∧0≤s∧(s=0∨1≤s∧∃ g∈gs,∃ hne:g.2.2≠[],g.1=s∧g.2.2.getLast hne=p - 1 - 2 * les (flat gs) s)∧(∀ g∈gs,∀ hne:g.2.2≠[],s<g.1→g.2.2.getLast hne≠p - 1 - 2 * les (flat gs) g.1):=by
 cases ns with
 | nil=>exact⟨0,rfl,Int.le_refl _,.inl rfl,fun g hg hne _ e=>(nomatch (h2 g hg hne e))⟩
 | cons n r =>
  obtain⟨a1,a2,a3⟩:=foldl_max_spec r n
  have hm:r.foldl max n∈n :: r:=by
   rcases a1 with h | h
   ·rw[h];exact List.mem_cons_self
   ·exact List.mem_cons_of_mem _ h
  obtain⟨g,hg,hne,e1,e2⟩:=h1 _ hm
  have hg1:=(gd g hg).1
  refine⟨r.foldl max n,rfl,by omega,.inr ⟨by omega,g,hg,hne,e1.symm,by rw[e1];exact e2⟩,fun x hx hnx hlt e=>?_⟩
  have:=h2 x hx hnx e
  rcases List.mem_cons.mp this with z | z
  ·omega
  ·have:=a3 _ z;omega
end CW
namespace CW
open PySem L2
theorem ripe_top {ps:Trs} {p:Int} (hpos:∀ q∈ps,1≤q.1) {ns:List Int} (h1:∀ n∈ns,∃ q∈ps,n=q.1∧q.2=p - 1 - 2 * les ps q.1) (h2:∀ q∈ps,q.2=p - 1 - 2 * les ps q.1→q.1∈ns) :
 ∃ s:Int,mxD ns (.int 0)=.int s∧0≤s∧(s=0∨1≤s∧(s,p - 1 - 2 * les ps s)∈ps)∧(∀ q∈ps,s<q.1→q.2+2 * les ps q.1≠p - 1):=by
 cases ns with
 | nil=>exact⟨0,rfl,Int.le_refl _,.inl rfl,fun q hq _ e=>(nomatch (h2 q hq (by omega)))⟩
 | cons n r =>
  obtain⟨a1,a2,a3⟩:=foldl_max_spec r n
  have hm:r.foldl max n∈n :: r:=by
   rcases a1 with h | h
   ·rw[h];exact List.mem_cons_self
   ·exact List.mem_cons_of_mem _ h
  obtain⟨q,hq,e1,e2⟩:=h1 _ hm
  have hq1:=hpos q hq
  refine⟨r.foldl max n,rfl,by omega,.inr ⟨by omega,?_⟩,fun x hx hlt e=>?_⟩
  ·have:(r.foldl max n,p - 1 - 2 * les ps (r.foldl max n))=q:=by rw[e1,← e2]
   rw[this];exact hq
  have:=h2 x hx (by omega)
  rcases List.mem_cons.mp this with z | z
  ·omega
  ·have:=a3 _ z;omega
theorem add_list {ps ps1:Trs} {p s:Int} (h0:0≤s) (hs:s=0∧ps1=ps∨1≤s∧(s,p - 1 - 2 * les ps s)∈ps∧ps1=ps.erase (s,p - 1 - 2 * les ps s)) (htop:∀ q∈ps,s<q.1→q.2+2 * les ps q.1≠p - 1) :
 Add ps p (ps1++[(s+1,p - 2 * les (ps1++[(s+1,0)]) (s+1))]):=by
 refine⟨s,ps1,h0,?_,htop,?_⟩
 ·rcases hs with ⟨a,rfl⟩ | ⟨a,b,rfl⟩
  ·exact .inl ⟨a,.refl _⟩
  ·exact .inr ⟨a,List.perm_cons_erase b⟩
 ·have:p - 2 * les (ps1++[(s+1,0)]) (s+1)=p - 2 * les ps1 (s+1) - 2 * (s+1):=by
   rw[les_append,les_cons,les_nil]
   simp only
   omega
  rw[this]
  exact List.perm_append_comm
end CW
namespace CW
open PySem L2
theorem Lst.few {row:List Int} {qs:Trs} (h:Lst row qs) (hl:row.length≤60):qs.length≤60:=by
 have h3:=len_le_sum h.pos
 have h4:(szs qs).sum=siz qs:=rfl
 have h5:=h.sizx
 omega
end CW
namespace L2
open PySem PySem.Spec PyProof.Rows
section
variable {prog:Program} {w:World} {A:Around} {R:Result→Shared→Prop} {l it S:Addr} {its:List Value} {ns:List Int}
theorem mx_loop0 (hh:A.handled=none) (hI:IntsAre its ns) (hlt:l≠it) (hiS:it≠S) (hlS:l≠S) :
 ∀ (k i:Nat) (s:Shared) (b:Int) (t:Tok) (c:Nat),ns.length - i=k→i≤ns.length→s.heap.IsListIter it l i→s.heap.IsList l its.toArray→s.heap.get? S=some (two b t c) →
  (∀ h' tk t',(∀ x o,x≠it→x≠S→s.heap.get? x=some o→h'.get? x=some o)→R (.ok (.ret (.int ((ns.drop i).foldl max b) t'))) { s with heap:=h',toks:=tk }) →
  codeAny (model prog w) A (.builtin "max.loop" ⟨[.ref it,.none,.ref S],[]⟩) R s:=by
 have nm:(toString "max"++toString ".loop":String)="max.loop":=by decide
 intro k
 induction k with
 | zero =>
  intro i s b t c hk hi st hl hS hR
  have e:i=ns.length:=by omega
  refine codeAny_builtin PySem.F.entry_max_loop (by
   rw[Around.under_plainId PySem.F.plain_max_loop _]
   show wpAny _ A.in1 (seqItems? (Value.ref S) >>= _) _ _ s
   refine wpAny_bind (wpAny_seqItems hS rfl ?_)
   show wpAny _ A.in1 (tryCatch (pyNext (Value.ref it)) _ >>= _) _ _ s
   refine wpAny_bind (wpAny_tryCatch (wpAny_pyNext_list_end hh st hl (by have:=hI.length;simp;omega) fun h' eb=>?_))
   have hS':=eb S _ (Ne.symm hiS) hS
   show wpAny _ A.in1 (updateSeq S (fun _=>#[]) >>= _) _ _ { s with heap:=h' }
   refine wpAny_bind (wpAny_updateSeq hS' rfl (wpAny_bind (wpAny_letGo (wpAny_pure ?_))))
   have q:=hR (h'.update S (Obj.mapSeq fun _=>#[])) s.toks t (fun x o h1 h2 e=>(Heap.get?_update_other _ _ (Ne.symm h2)).trans (eb x o h1 e))
   rw[e,List.drop_length]at q
   exact q)
 | succ k ih =>
  intro i s b t c hk hi st hl hS hR
  have hi':i<ns.length:=by omega
  obtain⟨u,hu⟩:=ints_get (i:=i) (n:=ns[i]) hI (by simp[hi'])
  have hdr:ns.drop i=ns[i] :: ns.drop (i+1):=List.drop_eq_getElem_cons hi'
  refine codeAny_builtin PySem.F.entry_max_loop (by
   rw[Around.under_plainId PySem.F.plain_max_loop _]
   show wpAny _ A.in1 (seqItems? (Value.ref S) >>= _) _ _ s
   refine wpAny_bind (wpAny_seqItems hS rfl ?_)
   show wpAny _ A.in1 (tryCatch (pyNext (Value.ref it)) _ >>= _) _ _ s
   refine wpAny_bind (wpAny_tryCatch (wpAny_pyNext_list_item st hl (x:=.int ns[i] u) (by simpa using hu) fun h' st' sb=>?_))
   have hS':=sb.extBut S _ (Ne.symm hiS) hS
   have hl':=hl.extBut sb.extBut hlt
   show wpAny _ A.in1 (tryCatch (holding [.int ns[i] u,.int ns[i] u] (richCompare .Gt (.int ns[i] u) (.int b t) >>= _)) _ >>= _) _ _ { s with heap:=h' }
   refine wpAny_bind (wpAny_tryCatch (wpAny_holding (wpAny_bind (gt_int (s:={ s with heap:=h' }) ?_))))
   refine wpAny_bind (wpAny_holding (wpAny_truthy_bool (wpAny_bind (wpAny_letGo (wpAny_pure ?_)))))
   by_cases hb:b<ns[i]
   ·have hd:decide (b<ns[i])=true:=decide_eq_true hb
    simp only[hd,if_true]
    refine wpAny_bind (wpAny_updateSeq hS' rfl (wpAny_bind (wpAny_letGo ?_)))
    rw[nm]
    obtain⟨c',e1⟩:∃ c',(h'.update S (Obj.mapSeq fun _=>#[Value.int ns[i] u,Value.int ns[i] u])).get? S=some (two ns[i] u c'):=⟨_,Heap.get?_update_self _ hS' rfl⟩
    refine wpAny_pure ⟨plainId_quiet PySem.F.plain_max_loop _,ih (i+1) { s with heap:=h'.update S (Obj.mapSeq fun _=>#[Value.int ns[i] u,Value.int ns[i] u]) } ns[i] u _ (by omega) hi' (st'.at fun o e=>(Heap.get?_update_other _ _ (Ne.symm hiS)).trans e) (hl'.at fun o e=>(Heap.get?_update_other _ _ (Ne.symm hlS)).trans e) e1 fun h'' tk t' kp=>?_⟩
    have q:=hR h'' tk t' (fun x o h1 h2 e=>kp x o h1 h2 ((Heap.get?_update_other _ _ (Ne.symm h2)).trans (sb.extBut x o h1 e)))
    rw[hdr,List.foldl_cons,show max b ns[i]=ns[i]by omega]at q
    exact q
   ·have hd:decide (b<ns[i])=false:=decide_eq_false hb
    simp only[hd,Bool.false_eq_true,if_false]
    refine wpAny_bind (wpAny_letGo ?_)
    rw[nm]
    refine wpAny_pure ⟨plainId_quiet PySem.F.plain_max_loop _,ih (i+1) { s with heap:=h' } b t c (by omega) hi' st' hl' hS' fun h'' tk t' kp=>?_⟩
    have q:=hR h'' tk t' (fun x o h1 h2 e=>kp x o h1 h2 (sb.extBut x o h1 e))
    rw[hdr,List.foldl_cons,show max b ns[i]=b by omega]at q
    exact q)
theorem mx_first0 (hh:A.handled=none) (hI:IntsAre its ns) (hne:ns≠[]) (hlt:l≠it) (hiS:it≠S) (hlS:l≠S) {s:Shared} {c:Nat} (st:s.heap.IsListIter it l 0) (hl:s.heap.IsList l its.toArray)
 (hS:s.heap.get? S=some { cls:=.type "list",dict:=none,data:=.seq #[] c,slots:=#[] })
 (hR:∀ h' tk v u,(∀ x o,x≠it→x≠S→s.heap.get? x=some o→h'.get? x=some o)→RelV v u→(v=match ns with | []=>.non | n :: r=>.int (r.foldl max n))→R (.ok (.ret u)) { s with heap:=h',toks:=tk }) :
 codeAny (model prog w) A (.builtin "max.loop" ⟨[.ref it,.none,.ref S],[]⟩) R s:=by
 have nm:(toString "max"++toString ".loop":String)="max.loop":=by decide
 cases hI with
 | nil=>exact absurd rfl hne
 | @cons n t its' ns' r =>
  refine codeAny_builtin PySem.F.entry_max_loop (by
   rw[Around.under_plainId PySem.F.plain_max_loop _]
   show wpAny _ A.in1 (seqItems? (Value.ref S) >>= _) _ _ s
   refine wpAny_bind (wpAny_seqItems hS rfl ?_)
   show wpAny _ A.in1 (tryCatch (pyNext (Value.ref it)) _ >>= _) _ _ s
   refine wpAny_bind (wpAny_tryCatch (wpAny_pyNext_list_item st hl (x:=.int n t) (by simp) fun h' st' sb=>?_))
   have hS':=sb.extBut S _ (Ne.symm hiS) hS
   have hl':=hl.extBut sb.extBut hlt
   show wpAny _ A.in1 (updateSeq S (fun _=>#[Value.int n t,Value.int n t]) >>= _) _ _ { s with heap:=h' }
   refine wpAny_bind (wpAny_updateSeq hS' rfl ?_)
   rw[nm]
   obtain⟨c',e1⟩:∃ c',(h'.update S (Obj.mapSeq fun _=>#[Value.int n t,Value.int n t])).get? S=some (two n t c'):=⟨_,Heap.get?_update_self _ hS' rfl⟩
   refine wpAny_pure ⟨plainId_quiet PySem.F.plain_max_loop _,mx_loop0 hh (.cons n t r) hlt hiS hlS _ 1 { s with heap:=h'.update S (Obj.mapSeq fun _=>#[Value.int n t,Value.int n t]) } n t _ rfl (by simp) (st'.at fun o e=>(Heap.get?_update_other _ _ (Ne.symm hiS)).trans e) (hl'.at fun o e=>(Heap.get?_update_other _ _ (Ne.symm hlS)).trans e) e1 fun h'' tk t' kp=>?_⟩
   exact hR h'' tk (.int (ns'.foldl max n)) _ (fun x o h1 h2 e=>kp x o h1 h2 ((Heap.get?_update_other _ _ (Ne.symm h2)).trans (sb.extBut x o h1 e))) ⟨t',rfl⟩ rfl)
theorem call_max0 {E:Value→Shared→Prop} {s:Shared} {Q:Value→Shared→Prop} (hh:A.handled=none) (hI:IntsAre its ns) (hne:ns≠[]) (hl:s.heap.IsList l its.toArray)
 (h:∀ h' tk u,(∀ x o,s.heap.get? x=some o→h'.get? x=some o)→RelV (mxD ns .non) u→Q u { s with heap:=h',toks:=tk }):wpAny (model prog w) A (call (.builtin "max") [.ref l]) Q E s:=by
 have nm:(toString "max"++toString ".loop":String)="max.loop":=by decide
 refine kmk_tree PySem.F.kind_max PySem.F.plain_max PySem.F.entry_max (args_max1 _) (by
  show wpAny _ A.in1 (Builtin.Builtins.bindParams "max" ["key","default"] 0 ⟨[],[]⟩ >>= _) _ _ s
  refine wpAny_bind (wpAny_of_eq (show Builtin.Builtins.bindParams "max" ["key","default"] 0 ⟨[],[]⟩=pure [none,none] from rfl) (wpAny_bind (wpAny_pure ?_)))
  refine wpAny_bind (wpAny_pyIter_list hl ?_)
  refine wpAny_bind (wpAny_newObj_type ?_)
  rw[nm]
  have hlt:l<s.heap.objs.size:=by obtain⟨_,e,_⟩:=hl;exact Heap.lt_size e
  refine wpAny_pure ⟨plainId_quiet PySem.F.plain_max_loop _,mx_first0 (l:=l) (it:=s.heap.objs.size) (its:=its) hh hI hne (Nat.ne_of_lt hlt) (by rw[Heap.size_push];exact Nat.ne_of_lt (Nat.lt_succ_self _)) (by rw[Heap.size_push];exact Nat.ne_of_lt (Nat.lt_succ_of_lt hlt)) ⟨_,Heap.get?_push_of_some _ (Heap.get?_push_size _ rfl),rfl,rfl⟩ ((hl.push _).push _) (Heap.get?_push_size _ rfl) fun h' tk v u kp rv ev=>?_⟩
  subst ev
  refine h h' tk u (fun x o e=>?_) rv
  have hx:=Heap.lt_size e
  exact kp x o (Nat.ne_of_lt hx) (by rw[Heap.size_push];exact Nat.ne_of_lt (Nat.lt_succ_of_lt hx)) (Heap.get?_push_of_some _ (Heap.get?_push_of_some _ e)))
theorem mn_loop0 (hh:A.handled=none) (hI:IntsAre its ns) (hlt:l≠it) (hiS:it≠S) (hlS:l≠S) :
 ∀ (k i:Nat) (s:Shared) (b:Int) (t:Tok) (c:Nat),ns.length - i=k→i≤ns.length→s.heap.IsListIter it l i→s.heap.IsList l its.toArray→s.heap.get? S=some (two b t c) →
  (∀ h' tk t',(∀ x o,x≠it→x≠S→s.heap.get? x=some o→h'.get? x=some o)→R (.ok (.ret (.int ((ns.drop i).foldl min b) t'))) { s with heap:=h',toks:=tk }) →
  codeAny (model prog w) A (.builtin "min.loop" ⟨[.ref it,.none,.ref S],[]⟩) R s:=by
 have nm:(toString "min"++toString ".loop":String)="min.loop":=by decide
 intro k
 induction k with
 | zero =>
  intro i s b t c hk hi st hl hS hR
  have e:i=ns.length:=by omega
  refine codeAny_builtin PySem.F.entry_min_loop (by
   rw[Around.under_plainId PySem.F.plain_min_loop _]
   show wpAny _ A.in1 (seqItems? (Value.ref S) >>= _) _ _ s
   refine wpAny_bind (wpAny_seqItems hS rfl ?_)
   show wpAny _ A.in1 (tryCatch (pyNext (Value.ref it)) _ >>= _) _ _ s
   refine wpAny_bind (wpAny_tryCatch (wpAny_pyNext_list_end hh st hl (by have:=hI.length;simp;omega) fun h' eb=>?_))
   have hS':=eb S _ (Ne.symm hiS) hS
   show wpAny _ A.in1 (updateSeq S (fun _=>#[]) >>= _) _ _ { s with heap:=h' }
   refine wpAny_bind (wpAny_updateSeq hS' rfl (wpAny_bind (wpAny_letGo (wpAny_pure ?_))))
   have q:=hR (h'.update S (Obj.mapSeq fun _=>#[])) s.toks t (fun x o h1 h2 e=>(Heap.get?_update_other _ _ (Ne.symm h2)).trans (eb x o h1 e))
   rw[e,List.drop_length]at q
   exact q)
 | succ k ih =>
  intro i s b t c hk hi st hl hS hR
  have hi':i<ns.length:=by omega
  obtain⟨u,hu⟩:=ints_get (i:=i) (n:=ns[i]) hI (by simp[hi'])
  have hdr:ns.drop i=ns[i] :: ns.drop (i+1):=List.drop_eq_getElem_cons hi'
  refine codeAny_builtin PySem.F.entry_min_loop (by
   rw[Around.under_plainId PySem.F.plain_min_loop _]
   show wpAny _ A.in1 (seqItems? (Value.ref S) >>= _) _ _ s
   refine wpAny_bind (wpAny_seqItems hS rfl ?_)
   show wpAny _ A.in1 (tryCatch (pyNext (Value.ref it)) _ >>= _) _ _ s
   refine wpAny_bind (wpAny_tryCatch (wpAny_pyNext_list_item st hl (x:=.int ns[i] u) (by simpa using hu) fun h' st' sb=>?_))
   have hS':=sb.extBut S _ (Ne.symm hiS) hS
   have hl':=hl.extBut sb.extBut hlt
   show wpAny _ A.in1 (tryCatch (holding [.int ns[i] u,.int ns[i] u] (richCompare .Lt (.int ns[i] u) (.int b t) >>= _)) _ >>= _) _ _ { s with heap:=h' }
   refine wpAny_bind (wpAny_tryCatch (wpAny_holding (wpAny_bind (lt_int (s:={ s with heap:=h' }) ?_))))
   refine wpAny_bind (wpAny_holding (wpAny_truthy_bool (wpAny_bind (wpAny_letGo (wpAny_pure ?_)))))
   by_cases hb:ns[i]<b
   ·have hd:decide (ns[i]<b)=true:=decide_eq_true hb
    simp only[hd,if_true]
    refine wpAny_bind (wpAny_updateSeq hS' rfl (wpAny_bind (wpAny_letGo ?_)))
    rw[nm]
    obtain⟨c',e1⟩:∃ c',(h'.update S (Obj.mapSeq fun _=>#[Value.int ns[i] u,Value.int ns[i] u])).get? S=some (two ns[i] u c'):=⟨_,Heap.get?_update_self _ hS' rfl⟩
    refine wpAny_pure ⟨plainId_quiet PySem.F.plain_min_loop _,ih (i+1) { s with heap:=h'.update S (Obj.mapSeq fun _=>#[Value.int ns[i] u,Value.int ns[i] u]) } ns[i] u _ (by omega) hi' (st'.at fun o e=>(Heap.get?_update_other _ _ (Ne.symm hiS)).trans e) (hl'.at fun o e=>(Heap.get?_update_other _ _ (Ne.symm hlS)).trans e) e1 fun h'' tk t' kp=>?_⟩
    have q:=hR h'' tk t' (fun x o h1 h2 e=>kp x o h1 h2 ((Heap.get?_update_other _ _ (Ne.symm h2)).trans (sb.extBut x o h1 e)))
    rw[hdr,List.foldl_cons,show min b ns[i]=ns[i]by omega]at q
    exact q
   ·have hd:decide (ns[i]<b)=false:=decide_eq_false hb
    simp only[hd,Bool.false_eq_true,if_false]
    refine wpAny_bind (wpAny_letGo ?_)
    rw[nm]
    refine wpAny_pure ⟨plainId_quiet PySem.F.plain_min_loop _,ih (i+1) { s with heap:=h' } b t c (by omega) hi' st' hl' hS' fun h'' tk t' kp=>?_⟩
    have q:=hR h'' tk t' (fun x o h1 h2 e=>kp x o h1 h2 (sb.extBut x o h1 e))
    rw[hdr,List.foldl_cons,show min b ns[i]=b by omega]at q
    exact q)
theorem mn_first0 (hh:A.handled=none) (hI:IntsAre its ns) (hne:ns≠[]) (hlt:l≠it) (hiS:it≠S) (hlS:l≠S) {s:Shared} {c:Nat} (st:s.heap.IsListIter it l 0) (hl:s.heap.IsList l its.toArray)
 (hS:s.heap.get? S=some { cls:=.type "list",dict:=none,data:=.seq #[] c,slots:=#[] })
 (hR:∀ h' tk v u,(∀ x o,x≠it→x≠S→s.heap.get? x=some o→h'.get? x=some o)→RelV v u→(v=match ns with | []=>.non | n :: r=>.int (r.foldl min n))→R (.ok (.ret u)) { s with heap:=h',toks:=tk }) :
 codeAny (model prog w) A (.builtin "min.loop" ⟨[.ref it,.none,.ref S],[]⟩) R s:=by
 have nm:(toString "min"++toString ".loop":String)="min.loop":=by decide
 cases hI with
 | nil=>exact absurd rfl hne
 | @cons n t its' ns' r =>
  refine codeAny_builtin PySem.F.entry_min_loop (by
   rw[Around.under_plainId PySem.F.plain_min_loop _]
   show wpAny _ A.in1 (seqItems? (Value.ref S) >>= _) _ _ s
   refine wpAny_bind (wpAny_seqItems hS rfl ?_)
   show wpAny _ A.in1 (tryCatch (pyNext (Value.ref it)) _ >>= _) _ _ s
   refine wpAny_bind (wpAny_tryCatch (wpAny_pyNext_list_item st hl (x:=.int n t) (by simp) fun h' st' sb=>?_))
   have hS':=sb.extBut S _ (Ne.symm hiS) hS
   have hl':=hl.extBut sb.extBut hlt
   show wpAny _ A.in1 (updateSeq S (fun _=>#[Value.int n t,Value.int n t]) >>= _) _ _ { s with heap:=h' }
   refine wpAny_bind (wpAny_updateSeq hS' rfl ?_)
   rw[nm]
   obtain⟨c',e1⟩:∃ c',(h'.update S (Obj.mapSeq fun _=>#[Value.int n t,Value.int n t])).get? S=some (two n t c'):=⟨_,Heap.get?_update_self _ hS' rfl⟩
   refine wpAny_pure ⟨plainId_quiet PySem.F.plain_min_loop _,mn_loop0 hh (.cons n t r) hlt hiS hlS _ 1 { s with heap:=h'.update S (Obj.mapSeq fun _=>#[Value.int n t,Value.int n t]) } n t _ rfl (by simp) (st'.at fun o e=>(Heap.get?_update_other _ _ (Ne.symm hiS)).trans e) (hl'.at fun o e=>(Heap.get?_update_other _ _ (Ne.symm hlS)).trans e) e1 fun h'' tk t' kp=>?_⟩
   exact hR h'' tk (.int (ns'.foldl min n)) _ (fun x o h1 h2 e=>kp x o h1 h2 ((Heap.get?_update_other _ _ (Ne.symm h2)).trans (sb.extBut x o h1 e))) ⟨t',rfl⟩ rfl)
theorem args_min1 (a:Value):argsOk "min" ⟨[a],[]⟩:=by unfold argsOk;kernel_rfl
theorem call_min0 {E:Value→Shared→Prop} {s:Shared} {Q:Value→Shared→Prop} (hh:A.handled=none) (hI:IntsAre its ns) (hne:ns≠[]) (hl:s.heap.IsList l its.toArray)
 (h:∀ h' tk u,(∀ x o,s.heap.get? x=some o→h'.get? x=some o)→RelV (mnD ns .non) u→Q u { s with heap:=h',toks:=tk }):wpAny (model prog w) A (call (.builtin "min") [.ref l]) Q E s:=by
 have nm:(toString "min"++toString ".loop":String)="min.loop":=by decide
 refine kmk_tree PySem.F.kind_min PySem.F.plain_min PySem.F.entry_min (args_min1 _) (by
  show wpAny _ A.in1 (Builtin.Builtins.bindParams "min" ["key","default"] 0 ⟨[],[]⟩ >>= _) _ _ s
  refine wpAny_bind (wpAny_of_eq (show Builtin.Builtins.bindParams "min" ["key","default"] 0 ⟨[],[]⟩=pure [none,none] from rfl) (wpAny_bind (wpAny_pure ?_)))
  refine wpAny_bind (wpAny_pyIter_list hl ?_)
  refine wpAny_bind (wpAny_newObj_type ?_)
  rw[nm]
  have hlt:l<s.heap.objs.size:=by obtain⟨_,e,_⟩:=hl;exact Heap.lt_size e
  refine wpAny_pure ⟨plainId_quiet PySem.F.plain_min_loop _,mn_first0 (l:=l) (it:=s.heap.objs.size) (its:=its) hh hI hne (Nat.ne_of_lt hlt) (by rw[Heap.size_push];exact Nat.ne_of_lt (Nat.lt_succ_self _)) (by rw[Heap.size_push];exact Nat.ne_of_lt (Nat.lt_succ_of_lt hlt)) ⟨_,Heap.get?_push_of_some _ (Heap.get?_push_size _ rfl),rfl,rfl⟩ ((hl.push _).push _) (Heap.get?_push_size _ rfl) fun h' tk v u kp rv ev=>?_⟩
  subst ev
  refine h h' tk u (fun x o e=>?_) rv
  have hx:=Heap.lt_size e
  exact kp x o (Nat.ne_of_lt hx) (by rw[Heap.size_push];exact Nat.ne_of_lt (Nat.lt_succ_of_lt hx)) (Heap.get?_push_of_some _ (Heap.get?_push_of_some _ e)))
end
section
variable {X:Cx}
theorem call_maxI (hc:X.calm=true):CallR X (.builtin "max") (fun xs H Q=>∃ (a:Addr) (ns:List Int),xs=[.ref a]∧H a=some (.lst (ns.map V.int))∧ns≠[]∧Q (mxD ns .non) H):=by
 intro pins s σ H xs us Q I r h
 obtain⟨a,ns,rfl,ha,hne,q⟩:=h
 obtain⟨u,rfl,rx⟩:=vals1 r
 cases rx
 obtain⟨its,rv,pl,hz⟩:=I.list (SqL.of ha)
 exact call_max0 (I.ok.hd hc) (ints_are rv) hne pl.isList fun h' tk u kp ru=>⟨_,H,I.kept kp,ru,q⟩
theorem call_minI (hc:X.calm=true):CallR X (.builtin "min") (fun xs H Q=>∃ (a:Addr) (ns:List Int),xs=[.ref a]∧H a=some (.lst (ns.map V.int))∧ns≠[]∧Q (mnD ns .non) H):=by
 intro pins s σ H xs us Q I r h
 obtain⟨a,ns,rfl,ha,hne,q⟩:=h
 obtain⟨u,rfl,rx⟩:=vals1 r
 cases rx
 obtain⟨its,rv,pl,hz⟩:=I.list (SqL.of ha)
 exact call_min0 (I.ok.hd hc) (ints_are rv) hne pl.isList fun h' tk u kp ru=>⟨_,H,I.kept kp,ru,q⟩
end
end L2
namespace CW
open PySem L2
theorem Lst.le {r:List Int} {ps:Trs} (h:Lst r ps) {n:Int} (b:Bd ps n):∀ x∈r,x≤n:=by
 cases h with
 | nil=>intro x hx;cases hx
 | snoc a hlt c =>
  rename_i r ps0 p
  have bd:=a.bd (n:=p - 1) fun x hx=>by have:=hlt x hx;omega
  obtain⟨s,rest,h0,h1,_⟩:=c.tak bd
  have:=(b _ (h1.mem_iff.mpr List.mem_cons_self)).2
  simp only at this
  intro x hx
  rcases List.mem_append.mp hx with hx | hx
  ·have:=hlt x hx;omega
  ·have:x=p:=by simpa using hx
   omega
theorem Lst.rowp {r:List Int} {ps:Trs} (h:Lst r ps):Row r:=by
 induction h with
 | nil=>exact List.Pairwise.nil
 | snoc a b c ih=>exact row_snoc ih b
theorem fin_step {ps qs ps0:Trs} {p:Int} {done:List Int} (t:Tak ps p qs) (hp:∀ q∈ps,1≤q.1) (fin:∀ r,Lst r ps→Lst (r++done) ps0):∀ r,Lst r qs→Lst (r++p :: done) ps0:=fun r hr=>by
 obtain⟨b,a⟩:=t.add hp
 have:=fin (r++[p]) (.snoc hr (fun x hx=>by have:=hr.le b x hx;omega) a)
 rw[List.append_assoc]at this
 exact this
theorem Tak.pos {ps qs:Trs} {p:Int} (h:Tak ps p qs) (hp:∀ q∈ps,1≤q.1):∀ q∈qs,1≤q.1:=fun q hq=>((h.add hp).1 q hq).1
theorem Tak.sizx {ps qs:Trs} {p:Int} (h:Tak ps p qs) (hp:∀ q∈ps,1≤q.1):siz ps=siz qs+1:=(h.add hp).2.sizx
theorem siz_len {ps:Trs} (h:∀ q∈ps,1≤q.1):(ps.length:Int)≤siz ps:=len_le_sum h
theorem sorted_rev {ms row:List Int} (hp:ms.Perm row) (hs:ms.Pairwise (·≤·)) (hr:Row row.reverse):ms=row.reverse :=
 List.Perm.eq_of_pairwise (le:=fun a b:Int=>a≤b) (fun x y _ _ h1 h2=>by omega) hs (hr.imp fun {x y} q=>by omega) (hp.trans (List.reverse_perm _).symm)
theorem foldl_min_spec:∀ (r:List Int) (n:Int),(r.foldl min n=n∨r.foldl min n∈r)∧r.foldl min n≤n∧∀ x∈r,r.foldl min n≤x
 | [],n=>⟨.inl rfl,Int.le_refl _,fun x hx=>(nomatch hx)⟩
 | a :: r,n=>by
  obtain⟨h1,h2,h3⟩:=foldl_min_spec r (min n a)
  rw[List.foldl_cons]
  refine⟨?_,by omega,fun x hx=>?_⟩
  ·rcases h1 with h1 | h1
   ·rcases Int.le_total n a with c | c
    ·left;rw[h1];omega
    ·right;rw[h1];rw[show min n a=a by omega];exact List.mem_cons_self
   ·exact .inr (List.mem_cons_of_mem _ h1)
  ·rcases List.mem_cons.mp hx with rfl | hx
   ·omega
   ·exact h3 x hx
theorem mxD_spec {ns:List Int} (h:ns≠[]):∃ m:Int,mxD ns .non=.int m∧m∈ns∧∀ x∈ns,x≤m:=by
 cases ns with
 | nil=>exact absurd rfl h
 | cons n r =>
  obtain⟨a1,a2,a3⟩:=foldl_max_spec r n
  refine⟨_,rfl,?_,fun x hx=>?_⟩
  ·rcases a1 with h | h
   ·rw[h];exact List.mem_cons_self
   ·exact List.mem_cons_of_mem _ h
  ·rcases List.mem_cons.mp hx with rfl | hx
   ·exact a2
   ·exact a3 x hx
theorem mnD_spec {ns:List Int} (h:ns≠[]):∃ m:Int,mnD ns .non=.int m∧m∈ns∧∀ x∈ns,m≤x:=by
 cases ns with
 | nil=>exact absurd rfl h
 | cons n r =>
  obtain⟨a1,a2,a3⟩:=foldl_min_spec r n
  refine⟨_,rfl,?_,fun x hx=>?_⟩
  ·rcases a1 with h | h
   ·rw[h];exact List.mem_cons_self
   ·exact List.mem_cons_of_mem _ h
  ·rcases List.mem_cons.mp hx with rfl | hx
   ·exact a2
   ·exact a3 x hx
theorem tak_list {ps ps2:Trs} {p s:Int} (hpos:∀ q∈ps,1≤q.1) (hm:(s,p - 2 * les ps s)∈ps) (hp:∀ q∈ps,q.2+2 * les ps q.1≤p) (hs:∀ q∈ps,q.2+2 * les ps q.1=p→s≤q.1)
 (h2:s=1∧ps2=ps.erase (s,p - 2 * les ps s)∨2≤s∧ps2=ps.erase (s,p - 2 * les ps s)++[(s - 1,p - 1 - 2 * les (ps.erase (s,p - 2 * les ps s)++[(s - 1,0)]) (s - 1))]):Tak ps p ps2:=by
 refine⟨s,ps.erase (s,p - 2 * les ps s),hpos _ hm,List.perm_cons_erase hm,hp,fun q hq hl=>?_,?_⟩
 ·have h1:=hp q hq
  have h2:=hs q hq
  rcases Int.lt_or_eq_of_le h1 with c | c
  ·exact c
  ·have:=h2 c;omega
 ·rcases h2 with ⟨a,rfl⟩ | ⟨a,rfl⟩
  ·exact .inl ⟨a,.refl _⟩
  ·refine .inr ⟨a,?_⟩
   have:p - 1 - 2 * les (ps.erase (s,p - 2 * les ps s)++[(s - 1,0)]) (s - 1)=p - 1 - 2 * les (ps.erase (s,p - 2 * les ps s)) (s - 1) - 2 * (s - 1):=by
    rw[les_append,les_cons,les_nil]
    simp only
    omega
   rw[this]
   exact List.perm_append_comm
theorem top_groups {gs:List Grp} (gd:GoodG gs) {qs:List (Int×Int)} {j:Nat} {p:Int×Int} (ht:Top qs qs.length j) (hj:qs[j]?=some p) (h1:∀ q∈qs,∃ g∈gs,∃ hne:g.2.2≠[],q=(g.2.2.getLast hne+2 * les (flat gs) g.1,-g.1))
 (h2:∀ g∈gs,∀ hne:g.2.2≠[],(g.2.2.getLast hne+2 * les (flat gs) g.1,-g.1)∈qs) :
 ∃ g∈gs,∃ hne:g.2.2≠[],p.2=-g.1∧g.2.2.getLast hne+2 * les (flat gs) g.1=p.1∧∀ x∈gs,∀ hx:x.2.2≠[],x.2.2.getLast hx+2 * les (flat gs) x.1≤p.1∧(x.1<g.1→x.2.2.getLast hx+2 * les (flat gs) x.1<p.1):=by
 obtain⟨g,hg,hne,e⟩:=h1 p (List.mem_of_getElem? hj)
 refine⟨g,hg,hne,by rw[e],by rw[e],fun x hx hnx=>?_⟩
 obtain⟨k,hk,hkx⟩:=List.mem_iff_getElem.mp (h2 x hx hnx)
 have h3:=ht.2 k hk
 have e1:qs.getD j (0,0)=p:=by rw[List.getD_eq_getElem?_getD,hj];rfl
 have e2:qs.getD k (0,0)=(x.2.2.getLast hnx+2 * les (flat gs) x.1,-x.1):=by rw[List.getD_eq_getElem?_getD,List.getElem?_eq_getElem hk,hkx];rfl
 rw[e1,e2,plt_not]at h3
 simp only at h3
 rw[e]at h3 ⊢
 simp only at h3 ⊢
 omega
section
variable {P:Program} {w:World} {K:PySem.W.Frag} {mg:Str→Option Value} {base:Heap}
inductive spBySizeV (vs:List V) (H:Hp) (Q:VK) (E_:XK):Prop
 | mk (a:Addr) (ps:List (Int×Int)) (h0_:vs=[.ref a]) (h1_:LP H a ps) (h2_:ps.length≤60) (h3_:∀ (d:Addr) (gs:List Grp) (H':Hp),H d=none→Same H H'→DG H' d gs→(flat gs).Perm ps→Asc gs→(∀ g∈gs,g.2.2≠[]∧H g.2.1=none)→Q (.ref d) H'):spBySizeV vs H Q E_
inductive rowV (H0:Hp) (ps:Trs) (a d r:Addr) (m:Nat) (σ:St) (Hx:Hp):Prop
 | mk (gs:List Grp) (row:List Int) (v3 v4 v5 v6:Option V) (h0_:σ=[some (.ref a),some (.ref d),some (.ref r),v3,v4,v5,v6]) (h1_:Same H0 Hx) (h2_:DG Hx d gs) (h3_:GoodG gs) (h4_:Asc gs) (h5_:Hx r=some (.lst (row.map V.int))) (h6_:(∀ g∈gs,H0 g.2.1=none∧g.2.1≠r)) (h7_:sto gs=(m:Int)) (h8_:m+row.length≤60) (h9_:∀ r',Lst r' (flat gs)→Lst (r'++row.reverse) ps):rowV H0 ps a d r m σ Hx
inductive spRowOfV (vs:List V) (H:Hp) (Q:VK) (E_:XK):Prop
 | mk (a:Addr) (ps:List (Int×Int)) (h0_:vs=[.ref a]) (h1_:LP H a ps) (h2_:Trn ps) (h3_:∀ r:List Int,Lst r ps→RetL H Q r):spRowOfV vs H Q E_
inductive spStones (vs:List V) (H:Hp) (Q:VK) (E_:XK):Prop
 | mk (a:Addr) (ps:List (Int×Int)) (h0_:vs=[.ref a]) (h1_:LP H a ps) (h2_:Trn ps) (h3_:∀ r:List Int,Lst r ps→RetL H Q r):spStones vs H Q E_
end
end CW
namespace CW
open PySem L2
theorem trn_perm {ps qs:Trs} (h:Trn ps) (e:qs.Perm ps):Trn qs:=⟨fun p hp=>h.pos p (e.mem_iff.mp hp),by have:=siz_perm e;have:=h.few;unfold siz szs at *;omega⟩
end CW
namespace CW
noncomputable def tr (s o:Int) (rest:Trs):Trs:=if s=0 then rest else (s,o) :: rest
end CW
namespace CW
end CW
namespace L2
open PySem PySem.Spec PyProof.Rows
end L2
namespace CW
open PySem L2
theorem gainI_min (s:Int) (q:Int×Int):gainI s q=q.2 * min q.1 s:=by
 unfold gainI
 congr 1
 split <;> omega
theorem trn_adds {ps ws:Trs} (h:Trn ps):Trn (addsM ps ws):=by
 refine⟨fun q hq=>?_,?_⟩
 ·obtain⟨p,hp,rfl⟩:=List.mem_map.mp hq
  exact h.pos p hp
 ·have:szs (addsM ps ws)=szs ps:=by
   unfold szs addsM
   rw[List.map_map]
   rfl
  rw[this];exact h.few
theorem Lst.trn {r:List Int} {ps:Trs} (h:Lst r ps) (hl:r.length≤60):Trn ps:=⟨h.pos,by have:=h.sizx;unfold siz at this;unfold szs;omega⟩
section
variable {P:Program} {w:World} {K:PySem.W.Frag} {mg:Str→Option Value} {base:Heap}
inductive spFar (vs:List V) (H:Hp) (Q:VK) (E_:XK):Prop
 | mk (a b:Addr) (row:List Int) (ws:Trs) (h0_:vs=[.ref a,.ref b]) (h1_:H a=some (.lst (row.map V.int))) (h2_:Row row) (h3_:row.length≤60) (h4_:LP H b ws) (h5_:ws.length≤200) (h6_:Crl ws) (h7_:∀ r ps:_,Lst row ps→Lst r (addsM ps ws)→RetL H Q r):spFar vs H Q E_
end
end CW
namespace CW
open PySem L2
section
variable {P:Program} {w:World} {K:PySem.W.Frag} {mg:Str→Option Value} {base:Heap}
end
end CW
namespace CW
open PySem L2
end CW
namespace CW
open PySem L2
noncomputable def hlf (ws:Trs):Trs:=ws.map fun q=>(q.1,q.2 / 3)
theorem gain_cons (q:Int×Int) (ws:Trs) (s:Int):gainM (q :: ws) s=q.2 * min q.1 s+gainM ws s:=by
 unfold gainM
 rw[List.map_cons,List.sum_cons,gainI_min]
end CW
namespace L2
open PySem PySem.Spec PyProof.Rows
section
variable {X:Cx} {pins:List (Addr×Obj)} {σ:St} {H:Hp} {s:Shared}
end
section
variable {X:Cx}
end
end L2
namespace CW
open PySem L2
section
variable {P:Program} {w:World} {K:PySem.W.Frag} {mg:Str→Option Value} {base:Heap}
theorem at_last {ns:List Int} (h:ns≠[]):atI (ns.map V.int) (-1)=some (.int (ns.getLastD 0)):=by
 obtain⟨r,x,rfl⟩:∃ r x,ns=r++[x]:=⟨ns.dropLast,ns.getLast h,(List.dropLast_concat_getLast h).symm⟩
 rw[List.map_append,List.map_singleton,atI_last]
 simp
end
end CW
namespace CW
open PySem L2
noncomputable def topW (ws:List (Int×Int)) (L:Int):Int:=((ws.filter fun q=>decide (L≤q.1)).map (·.2)).sum
theorem gain_step (L:Int):∀ ws:List (Int×Int),gainM ws L - gainM ws (L - 1)=topW ws L
 | []=>rfl
 | q :: ws=>by
  have ih:=gain_step L ws
  rw[gain_cons,gain_cons]
  unfold topW at *
  rw[List.filter_cons]
  by_cases c:L≤q.1
  ·rw[if_pos (decide_eq_true c),List.map_cons,List.sum_cons,show min q.1 L=L by omega,show min q.1 (L - 1)=L - 1 by omega,Int.mul_sub]
   omega
  ·rw[if_neg (by simpa using c),show min q.1 L=q.1 by omega,show min q.1 (L - 1)=q.1 by omega]
   omega
theorem gain_zero:∀ ws:List (Int×Int),Crl ws→gainM ws 0=0
 | [],_=>rfl
 | q :: ws,h=>by
  rw[gain_cons,gain_zero ws fun x hx=>h x (List.mem_cons_of_mem _ hx)]
  have:=h q List.mem_cons_self
  rw[show min q.1 0=0 by omega]
  omega
theorem sum_low (n c:Int) (hc:c<n):∀ ws:List (Int×Int),sumW ws n c=topW ws c - topW ws (c+1)
 | []=>rfl
 | q :: ws=>by
  have ih:=sum_low n c hc ws
  unfold sumW topW at *
  rw[List.filter_cons,List.filter_cons,List.filter_cons]
  have hu:useI n q=c↔q.1=c:=by
   unfold useI
   split <;> omega
  by_cases h1:q.1=c
  ·rw[if_pos (decide_eq_true (hu.mpr h1)),if_pos (by simp;omega),if_neg (by simp;omega),List.map_cons,List.sum_cons,List.map_cons,List.sum_cons]
   omega
  ·rw[if_neg (by simpa using fun z=>h1 (hu.mp z))]
   by_cases h2:c+1≤q.1
   ·rw[if_pos (by simp;omega),if_pos (by simp;omega),List.map_cons,List.sum_cons,List.map_cons,List.sum_cons]
    omega
   ·rw[if_neg (by simp;omega),if_neg (by simp;omega)]
    exact ih
theorem sum_top (n:Int):∀ ws:List (Int×Int),sumW ws n n=topW ws n
 | []=>rfl
 | q :: ws=>by
  have ih:=sum_top n ws
  unfold sumW topW at *
  rw[List.filter_cons,List.filter_cons]
  have hu:useI n q=n↔n≤q.1:=by
   unfold useI
   split <;> omega
  by_cases h1:n≤q.1
  ·rw[if_pos (decide_eq_true (hu.mpr h1)),if_pos (decide_eq_true h1),List.map_cons,List.sum_cons,List.map_cons,List.sum_cons,ih]
  ·rw[if_neg (by simpa using fun z=>h1 (hu.mp z)),if_neg (by simpa using h1)]
   exact ih
theorem tidy_congr {A B:List (Int×Int)} {n:Int}:∀ i:Nat,(∀ c:Int,1≤c→c≤i→sumW A n c=sumW B n c)→tidyTo A n i=tidyTo B n i
 | 0,_=>rfl
 | i+1,h=>by
  unfold tidyTo
  rw[tidy_congr i fun c h1 h2=>h c h1 (by omega),h ((i:Int)+1) (by omega) (by omega)]
theorem tidy_sums {A B:List (Int×Int)} {n:Int} {i:Nat} (h:tidyTo A n i=tidyTo B n i) (c:Int) (h1:1≤c) (h2:c≤i):sumW A n c=sumW B n c:=by
 by_cases ha:sumW A n c=0
 ·by_cases hb:sumW B n c=0
  ·rw[ha,hb]
  ·have:(c,sumW B n c)∈tidyTo A n i:=by rw[h];exact mem_tidy.mpr ⟨⟨h1,h2⟩,rfl,hb⟩
   exact(mem_tidy.mp this).2.1.symm
 ·have:(c,sumW A n c)∈tidyTo B n i:=by rw[← h];exact mem_tidy.mpr ⟨⟨h1,h2⟩,rfl,ha⟩
  exact(mem_tidy.mp this).2.1
noncomputable def Alk (A B:List (Int×Int)) (n:Nat):Prop:=∀ L:Int,1≤L→L≤n→gainM A L=gainM B L
theorem alike_iff {A B:List (Int×Int)} (ha:Crl A) (hb:Crl B) (n:Nat) (hn:1≤n):tidyTo A n n=tidyTo B n n↔Alk A B n:=by
 constructor
 ·intro h
  have top:∀ k:Nat,k<n→topW A ((n:Int) - k)=topW B ((n:Int) - k):=by
   intro k
   induction k with
   | zero =>
    intro _
    have:=tidy_sums h (n:Int) (by omega) (by omega)
    rw[sum_top,sum_top]at this
    simpa using this
   | succ k ih =>
    intro hk
    have i1:=ih (by omega)
    have:=tidy_sums h ((n:Int) - (k+1:Nat)) (by omega) (by omega)
    rw[sum_low n _ (by omega),sum_low n _ (by omega),show (n:Int) - (k+1:Nat)+1=(n:Int) - k by omega,i1]at this
    omega
  have go:∀ k:Nat,k≤n→gainM A (k:Int)=gainM B (k:Int):=by
   intro k
   induction k with
   | zero=>intro _;exact(gain_zero A ha).trans (gain_zero B hb).symm
   | succ k ih =>
    intro hk
    have i1:=ih (by omega)
    have a:=gain_step ((k+1:Nat):Int) A
    have b:=gain_step ((k+1:Nat):Int) B
    rw[show ((k+1:Nat):Int) - 1=(k:Int)by omega]at a b
    have t:=top (n - (k+1)) (by omega)
    rw[show (n:Int) - ((n - (k+1):Nat):Int)=((k+1:Nat):Int)by omega]at t
    omega
  intro L h1 h2
  have:=go L.toNat (by omega)
  rw[show ((L.toNat:Nat):Int)=L by omega]at this
  exact this
 ·intro h
  have g0:∀ L:Int,0≤L→L≤n→gainM A L=gainM B L:=fun L h1 h2=>by
   by_cases z:L=0
   ·rw[z];exact(gain_zero A ha).trans (gain_zero B hb).symm
   ·exact h L (by omega) h2
  have top:∀ L:Int,1≤L→L≤n→topW A L=topW B L:=fun L h1 h2=>by
   rw[← gain_step,← gain_step,g0 L (by omega) h2,g0 (L - 1) (by omega) (by omega)]
  refine tidy_congr n fun c h1 h2=>?_
  by_cases hc:c<n
  ·rw[sum_low n c hc,sum_low n c hc,top c h1 h2,top (c+1) (by omega) (by omega)]
  ·obtain rfl:c=(n:Int):=by omega
   rw[sum_top,sum_top,top _ h1 h2]
noncomputable def upL (n:Nat):List Int:=(List.range n).map fun k:Nat=>1+(k:Int)
theorem upL_len (n:Nat):(upL n).length=n:=by unfold upL;rw[List.length_map,List.length_range]
theorem upL_succ (n:Nat):upL (n+1)=upL n++[(n:Int)+1]:=by
 unfold upL
 rw[List.range_succ,List.map_append]
 simp[Int.add_comm]
theorem upL_row:∀ n,Row (upL n)∧∀ x∈upL n,x≤(n:Int)
 | 0=>⟨List.Pairwise.nil,fun x hx=>(nomatch hx)⟩
 | n+1=>by
  obtain⟨h1,h2⟩:=upL_row n
  rw[upL_succ]
  refine⟨row_snoc h1 fun y hy=>by have:=h2 y hy;omega,fun x hx=>?_⟩
  rcases List.mem_append.mp hx with h | h
  ·have:=h2 x h;omega
  ·rw[List.mem_singleton.mp h];omega
theorem upL_one:∀ n:Nat,Lst (upL (n+1)) [((n:Int)+1,-((n:Int)+1))]
 | 0=>by
  refine Lst.snoc (r:=[]) .nil (fun x hx=>(nomatch hx)) ⟨0,[],by omega,.inl ⟨rfl,List.Perm.refl _⟩,fun q hq=>(nomatch hq),?_⟩
  simp[les]
 | n+1=>by
  rw[upL_succ (n+1)]
  refine Lst.snoc (upL_one n) (fun x hx=>by have:=(upL_row (n+1)).2 x hx;omega) ⟨(n:Int)+1,[],by omega,.inr ⟨by omega,?_⟩,fun q hq hs=>?_,?_⟩
  ·have e:((n+1:Nat):Int)+1 - 1 - 2 * les [((n:Int)+1,-((n:Int)+1))] ((n:Int)+1)=-((n:Int)+1):=by
    simp[les]
    omega
   rw[e]
  ·rw[List.mem_singleton.mp hq]at hs
   simp only at hs
   omega
  ·have e:((n+1:Nat):Int)+1 - 2 * les [] ((n:Int)+1+1) - 2 * ((n:Int)+1+1)=-(((n+1:Nat):Int)+1):=by
    simp[les]
    omega
   rw[e,show ((n+1:Nat):Int)+1=(n:Int)+1+1 by omega]
theorem runs_up:∀ n:Nat,(runsM (upL (n+1))).length=1:=fun n=>by
 have go:∀ n:Nat,∃ f,runsM (upL (n+1))=[(f,(n:Int)+1)]:=by
  intro n
  induction n with
  | zero=>exact⟨1,rfl⟩
  | succ n ih =>
   obtain⟨f,e⟩:=ih
   refine⟨f,?_⟩
   unfold runsM at *
   rw[upL_succ (n+1),List.foldl_append,e]
   show stepR [(f,(n:Int)+1)] (((n+1:Nat):Int)+1)=_
   simp[stepR]
 obtain⟨f,e⟩:=go n
 rw[e]
 rfl
noncomputable def duePart (A B:List (Int×Int)) (n:Int):Ref:=open Classical in if n<1∨60<n then .number else if Crl A∧Crl B then .ok else .creel
section
variable {P:Program} {w:World} {K:PySem.W.Frag} {mg:Str→Option Value} {base:Heap}
noncomputable def spParting (X:Errs K mg):Sp:=fun vs H Q E=>∃ (a b:Addr) (A B:List (Int×Int)) (n:Int),vs=[.ref a,.ref b,.int n]∧LP H a A∧A.length≤60∧LP H b B∧B.length≤60 ∧
 (duePart A B n=.ok→(Alk A B n.toNat→∀ H',Same H H'→Q .non H')∧∀ L:Nat,((L:Int)+1)≤n→gainM A ((L:Int)+1)≠gainM B ((L:Int)+1)→RetL H Q (upL (L+1)))∧(duePart A B n≠.ok→(duePart A B n).go X E H)
theorem monoParting {X:Errs K mg}:MonoSp (spParting X):=by
 rintro vs H Q Q' E E' hQ hE ⟨a,b,A,B,n,e,h1,h2,h3,h4,h5,h6⟩
 exact⟨a,b,A,B,n,e,h1,h2,h3,h4,fun z=>⟨fun y H' g=>hQ _ _ ((h5 z).1 y H' g),fun L y1 y2=>monoRetL hQ ((h5 z).2 L y1 y2)⟩,fun z=>go_mono hE (h6 z)⟩
theorem parting_why {X:Errs K mg} {A B:List (Int×Int)} {n:Int} {H:Hp} {Q:VK} {a b t0:Addr} (ha:LP H a A) (h1:A.length≤60) (hb:LP H b B) (h2:B.length≤60) (et0:H t0=some (.tup [.str "",.int 0]))
 (kk:∀ tv H3,Same H H3→H3 tv=some (.tup [.str (duePart A B n).nm,.int (duePart A B n).at])→Q (.ref tv) H3):spParting X [.ref a,.ref b,.int n] H (fun _ H2=>Q (.ref t0) H2) (WhyE X Q) :=
 ⟨a,b,A,B,n,rfl,ha,h1,hb,h2,fun hd=>⟨fun _ H2 g2=>kk t0 H2 g2 (by rw[hd];exact g2 _ _ et0),fun L _ _ l H2 _ g2 _=>kk t0 H2 g2 (by rw[hd];exact g2 _ _ et0)⟩,fun hd=>go_why hd kk⟩
inductive spLawOther (vs:List V) (H:Hp) (Q:VK) (E_:XK):Prop
 | mk (a b:Addr) (ws:List (Int×Int)) (ds:List Int) (n:Int) (h0_:vs=[.ref a,.ref b,.int n]) (h1_:LP H a ws) (h2_:ws.length≤20) (h3_:Crl ws) (h4_:H b=some (.lst (ds.map V.int))) (h5_:4≤ds.length) (h6_:1≤n) (h7_:∀ ws':List (Int×Int),ws'.length≤30→Crl ws'→RetP H Q ws'):spLawOther vs H Q E_
end
end CW
namespace CW
open PySem L2
theorem eqv_il:∀ a b:List Int,PyData.eqvAll (a.map PyData.int) (b.map PyData.int)=decide (a=b)
 | [],[]=>rfl
 | [],y :: b=>rfl
 | x :: a,[]=>rfl
 | x :: a,y :: b=>by
  show (PyData.eqv (.int x) (.int y) && PyData.eqvAll (a.map PyData.int) (b.map PyData.int))=_
  rw[eqv_il a b]
  show ((x == y) && decide (a=b))=_
  rw[Bool.eq_iff_iff]
  simp
theorem eqv_ints2 (a b:List Int):PyData.eqv (.list (a.map PyData.int)) (.list (b.map PyData.int))=decide (a=b):=eqv_il a b
theorem eqv_pl:∀ a b:List (Int×Int),PyData.eqvAll (a.map pD) (b.map pD)=decide (a=b)
 | [],[]=>rfl
 | [],y :: b=>rfl
 | x :: a,[]=>rfl
 | x :: a,y :: b=>by
  show (PyData.eqv (pD x) (pD y) && PyData.eqvAll (a.map pD) (b.map pD))=_
  rw[eqv_pl a b]
  show (((x.1 == y.1) && ((x.2 == y.2) && true)) && decide (a=b))=_
  rw[Bool.eq_iff_iff]
  obtain⟨x1,x2⟩:=x
  obtain⟨y1,y2⟩:=y
  simp
theorem eqv_pairs2 (a b:List (Int×Int)):PyData.eqv (.list (a.map pD)) (.list (b.map pD))=decide (a=b):=eqv_pl a b
theorem shaped_two' (ps ws:List (Int×Int)):SeqAt.shaped (.list [.list (ps.map pD),.list (ws.map pD)])=true:=shaped_two ps ws
theorem crl_snoc {ws:List (Int×Int)} {q:Int×Int} (h:Crl ws) (hq:1≤q.1):Crl (ws++[q]):=fun x hx=>by
 rcases List.mem_append.mp hx with h1 | h1
 ·exact h x h1
 ·rw[List.mem_singleton.mp h1];exact hq
theorem paired_rev {α β:Type} {F:α→β→Prop}:∀ {l:List α} {m:List β},Paired F l m→Paired F l.reverse m.reverse
 | _,_,.nil=>.nil
 | _,_,.cons h r=>by
  rw[List.reverse_cons,List.reverse_cons]
  exact Paired.append' (paired_rev r) (.cons h .nil)
theorem crl_set' {ws:List (Int×Int)} {c:Nat} {q:Int×Int} (h:Crl ws) (hq:1≤q.1):Crl (ws.set c q):=fun x hx=>by
 rcases List.mem_or_eq_of_mem_set hx with h1 | h1
 ·exact h x h1
 ·rw[h1];exact hq
end CW
namespace CW
open PySem L2
theorem le_siz {q:Int×Int}:∀ {l:Trs},(∀ x∈l,1≤x.1)→q∈l→q.1≤siz l
 | [],_,h=>by cases h
 | y :: l,hp,hm=>by
  have hn:0≤siz l:=by
   have go:∀ l:Trs,(∀ x∈l,1≤x.1)→0≤siz l:=fun l=>by
    induction l with
    | nil=>intro _;exact Int.le_refl _
    | cons z l ih =>
     intro h
     have:=ih fun x hx=>h x (List.mem_cons_of_mem _ hx)
     have:=h z List.mem_cons_self
     unfold siz at *
     rw[List.map_cons,List.sum_cons]
     omega
   exact go l fun x hx=>hp x (List.mem_cons_of_mem _ hx)
  have h1:=hp y List.mem_cons_self
  have e:siz (y :: l)=y.1+siz l:=by unfold siz;rw[List.map_cons,List.sum_cons]
  rcases List.mem_cons.mp hm with z | z
  ·rw[z,e];omega
  ·have:=le_siz (fun x hx=>hp x (List.mem_cons_of_mem _ hx)) z
   omega
theorem adds_alk {row:List Int} {ps1 ps2 A B:Trs} {n:Nat} (h1:Lst row ps1) (h2:Lst row ps2) (hl:row.length≤n) (ha:Alk A B n):(addsM ps1 A).Perm (addsM ps2 B):=by
 have e:addsM ps1 A=addsM ps1 B:=by
  unfold addsM
  refine List.map_congr_left fun p hp=>?_
  have a1:=h1.pos p hp
  have a2:=le_siz h1.pos hp
  rw[h1.sizx]at a2
  rw[ha p.1 a1 (by omega)]
 rw[e]
 exact(h1.uniq h2).map _
theorem moved_eq {L:Nat} {A B qs1 qs2 rs1 rs2:Trs} {r:List Int} (h1:Lst (upL (L+1)) qs1) (h2:Lst (upL (L+1)) qs2) (p1:rs1.Perm (addsM qs1 A)) (p2:rs2.Perm (addsM qs2 B)) (l1:Lst r rs1) (l2:Lst r rs2):gainM A ((L:Int)+1)=gainM B ((L:Int)+1):=by
 have u1:=(h1.uniq (upL_one L)).map fun p=>(p.1,p.2+gainM A p.1)
 have u2:=(h2.uniq (upL_one L)).map fun p=>(p.1,p.2+gainM B p.1)
 have e:=((p1.trans u1).symm.trans (l1.uniq l2)).trans (p2.trans u2)
 have e':=List.Perm.eq_singleton e
 have:=List.cons.inj e'
 have h3:=congrArg Prod.snd this.1
 simp only at h3
 omega
end CW
namespace CW
open PySem L2
noncomputable def top (i:Nat):Stmt:=PySem.Challenge.pw_creelway_k33_whole_walks_alike_or_parted.main.body.getD i (.Pass ⟨0,0,0,0⟩)
section
variable {P:Program} {w:World} {K:PySem.W.Frag} {mg:Str→Option Value} {base:Heap}
noncomputable abbrev s_CreelError_init:Stmt:=inClass (top 1) 0
theorem sc_CreelError_init:FnScope ["self","why","word"] ["self","why","word"] (defScope s_CreelError_init):=⟨rfl,rfl,rfl,by decide +kernel,rfl,by decide +kernel,by decide +kernel⟩
theorem ok_CreelError_init {f:Addr} {fd:FuncData} (F:FunD K "__init__" "CreelError.__init__" s_CreelError_init f fd) (mV:mg "ValueError"=none):FnOk P w K mg base CX0 1 f fd ["self","why","word"] (spXB K):=by
 refine F.ok sc_CreelError_init (fun vs H Q E h=>?_) (fun cdv A outer s H vs Q E hr h=>?_)
 ·obtain⟨e,C,i,a,b,rfl,_⟩:=h
  rfl
 ·obtain⟨e,C,i,a,b,rfl,he,hC,hS,k⟩:=h
  refine⟨_,(pss_cons (ps_expr (pe_vinit rfl mV (pa_cons (pv 0) (pa_cons (pv 1) pa_nil)))) (pss_one (ps_xat (pv 0) (pv 2) rfl))),?_⟩
  exact⟨_,rfl,_,rfl,e,C,i,none,_,rfl,by show 1≤sizeLine;decide,he,hC,_,rfl,_,rfl,e,C,rfl,he,hS,fun dx h1 h2=>k dx h1 h2⟩
noncomputable abbrev s_BadCreel_init:Stmt:=inClass (top 4) 0
theorem sc_BadCreel_init:FnScope ["self","why"] ["self","why"] (defScope s_BadCreel_init):=⟨rfl,rfl,rfl,by decide +kernel,rfl,by decide +kernel,by decide +kernel⟩
theorem ok_BadCreel_init {f C D fB:Addr} {i:Option Value} {fd fdB:FuncData} (F:FunD K "__init__" "BadCreel.__init__" s_BadCreel_init f fd) (OI:OInit K D fB) (FB:FnOk P w K mg base CX0 1 fB fdB ["self","why","word"] (spXB K)) (bB:Binds K fdB ["self","why","word"] []) (mD:mg "CreelError"=some (.ref D)) (hC:XCls K C i) (hS:XStore K C "word"):FnOk P w K mg base CX0 2 f fd ["self","why"] (spX0 "BadCreel" C):=by
 refine F.ok sc_BadCreel_init (fun vs H Q E h=>?_) (fun cdv A outer s H vs Q E hr h=>?_)
 ·obtain⟨e,a,rfl,_⟩:=h
  rfl
 ·obtain⟨e,a,rfl,he,k⟩:=h
  refine⟨_,(pss_one (ps_expr (pe_oinit OI FB hr bB pass0 rfl mD (pa_cons (pv 0) (pa_cons (pv 1) (pa_cons pe_str pa_nil)))))),?_⟩
  exact⟨_,rfl,_,rfl,e,C,i,a,_,rfl,he,hC,hS,fun dx h1 h2=>k dx h1 h2⟩
noncomputable abbrev s_BadNumber_init:Stmt:=inClass (top 7) 0
theorem sc_BadNumber_init:FnScope ["self","why"] ["self","why"] (defScope s_BadNumber_init):=⟨rfl,rfl,rfl,by decide +kernel,rfl,by decide +kernel,by decide +kernel⟩
theorem ok_BadNumber_init {f C D fB:Addr} {i:Option Value} {fd fdB:FuncData} (F:FunD K "__init__" "BadNumber.__init__" s_BadNumber_init f fd) (OI:OInit K D fB) (FB:FnOk P w K mg base CX0 1 fB fdB ["self","why","word"] (spXB K)) (bB:Binds K fdB ["self","why","word"] []) (mD:mg "CreelError"=some (.ref D)) (hC:XCls K C i) (hS:XStore K C "word"):FnOk P w K mg base CX0 2 f fd ["self","why"] (spX0 "BadNumber" C):=by
 refine F.ok sc_BadNumber_init (fun vs H Q E h=>?_) (fun cdv A outer s H vs Q E hr h=>?_)
 ·obtain⟨e,a,rfl,_⟩:=h
  rfl
 ·obtain⟨e,a,rfl,he,k⟩:=h
  refine⟨_,(pss_one (ps_expr (pe_oinit OI FB hr bB pass0 rfl mD (pa_cons (pv 0) (pa_cons (pv 1) (pa_cons pe_str pa_nil)))))),?_⟩
  exact⟨_,rfl,_,rfl,e,C,i,a,_,rfl,he,hC,hS,fun dx h1 h2=>k dx h1 h2⟩
noncomputable abbrev s_look_row:Stmt:=top 12
theorem sc_look_row:FnScope ["row","at"] ["row"] (defScope s_look_row):=⟨rfl,rfl,rfl,by decide +kernel,rfl,by decide +kernel,by decide +kernel⟩
theorem ok_look {f:Addr} {fd:FuncData} {tC:Tok} (F:Fun K "look_row" "look_row" s_look_row f fd) (B:Bt mg) (C:Cn mg tC):FnOk P w K mg base CX0 1 f fd ["row"] spLook:=by
 refine F.ok sc_look_row (fun vs H Q E h=>?_) (fun cdv A outer s H vs Q E hr h=>?_)
 ·obtain⟨a,r,rfl,_⟩:=h
  rfl
 ·obtain⟨a,row,rfl,ha,hrow,hlen,k⟩:=h
  refine⟨_,(pss_cons (ps_if (pt_cmpR op_gt (pe_callB call_len_seq (by rfl) B.len PySem.boot_len (pa_cons (pv 0) pa_nil)) (pe_glob (v:=.int 60) rfl C.MOST_STONES ⟨_,rfl⟩) (nomark _))
 (pss_one ps_never)
 pss_nil)
 (pss_one (ps_for PassesOwn.never rfl (pi_range2 rfl B.range (pa_cons pe_int (pa_cons (pe_callB call_len_seq (by rfl) B.len PySem.boot_len (pa_cons (pv 0) pa_nil)) pa_nil))) (pg_name (i:=1) sc_look_row.nd rfl (Or.inl rfl))
 (pss_one (ps_if (pt_cmpR op_le (pe_ix ix_list (pv 0) (pv 1) (fun _ _=>rfl)) (pe_ix ix_list (pv 0) (pe_op op_sub (pv 1) pe_int) (fun _ _=>rfl)) (nomark _))
 (pss_one ps_never)
 pss_nil))))),?_⟩
  refine⟨_,rfl,a,_,rfl,.inl (SqL.of ha),_,_,rfl,rfl,_,rfl,iteDF (by rw[List.length_map];omega) ?_⟩
  refine⟨_,rfl,a,_,rfl,.inl (SqL.of ha),_,_,rfl,⟨by decide,by decide,by omega,by rw[List.length_map];omega⟩,for_range (lo:=1) (fun i σ H2=>∃ v,σ=[some (.ref a),v]∧H2=H) ⟨none,rfl,rfl⟩ ?_ ?_⟩
  ·rintro i σ H2 hi ⟨v,rfl,rfl⟩
   rw[List.length_map]at hi
   obtain⟨x,_,hx,ex⟩:=at_mem (ns:=row) (i:=1+(i:Int)) (by omega) (by omega)
   obtain⟨y,_,hy,ey⟩:=at_mem (ns:=row) (i:=1+(i:Int) - 1) (by omega) (by omega)
   refine⟨_,rfl,_,rfl,a,_,_,_,rfl,rfl,SqL.of ha,ex,_,rfl,_,rfl,_,_,rfl,rfl,a,_,_,_,rfl,rfl,SqL.of ha,ey,_,_,rfl,rfl,_,rfl,iteDF ?_ ⟨_,rfl,rfl⟩⟩
   have:=hrow.lt (show (1+(i:Int) - 1).toNat<(1+(i:Int)).toNat by omega) hy hx
   omega
  ·rintro σ H2 ⟨v,rfl,rfl⟩
   exact k
noncomputable abbrev s_look_creel:Stmt:=top 14
theorem sc_look_creel:FnScope ["creel"] ["creel"] (defScope s_look_creel):=⟨rfl,rfl,rfl,by decide +kernel,rfl,by decide +kernel,by decide +kernel⟩
theorem ok_look_creelX {f:Addr} {fd:FuncData} (F:Fun K "look_creel" "look_creel" s_look_creel f fd) (B:Bt mg) (X:Errs K mg) (R_BadCreel:RaisesAs P w K mg base "BadCreel" X.creel ["self","why"] (spX0 "BadCreel" X.creel)):FnOk P w K mg base (CXR P w) 4 f fd ["creel"] (spLookCreelX X):=by
 refine F.okX sc_look_creel (fun vs H Q E h=>?_) (fun cdv A outer s H vs Q E hfr hr h=>?_)
 ·obtain⟨c,rfl,_⟩:=h
  rfl
 ·obtain⟨c,rfl,k1,k2⟩:=h
  refine⟨_,(pss_one (ps_if (pt_cmpR op_lt (pv 0) pe_int (nomark _))
 (pss_one (ps_raiseR (raiseR hfr) R_BadCreel rfl rfl hr rfl (pa_cons pe_str pa_nil)))
 pss_nil)),?_⟩
  exact⟨_,rfl,_,_,rfl,rfl,_,rfl,iteD (fun z=>rd0 (k2 z)) fun z=>k1 (by omega)⟩
theorem ok_look_creel {f:Addr} {fd:FuncData} (F:Fun K "look_creel" "look_creel" s_look_creel f fd) (B:Bt mg):FnOk P w K mg base CX0 1 f fd ["creel"] spLookCreel:=by
 refine F.ok sc_look_creel (fun vs H Q E h=>?_) (fun cdv A outer s H vs Q E hr h=>?_)
 ·obtain⟨c,rfl,_⟩:=h
  rfl
 ·obtain⟨c,rfl,hc,k⟩:=h
  refine⟨_,(pss_one (ps_if (pt_cmpR op_lt (pv 0) pe_int (nomark _))
 (pss_one ps_never)
 pss_nil)),?_⟩
  exact⟨_,rfl,_,_,rfl,rfl,_,rfl,iteDF (by omega) k⟩
noncomputable abbrev s_look_walks:Stmt:=top 15
theorem sc_look_walks:FnScope ["walks","creel","count"] ["walks"] (defScope s_look_walks):=⟨rfl,rfl,rfl,by decide +kernel,rfl,by decide +kernel,by decide +kernel⟩
theorem ok_look_walks {f:Addr} {fd:FuncData} (F:Fun K "look_walks" "look_walks" s_look_walks f fd) (B:Bt mg) (F_look_creel:FnAt P w K mg base "look_creel" 1 ["creel"] spLookCreel):FnOk P w K mg base CX0 2 f fd ["walks"] spLookW:=by
 refine F.ok sc_look_walks (fun vs H Q E h=>?_) (fun cdv A outer s H vs Q E hr h=>?_)
 ·obtain⟨a,r,rfl,_⟩:=h
  rfl
 ·obtain⟨a,ws,rfl,⟨us,ha,pr⟩,hc,k⟩:=h
  refine⟨_,(pss_one (ps_for PassesOwn.never rfl (pi_list (pv 0)) (pg_tup rfl (pgs_cons (pg_name (i:=1) sc_look_walks.nd rfl (Or.inl rfl)) (pgs_cons (pg_name (i:=2) sc_look_walks.nd rfl (Or.inl rfl)) pgs_nil)))
 (pss_one (ps_expr (pe_fn F_look_creel hr rfl (pa_cons (pv 1) pa_nil)))))),?_⟩
  refine⟨_,rfl,a,rfl,⟨_,SqL.of ha⟩,for_list (K:=K) (a:=a) (xs:=us) (fun i σ H2=>∃ v1 v2,σ=[some (.ref a),v1,v2]∧H2=H) ⟨none,none,rfl,rfl⟩ (fun i σ H2 _ ⟨_,_,_,e⟩=>by rw[e];exact SqL.of ha) ?_ ?_⟩
  ·rintro i x σ H2 hi ⟨v1,v2,rfl,rfl⟩
   obtain⟨p,t',hp,rfl,et⟩:=paired_at pr hi
   exact⟨t',_,rfl,SqT.of et,rfl,_,_,rfl,_,_,rfl,rfl,_,rfl,_,rfl,hc p (List.mem_of_getElem? hp),_,_,rfl,rfl⟩
  ·rintro σ H2 ⟨v1,v2,rfl,rfl⟩
   exact k
theorem ok_look_walksR {f:Addr} {fd:FuncData} (F:Fun K "look_walks" "look_walks" s_look_walks f fd) (B:Bt mg) (X:Errs K mg) (F_look_creel:FnAtX P w K mg base "look_creel" 4 ["creel"] (spLookCreelX X)):FnOk P w K mg base (CXR P w) 5 f fd ["walks"] (spLookWR X):=by
 refine F.okX sc_look_walks (fun vs H Q E h=>?_) (fun cdv A outer s H vs Q E hfr hr h=>?_)
 ·obtain⟨a,r,rfl,_⟩:=h
  rfl
 ·obtain⟨a,ws,rfl,⟨us,ha,pr⟩,hc,k⟩:=h
  refine⟨_,(pss_one (ps_for passF rfl (pi_list (pv 0)) (pg_tup rfl (pgs_cons (pg_name (i:=1) sc_look_walks.nd rfl (Or.inl rfl)) (pgs_cons (pg_name (i:=2) sc_look_walks.nd rfl (Or.inl rfl)) pgs_nil)))
 (pss_one (ps_expr (pe_fnX F_look_creel hr rfl (passR hfr) (pa_cons (pv 1) pa_nil)))))),?_⟩
  refine⟨_,rfl,a,rfl,⟨_,SqL.of ha⟩,for_list (K:=K) (a:=a) (xs:=us) (fun i σ H2=>∃ v1 v2,σ=[some (.ref a),v1,v2]∧H2=H∧∀ j q,j<i→ws[j]?=some q→1≤q.1) ⟨none,none,rfl,rfl,fun j q h=>by omega⟩ (fun i σ H2 _ ⟨_,_,_,e,_⟩=>by rw[e];exact SqL.of ha) ?_ ?_⟩
  ·rintro i x σ H2 hi ⟨v1,v2,rfl,rfl,hj⟩
   obtain⟨p,t',hp,rfl,et⟩:=paired_at pr hi
   refine⟨t',_,rfl,SqT.of et,rfl,_,_,rfl,_,_,rfl,rfl,_,rfl,_,rfl,fun h1=>⟨_,_,rfl,rfl,fun j q h2 h3=>?_⟩,fun _=>k⟩
   by_cases hji:j<i
   ·exact hj j q hji h3
   ·obtain rfl:j=i:=by omega
    rw[hp]at h3
    cases h3
    exact h1
  ·rintro σ H2 ⟨v1,v2,rfl,rfl,hj⟩
   refine absurd (fun q hq=>?_) hc
   obtain⟨j,hl,rfl⟩:=List.mem_iff_getElem.mp hq
   exact hj j _ (by rw[pr.len];exact hl) (List.getElem?_eq_getElem hl)
noncomputable abbrev s_look_trains:Stmt:=top 17
theorem sc_look_trains:FnScope ["trains","at","size","offset"] ["trains"] (defScope s_look_trains):=⟨rfl,rfl,rfl,by decide +kernel,rfl,by decide +kernel,by decide +kernel⟩
theorem ok_look_trains {f:Addr} {fd:FuncData} {tC:Tok} (F:Fun K "look_trains" "look_trains" s_look_trains f fd) (B:Bt mg) (C:Cn mg tC):FnOk P w K mg base CX0 1 f fd ["trains"] spLookT:=by
 refine F.ok sc_look_trains (fun vs H Q E h=>?_) (fun cdv A outer s H vs Q E hr h=>?_)
 ·obtain⟨a,r,rfl,_⟩:=h
  rfl
 ·obtain⟨a,ps,rfl,⟨us,ha,pr⟩,ht,k⟩:=h
  have hul:us.length≤60:=by rw[pr.len];exact ht.len
  refine⟨_,(pss_cons (ps_for PassesOwn.never rfl (pi_enum rfl B.enumerate (pa_cons (pv 0) pa_nil)) (pg_tup rfl (pgs_cons (pg_name (i:=1) sc_look_trains.nd rfl (Or.inl rfl)) (pgs_cons (pg_tup rfl (pgs_cons (pg_name (i:=2) sc_look_trains.nd rfl (Or.inl rfl)) (pgs_cons (pg_name (i:=3) sc_look_trains.nd rfl (Or.inl rfl)) pgs_nil))) pgs_nil)))
 (pss_one (ps_if (pt_cmpR op_lt (pv 2) pe_int (nomark _))
 (pss_one ps_never)
 pss_nil)))
 (pss_one (ps_if (pt_cmpR op_gt (pe_callB (call_sum rfl) (by rfl) B.sum boot_sum (pa_cons (pe_comp ["size","offset"] [] [] rfl (.of (show compOk (defScope s_look_trains) _ ["trains","at","size","offset"] [] []=true by decide +kernel)) (pi_list (pv 0)) (fun _ _ _=>(pg_tupK (n:=2) K rfl rfl (pgs_cons (pg_name (i:=0) (show (["size","offset"]:List Str).Nodup by decide +kernel) rfl (Or.inl rfl)) (pgs_cons (pg_name (i:=1) (show (["size","offset"]:List Str).Nodup by decide +kernel) rfl (Or.inl rfl)) pgs_nil)))) (kg_tup (kgs_cons (by decide) (kgs_cons (by decide) kgs_nil))) (fun _ _ _=>pif_nil) (fun _ _ _=>(pv 0))) pa_nil)) (pe_glob (v:=.int 60) rfl C.MOST_STONES ⟨_,rfl⟩) (nomark _))
 (pss_one ps_never)
 pss_nil))),?_⟩
  refine⟨_,rfl,a,_,rfl,SqL.of ha,for_enum (K:=K) (a:=a) (xs:=us) (fun i σ H2=>∃ v1 v2 v3,σ=[some (.ref a),v1,v2,v3]∧Same H H2) ⟨none,none,none,rfl,Same.refl _⟩ (fun i σ H2 _ ⟨_,_,_,_,sm⟩=>SqL.of (sm _ _ ha)) ?_ ?_⟩
  ·rintro i x σ H2 t hi ⟨v1,v2,v3,rfl,sm⟩ hn
   obtain⟨p,t',hp,rfl,et⟩:=paired_at pr hi
   have sm2:Same H (upd H2 t (.tup [.int i,.ref t'])):=sm.trans (Same.upd hn)
   have e1:=sm2 _ _ et
   refine⟨t,_,rfl,SqT.of upd_same,rfl,_,_,rfl,_,_,rfl,⟨t',_,rfl,SqT.of e1,rfl,_,_,rfl,_,_,rfl,rfl,rfl,?_⟩⟩
   have:=ht.pos p (List.mem_of_getElem? hp)
   exact⟨_,rfl,_,_,rfl,rfl,_,rfl,iteDF (by omega) ⟨_,_,_,rfl,sm2⟩⟩
  ·rintro σ H2 ⟨v1,v2,v3,rfl,sm⟩
   refine⟨_,rfl,a,rfl,⟨_,SqL.of (sm _ _ ha)⟩,comp_list (K:=K) (a:=a) (xs:=us) (fun i ys H3=>H3=H2∧ys=((ps.take i).map (·.1)).map V.int) ⟨rfl,rfl⟩ ?_ ?_ ?_⟩
   ·rintro i ys H3 hi ⟨rfl,rfl⟩
    exact⟨SqL.of (sm _ _ ha),take_len _ _ (by omega) _⟩
   ·rintro i x ys H3 hi ⟨rfl,rfl⟩
    obtain⟨p,t',hp,rfl,et⟩:=paired_at pr hi
    exact⟨t',_,rfl,SqT.of (sm _ _ et),rfl,_,_,rfl,_,_,rfl,rfl,_,rfl,rfl,snoc_pairs (·.1) hp⟩
   ·rintro ys H3 ⟨rfl,rfl⟩ D hD
    have e:us.length=ps.length:=pr.len
    refine⟨D,szs ps,rfl,by rw[upd_same,e,List.take_length];rfl,_,_,rfl,rfl,_,rfl,iteDF ?_ (k _ (sm.trans (Same.upd hD)))⟩
    have:=ht.few
    omega
noncomputable abbrev s_by_size:Stmt:=top 18
theorem sc_by_size:FnScope ["trains","offsets","size","offset"] ["trains"] (defScope s_by_size):=⟨rfl,rfl,rfl,by decide +kernel,rfl,by decide +kernel,by decide +kernel⟩
inductive I1_by_size (H:Hp) (a:Addr) (d:Addr) (l:Addr) (us':List V) (qs:Trs) (i:Nat) (σ:St) (H3:Hp):Prop
 | mk (gs:List Grp) (v1 v2:Option V) (k0_:σ=[some (.ref a),some (.ref d),v1,v2]) (k1_:Same H H3) (k2_:H3 l=some (.lst us')) (k3_:Prs H3 us' qs) (k4_:DG H3 d gs) (k5_:(∀ g∈gs,H g.2.1=none∧g.2.1≠l∧g.2.1≠d)) (k6_:((flat gs).Perm (qs.take i)∧Asc gs)) (k7_:gs.length≤i) (k8_:∀ g∈gs,g.2.2.length≤i∧g.2.2≠[]):I1_by_size H a d l us' qs i σ H3
theorem ok_by_size {f:Addr} {fd:FuncData} (F:Fun K "by_size" "by_size" s_by_size f fd) (B:Bt mg):FnOk P w K mg base CX0 1 f fd ["trains"] spBySizeV:=by
 refine F.ok sc_by_size (fun vs H Q E h=>?_) (fun cdv A outer s H vs Q E hr h=>?_)
 ·obtain⟨a,r,rfl,_⟩:=h
  rfl
 ·obtain⟨a,ps,rfl,⟨us,ha,pr⟩,hpl,k⟩:=h
  refine⟨_,(pss_cons (ps_set (i:=1) sc_by_size.nd rfl (Or.inl rfl) pe_dnewK)
 (pss_cons (ps_for PassesOwn.never rfl (pi_list (pe_callB call_sortedP (by rfl) B.sorted boot_sorted (pa_cons (pv 0) pa_nil))) (pg_tup rfl (pgs_cons (pg_name (i:=2) sc_by_size.nd rfl (Or.inl rfl)) (pgs_cons (pg_name (i:=3) sc_by_size.nd rfl (Or.inl rfl)) pgs_nil)))
 (pss_one (ps_expr (pe_bm PySem.F.plainAttrs_list PySem.F.slot_list_append PySem.F.type_list_append mt_append (pe_dset (pv 1) (pv 2) (pe_lst pa_nil) ⟨rfl,rfl,rfl,rfl⟩) (pa_cons (pv 3) pa_nil)))))
 (pss_one (ps_ret (pv 1))))),?_⟩
  refine fun d hd=>?_
  have g1:=Same.upd (o:=.dK []) hd
  have ed:(upd H d (.dK [])) d=some (.dK (kvG [])):=upd_same
  generalize upd H d (.dK [])=H1 at g1 ed ⊢
  refine⟨_,rfl,a,us,ps,rfl,g1 _ _ ha,pr.mono (TupS.same g1),by omega,fun l us' qs hl pr' hperm hsort=>?_⟩
  have g2:=Same.upd (o:=.lst us') hl
  have el:(upd H1 l (.lst us')) l=some (.lst us'):=upd_same
  have pr2:=pr'.mono (TupS.same g2)
  have ed2:=g2 _ _ ed
  generalize upd H1 l (.lst us')=H2 at g2 el pr2 ed2 ⊢
  have eu:us'.length=ps.length:=by rw[pr2.len,hperm.length_eq]
  have hld:l≠d:=ne_of el ed2 (by intro z;cases z)
  have g12:=g1.trans g2
  have hHl:H l=none:=g1.free hl
  refine⟨l,rfl,⟨_,SqL.of el⟩,for_list (K:=K) (a:=l) (xs:=us') (I1_by_size H a d l us' qs)
   ⟨[],none,none,rfl,g12,el,pr2,⟨ed2,fun g hg=>(nomatch hg),List.Pairwise.nil,List.Pairwise.nil⟩,fun g hg=>(nomatch hg),⟨.refl _,fun g hg=>(nomatch hg)⟩,Nat.le_refl _,fun g hg=>(nomatch hg)⟩ (fun i σ H3 _ z_=>by obtain⟨_,_,_,_,_,e,_⟩:=z_;exact SqL.of e) ?_ ?_⟩
  ·rintro i x σ H3 hi ⟨gs,v1,v2,rfl,sm,el3,pr3,dg,hfr,⟨hw,hac⟩,hgl,hgn⟩
   obtain⟨p,t',hp,rfl,et⟩:=paired_at pr3 hi
   have hple:∀ q∈flat gs,q.1=p.1→q.2≤p.2:=fun q hq e=>by
    obtain⟨k',hk',hqk⟩:=List.mem_iff_getElem.mp (hw.mem_iff.mp hq)
    have hki:k'<i:=by rw[List.length_take]at hk';omega
    have hkq:k'<qs.length:=by rw[List.length_take]at hk';omega
    have hpi:=(List.getElem?_eq_some_iff.mp hp)
    have h3:=List.pairwise_iff_getElem.mp hsort k' i hkq hpi.1 hki
    rw[hpi.2]at h3
    rw[List.getElem_take]at hqk
    rw[hqk]at h3
    unfold ple at h3
    omega
   have htk:∀ l:Trs,l.Perm (p :: flat gs)→l.Perm (qs.take (i+1)):=fun l hl=>by
    rw[List.take_succ,hp]
    refine hl.trans ((hw.cons p).trans ?_)
    exact(List.perm_append_comm (l₁:=qs.take i) (l₂:=[p])).symm
   have hil:i<us'.length:=(List.getElem?_eq_some_iff.mp hi).1
   refine⟨t',_,rfl,SqT.of et,rfl,_,_,rfl,_,_,rfl,rfl,_,rfl,d,rfl,.inl ⟨_,.inl dg.at_⟩,_,rfl,by decide,fun z hz=>?_⟩
   have g4:=Same.upd (o:=.lst []) hz
   have ez:(upd H3 z (.lst [])) z=some (.lst []):=upd_same
   have hHz:H z=none:=sm.free hz
   have nzl:z≠l:=fun e=>by rw[e,el3]at hz;cases hz
   have nzd:z≠d:=fun e=>by rw[e,dg.at_]at hz;cases hz
   generalize upd H3 z (.lst [])=H4 at g4 ez ⊢
   have sm4:=sm.trans g4
   have el4:=g4 _ _ el3
   have pr4:=pr3.mono (TupS.same g4)
   have lst4:∀ g∈gs,H4 g.2.1=some (.lst (g.2.2.map V.int)):=fun g hg=>g4 _ _ (dg.lst g hg)
   have nz:∀ g∈gs,g.2.1≠z:=fun g hg e=>by have:=dg.lst g hg;rw[e,hz]at this;cases this
   refine⟨kvG gs,Sum.inl p.1,g4 _ _ dg.at_,rfl,by simp only[kvG,List.length_map];exact line_of (by omega),fun v hv=>?_,fun hv=>?_⟩
   ·-- the size is there
    rw[valV_kvG]at hv
    obtain⟨g,hg,rfl⟩:=Option.map_eq_some_iff.mp hv
    have hgm:=List.mem_of_find?_eq_some hg
    have hgk:g.1=p.1:=by simpa using List.find?_some hg
    have eg:=lst4 g hgm
    have hgo:=hfr g hgm
    refine⟨.inl ⟨rfl,_,SqL.of eg⟩,_,rfl,g.2.1,_,_,rfl,rfl,eg,(by rw[List.length_map];exact line_of (by have:=(hgn g hgm).1;omega)),?_⟩
    have hmem:∀ g'∈grow p.1 p.2 gs,∃ g0∈gs,g'.2.1=g0.2.1∧g'.1=g0.1∧(g'.2.2=if g0.1=p.1 then g0.2.2++[p.2]else g0.2.2):=fun g' hg'=>by
     obtain⟨g0,h0,rfl⟩:=List.mem_map.mp hg'
     refine⟨g0,h0,?_⟩
     by_cases hk:g0.1=p.1
     ·rw[if_pos hk,if_pos hk];exact⟨rfl,rfl,rfl⟩
     ·rw[if_neg hk,if_neg hk];exact⟨rfl,rfl,rfl⟩
    have hpu:Puts H4 p.1 p.2 gs (grow p.1 p.2 gs):=.inl ⟨⟨g,hgm,hgk⟩,rfl⟩
    have uniq:∀ g0∈gs,g0.2.1=g.2.1→g0=g:=fun g0 h0 e=>nodup_inj (f:=fun g:Grp=>g.2.1) dg.adr h0 hgm e
    refine⟨grow p.1 p.2 gs,_,_,rfl,Same.upd' hgo.1 sm4,by rw[upd_ne (Ne.symm hgo.2.1)];exact el4,pr4.mono (TupS.lst eg),⟨by rw[kvG_grow,upd_ne (Ne.symm hgo.2.2)];exact g4 _ _ dg.at_,fun g' hg'=>?_,by rw[adr_grow];exact dg.adr,by rw[key_grow];exact dg.key⟩,fun g' hg'=>?_,⟨htk _ (flat_puts dg.key hpu),hac.puts hpu hple⟩,by rw[len_grow];omega,fun g' hg'=>?_⟩
    ·obtain⟨g0,h0,e1,e2,e3⟩:=hmem g' hg'
     rw[e1]
     by_cases hadr:g0.2.1=g.2.1
     ·have:=uniq g0 h0 hadr
      subst this
      rw[upd_same,e3,if_pos hgk,List.map_append]
      rfl
     ·have hk:g0.1≠p.1:=fun e=>hadr (by rw[nodup_inj (f:=fun g:Grp=>g.1) dg.key h0 hgm (e.trans hgk.symm)])
      rw[upd_ne hadr,e3,if_neg hk]
      exact lst4 g0 h0
    ·obtain⟨g0,h0,e1,_,_⟩:=hmem g' hg'
     rw[e1]
     exact hfr g0 h0
    ·obtain⟨g0,h0,_,_,e3⟩:=hmem g' hg'
     have:=hgn g0 h0
     rw[e3]
     split
     ·exact⟨by rw[List.length_append,List.length_singleton];omega,by simp⟩
     ·exact⟨by omega,this.2⟩
   ·-- the size is new
    rw[valV_kvG]at hv
    have hno:∀ g∈gs,g.1≠p.1:=fun g hg e=>by
     have:=List.find?_eq_none.mp (Option.map_eq_none_iff.mp hv) g hg
     exact this (by simpa using e)
    have hpu:Puts H3 p.1 p.2 gs (gs++[(p.1,z,[p.2])]):=.inr ⟨hno,z,hz,rfl⟩
    rw[putK_new (V.ref z) (by rw[valV_kvG];exact hv)]
    have ez5:(upd H4 d (.dK (kvG gs++[((Sum.inl p.1:Key),V.ref z)]))) z=some (.lst []):=by rw[upd_ne nzd];exact ez
    refine⟨.inl ⟨rfl,_,SqL.of ez5⟩,_,rfl,z,_,_,rfl,rfl,ez5,(show 0<sizeLine by decide),?_⟩
    have hk6:∀ b o,b≠d→b≠z→H4 b=some o→(upd (upd H4 d (.dK (kvG gs++[((Sum.inl p.1:Key),V.ref z)]))) z (.lst ([]++[V.int p.2]))) b=some o:=fun b o n1 n2 e=>by rw[upd_ne n2,upd_ne n1];exact e
    refine⟨gs++[(p.1,z,[p.2])],_,_,rfl,Same.upd' hHz (Same.upd' hd sm4),hk6 _ _ hld (Ne.symm nzl) el4,pr4.mono (fun t xs e=>hk6 _ _ (ne_of e (g4 _ _ dg.at_) (by intro z;cases z)) (ne_of e ez (by intro z;cases z)) e),⟨?_,fun g hg=>?_,?_,?_⟩,fun g hg=>?_,⟨htk _ (flat_puts dg.key hpu),hac.puts hpu hple⟩,by rw[List.length_append,List.length_singleton];omega,fun g hg=>?_⟩
    ·rw[upd_ne (Ne.symm nzd),upd_same]
     unfold kvG
     rw[List.map_append]
     rfl
    ·rcases List.mem_append.mp hg with h | h
     ·exact hk6 _ _ (hfr g h).2.2 (nz g h) (lst4 g h)
     ·rw[List.mem_singleton.mp h];exact upd_same
    ·rw[List.map_append,List.nodup_append]
     refine⟨dg.adr,by simp,fun x hx y hy=>?_⟩
     obtain⟨g,hg,rfl⟩:=List.mem_map.mp hx
     have hy':y=z:=by simpa using hy
     rw[hy']
     exact nz g hg
    ·rw[List.map_append,List.nodup_append]
     refine⟨dg.key,by simp,fun x hx y hy=>?_⟩
     obtain⟨g,hg,rfl⟩:=List.mem_map.mp hx
     have hy':y=p.1:=by simpa using hy
     rw[hy']
     exact hno g hg
    ·rcases List.mem_append.mp hg with h | h
     ·exact hfr g h
     ·rw[List.mem_singleton.mp h];exact⟨hHz,nzl,nzd⟩
    ·rcases List.mem_append.mp hg with h | h
     ·have:=hgn g h;exact⟨by omega,this.2⟩
     ·rw[List.mem_singleton.mp h];exact⟨by show 1≤i+1;omega,by simp⟩
  ·rintro σ H3 ⟨gs,v1,v2,rfl,sm,el3,pr3,dg,hfr,⟨hw,hac⟩,hgl,hgn⟩
   refine⟨_,rfl,k d gs H3 hd sm dg ?_ hac fun g hg=>⟨(hgn g hg).2,(hfr g hg).1⟩⟩
   rw[show us'.length=qs.length from pr3.len,List.take_length]at hw
   exact hw.trans hperm
noncomputable abbrev s_crowd:Stmt:=top 19
theorem sc_crowd:FnScope ["offsets","size"] ["offsets","size"] (defScope s_crowd):=⟨rfl,rfl,rfl,by decide +kernel,rfl,by decide +kernel,by decide +kernel⟩
theorem ok_crowd {f:Addr} {fd:FuncData} (F:Fun K "crowd" "crowd" s_crowd f fd) (B:Bt mg):FnOk P w K mg base CX0 1 f fd ["offsets","size"] spCrowdS:=by
 refine F.ok sc_crowd (fun vs H Q E h=>?_) (fun cdv A outer s H vs Q E hr h=>?_)
 ·obtain⟨d,r,j,rfl,_⟩:=h
  rfl
 ·obtain⟨d,gs,j,rfl,dg,hl,hgn,k⟩:=h
  refine⟨_,(pss_one (ps_ret (pe_op op_mul pe_int (pe_callB (call_sum rfl) (by rfl) B.sum boot_sum (pa_cons (pe_thaw (pe_comp ["other","some"] ["size"] [1] rfl (.of (show compOk (defScope s_crowd) _ ["offsets","size"] [1] ["size"]=true by decide +kernel)) (pi_items (pv 0)) (fun _ _ _=>(pg_tupK (n:=2) K rfl rfl (pgs_cons (pg_name (i:=0) (show (["other","some","size"]:List Str).Nodup by decide +kernel) rfl (Or.inl rfl)) (pgs_cons (pg_name (i:=1) (show (["other","some","size"]:List Str).Nodup by decide +kernel) rfl (Or.inl rfl)) pgs_nil)))) (kg_tup (kgs_cons (by decide) (kgs_cons (by decide) kgs_nil))) (fun _ _ _=>pif_nil) (fun _ _ _=>(pe_op op_mul (pe_callB (call_min2 rfl) (by rfl) B.min boot_min (pa_cons (pv 2) (pa_cons (pv 0) pa_nil))) (pe_callB (call_len_seqK K rfl) (by rfl) B.len PySem.boot_len (pa_cons (pv 1) pa_nil)))))) pa_nil))))),?_⟩
  refine⟨d,kvG gs,dg.at_,_,rfl,d,kvG gs,rfl,dg.at_,fun od=>?_⟩
  have gd:SameD d H (upd H d (.frz od (.dK (kvG gs)))):=fun b o n e=>by rw[upd_ne n];exact e
  have ed:(upd H d (.frz od (.dK (kvG gs)))) d=some (.frz od (.dK (kvG gs))):=upd_same
  have hlst:∀ g∈gs,(upd H d (.frz od (.dK (kvG gs)))) g.2.1=some (.lst (g.2.2.map V.int)):=fun g hg=>gd _ _ (ne_of (dg.lst g hg) dg.at_ (by intro z;cases z)) (dg.lst g hg)
  generalize upd H d (.frz od (.dK (kvG gs)))=H1 at gd ed hlst ⊢
  have hkl:(kvG gs).length=gs.length:=by simp[kvG]
  refine comp_items (d:=d) (od:=od) (kvs:=kvG gs) (fun i ys H2=>Same H1 H2∧ys=((gs.take i).map (fun g:Grp=>lesJ j g.1 * (g.2.2.length:Int))).map V.int) ⟨Same.refl _,rfl⟩ ?_ ?_ ?_
  ·rintro i ys H2 hi ⟨g2,rfl⟩
   exact⟨g2 _ _ ed,by simp only[List.length_map,List.length_take];exact line_of (by omega)⟩
  ·rintro i ky x ys H2 t hx ⟨g2,rfl⟩ ht
   obtain⟨g,hg,hgx⟩:∃ g,gs[i]?=some g∧((Sum.inl g.1:Key),V.ref g.2.1)=(ky,x):=by
    unfold kvG at hx
    rw[List.getElem?_map]at hx
    obtain⟨g,h1,h2⟩:=Option.map_eq_some_iff.mp hx
    exact⟨g,h1,h2⟩
   cases hgx
   have hgm:=List.mem_of_getElem? hg
   have g3:=g2.trans (Same.upd (o:=.tup [kV (Sum.inl g.1),V.ref g.2.1]) ht)
   refine⟨t,_,rfl,SqT.of upd_same,rfl,_,_,rfl,_,_,rfl,rfl,_,rfl,_,rfl,_,_,rfl,_,rfl,g.2.1,_,rfl,.inl (SqL.of (g3 _ _ (hlst g hgm))),_,_,rfl,rfl,.inr ⟨?_,?_⟩,g3,?_⟩
   ·have:=hgn g hgm;rw[List.length_map];omega
   ·have:=hgn g hgm;rw[List.length_map];omega
   ·rw[List.take_succ,hg]
    simp[lesJ]
  ·rintro ys H2 ⟨g2,rfl⟩ D hD
   have hnD:D≠d:=fun z=>by rw[z,g2 _ _ ed]at hD;cases hD
   refine⟨od,by rw[upd_ne (Ne.symm hnD)];exact g2 _ _ ed,D,gs.map (fun g:Grp=>lesJ j g.1 * (g.2.2.length:Int)),rfl,by rw[upd_ne hnD,upd_same,hkl,List.take_length],_,_,rfl,rfl,.inl ⟨by decide,by decide⟩,k _ fun b o e=>?_⟩
   by_cases hb:b=d
   ·subst hb
    rw[upd_same,← dg.at_]
    exact e
   ·rw[upd_ne hb]
    exact(g2.trans (Same.upd hD)) _ _ (gd b o hb e)
noncomputable abbrev s_crowds:Stmt:=top 20
theorem sc_crowds:FnScope ["offsets","found","longer","total","below","size"] ["offsets"] (defScope s_crowds):=⟨rfl,rfl,rfl,by decide +kernel,rfl,by decide +kernel,by decide +kernel⟩
inductive I1_crowds (H:Hp) (d:Addr) (e:Addr) (l:Addr) (gs:List Grp) (ms:List Int) (i:Nat) (σ:St) (H6:Hp):Prop
 | mk (kvs:List (Key×V)) (b:Int) (v:Option V) (k0_:σ=[some (.ref d),some (.ref e),some (.int (lng b gs)),some (.int (2 * wgt (lesJ b) gs)),some (.int b),v]) (k1_:Same H H6) (k2_:H6 l=some (.lst (ms.map V.int))) (k3_:H6 e=some (.dK kvs)) (k4_:kvs.length≤i) (k5_:(∀ g∈gs,b<g.1→g.1∈ms.drop i)) (k6_:(∀ m∈ms.drop i,b<m)) (k7_:∀ m∈ms.take i,valV kvs (Sum.inl m:Key)=some (.int (2 * wgt (lesJ m) gs))):I1_crowds H d e l gs ms i σ H6
theorem ok_crowds {f:Addr} {fd:FuncData} (F:Fun K "crowds" "crowds" s_crowds f fd) (B:Bt mg):FnOk P w K mg base CX0 1 f fd ["offsets"] spCrowdsV:=by
 refine F.ok sc_crowds (fun vs H Q E h=>?_) (fun cdv A outer s H vs Q E hr h=>?_)
 ·obtain⟨d,gs,rfl,_⟩:=h
  rfl
 ·obtain⟨d,gs,rfl,dg,gd0,hl,hgn,k⟩:=h
  have hu1:=hu_of hr
  refine⟨_,(pss_cons (ps_set (i:=1) sc_crowds.nd rfl (Or.inl rfl) pe_dnewK)
 (pss_cons (ps_set (i:=2) sc_crowds.nd rfl (Or.inl rfl) (pe_callB (call_sum rfl) (by rfl) B.sum boot_sum (pa_cons (pe_thaw (pe_comp ["some"] [] [] rfl (.of (show compOk (defScope s_crowds) _ ["offsets","found","longer","total","below","size"] [] []=true by decide +kernel)) (pi_values (pv 0)) (fun _ _ _=>(pg_name (i:=0) (show (["some"]:List Str).Nodup by decide +kernel) rfl (Or.inl rfl))) (kg_name (by decide)) (fun _ _ _=>pif_nil) (fun _ _ _=>(pe_callB (call_len_seqK K rfl) (by rfl) B.len PySem.boot_len (pa_cons (pv 0) pa_nil))))) pa_nil)))
 (pss_cons (ps_set (i:=3) sc_crowds.nd rfl (Or.inl rfl) pe_int)
 (pss_cons (ps_set (i:=4) sc_crowds.nd rfl (Or.inl rfl) pe_int)
 (pss_cons (ps_for PassesOwn.never rfl (pi_list (pe_callB (call_sortedD rfl) (by rfl) B.sorted boot_sorted (pa_cons (pv 0) pa_nil))) (pg_name (i:=5) sc_crowds.nd rfl (Or.inl rfl))
 (pss_cons (ps_aug (i:=3) sc_crowds.nd rfl (Or.inl rfl) (pe_op op_mul (pe_op op_mul pe_int (pv 2)) (pe_op op_sub (pv 5) (pv 4))) ip_add)
 (pss_cons (ps_dput hu1 (pv 1) (pv 5) (pv 3) rfl)
 (pss_cons (ps_aug (i:=2) sc_crowds.nd rfl (Or.inl rfl) (pe_callB call_len_seq (by rfl) B.len PySem.boot_len (pa_cons (pe_dget hu1 (pv 0) (pv 5) (fun _ _=>rfl)) pa_nil)) ip_sub)
 (pss_one (ps_set (i:=4) sc_crowds.nd rfl (Or.inl rfl) (pv 5)))))))
 (pss_one (ps_ret (pv 1)))))))),?_⟩
  refine fun e he=>?_
  have g1:=Same.upd (o:=.dK []) he
  have ee:(upd H e (.dK [])) e=some (.dK []):=upd_same
  have hed:e≠d:=fun z=>by rw[z,dg.at_]at he;cases he
  generalize upd H e (.dK [])=H1 at g1 ee ⊢
  have dg1:DG H1 d gs:=⟨g1 _ _ dg.at_,fun g hg=>g1 _ _ (dg.lst g hg),dg.adr,dg.key⟩
  refine⟨d,kvG gs,dg1.at_,_,rfl,d,kvG gs,rfl,dg1.at_,fun od=>?_⟩
  have gd:SameD d H1 (upd H1 d (.frz od (.dK (kvG gs)))):=fun b o n e=>by rw[upd_ne n];exact e
  have ed:(upd H1 d (.frz od (.dK (kvG gs)))) d=some (.frz od (.dK (kvG gs))):=upd_same
  have hlst:∀ g∈gs,(upd H1 d (.frz od (.dK (kvG gs)))) g.2.1=some (.lst (g.2.2.map V.int)):=fun g hg=>gd _ _ (ne_of (dg1.lst g hg) dg1.at_ (by intro z;cases z)) (dg1.lst g hg)
  generalize upd H1 d (.frz od (.dK (kvG gs)))=H2 at gd ed hlst ⊢
  have hkl:(kvG gs).length=gs.length:=by simp[kvG]
  refine comp_values (d:=d) (od:=od) (kvs:=kvG gs) (fun i ys H3=>H3=H2∧ys=((gs.take i).map (fun g:Grp=>(g.2.2.length:Int))).map V.int) ⟨rfl,rfl⟩ ?_ ?_ ?_
  ·rintro i ys H3 hi ⟨rfl,rfl⟩
   exact⟨ed,by simp only[List.length_map,List.length_take];exact line_of (by omega)⟩
  ·rintro i ky x ys H3 hx ⟨rfl,rfl⟩
   obtain⟨g,hg,hgx⟩:∃ g,gs[i]?=some g∧((Sum.inl g.1:Key),V.ref g.2.1)=(ky,x):=by
    unfold kvG at hx
    rw[List.getElem?_map]at hx
    obtain⟨g,h1,h2⟩:=Option.map_eq_some_iff.mp hx
    exact⟨g,h1,h2⟩
   cases hgx
   have hgm:=List.mem_of_getElem? hg
   refine⟨_,rfl,g.2.1,_,rfl,.inl (SqL.of (hlst g hgm)),rfl,?_⟩
   rw[List.take_succ,hg]
   simp
  ·rintro ys H3 ⟨rfl,rfl⟩ D hD
   have hnD:D≠d:=fun z=>by rw[z,ed]at hD;cases hD
   refine⟨od,by rw[upd_ne (Ne.symm hnD)];exact ed,D,gs.map (fun g:Grp=>(g.2.2.length:Int)),rfl,by rw[upd_ne hnD,upd_same,hkl,List.take_length],?_⟩
   have g4:Same H1 (upd (upd H3 D (.lst (((gs.take (kvG gs).length).map (fun g:Grp=>(g.2.2.length:Int))).map V.int))) d (.dK (kvG gs))):=fun b o q=>by
    by_cases hb:b=d
    ·subst hb
     rw[upd_same,← dg1.at_]
     exact q
    ·rw[upd_ne hb]
     exact(Same.upd hD) _ _ (gd b o hb q)
   generalize upd (upd H3 D (.lst (((gs.take (kvG gs).length).map (fun g:Grp=>(g.2.2.length:Int))).map V.int))) d (.dK (kvG gs))=H4 at g4 ⊢
   have hks:KeysI (kvG gs) (gs.map (·.1)):=by unfold KeysI kvG;simp[Function.comp]
   have dg4:DG H4 d gs:=⟨g4 _ _ dg1.at_,fun g hg=>g4 _ _ (dg1.lst g hg),dg.adr,dg.key⟩
   have ee4:=g4 _ _ ee
   have sm4:=g1.trans g4
   have hL0:=lng_zero gd0
   rw[← hL0]
   refine⟨_,rfl,d,kvG gs,gs.map (·.1),rfl,dg4.at_,hks,by rw[List.length_map];omega,fun l ms hnl hp hs=>?_⟩
   have g5:=Same.upd (o:=.lst (ms.map V.int)) hnl
   have el:(upd H4 l (.lst (ms.map V.int))) l=some (.lst (ms.map V.int)):=upd_same
   have hHl:H l=none:=sm4.free hnl
   have nle:l≠e:=fun z=>by rw[z,ee4]at hnl;cases hnl
   generalize upd H4 l (.lst (ms.map V.int))=H5 at g5 el ⊢
   have sm5:=sm4.trans g5
   have ee5:=g5 _ _ ee4
   have hml:ms.length=gs.length:=by rw[hp.length_eq,List.length_map]
   have hst:=strict_of hp hs dg.key
   refine⟨l,rfl,⟨_,SqL.of el⟩,for_list (K:=K) (a:=l) (xs:=ms.map V.int) (I1_crowds H d e l gs ms)
    ⟨[],0,none,by rw[les_zero gd0];rfl,sm5,el,ee5,Nat.le_refl _,fun g hg _=>hp.mem_iff.mpr (List.mem_map.mpr ⟨g,hg,rfl⟩),fun m hm=>by
     obtain⟨g,hg,e⟩:=List.mem_map.mp (hp.mem_iff.mp hm)
     have:=(gd0 g hg).1
     have e':g.1=m:=e
     omega,fun m hm=>by simp at hm⟩ (fun i σ H6 _ z_=>by obtain⟨_,_,_,_,_,q,_⟩:=z_;exact SqL.of q) ?_ ?_⟩
   ·rintro i x σ H6 hi ⟨kvs,b,v,rfl,sm6,el6,ee6,hkl6,hin,hab,hall⟩
    rw[List.getElem?_map]at hi
    obtain⟨m,hm,rfl⟩:=Option.map_eq_some_iff.mp hi
    have hil:i<ms.length:=(List.getElem?_eq_some_iff.mp hm).1
    obtain⟨g,hg,hgm⟩:=List.mem_map.mp (hp.mem_iff.mp (List.mem_of_getElem? hm))
    have hgm:g.1=m:=hgm
    subst hgm
    have hdr:ms.drop i=g.1 :: ms.drop (i+1):=by
     rw[List.drop_eq_getElem_cons hil]
     rw[List.getElem?_eq_getElem hil]at hm
     rw[Option.some.inj hm]
    have hbm:b<g.1:=hab g.1 (by rw[hdr];exact List.mem_cons_self)
    have hstd:(g.1 :: ms.drop (i+1)).Pairwise (·<·):=by rw[← hdr];exact hst.sublist (List.drop_sublist _ _)
    have hnx:∀ x∈gs,b<x.1→g.1≤x.1:=fun x hx hb=>by
     have:=hin x hx hb
     rw[hdr]at this
     rcases List.mem_cons.mp this with e | e
     ·omega
     ·have:=(List.pairwise_cons.mp hstd).1 _ e;omega
    have e1:=crowd_step (Int.le_of_lt hbm) hnx
    have e2:=lng_step hbm hnx dg.key hg rfl
    obtain⟨hb1,hb2⟩:=lng_le (b:=b) hgn
    have dg6:DG H6 d gs:=⟨sm6 _ _ dg.at_,fun g hg=>sm6 _ _ (dg.lst g hg),dg.adr,dg.key⟩
    have e3:2 * wgt (lesJ b) gs+2 * lng b gs * (g.1 - b)=2 * wgt (lesJ g.1) gs:=by
     rw[e1,Int.mul_add,Int.mul_assoc,Int.mul_comm (lng b gs)]
    refine⟨_,rfl,_,rfl,_,_,rfl,rfl,.inl ⟨by decide,by decide⟩,_,rfl,_,rfl,_,_,rfl,rfl,_,_,rfl,rfl,.inl ⟨by omega,by omega⟩,?_⟩
    refine⟨_,_,rfl,rfl,?_⟩
    refine⟨_,rfl,_,rfl,_,rfl,e,_,rfl,DPut.k (k:=Sum.inl g.1) ee6 (line_of (by omega)),?_⟩
    have dg7:DG (upd H6 e (.dK (putK kvs (Sum.inl g.1:Key) (V.int (2 * wgt (lesJ b) gs+2 * lng b gs * (g.1 - b)))))) d gs:=⟨by rw[upd_ne (Ne.symm hed)];exact dg6.at_,fun x hx=>by rw[upd_ne (ne_of (dg6.lst x hx) ee6 (by intro z;cases z))];exact dg6.lst x hx,dg.adr,dg.key⟩
    refine⟨_,rfl,_,rfl,_,rfl,d,_,rfl,dg7.get hg,g.2.1,_,rfl,.inl (SqL.of (dg7.lst g hg)),?_⟩
    refine⟨_,_,rfl,rfl,?_⟩
    refine⟨_,rfl,?_⟩
    refine⟨putK kvs (Sum.inl g.1:Key) (V.int (2 * wgt (lesJ b) gs+2 * lng b gs * (g.1 - b))),g.1,_,by rw[e2,← e3,← List.length_map (as:=g.2.2) V.int];rfl,Same.upd' he sm6,by rw[upd_ne nle];exact el6,upd_same,Nat.le_trans (length_putK ..) (by omega),fun x hx hgt=>?_,fun m' hm'=>(List.pairwise_cons.mp hstd).1 m' hm',fun m' hm'=>?_⟩
    ·have:=hin x hx (by omega)
     rw[hdr]at this
     rcases List.mem_cons.mp this with e | e
     ·omega
     ·exact e
    rw[valV_put]
    by_cases hmk:(Sum.inl m':Key)=Sum.inl g.1
    ·rw[if_pos hmk,e3]
     rw[Sum.inl.inj hmk]
    ·rw[if_neg hmk]
     rw[List.take_succ,hm]at hm'
     rcases List.mem_append.mp hm' with h | h
     ·exact hall m' h
     ·exact absurd (by have:m'=g.1:=by simpa using h
                       rw[this]) hmk
   ·rintro σ H6 ⟨kvs,b,v,rfl,sm6,el6,ee6,hkl6,_,_,hall⟩
    refine⟨_,rfl,k e kvs H6 he sm6 ee6 fun g hg=>?_⟩
    rw[List.length_map,List.take_length]at hall
    rw[hall g.1 (hp.mem_iff.mpr (List.mem_map.mpr ⟨g,hg,rfl⟩)),wgt_les]
noncomputable abbrev s_drop_last:Stmt:=top 23
theorem sc_drop_last:FnScope ["offsets","size"] ["offsets","size"] (defScope s_drop_last):=⟨rfl,rfl,rfl,by decide +kernel,rfl,by decide +kernel,by decide +kernel⟩
theorem ok_drop_last {f:Addr} {fd:FuncData} (F:Fun K "drop_last" "drop_last" s_drop_last f fd) (B:Bt mg):FnOk P w K mg base CX0 1 f fd ["offsets","size"] spDropLast:=by
 refine F.ok sc_drop_last (fun vs H Q E h=>?_) (fun cdv A outer s H vs Q E hr h=>?_)
 ·obtain⟨d,gs,g,rfl,_⟩:=h
  rfl
 ·obtain⟨d,gs,g,rfl,dg,hg,hne,k⟩:=h
  have hu1:=hu_of hr
  refine⟨_,(pss_cons (ps_expr (pe_bm0 PySem.F.plainAttrs_list PySem.F.slot_list_pop PySem.F.type_list_pop mt_pop (pe_dget hu1 (pv 0) (pv 1) (fun _ _=>rfl))))
 (pss_one (ps_if (pt_not (pt_truth (pe_dget hu1 (pv 0) (pv 1) (fun _ _=>rfl)) (fun _=>rfl)))
 (pss_one (ps_ddel (pv 0) (pv 1)))
 pss_nil))),?_⟩
  have hnn:g.2.2.map V.int≠[]:=by simpa using hne
  have hlast:(g.2.2.map V.int)[(g.2.2.map V.int).length - 1]?=some ((g.2.2.map V.int).getLast hnn):=by rw[← List.getLast?_eq_getElem?];exact List.getLast?_eq_getLast hnn
  refine⟨_,rfl,_,rfl,d,_,rfl,dg.get hg,.inl ⟨rfl,_,SqL.of (dg.lst g hg)⟩,g.2.1,_,_,rfl,rfl,dg.lst g hg,hlast,?_⟩
  rw[← List.map_dropLast]
  have dg2:=dg.pops hg
  have st2:StayG d gs H (upd H g.2.1 (.lst (g.2.2.dropLast.map V.int))):=fun b o _ n e=>by rw[upd_ne (n g hg)];exact e
  generalize upd H g.2.1 (.lst (g.2.2.dropLast.map V.int))=H2 at dg2 st2 ⊢
  have hg':(g.1,g.2.1,g.2.2.dropLast)∈pops g.1 gs:=List.mem_map.mpr ⟨g,hg,if_pos rfl⟩
  have hget:DGet H2 d (.int g.1) (some (.ref g.2.1)):=dg2.get (g:=(g.1,g.2.1,g.2.2.dropLast)) hg'
  have hls:H2 g.2.1=some (.lst (g.2.2.dropLast.map V.int)):=dg2.lst (g.1,g.2.1,g.2.2.dropLast) hg'
  refine⟨_,rfl,_,rfl,d,_,rfl,hget,_,.inl ⟨_,SqL.of hls,rfl⟩,?_⟩
  have hany:((pops g.1 gs).any (fun x=>decide (x.1=g.1) && x.2.2.isEmpty))=g.2.2.dropLast.isEmpty:=by
   cases hE:g.2.2.dropLast.isEmpty with
   | true=>exact List.any_eq_true.mpr ⟨_,hg',by simp[hE]⟩
   | false =>
    rw[List.any_eq_false]
    intro x hx
    simp only[Bool.and_eq_true,decide_eq_true_eq,not_and]
    intro e
    have:x=(g.1,g.2.1,g.2.2.dropLast):=nodup_inj (f:=fun g:Grp=>g.1) dg2.key hx hg' e
    rw[this]
    simp[hE]
  have hm:(g.2.2.dropLast.map V.int).isEmpty=g.2.2.dropLast.isEmpty:=by rw[List.isEmpty_map]
  simp only[hm]
  cases hE:g.2.2.dropLast.isEmpty with
  | true =>
   refine⟨_,rfl,_,rfl,d,_,Sum.inl g.1,rfl,dg2.at_,rfl,?_,k _ (fun b o n1 n2 e=>by rw[upd_ne n1];exact st2 b o n1 n2 e) ?_⟩
   ·rw[valV_kvG,find_key dg2.key hg']
    rfl
   ·unfold shr
    rw[hany,hE,if_pos rfl]
    exact dg2.outs g.1
  | false =>
   refine k _ st2 ?_
   unfold shr
   rw[hany,hE,if_neg Bool.false_ne_true]
   exact dg2
noncomputable abbrev s_add_train:Stmt:=top 24
theorem sc_add_train:FnScope ["offsets","size","place","offset"] ["offsets","size","place"] (defScope s_add_train):=⟨rfl,rfl,rfl,by decide +kernel,rfl,by decide +kernel,by decide +kernel⟩
theorem ok_add_train {f:Addr} {fd:FuncData} (F:Fun K "add_train" "add_train" s_add_train f fd) (B:Bt mg) (F_crowd:FnAt P w K mg base "crowd" 1 ["offsets","size"] spCrowdS):FnOk P w K mg base CX0 2 f fd ["offsets","size","place"] spAddTrainV:=by
 refine F.ok sc_add_train (fun vs H Q E h=>?_) (fun cdv A outer s H vs Q E hr h=>?_)
 ·obtain⟨d,gs,k,p,rfl,_⟩:=h
  rfl
 ·obtain⟨d,gs,k,p,rfl,dg,hl,hgn,kk⟩:=h
  refine⟨_,(pss_cons (ps_set (i:=3) sc_add_train.nd rfl (Or.inl rfl) (pe_op op_sub (pe_op op_sub (pv 2) (pe_fn F_crowd hr rfl (pa_cons (pv 0) (pa_cons (pv 1) pa_nil)))) (pe_op op_mul pe_int (pv 1))))
 (pss_one (ps_expr (pe_bm PySem.F.plainAttrs_list PySem.F.slot_list_append PySem.F.type_list_append mt_append (pe_dset (pv 0) (pv 1) (pe_lst pa_nil) ⟨rfl,rfl,rfl,rfl⟩) (pa_cons (pv 3) pa_nil))))),?_⟩
  refine⟨_,rfl,_,rfl,_,rfl,d,gs,k,rfl,dg,hl,hgn,fun H3 sm=>?_⟩
  refine⟨_,_,rfl,rfl,_,rfl,_,_,rfl,rfl,.inl ⟨by decide,by decide⟩,_,_,rfl,rfl,?_⟩
  have dg3:DG H3 d gs:=⟨sm _ _ dg.at_,fun g hg=>sm _ _ (dg.lst g hg),dg.adr,dg.key⟩
  refine⟨_,rfl,d,rfl,.inl ⟨_,.inl dg3.at_⟩,_,rfl,by decide,fun z hz=>?_⟩
  have g4:=Same.upd (o:=.lst []) hz
  have ez:(upd H3 z (.lst [])) z=some (.lst []):=upd_same
  have hHz:H z=none:=sm.free hz
  have nzd:z≠d:=fun e=>by rw[e,dg3.at_]at hz;cases hz
  generalize upd H3 z (.lst [])=H4 at g4 ez ⊢
  have sm4:=sm.trans g4
  have lst4:∀ g∈gs,H4 g.2.1=some (.lst (g.2.2.map V.int)):=fun g hg=>g4 _ _ (dg3.lst g hg)
  have nz:∀ g∈gs,g.2.1≠z:=fun g hg e=>by have:=dg3.lst g hg;rw[e,hz]at this;cases this
  have hgd:∀ g∈gs,g.2.1≠d:=fun g hg=>ne_of (dg3.lst g hg) dg3.at_ (by intro z;cases z)
  refine⟨kvG gs,Sum.inl k,g4 _ _ dg3.at_,rfl,by simp only[kvG,List.length_map];exact line_of (by omega),fun v hv=>?_,fun hv=>?_⟩
  ·rw[valV_kvG]at hv
   obtain⟨g,hg,rfl⟩:=Option.map_eq_some_iff.mp hv
   have hgm:=List.mem_of_find?_eq_some hg
   have hgk:g.1=k:=by simpa using List.find?_some hg
   have eg:=lst4 g hgm
   refine⟨.inl ⟨rfl,_,SqL.of eg⟩,_,rfl,g.2.1,_,_,rfl,rfl,eg,(by rw[List.length_map];exact line_of (by have:=hgn g hgm;omega)),?_⟩
   have hmem:∀ g'∈grow k (p - 2 * wgt (lesJ k) gs - 2 * k) gs,∃ g0∈gs,g'.2.1=g0.2.1∧g'.1=g0.1∧(g'.2.2=if g0.1=k then g0.2.2++[(p - 2 * wgt (lesJ k) gs - 2 * k)]else g0.2.2):=fun g' hg'=>by
    obtain⟨g0,h0,rfl⟩:=List.mem_map.mp hg'
    refine⟨g0,h0,?_⟩
    by_cases hk:g0.1=k
    ·rw[if_pos hk,if_pos hk];exact⟨rfl,rfl,rfl⟩
    ·rw[if_neg hk,if_neg hk];exact⟨rfl,rfl,rfl⟩
   have uniq:∀ g0∈gs,g0.2.1=g.2.1→g0=g:=fun g0 h0 e=>nodup_inj (f:=fun g:Grp=>g.2.1) dg.adr h0 hgm e
   refine kk (grow k (p - 2 * wgt (lesJ k) gs - 2 * k) gs) _ (fun b u n1 n2 e=>by rw[upd_ne (n2 g hgm)];exact sm4 b u e) ⟨by rw[kvG_grow,upd_ne (Ne.symm (hgd g hgm))];exact g4 _ _ dg3.at_,fun g' hg'=>?_,by rw[adr_grow];exact dg.adr,by rw[key_grow];exact dg.key⟩ (.inl ⟨⟨g,hgm,hgk⟩,rfl⟩)
   obtain⟨g0,h0,e1,e2,e3⟩:=hmem g' hg'
   rw[e1]
   by_cases hadr:g0.2.1=g.2.1
   ·have:=uniq g0 h0 hadr
    subst this
    rw[upd_same,e3,if_pos hgk,List.map_append]
    rfl
   ·have hk:g0.1≠k:=fun e=>hadr (by rw[nodup_inj (f:=fun g:Grp=>g.1) dg.key h0 hgm (e.trans hgk.symm)])
    rw[upd_ne hadr,e3,if_neg hk]
    exact lst4 g0 h0
  ·rw[valV_kvG]at hv
   have hno:∀ g∈gs,g.1≠k:=fun g hg e=>by
    have:=List.find?_eq_none.mp (Option.map_eq_none_iff.mp hv) g hg
    exact this (by simpa using e)
   rw[putK_new (V.ref z) (by rw[valV_kvG];exact hv)]
   have ez5:(upd H4 d (.dK (kvG gs++[((Sum.inl k:Key),V.ref z)]))) z=some (.lst []):=by rw[upd_ne nzd];exact ez
   refine⟨.inl ⟨rfl,_,SqL.of ez5⟩,_,rfl,z,_,_,rfl,rfl,ez5,(show 0<sizeLine by decide),?_⟩
   have hk6:∀ b u,b≠d→b≠z→H4 b=some u→(upd (upd H4 d (.dK (kvG gs++[((Sum.inl k:Key),V.ref z)]))) z (.lst ([]++[V.int (p - 2 * wgt (lesJ k) gs - 2 * k)]))) b=some u:=fun b u n1 n2 e=>by rw[upd_ne n2,upd_ne n1];exact e
   refine kk (gs++[(k,z,[(p - 2 * wgt (lesJ k) gs - 2 * k)])]) _ (fun b u n1 n2 e=>hk6 b u n1 (fun e'=>by rw[e',hHz]at e;cases e) (sm4 b u e)) ⟨?_,fun g hg=>?_,?_,?_⟩ (.inr ⟨hno,z,hHz,rfl⟩)
   ·rw[upd_ne (Ne.symm nzd),upd_same]
    unfold kvG
    rw[List.map_append]
    rfl
   ·rcases List.mem_append.mp hg with h | h
    ·exact hk6 _ _ (hgd g h) (nz g h) (lst4 g h)
    ·rw[List.mem_singleton.mp h];exact upd_same
   ·rw[List.map_append,List.nodup_append]
    refine⟨dg.adr,by simp,fun x hx y hy=>?_⟩
    obtain⟨g,hg,rfl⟩:=List.mem_map.mp hx
    have hy':y=z:=by simpa using hy
    rw[hy']
    exact nz g hg
   ·rw[List.map_append,List.nodup_append]
    refine⟨dg.key,by simp,fun x hx y hy=>?_⟩
    obtain⟨g,hg,rfl⟩:=List.mem_map.mp hx
    have hy':y=k:=by simpa using hy
    rw[hy']
    exact hno g hg
noncomputable abbrev s_add_stone:Stmt:=top 22
theorem sc_add_stone:FnScope ["offsets","place","crowded","ready","size"] ["offsets","place"] (defScope s_add_stone):=⟨rfl,rfl,rfl,by decide +kernel,rfl,by decide +kernel,by decide +kernel⟩
theorem ok_add_stone {f:Addr} {fd:FuncData} (F:Fun K "add_stone" "add_stone" s_add_stone f fd) (B:Bt mg) (F_crowds:FnAt P w K mg base "crowds" 1 ["offsets"] spCrowdsV)
 (F_drop_last:FnAt P w K mg base "drop_last" 1 ["offsets","size"] spDropLast) (F_add_train:FnAt P w K mg base "add_train" 2 ["offsets","size","place"] spAddTrainV):FnOk P w K mg base CX0 3 f fd ["offsets","place"] spAddStone:=by
 refine F.ok sc_add_stone (fun vs H Q E h=>?_) (fun cdv A outer s H vs Q E hr h=>?_)
 ·obtain⟨d,gs,p,H0,rfl,_⟩:=h
  rfl
 ·obtain⟨d,gs,p,H0,rfl,dg,gd,ac,hsto,bd,smH,hHd,hfr,k⟩:=h
  have hu1:=hu_of hr
  obtain⟨hb1,hb2⟩:=GoodG.bound gd
  refine⟨_,(pss_cons (ps_set (i:=2) sc_add_stone.nd rfl (Or.inr rfl) (pe_fn F_crowds hr rfl (pa_cons (pv 0) pa_nil)))
 (pss_cons (ps_thaw (ps_setc (i:=3) ["size","some"] ["place","crowded"] [1,2] rfl sc_add_stone.nd rfl rfl (.of (show compOk (defScope s_add_stone) _ ["offsets","place","crowded","ready","size"] [1,2] ["place","crowded"]=true by decide +kernel)) (pi_items (pv 0)) (fun _ _ _=>(pg_tupK (n:=2) K rfl rfl (pgs_cons (pg_name (i:=0) (show (["size","some","place","crowded"]:List Str).Nodup by decide +kernel) rfl (Or.inl rfl)) (pgs_cons (pg_name (i:=1) (show (["size","some","place","crowded"]:List Str).Nodup by decide +kernel) rfl (Or.inl rfl)) pgs_nil)))) (kg_tup (kgs_cons (by decide) (kgs_cons (by decide) kgs_nil))) (fun _ _ _=>pif_one (pt_cmpR op_eqI (pe_ix (ix_listK K rfl) (pv 1) (pe_un un_neg pe_int) (fun _ _=>rfl)) (pe_op op_sub (pe_op op_sub (pv 2) pe_int) (pe_dget hu1 (pv 3) (pv 0) (fun _ _=>rfl))) (nomark _))) (fun _ _ _=>(pv 0)) (by first | rfl | decide +kernel)))
 (pss_cons (ps_set (i:=4) sc_add_stone.nd rfl (Or.inl rfl) (pe_maxdef rfl rfl B.max (pv 3) pe_int))
 (pss_cut (ps_if (pt_cmpR op_gt (pv 4) pe_int (nomark _))
 (pss_one (ps_expr (pe_fn F_drop_last hr rfl (pa_cons (pv 0) (pa_cons (pv 4) pa_nil)))))
 pss_nil)
 (pss_one (ps_expr (pe_fn F_add_train hr rfl (pa_cons (pv 0) (pa_cons (pe_op op_add (pv 4) pe_int) (pa_cons (pv 1) pa_nil)))))))))),?_⟩
  refine⟨_,rfl,d,gs,rfl,dg,gd,by omega,fun g hg=>by have:=hb2 g hg;omega,fun e kvs H5 he sm5 ee hall=>?_⟩
  have dg5:DG H5 d gs:=⟨sm5 _ _ dg.at_,fun g hg=>sm5 _ _ (dg.lst g hg),dg.adr,dg.key⟩
  have hed:e≠d:=fun z=>by rw[z,dg.at_]at he;cases he
  refine⟨d,kvG gs,dg5.at_,_,rfl,d,kvG gs,rfl,dg5.at_,fun od=>?_⟩
  have sd:SameD d H5 (upd H5 d (.frz od (.dK (kvG gs)))):=fun b o n e=>by rw[upd_ne n];exact e
  have ed:(upd H5 d (.frz od (.dK (kvG gs)))) d=some (.frz od (.dK (kvG gs))):=upd_same
  have hlst:∀ g∈gs,(upd H5 d (.frz od (.dK (kvG gs)))) g.2.1=some (.lst (g.2.2.map V.int)):=fun g hg=>sd _ _ (ne_of (dg5.lst g hg) dg5.at_ (by intro z;cases z)) (dg5.lst g hg)
  have ee6:(upd H5 d (.frz od (.dK (kvG gs)))) e=some (.dK kvs):=sd _ _ hed ee
  generalize upd H5 d (.frz od (.dK (kvG gs)))=H6 at sd ed hlst ee6 ⊢
  have hkl:(kvG gs).length=gs.length:=by simp[kvG]
  refine comp_items (d:=d) (od:=od) (kvs:=kvG gs) (fun i ys H7=>Same H6 H7∧ys.length≤i∧∃ ns:List Int,ys=ns.map V.int∧(∀ n∈ns,∃ g∈gs,∃ hne:g.2.2≠[],n=g.1∧g.2.2.getLast hne=p - 1 - 2 * les (flat gs) g.1)∧(∀ g∈gs.take i,∀ hne:g.2.2≠[],g.2.2.getLast hne=p - 1 - 2 * les (flat gs) g.1→g.1∈ns)) ⟨Same.refl _,Nat.le_refl _,[],rfl,fun n hn=>(nomatch hn),fun g hg=>by simp at hg⟩ ?_ ?_ ?_
  ·rintro i ys H7 hi ⟨g7,hyl,_⟩
   exact⟨g7 _ _ ed,line_of (by omega)⟩
  ·rintro i ky x ys H7 t hx ⟨g7,hyl,ns,rfl,hn1,hn2⟩ htn
   obtain⟨g,hg,hgx⟩:∃ g,gs[i]?=some g∧((Sum.inl g.1:Key),V.ref g.2.1)=(ky,x):=by
    unfold kvG at hx
    rw[List.getElem?_map]at hx
    obtain⟨g,h1,h2⟩:=Option.map_eq_some_iff.mp hx
    exact⟨g,h1,h2⟩
   cases hgx
   have hgm:=List.mem_of_getElem? hg
   have g8:=g7.trans (Same.upd (o:=.tup [kV (Sum.inl g.1),V.ref g.2.1]) htn)
   have et8:(upd H7 t (.tup [kV (Sum.inl g.1),V.ref g.2.1])) t=some (.tup [kV (Sum.inl g.1),V.ref g.2.1]):=upd_same
   generalize upd H7 t (.tup [kV (Sum.inl g.1),V.ref g.2.1])=H8 at g8 et8 ⊢
   refine⟨t,_,rfl,SqT.of et8,rfl,_,_,rfl,_,_,rfl,rfl,?_⟩
   have hne2:g.2.2≠[]:=(gd g hgm).2
   have hv:atI (g.2.2.map V.int) (-1)=some (V.int (g.2.2.getLast hne2)):=last_at hne2
   have hget:DGet H8 e (.int g.1) (some (.int (2 * les (flat gs) g.1))):=by rw[← hall g hgm];exact DGet.k (k:=(Sum.inl g.1:Key)) (g8 _ _ ee6)
   refine⟨_,rfl,_,rfl,g.2.1,_,_,_,rfl,rfl,SqL.of (g8 _ _ (hlst g hgm)),hv,_,rfl,_,_,rfl,rfl,_,rfl,_,rfl,e,_,rfl,hget,_,_,rfl,rfl,_,_,rfl,rfl,_,rfl,?_⟩
   have htk:∀ x∈gs.take (i+1),x∈gs.take i∨x=g:=fun x hx=>by
    rw[List.take_succ,hg]at hx
    rcases List.mem_append.mp hx with h | h
    ·exact .inl h
    ·exact .inr (by simpa using h)
   refine iteD (fun hc=>?_) (fun hc=>?_)
   ·refine⟨_,rfl,g8,by rw[List.length_append,List.length_singleton];omega,ns++[g.1],by rw[List.map_append];rfl,fun n hn=>?_,fun x hx hne hl=>?_⟩
    ·rcases List.mem_append.mp hn with h | h
     ·exact hn1 n h
     ·exact⟨g,hgm,hne2,by simpa using h,by omega⟩
    ·rcases htk x hx with h | h
     ·exact List.mem_append_left _ (hn2 x h hne hl)
     ·rw[h];exact List.mem_append_right _ (by simp)
   ·refine⟨g8,by omega,ns,rfl,hn1,fun x hx hne hl=>?_⟩
    rcases htk x hx with h | h
    ·exact hn2 x h hne hl
    ·subst h;exact absurd (by omega) hc
  ·rintro ys H7 ⟨g7,hyl,ns,rfl,hn1,hn2⟩ D hD
   have hnD:D≠d:=fun z=>by rw[z,g7 _ _ ed]at hD;cases hD
   have edD:(upd H7 D (.lst (ns.map V.int))) d=some (.frz od (.dK (kvG gs))):=by rw[upd_ne (Ne.symm hnD)];exact g7 _ _ ed
   have eD:(upd (upd H7 D (.lst (ns.map V.int))) d (.dK (kvG gs))) D=some (.lst (ns.map V.int)):=by rw[upd_ne hnD,upd_same]
   have sm9:Same H5 (upd (upd H7 D (.lst (ns.map V.int))) d (.dK (kvG gs))):=fun b o q=>by
    by_cases hb:b=d
    ·subst hb
     rw[upd_same,← dg5.at_]
     exact q
    ·rw[upd_ne hb]
     exact(g7.trans (Same.upd hD)) _ _ (sd b o hb q)
   refine⟨od,edD,?_⟩
   generalize upd (upd H7 D (.lst (ns.map V.int))) d (.dK (kvG gs))=H9 at eD sm9 ⊢
   have dg9:DG H9 d gs:=⟨sm9 _ _ dg5.at_,fun g hg=>sm9 _ _ (dg5.lst g hg),dg.adr,dg.key⟩
   have smH9:=(smH.trans sm5).trans sm9
   rw[hkl,List.take_length]at hn2
   obtain⟨s0,es,hs0,hcase,htop⟩:=ready_top gd hn1 hn2
   refine⟨_,rfl,D,ns,rfl,SqL.of eD,?_⟩
   rw[es]
   refine⟨fun σ' H'=>∃ gs1,σ'=[some (.ref d),some (.int p),some (.ref e),some (.ref D),some (.int s0)]∧Same H0 H'∧DG H' d gs1∧GoodG gs1∧sto gs1≤59∧(∀ g∈gs1,H0 g.2.1=none)∧(s0=0∧gs1=gs∨1≤s0∧∃ g∈gs,∃ hne:g.2.2≠[],g.1=s0∧g.2.2.getLast hne=p - 1 - 2 * les (flat gs) s0∧gs1=shr s0 gs),?_,?_⟩
   ·refine⟨_,rfl,_,_,rfl,rfl,_,rfl,?_⟩
    refine iteD (fun hc=>?_) (fun hc=>?_)
    ·rcases hcase with hz | ⟨hz,g,hg,hne,e1,e2⟩
     ·omega
     ·subst e1
      refine⟨_,rfl,_,rfl,d,gs,g,rfl,dg9,hg,hne,fun H11 st11 dg11=>⟨shr g.1 gs,rfl,fun b o q=>st11 b o (fun z=>by rw[z,hHd]at q;cases q) (fun x hx z=>by rw[z,hfr x hx]at q;cases q) (smH9 b o q),dg11,gd.shr _,?_,fun x hx=>?_,.inr ⟨hz,g,hg,hne,rfl,e2,rfl⟩⟩⟩
      ·have:sto (shr g.1 gs)=sto gs - g.1:=wgt_shr _ dg.key hg hne
       omega
      ·obtain⟨y,hy,ez⟩:=shr_adr hx
       rw[ez];exact hfr y hy
    ·rcases hcase with hz | ⟨hz,_⟩
     ·exact⟨gs,rfl,smH9,dg9,gd,hsto,hfr,.inl ⟨hz,rfl⟩⟩
     ·omega
   ·rintro σ' H10 ⟨gs1,rfl,sm10,dg10,gd10,hst10,hfr10,hs⟩
    obtain⟨hc1,hc2⟩:=GoodG.bound gd10
    refine⟨_,rfl,_,rfl,_,_,rfl,rfl,_,rfl,d,gs1,s0+1,p,rfl,dg10,by omega,fun x hx=>by have:=hc2 x hx;omega,fun gs' H12 st12 dg12 hpu=>?_⟩
    rw[wgt_les]at hpu
    obtain⟨ha,hA,hG⟩:=add_groups dg.key gd ac bd hs htop hpu
    refine k gs' H12 (fun b o q=>st12 b o (fun z=>by rw[z,hHd]at q;cases q) (fun x hx z=>by rw[z,hfr10 x hx]at q;cases q) (sm10 b o q)) dg12 hG hA ha fun x hx=>?_
    rcases puts_adr hpu hx with ⟨y,hy,ez⟩ | hz
    ·rw[ez];exact hfr10 y hy
    ·exact sm10.free hz
noncomputable abbrev s_list_of:Stmt:=top 21
theorem sc_list_of:FnScope ["row","offsets","place"] ["row"] (defScope s_list_of):=⟨rfl,rfl,rfl,by decide +kernel,rfl,by decide +kernel,by decide +kernel⟩
inductive I1_list_of (H:Hp) (a:Addr) (d:Addr) (row:List Int) (i:Nat) (σ:St) (H3:Hp):Prop
 | mk (gs:List Grp) (v:Option V) (k0_:σ=[some (.ref a),some (.ref d),v]) (k1_:Same H H3) (k2_:DG H3 d gs) (k3_:GoodG gs) (k4_:Asc gs) (k5_:Lst (row.take i) (flat gs)) (k6_:∀ g∈gs,H g.2.1=none):I1_list_of H a d row i σ H3
theorem ok_list_of {f:Addr} {fd:FuncData} (F:Fun K "list_of" "list_of" s_list_of f fd) (B:Bt mg) (F_look_row:FnAt P w K mg base "look_row" 1 ["row"] spLook) (F_add_stone:FnAt P w K mg base "add_stone" 3 ["offsets","place"] spAddStone):FnOk P w K mg base CX0 4 f fd ["row"] spListOf:=by
 refine F.ok sc_list_of (fun vs H Q E h=>?_) (fun cdv A outer s H vs Q E hr h=>?_)
 ·obtain⟨a,row,rfl,_⟩:=h
  rfl
 ·obtain⟨a,row,rfl,ha,hrow,hrl,k⟩:=h
  have hu1:=hu_of hr
  refine⟨_,(pss_cons (ps_expr (pe_fn F_look_row hr rfl (pa_cons (pv 0) pa_nil)))
 (pss_cons (ps_set (i:=1) sc_list_of.nd rfl (Or.inr rfl) pe_dnewK)
 (pss_cons (ps_for PassesOwn.never rfl (pi_list (pv 0)) (pg_name (i:=2) sc_list_of.nd rfl (Or.inl rfl))
 (pss_one (ps_expr (pe_fn F_add_stone hr rfl (pa_cons (pv 1) (pa_cons (pv 2) pa_nil))))))
 (pss_one (ps_ret (pe_comp2 ["size"] ["offset"] ["offsets"] [1] rfl (.of (show compOk (defScope s_list_of) _ ["row","offsets","place"] [1] ["offsets"]=true by decide +kernel)) (pi_list (pe_callB (call_sortedD rfl) (by rfl) B.sorted boot_sorted (pa_cons (pv 1) pa_nil))) (fun _ _ _=>(pg_name (i:=0) (show (["size","offset","offsets"]:List Str).Nodup by decide +kernel) rfl (Or.inl rfl))) (kg_name (by decide)) (fun _ _ _=>pif_nil) (fun _ _ _=>(pi_listK K rfl (pe_dget hu1 (pv 2) (pv 0) (fun _ _=>rfl)))) (fun _ _ _=>(pg_name (i:=1) (show (["size","offset","offsets"]:List Str).Nodup by decide +kernel) rfl (Or.inl rfl))) (gr_name (by decide) (by decide)) (fun _ _ _=>pif_nil) (fun _ _ _=>(pe_tup (pa_cons (pv 0) (pa_cons (pv 1) pa_nil)))))))))),?_⟩
  refine⟨_,rfl,a,row,rfl,ha,hrow,hrl,?_⟩
  refine fun d hd=>?_
  have g1:=Same.upd (o:=.dK []) hd
  have ed:(upd H d (.dK [])) d=some (.dK (kvG [])):=upd_same
  generalize upd H d (.dK [])=H1 at g1 ed ⊢
  refine⟨_,rfl,a,rfl,⟨_,SqL.of (g1 _ _ ha)⟩,for_list (K:=K) (a:=a) (xs:=row.map V.int) (I1_list_of H a d row)
   ⟨[],none,rfl,g1,⟨ed,fun g hg=>(nomatch hg),List.Pairwise.nil,List.Pairwise.nil⟩,fun g hg=>(nomatch hg),fun g hg=>(nomatch hg),.nil,fun g hg=>(nomatch hg)⟩ (fun i σ H3 _ z_=>by obtain⟨_,_,_,sm,_⟩:=z_;exact SqL.of (sm _ _ ha)) ?_ ?_⟩
  ·rintro i x σ H3 hi ⟨gs,v,rfl,sm,dg,gd,ac,hl,hfr⟩
   obtain⟨z,rfl,hz⟩:=int_at hi
   have hil:i<row.length:=(List.getElem?_eq_some_iff.mp hz).1
   have htk:row.take (i+1)=row.take i++[z]:=by rw[List.take_succ,hz];rfl
   have hlt:∀ x∈row.take i,x<z:=fun x hx=>by
    have hp:(row.take i++[z]).Pairwise (·<·):=by rw[← htk];exact List.Pairwise.sublist (List.take_sublist _ _) hrow
    exact(List.pairwise_append.mp hp).2.2 x hx z (by simp)
   have hsz:sto gs=(i:Int):=by
    rw[sto_siz,hl.sizx,List.length_take]
    omega
   refine⟨_,rfl,_,rfl,d,gs,z,H,rfl,dg,gd,ac,by omega,hl.bd fun x hx=>by have:=hlt x hx;omega,sm,hd,hfr,fun gs' H' sm' dg' gd' ac' hadd hfr'=>?_⟩
   exact⟨gs',_,rfl,sm',dg',gd',ac',by rw[htk];exact .snoc hl hlt hadd,hfr'⟩
  ·rintro σ H3 ⟨gs,v,rfl,sm,dg,gd,ac,hl,hfr⟩
   rw[List.length_map,List.take_length]at hl
   obtain⟨hb1,hb2⟩:=GoodG.bound gd
   have hsz:sto gs=(row.length:Int):=by rw[sto_siz,hl.sizx]
   have hks:KeysI (kvG gs) (gs.map (·.1)):=by unfold KeysI kvG;simp[Function.comp]
   refine⟨_,rfl,d,kvG gs,gs.map (·.1),rfl,dg.at_,hks,by rw[List.length_map];omega,fun l ms hnl hp hs=>?_⟩
   have g5:=Same.upd (o:=.lst (ms.map V.int)) hnl
   have el:(upd H3 l (.lst (ms.map V.int))) l=some (.lst (ms.map V.int)):=upd_same
   generalize upd H3 l (.lst (ms.map V.int))=H5 at g5 el ⊢
   have hst:=strict_of hp hs dg.key
   have dg5:DG H5 d gs:=⟨g5 _ _ dg.at_,fun g hg=>g5 _ _ (dg.lst g hg),dg.adr,dg.key⟩
   have hsize:∀ i,(laid (ms.take i) gs).length≤60:=fun i=>by
    have h1:(laid (ms.take i) gs).length≤(laid ms gs).length:=by
     conv=>rhs;rw[← List.take_append_drop i ms,laid_append,List.length_append]
     omega
    have h2:=(laid_perm gs hp).length_eq
    rw[laid_keys dg.key]at h2
    have h3:=len_le_sum hl.pos
    have h4:(szs (flat gs)).sum=siz (flat gs):=rfl
    have h5:=sto_siz gs
    omega
   refine⟨l,rfl,⟨_,SqL.of el⟩,comp2_list (K:=K) (a:=l) (xs:=ms.map V.int) (fun i ys H6=>Same H5 H6∧Prs H6 ys (laid (ms.take i) gs)) ⟨Same.refl _,.nil⟩ ?_ ?_ ?_⟩
   ·rintro i ys H6 hi ⟨sm6,pr6⟩
    exact⟨SqL.of (sm6 _ _ el),by rw[pr6.len];exact line_of (by have:=hsize i;omega)⟩
   ·rintro i x ys H6 hi ⟨sm6,pr6⟩
    obtain⟨m,rfl,hm⟩:=int_at hi
    obtain⟨g,hg,hgm⟩:=List.mem_map.mp (hp.mem_iff.mp (List.mem_of_getElem? hm))
    have hgm:g.1=m:=hgm
    subst hgm
    have dg6:DG H6 d gs:=⟨sm6 _ _ dg5.at_,fun g hg=>sm6 _ _ (dg5.lst g hg),dg.adr,dg.key⟩
    have htk:laid (ms.take (i+1)) gs=laid (ms.take i) gs++g.2.2.map fun o=>(g.1,o):=by
     rw[List.take_succ,hm,laid_append]
     congr 1
     exact laid_one dg.key hg
    have hgl:=hsize (i+1)
    rw[htk,List.length_append,List.length_map]at hgl
    refine⟨_,rfl,_,rfl,d,_,rfl,dg6.get hg,g.2.1,rfl,⟨_,SqL.of (dg6.lst g hg)⟩,inner_list (K:=K) (a:=g.2.1) (xs:=g.2.2.map V.int) (fun j ys H7=>Same H6 H7∧Prs H7 ys (laid (ms.take i) gs++(g.2.2.take j).map fun o=>(g.1,o))) ⟨Same.refl _,by rw[List.take_zero,List.map_nil,List.append_nil];exact pr6⟩ ?_ ?_ ?_⟩
    ·rintro j ys H7 hj ⟨sm7,pr7⟩
     refine⟨SqL.of (sm7 _ _ (dg6.lst g hg)),?_⟩
     rw[pr7.len,List.length_append,List.length_map,List.length_take]
     exact line_of (by omega)
    ·rintro j x ys H7 hj ⟨sm7,pr7⟩
     obtain⟨o,rfl,ho⟩:=int_at hj
     refine⟨_,rfl,_,rfl,(show 2≤sizeLine by decide),fun t ht=>⟨sm7.trans (Same.upd ht),?_⟩⟩
     rw[List.take_succ,ho,List.map_append,← List.append_assoc]
     exact Paired.append' (pr7.mono (TupS.new ht)) (.cons ⟨t,rfl,upd_same⟩ .nil)
    ·rintro ys H7 ⟨sm7,pr7⟩
     rw[List.length_map,List.take_length]at pr7
     rw[htk]
     exact⟨sm6.trans sm7,pr7⟩
   ·rintro ys H6 ⟨sm6,pr6⟩ D hD
    rw[List.length_map,List.take_length]at pr6
    have hpm:(laid ms gs).Perm (flat gs):=by rw[← laid_keys dg.key];exact laid_perm gs hp
    have sm36:=(sm.trans g5).trans sm6
    exact k (laid ms gs) (hl.perm hpm.symm) (laid_sorted ac hst) D ys _ (sm36.free hD) (sm36.trans (Same.upd hD)) upd_same (pr6.mono (TupS.new hD))
noncomputable abbrev s_row_of:Stmt:=top 25
theorem sc_row_of:FnScope ["trains","offsets","row","crowded","place","shortest","size"] ["trains"] (defScope s_row_of):=⟨rfl,rfl,rfl,by decide +kernel,rfl,by decide +kernel,by decide +kernel⟩
theorem ok_row_of {f:Addr} {fd:FuncData} (F:Fun K "row_of" "row_of" s_row_of f fd) (B:Bt mg) (F_look_trains:FnAt P w K mg base "look_trains" 1 ["trains"] spLookT) (F_by_size:FnAt P w K mg base "by_size" 1 ["trains"] spBySizeV) (F_crowds:FnAt P w K mg base "crowds" 1 ["offsets"] spCrowdsV)
 (F_drop_last:FnAt P w K mg base "drop_last" 1 ["offsets","size"] spDropLast) (F_add_train:FnAt P w K mg base "add_train" 2 ["offsets","size","place"] spAddTrainV):FnOk P w K mg base CX0 3 f fd ["trains"] spRowOfV:=by
 refine F.ok sc_row_of (fun vs H Q E h=>?_) (fun cdv A outer s H vs Q E hr h=>?_)
 ·obtain⟨a,ps,rfl,_⟩:=h
  rfl
 ·obtain⟨a,ps,rfl,hps,ht,k⟩:=h
  have hu1:=hu_of hr
  have hu:=hr.units
  refine⟨_,(pss_cons (ps_expr (pe_fn F_look_trains hr rfl (pa_cons (pv 0) pa_nil)))
 (pss_cons (ps_set (i:=1) sc_row_of.nd rfl (Or.inl rfl) (pe_fn F_by_size hr rfl (pa_cons (pv 0) pa_nil)))
 (pss_cons (ps_set (i:=2) sc_row_of.nd rfl (Or.inl rfl) (pe_lst pa_nil))
 (pss_cons (ps_while PassesOwn.never (pt_dtruth (pv 1) (fun _=>rfl))
 (pss_cons (ps_set (i:=3) sc_row_of.nd rfl (Or.inr rfl) (pe_fn F_crowds hr rfl (pa_cons (pv 1) pa_nil)))
 (pss_cons (ps_asg (pe_callB (call_maxP rfl hu) (by rfl) B.max boot_max (pa_cons (pe_thaw (pe_comp ["size","some"] ["crowded"] [3] rfl (.of (show compOk (defScope s_row_of) _ ["trains","offsets","row","crowded","place","shortest","size"] [3] ["crowded"]=true by decide +kernel)) (pi_items (pv 1)) (fun _ _ _=>(pg_tupK (n:=2) K rfl rfl (pgs_cons (pg_name (i:=0) (show (["size","some","crowded"]:List Str).Nodup by decide +kernel) rfl (Or.inl rfl)) (pgs_cons (pg_name (i:=1) (show (["size","some","crowded"]:List Str).Nodup by decide +kernel) rfl (Or.inl rfl)) pgs_nil)))) (kg_tup (kgs_cons (by decide) (kgs_cons (by decide) kgs_nil))) (fun _ _ _=>pif_nil) (fun _ _ _=>(pe_tup (pa_cons (pe_op op_add (pe_ix (ix_listK K rfl) (pv 1) (pe_un un_neg pe_int) (fun _ _=>rfl)) (pe_dget hu1 (pv 2) (pv 0) (fun _ _=>rfl))) (pa_cons (pe_un un_neg (pv 0)) pa_nil)))))) pa_nil)) (pg_tup rfl (pgs_cons (pg_name (i:=4) sc_row_of.nd rfl (Or.inl rfl)) (pgs_cons (pg_name (i:=5) sc_row_of.nd rfl (Or.inl rfl)) pgs_nil))))
 (pss_cons (ps_set (i:=6) sc_row_of.nd rfl (Or.inl rfl) (pe_un un_neg (pv 5)))
 (pss_cons (ps_expr (pe_bm PySem.F.plainAttrs_list PySem.F.slot_list_append PySem.F.type_list_append mt_append (pv 2) (pa_cons (pv 4) pa_nil)))
 (pss_cons (ps_expr (pe_fn F_drop_last hr rfl (pa_cons (pv 1) (pa_cons (pv 6) pa_nil))))
 (pss_one (ps_if (pt_cmpR op_gt (pv 6) pe_int (nomark _))
 (pss_one (ps_expr (pe_fn F_add_train hr rfl (pa_cons (pv 1) (pa_cons (pe_op op_sub (pv 6) pe_int) (pa_cons (pe_op op_sub (pv 4) pe_int) pa_nil))))))
 pss_nil))))))))
 (pss_one (ps_ret (pe_callB call_sortedI (by rfl) B.sorted boot_sorted (pa_cons (pv 2) pa_nil)))))))),?_⟩
  refine⟨_,rfl,a,ps,rfl,hps,ht,fun H1 g1=>?_⟩
  refine⟨_,rfl,a,ps,rfl,hps.mono g1,ht.len,fun d gs H2 hd sm2 dg hfp hac hne=>?_⟩
  refine⟨by decide,fun r hrn=>?_⟩
  have g3:=Same.upd (o:=.lst []) hrn
  have er:(upd H2 r (.lst [])) r=some (.lst []):=upd_same
  have sm3:=(g1.trans sm2).trans g3
  have hHr:H r=none:=(g1.trans sm2).free hrn
  have hHd:H d=none:=g1.free hd
  generalize upd H2 r (.lst [])=H3 at g3 er sm3 ⊢
  have dg3:DG H3 d gs:=⟨g3 _ _ dg.at_,fun g hg=>g3 _ _ (dg.lst g hg),dg.adr,dg.key⟩
  have gd:GoodG gs:=fun g hg=>⟨by
   have hm:=List.getLast_mem (hne g hg).1
   exact ht.pos (g.1,g.2.2.getLast (hne g hg).1) (hfp.mem_iff.mp (mem_flat.mpr ⟨g,hg,rfl,hm⟩)),(hne g hg).1⟩
  have hst:sto gs=(szs ps).sum:=by rw[sto_siz,siz_perm hfp];rfl
  have hlo:0≤sto gs:=by have:=(GoodG.bound gd).1;omega
  refine⟨rowV H ps a d r,⟨(sto gs).toNat,gs,[],_,_,_,_,rfl,sm3,dg3,gd,hac,er,fun g hg=>⟨g1.free (hne g hg).2,fun e=>?_⟩,by omega,by have:=ht.few;simp only[List.length_nil];omega,fun r' hr'=>by simpa using hr'.perm hfp⟩,?_⟩
  ·have:=dg.lst g hg
   rw[e,hrn]at this
   cases this
  clear hst hlo gd dg3 sm3 er g3 hne hfp hac dg sm2 g1
  rintro m σ H4 ⟨gs,row,v3,v4,v5,v6,rfl,sm,dg,gd,ac,er,hfr,hm,hcount,fin⟩
  obtain⟨hb1,hb2⟩:=GoodG.bound gd
  have hpos:∀ q∈flat gs,1≤q.1:=fun q hq=>by
   obtain⟨x,hx,e1,_⟩:=mem_flat.mp hq
   rw[← e1];exact(gd x hx).1
  refine⟨_,rfl,d,kvG gs,rfl,dg.at_,?_⟩
  by_cases hgs:gs=[]
  ·subst hgs
   have hfin:Lst row.reverse ps:=by simpa using fin [] .nil
   refine⟨_,rfl,r,row,rfl,er,by omega,fun l ms hl hpm hsm=>?_⟩
   have em:=sorted_rev hpm hsm hfin.rowp
   subst em
   exact k row.reverse hfin l _ (sm.free hl) (sm.trans (Same.upd hl)) upd_same
  have hne:(!(kvG gs).isEmpty)=true:=by
   cases gs with
   | nil=>exact absurd rfl hgs
   | cons _ _=>rfl
  rw[hne]
  show (if true=true then _ else _)
  rw[if_pos rfl]
  refine⟨fun σ' H'=>∃ m',m'<m∧rowV H ps a d r m' σ' H',fun _ _ h=>h,?_⟩
  refine⟨_,rfl,d,gs,rfl,dg,gd,by omega,fun g hg=>by have:=hb2 g hg;omega,fun e kvs H5 he sm5 ee hall=>?_⟩
  have dg5:DG H5 d gs:=⟨sm5 _ _ dg.at_,fun g hg=>sm5 _ _ (dg.lst g hg),dg.adr,dg.key⟩
  refine⟨d,kvG gs,dg5.at_,_,rfl,d,kvG gs,rfl,dg5.at_,fun od=>?_⟩
  have hed:e≠d:=fun z=>by rw[z,dg.at_]at he;cases he
  have sd:SameD d H5 (upd H5 d (.frz od (.dK (kvG gs)))):=fun b o n e=>by rw[upd_ne n];exact e
  have ed:(upd H5 d (.frz od (.dK (kvG gs)))) d=some (.frz od (.dK (kvG gs))):=upd_same
  have hlst:∀ g∈gs,(upd H5 d (.frz od (.dK (kvG gs)))) g.2.1=some (.lst (g.2.2.map V.int)):=fun g hg=>sd _ _ (ne_of (dg5.lst g hg) dg5.at_ (by intro z;cases z)) (dg5.lst g hg)
  have ee6:(upd H5 d (.frz od (.dK (kvG gs)))) e=some (.dK kvs):=sd _ _ hed ee
  generalize upd H5 d (.frz od (.dK (kvG gs)))=H6 at sd ed hlst ee6 ⊢
  have hkl:(kvG gs).length=gs.length:=by simp[kvG]
  refine comp_items (d:=d) (od:=od) (kvs:=kvG gs) (fun i ys H7=>Same H6 H7∧ys.length=i∧∃ qs:List (Int×Int),Prs H7 ys qs∧(∀ q∈qs,∃ g∈gs,∃ hne:g.2.2≠[],q=(g.2.2.getLast hne+2 * les (flat gs) g.1,-g.1))∧∀ g∈gs.take i,∀ hne:g.2.2≠[],(g.2.2.getLast hne+2 * les (flat gs) g.1,-g.1)∈qs) ⟨Same.refl _,rfl,[],.nil,fun q hq=>(nomatch hq),fun g hg=>by simp at hg⟩ ?_ ?_ ?_
  ·rintro i ys H7 hi ⟨g7,hyl,_⟩
   exact⟨g7 _ _ ed,line_of (by omega)⟩
  ·rintro i ky x ys H7 t hx ⟨g7,hyl,qs,pr,hq,hq2⟩ htn
   obtain⟨g,hg,hgx⟩:∃ g,gs[i]?=some g∧((Sum.inl g.1:Key),V.ref g.2.1)=(ky,x):=by
    unfold kvG at hx
    rw[List.getElem?_map]at hx
    obtain⟨g,h1,h2⟩:=Option.map_eq_some_iff.mp hx
    exact⟨g,h1,h2⟩
   cases hgx
   have hgm:=List.mem_of_getElem? hg
   have g8:=g7.trans (Same.upd (o:=.tup [kV (Sum.inl g.1),V.ref g.2.1]) htn)
   have pr8:=pr.mono (TupS.same (Same.upd (o:=.tup [kV (Sum.inl g.1),V.ref g.2.1]) htn))
   have et8:(upd H7 t (.tup [kV (Sum.inl g.1),V.ref g.2.1])) t=some (.tup [kV (Sum.inl g.1),V.ref g.2.1]):=upd_same
   generalize upd H7 t (.tup [kV (Sum.inl g.1),V.ref g.2.1])=H8 at g8 pr8 et8 ⊢
   refine⟨t,_,rfl,SqT.of et8,rfl,_,_,rfl,_,_,rfl,rfl,?_⟩
   have hne2:g.2.2≠[]:=(gd g hgm).2
   have hv:atI (g.2.2.map V.int) (-1)=some (V.int (g.2.2.getLast hne2)):=last_at hne2
   have hget:DGet H8 e (.int g.1) (some (.int (2 * les (flat gs) g.1))):=by rw[← hall g hgm];exact DGet.k (k:=(Sum.inl g.1:Key)) (g8 _ _ ee6)
   refine⟨_,rfl,_,rfl,g.2.1,_,_,_,rfl,rfl,SqL.of (g8 _ _ (hlst g hgm)),hv,_,rfl,_,rfl,e,_,rfl,hget,_,_,rfl,rfl,_,rfl,_,rfl,by show 2≤sizeLine;decide,fun t2 ht2=>?_⟩
   refine⟨g8.trans (Same.upd ht2),by rw[List.length_append,hyl];rfl,qs++[(g.2.2.getLast hne2+2 * les (flat gs) g.1,-g.1)],Paired.snoc (pr8.mono (TupS.same (Same.upd ht2))) ⟨t2,rfl,upd_same⟩,fun q hq'=>?_,fun x hx hnx=>?_⟩
   ·rcases List.mem_append.mp hq' with h | h
    ·exact hq q h
    ·rw[List.mem_singleton.mp h];exact⟨g,hgm,hne2,rfl⟩
   ·rw[List.take_succ,hg]at hx
    rcases List.mem_append.mp hx with h | h
    ·exact List.mem_append_left _ (hq2 x h hnx)
    ·have:x=g:=by simpa using h
     subst this
     exact List.mem_append_right _ (by simp)
  ·rintro ys H7 ⟨g7,hyl,qs,pr,hq,hq2⟩ D hD
   rw[hkl,List.take_length]at hq2
   have hnD:D≠d:=fun z=>by rw[z,g7 _ _ ed]at hD;cases hD
   have edD:(upd H7 D (.lst ys)) d=some (.frz od (.dK (kvG gs))):=by rw[upd_ne (Ne.symm hnD)];exact g7 _ _ ed
   have eD:(upd (upd H7 D (.lst ys)) d (.dK (kvG gs))) D=some (.lst ys):=by rw[upd_ne hnD,upd_same]
   have pr9:Prs (upd (upd H7 D (.lst ys)) d (.dK (kvG gs))) ys qs:=(pr.mono (TupS.same (Same.upd hD))).mono fun t xs q=>by
    rw[upd_ne (ne_of q edD (by intro z;cases z))]
    exact q
   have sm9:Same H5 (upd (upd H7 D (.lst ys)) d (.dK (kvG gs))):=fun b o q=>by
    by_cases hb:b=d
    ·subst hb
     rw[upd_same,← dg5.at_]
     exact q
    ·rw[upd_ne hb]
     exact(g7.trans (Same.upd hD)) _ _ (sd b o hb q)
   refine⟨od,edD,D,ys,qs,rfl,eD,pr9,fun z=>?_,fun j x htop hx=>?_⟩
   ·rw[z]at hyl
    rw[hkl]at hyl
    exact hgs (List.length_eq_zero_iff.mp hyl.symm)
   generalize upd (upd H7 D (.lst ys)) d (.dK (kvG gs))=H9 at pr9 sm9 ⊢
   obtain⟨p,t',hp,rfl,et⟩:=paired_at pr9 hx
   obtain⟨g,hg,hgne,hpg,hplace,hbest⟩:=top_groups gd htop hp hq hq2
   have dg9:DG H9 d gs:=⟨sm9 _ _ dg5.at_,fun g hg=>sm9 _ _ (dg5.lst g hg),dg.adr,dg.key⟩
   have er9:=sm9 _ _ (sm5 _ _ er)
   have smH:=(sm.trans sm5).trans sm9
   refine⟨t',_,rfl,SqT.of et,rfl,_,_,rfl,_,_,rfl,rfl,?_⟩
   refine⟨_,rfl,_,rfl,?_⟩
   refine⟨_,rfl,.inl ⟨rfl,_,SqL.of er9⟩,_,rfl,r,_,_,rfl,rfl,er9,by rw[List.length_map];exact line_of (by omega),?_⟩
   have hrd:r≠d:=ne_of er9 dg9.at_ (by intro z;cases z)
   have dg10:DG (upd H9 r (.lst (row.map V.int++[V.int p.1]))) d gs:=⟨by rw[upd_ne (Ne.symm hrd)];exact dg9.at_,fun g hg=>by rw[upd_ne (hfr g hg).2];exact dg9.lst g hg,dg.adr,dg.key⟩
   have er10:(upd H9 r (.lst (row.map V.int++[V.int p.1]))) r=some (.lst ((row++[p.1]).map V.int)):=by rw[upd_same,List.map_append];rfl
   have sm10:Same H (upd H9 r (.lst (row.map V.int++[V.int p.1]))):=Same.upd' hHr smH
   generalize upd H9 r (.lst (row.map V.int++[V.int p.1]))=H10 at dg10 er10 sm10 ⊢
   have hg1:=(gd g hg).1
   have hnn:-p.2=g.1:=by omega
   refine⟨_,rfl,_,rfl,d,gs,g,by show [V.ref d,V.int (-p.2)]=_;rw[hnn],dg10,hg,hgne,fun H11 st11 dg11=>?_⟩
   have sm11:Same H H11:=st11.same sm10 hHd hfr
   have er11:=st11 _ _ hrd (fun x hx z=>(hfr x hx).2 z.symm) er10
   have gd11:GoodG (shr g.1 gs):=gd.shr g.1
   have hw11:sto (shr g.1 gs)=sto gs - g.1:=wgt_shr _ dg.key hg hgne
   have hfr11:∀ x∈shr g.1 gs,H x.2.1=none∧x.2.1≠r:=fun x hx=>by
    obtain⟨y,hy,e⟩:=shr_adr hx
    rw[e];exact hfr y hy
   obtain⟨hc1,hc2⟩:=GoodG.bound gd11
   refine⟨_,rfl,_,_,rfl,rfl,_,rfl,?_⟩
   by_cases h1:1<g.1
   ·have hd1:decide ((1:Int) < -p.2)=true:=by rw[hnn];exact decide_eq_true h1
    show (if decide ((1:Int) < -p.2)=true then _ else _)
    rw[hd1,if_pos rfl]
    refine⟨_,rfl,_,rfl,_,_,rfl,rfl,_,rfl,_,_,rfl,rfl,d,shr g.1 gs,-p.2 - 1,p.1 - 1,rfl,dg11,by omega,fun x hx=>by have:=hc2 x hx;omega,fun gs' H12 st12 dg12 hputs=>?_⟩
    rw[wgt_les,hnn]at hputs
    have hpu:Puts H11 (g.1 - 1) (p.1 - 1 - 2 * les (flat (shr g.1 gs)) (g.1 - 1) - 2 * (g.1 - 1)) (shr g.1 gs) gs':=hputs
    obtain⟨hTak,hAsc,hGood⟩:=tak_groups dg.key gd ac hg hgne hplace hbest (.inr ⟨by omega,hpu⟩)
    have hw12:sto gs'=sto (shr g.1 gs)+(g.1 - 1):=wgt_puts _ dg11.key hpu
    have er12:=st12 _ _ hrd (fun x hx z=>(hfr11 x hx).2 z.symm) er11
    refine⟨m - 1,by omega,gs',row++[p.1],_,_,_,_,rfl,st12.same sm11 hHd hfr11,dg12,hGood,hAsc,er12,fun x hx=>?_,by omega,by rw[List.length_append,List.length_singleton];omega,by rw[List.reverse_append];exact fin_step hTak hpos fin⟩
    rcases puts_adr hpu hx with ⟨y,hy,e⟩ | hz
    ·rw[e];exact hfr11 y hy
    ·exact⟨sm11.free hz,fun e=>by rw[e,er11]at hz;cases hz⟩
   ·have hd1:decide ((1:Int) < -p.2)=false:=by rw[hnn];exact decide_eq_false h1
    show (if decide ((1:Int) < -p.2)=true then _ else _)
    rw[hd1,if_neg Bool.false_ne_true]
    obtain⟨hTak,hAsc,hGood⟩:=tak_groups (H:=H11) dg.key gd ac hg hgne hplace hbest (.inl ⟨by omega,rfl⟩)
    exact⟨m - 1,by omega,shr g.1 gs,row++[p.1],_,_,_,_,rfl,sm11,dg11,gd11,hAsc,er11,hfr11,by omega,by rw[List.length_append,List.length_singleton];omega,by rw[List.reverse_append];exact fin_step hTak hpos fin⟩
noncomputable abbrev s_gain:Stmt:=top 28
theorem sc_gain:FnScope ["walks","size"] ["walks","size"] (defScope s_gain):=⟨rfl,rfl,rfl,by decide +kernel,rfl,by decide +kernel,by decide +kernel⟩
theorem ok_gain {f:Addr} {fd:FuncData} (F:Fun K "gain" "gain" s_gain f fd) (B:Bt mg):FnOk P w K mg base CX0 1 f fd ["walks","size"] spGain:=by
 refine F.ok sc_gain (fun vs H Q E h=>?_) (fun cdv A outer s H vs Q E hr h=>?_)
 ·obtain⟨a,r,j,rfl,_⟩:=h
  rfl
 ·obtain⟨a,ws,j,rfl,⟨us,ha,pr⟩,hl,hc,hj0,hj1,k⟩:=h
  have e:us.length=ws.length:=pr.len
  refine⟨_,(pss_one (ps_ret (pe_callB (call_sum rfl) (by rfl) B.sum boot_sum (pa_cons (pe_comp ["creel","count"] ["size"] [1] rfl (.of (show compOk (defScope s_gain) _ ["walks","size"] [1] ["size"]=true by decide +kernel)) (pi_list (pv 0)) (fun _ _ _=>(pg_tupK (n:=2) K rfl rfl (pgs_cons (pg_name (i:=0) (show (["creel","count","size"]:List Str).Nodup by decide +kernel) rfl (Or.inl rfl)) (pgs_cons (pg_name (i:=1) (show (["creel","count","size"]:List Str).Nodup by decide +kernel) rfl (Or.inl rfl)) pgs_nil)))) (kg_tup (kgs_cons (by decide) (kgs_cons (by decide) kgs_nil))) (fun _ _ _=>pif_nil) (fun _ _ _=>(pe_op op_mul (pv 1) (pe_callB (call_min2 rfl) (by rfl) B.min boot_min (pa_cons (pv 0) (pa_cons (pv 2) pa_nil)))))) pa_nil)))),?_⟩
  refine⟨_,rfl,a,rfl,⟨_,SqL.of ha⟩,comp_list (K:=K) (a:=a) (xs:=us) (fun i ys H3=>H3=H∧ys=((ws.take i).map (gainI j)).map V.int) ⟨rfl,rfl⟩ ?_ ?_ ?_⟩
  ·rintro i ys H3 hi ⟨rfl,rfl⟩
   exact⟨SqL.of ha,by simp only[List.length_map,List.length_take];exact line_of (by omega)⟩
  ·rintro i x ys H3 hi ⟨rfl,rfl⟩
   obtain⟨p,t',hp,rfl,et⟩:=paired_at pr hi
   have h1:=hc p (List.mem_of_getElem? hp)
   refine⟨t',_,rfl,SqT.of et,rfl,_,_,rfl,_,_,rfl,rfl,_,rfl,_,rfl,_,rfl,_,_,rfl,_,_,rfl,rfl,.inr ⟨?_,?_⟩,rfl,snoc_pairs (gainI j) hp⟩
   ·split <;> omega
   ·split <;> omega
  ·rintro ys H3 ⟨rfl,rfl⟩ D hD
   exact⟨D,ws.map (gainI j),rfl,by rw[upd_same,e,List.take_length],k _ (Same.upd hD)⟩
noncomputable abbrev s_added:Stmt:=top 27
theorem sc_added:FnScope ["trains","walks"] ["trains","walks"] (defScope s_added):=⟨rfl,rfl,rfl,by decide +kernel,rfl,by decide +kernel,by decide +kernel⟩
theorem ok_added {f:Addr} {fd:FuncData} (F:Fun K "added" "added" s_added f fd) (B:Bt mg) (F_look_trains:FnAt P w K mg base "look_trains" 1 ["trains"] spLookT) (F_look_walks:FnAt P w K mg base "look_walks" 2 ["walks"] spLookW) (F_gain:FnAt P w K mg base "gain" 1 ["walks","size"] spGain):FnOk P w K mg base CX0 3 f fd ["trains","walks"] spAdded:=by
 refine F.ok sc_added (fun vs H Q E h=>?_) (fun cdv A outer s H vs Q E hr h=>?_)
 ·obtain⟨a,b,r,j,rfl,_⟩:=h
  rfl
 ·obtain⟨a,b,ps,ws,rfl,hps,ht,hws,hwl,hc,k⟩:=h
  refine⟨_,(pss_cons (ps_expr (pe_fn F_look_trains hr rfl (pa_cons (pv 0) pa_nil)))
 (pss_cons (ps_expr (pe_fn F_look_walks hr rfl (pa_cons (pv 1) pa_nil)))
 (pss_one (ps_ret (pe_callB call_sortedP (by rfl) B.sorted boot_sorted (pa_cons (pe_comp ["size","offset"] ["walks"] [1] rfl (.of (show compOk (defScope s_added) _ ["trains","walks"] [1] ["walks"]=true by decide +kernel)) (pi_list (pv 0)) (fun _ _ _=>(pg_tupK (n:=2) K rfl rfl (pgs_cons (pg_name (i:=0) (show (["size","offset","walks"]:List Str).Nodup by decide +kernel) rfl (Or.inl rfl)) (pgs_cons (pg_name (i:=1) (show (["size","offset","walks"]:List Str).Nodup by decide +kernel) rfl (Or.inl rfl)) pgs_nil)))) (kg_tup (kgs_cons (by decide) (kgs_cons (by decide) kgs_nil))) (fun _ _ _=>pif_nil) (fun _ _ _=>(pe_tup (pa_cons (pv 0) (pa_cons (pe_op op_add (pv 1) (pe_fn F_gain hr rfl (pa_cons (pv 2) (pa_cons (pv 0) pa_nil)))) pa_nil))))) pa_nil)))))),?_⟩
  refine⟨_,rfl,a,ps,rfl,hps,ht,fun H1 g1=>?_⟩
  have hws1:=hws.mono g1
  refine⟨_,rfl,b,ws,rfl,hws1,hc,?_⟩
  obtain⟨us,ha,pr⟩:=hps.mono g1
  have e:us.length=ps.length:=pr.len
  have hpl:=ht.len
  refine⟨_,rfl,a,rfl,⟨_,SqL.of ha⟩,comp_list (K:=K) (a:=a) (xs:=us) (fun i ys H3=>Same H1 H3∧Prs H3 ys ((addsM ps ws).take i)) ⟨Same.refl _,.nil⟩ ?_ ?_ ?_⟩
  ·rintro i ys H3 hi ⟨g3,pr3⟩
   refine⟨SqL.of (g3 _ _ ha),line_of ?_⟩
   rw[pr3.len]
   simp only[List.length_take,addsM,List.length_map]
   omega
  ·rintro i x ys H3 hi ⟨g3,pr3⟩
   obtain⟨p,t',hp,rfl,et⟩:=paired_at pr hi
   have hpm:=List.mem_of_getElem? hp
   have h1:=ht.pos p hpm
   have h2:=trn_le ht hpm
   refine⟨t',_,rfl,SqT.of (g3 _ _ et),rfl,_,_,rfl,_,_,rfl,rfl,_,rfl,_,rfl,_,rfl,_,rfl,b,ws,p.1,rfl,hws1.mono g3,hwl,hc,by omega,by omega,fun H4 g4=>?_⟩
   refine⟨_,_,rfl,rfl,(show 2≤sizeLine by decide),fun t ht'=>⟨g3.trans (g4.trans (Same.upd ht')),?_⟩⟩
   have ei:(addsM ps ws).take (i+1)=(addsM ps ws).take i++[(p.1,p.2+gainM ws p.1)]:=by
    rw[List.take_succ]
    unfold addsM
    rw[List.getElem?_map,hp]
    rfl
   rw[ei]
   exact Paired.append' (Prs.mono (TupS.same (g4.trans (Same.upd ht'))) pr3) (.cons ⟨t,rfl,upd_same⟩ .nil)
  ·rintro ys H3 ⟨g3,pr3⟩ D hD
   rw[e,show ps.length=(addsM ps ws).length by simp[addsM],List.take_length]at pr3
   have gD:=Same.upd (o:=.lst ys) hD
   refine⟨D,ys,addsM ps ws,rfl,upd_same,Prs.mono (TupS.same gD) pr3,by simp[addsM];omega,fun l us' qs hl pr' hperm hs=>?_⟩
   have gA:=(g1.trans g3).trans gD
   exact k qs hperm hs l us' _ (gA.free hl) (Same.upd' (gA.free hl) gA) upd_same (Prs.mono (TupS.new hl) pr')
noncomputable abbrev s_far:Stmt:=top 29
theorem sc_far:FnScope ["row","walks"] ["row","walks"] (defScope s_far):=⟨rfl,rfl,rfl,by decide +kernel,rfl,by decide +kernel,by decide +kernel⟩
theorem ok_far {f:Addr} {fd:FuncData} (F:Fun K "far" "far" s_far f fd) (B:Bt mg) (F_list_of:FnAt P w K mg base "list_of" 4 ["row"] spListOf) (F_added:FnAt P w K mg base "added" 3 ["trains","walks"] spAdded) (F_row_of:FnAt P w K mg base "row_of" 3 ["trains"] spRowOfV):FnOk P w K mg base CX0 5 f fd ["row","walks"] spFar:=by
 refine F.ok sc_far (fun vs H Q E h=>?_) (fun cdv A outer s H vs Q E hr h=>?_)
 ·obtain⟨a,b,row,ws,rfl,_⟩:=h
  rfl
 ·obtain⟨a,b,row,ws,rfl,ha,hrow,hrl,hb,hwl,hc,k⟩:=h
  refine⟨_,(pss_one (ps_ret (pe_fn F_row_of hr rfl (pa_cons (pe_fn F_added hr rfl (pa_cons (pe_fn F_list_of hr rfl (pa_cons (pv 0) pa_nil)) (pa_cons (pv 1) pa_nil))) pa_nil)))),?_⟩
  refine⟨_,rfl,a,row,rfl,ha,hrow,hrl,fun qs hq1 hq2 l1 us1 H1 hl1 g1 el1 pr1=>?_⟩
  refine⟨_,rfl,l1,b,qs,ws,rfl,⟨us1,el1,pr1⟩,hq1.trn hrl,hb.mono g1,hwl,hc,fun rs hr1 hr2 l2 us2 H2 hl2 g2 el2 pr2=>?_⟩
  have hT:=trn_perm (trn_adds (ws:=ws) (hq1.trn hrl)) hr1
  refine⟨l2,rs,rfl,⟨us2,el2,pr2⟩,hT,fun r hr l3 H3 hl3 g3 el3=>?_⟩
  exact k r qs hq1 (hr.perm hr1) l3 H3 ((g1.trans g2).free hl3) ((g1.trans g2).trans g3) el3
noncomputable abbrev s_look_stones:Stmt:=top 31
theorem sc_look_stones:FnScope ["stones"] ["stones"] (defScope s_look_stones):=⟨rfl,rfl,rfl,by decide +kernel,rfl,by decide +kernel,by decide +kernel⟩
theorem ok_look_stonesX {f:Addr} {fd:FuncData} {tC:Tok} (F:Fun K "look_stones" "look_stones" s_look_stones f fd) (B:Bt mg) (C:Cn mg tC) (X:Errs K mg) (R_BadNumber:RaisesAs P w K mg base "BadNumber" X.number ["self","why"] (spX0 "BadNumber" X.number)):FnOk P w K mg base (CXR P w) 4 f fd ["stones"] (spLookStones X):=by
 refine F.okX sc_look_stones (fun vs H Q E h=>?_) (fun cdv A outer s H vs Q E hfr hr h=>?_)
 ·obtain⟨n,rfl,_⟩:=h
  rfl
 ·obtain⟨n,rfl,k1,k2⟩:=h
  refine⟨_,(pss_one (ps_if (PW.pt (pw_or (pt_cmpR op_lt (pv 0) pe_int (nomark _)) (pw_or1 (pt_cmpR op_gt (pv 0) (pe_glob (v:=.int 60) rfl C.MOST_STONES ⟨_,rfl⟩) (nomark _)))))
 (pss_one (ps_raiseR (raiseR hfr) R_BadNumber rfl rfl hr rfl (pa_cons (pe_fstr (fps_cons (fp_str (by decide)) (fps_cons (fp_int (pe_glob (v:=.int 60) rfl C.MOST_STONES ⟨_,rfl⟩)) fps_nil))) pa_nil)))
 pss_nil)),?_⟩
  refine⟨_,rfl,_,_,rfl,rfl,_,rfl,iteD (fun z=>⟨60,rfl,by decide,by decide,fun _=>rd0 (k2 (.inl z))⟩) (fun z=>?_)⟩
  exact⟨_,rfl,_,_,rfl,rfl,_,rfl,iteD (fun y=>⟨60,rfl,by decide,by decide,fun _=>rd0 (k2 (.inr y))⟩) (fun y=>k1 (fun x=>x.elim z y))⟩
noncomputable abbrev s_tidied:Stmt:=top 32
theorem sc_tidied:FnScope ["walks","stones","sums","creel","count","useful"] ["walks","stones"] (defScope s_tidied):=⟨rfl,rfl,rfl,by decide +kernel,rfl,by decide +kernel,by decide +kernel⟩
theorem ok_tidiedX {f:Addr} {fd:FuncData} (F:Fun K "tidied" "tidied" s_tidied f fd) (B:Bt mg) (X:Errs K mg) (F_look_stones:FnAtX P w K mg base "look_stones" 4 ["stones"] (spLookStones X)) (F_look_walks:FnAtX P w K mg base "look_walks" 5 ["walks"] (spOr spLookW (spLookWR X))):FnOk P w K mg base (CXR P w) 6 f fd ["walks","stones"] (spTidied X):=by
 refine F.okX sc_tidied (fun vs H Q E h=>?_) (fun cdv A outer s H vs Q E hfr hr h=>?_)
 ·obtain⟨a,ws,n,rfl,_⟩:=h
  rfl
 ·obtain⟨a,ws,n,rfl,hlp,hwl,k1,k2⟩:=h
  have hu1:=hu_of hr
  refine⟨_,(pss_cons (ps_expr (pe_fnX F_look_stones hr rfl (passR hfr) (pa_cons (pv 1) pa_nil)))
 (pss_cons (ps_expr (pe_fnX F_look_walks hr rfl (passR hfr) (pa_cons (pv 0) pa_nil)))
 (pss_cons (ps_set (i:=2) sc_tidied.nd rfl (Or.inl rfl) pe_dnewK)
 (pss_cons (ps_for passF rfl (pi_list (pv 0)) (pg_tup rfl (pgs_cons (pg_name (i:=3) sc_tidied.nd rfl (Or.inl rfl)) (pgs_cons (pg_name (i:=4) sc_tidied.nd rfl (Or.inl rfl)) pgs_nil)))
 (pss_cons (ps_set (i:=5) sc_tidied.nd rfl (Or.inl rfl) (pe_callB (call_min2 rfl) (by rfl) B.min boot_min (pa_cons (pv 3) (pa_cons (pv 1) pa_nil))))
 (pss_one (ps_dput hu1 (pv 2) (pv 5) (pe_op op_add (pe_dget2 hu1 (pv 2) (pv 5) pe_int ⟨rfl,rfl,rfl,rfl⟩) (pv 4)) rfl))))
 (pss_one (ps_ret (pe_callB call_sortedP (by rfl) B.sorted boot_sorted (pa_cons (pe_comp ["creel","count"] [] [] rfl (.of (show compOk (defScope s_tidied) _ ["walks","stones","sums","creel","count","useful"] [] []=true by decide +kernel)) (pi_items (pv 2)) (fun _ _ _=>(pg_tupK (n:=2) K rfl rfl (pgs_cons (pg_name (i:=0) (show (["creel","count"]:List Str).Nodup by decide +kernel) rfl (Or.inl rfl)) (pgs_cons (pg_name (i:=1) (show (["creel","count"]:List Str).Nodup by decide +kernel) rfl (Or.inl rfl)) pgs_nil)))) (kg_tup (kgs_cons (by decide) (kgs_cons (by decide) kgs_nil))) (fun _ _ _=>pif_one (pt_cmpR op_neI (pv 1) pe_int (nomark _))) (fun _ _ _=>(pe_tup (pa_cons (pv 0) (pa_cons (pv 1) pa_nil))))) pa_nil)))))))),?_⟩
  refine⟨_,rfl,n,rfl,fun hn=>?_,fun hn=>?_⟩
  case refine_2 =>
   have e:dueTidy ws n=.number:=by unfold dueTidy;rw[if_pos hn]
   rw[e]at k2
   exact k2 (fun z=>(nomatch z))
  have h160:1≤n∧n≤60:=⟨by omega,by omega⟩
  by_cases hc:Crl ws
  case neg =>
   have e:dueTidy ws n=.creel:=by unfold dueTidy;rw[if_neg hn,if_neg hc]
   rw[e]at k2
   exact⟨_,rfl,.inr ⟨a,ws,rfl,hlp,hc,k2 (fun z=>(nomatch z))⟩⟩
  have e:dueTidy ws n=.ok:=by unfold dueTidy;rw[if_neg hn,if_pos hc]
  have k1:=k1 e
  refine⟨_,rfl,.inl ⟨a,ws,rfl,hlp,hc,?_⟩⟩
  refine fun d hd=>?_
  have g1:=Same.upd (o:=.dK []) hd
  have ed:(upd H d (.dK [])) d=some (.dK (kvI [])):=upd_same
  generalize upd H d (.dK [])=H1 at g1 ed ⊢
  obtain⟨us,ha,pr⟩:=hlp
  have eu:us.length=ws.length:=pr.len
  refine⟨_,rfl,a,rfl,⟨_,SqL.of (g1 _ _ ha)⟩,for_list (K:=K) (a:=a) (xs:=us) (fun i σ H2=>∃ (ms:List (Int×Int)) (v1 v2 v3:Option V),σ=[some (.ref a),some (.int n),some (.ref d),v1,v2,v3]∧Same H H2∧H2 d=some (.dK (kvI ms))∧(ms.map (·.1)).Nodup∧(∀ c,(lkI ms c).getD 0=sumW (ws.take i) n c)∧(∀ m∈ms,1≤m.1∧m.1≤n)∧ms.length≤i)
   ⟨[],none,none,none,rfl,g1,ed,List.Pairwise.nil,fun c=>rfl,fun m hm=>(nomatch hm),Nat.le_refl _⟩ (fun i σ H2 _ ⟨_,_,_,_,_,sm,_⟩=>SqL.of (sm _ _ ha)) ?_ ?_⟩
  ·rintro i x σ H2 hi ⟨ms,v1,v2,v3,rfl,sm,ed2,hnd,hlk,hkb,hml⟩
   obtain⟨q,t',hq,rfl,et⟩:=paired_at pr hi
   have hil:i<us.length:=(List.getElem?_eq_some_iff.mp hi).1
   have hq1:=hc q (List.mem_of_getElem? hq)
   refine⟨t',_,rfl,SqT.of (sm _ _ et),rfl,_,_,rfl,_,_,rfl,rfl,_,rfl,_,rfl,_,_,rfl,_,rfl,d,rfl,.inl ⟨_,.inl ed2⟩,_,rfl,_,DGet.k (k:=Sum.inl (useI n q)) ed2,_,rfl,?_⟩
   rw[valV_kvI]
   have hv:((lkI ms (useI n q)).map V.int).getD (V.int 0)=V.int ((lkI ms (useI n q)).getD 0):=by cases lkI ms (useI n q) <;> rfl
   rw[hv]
   refine⟨_,_,rfl,rfl,_,rfl,_,rfl,d,_,rfl,DPut.k (k:=Sum.inl (useI n q)) ed2 (by simp only[kvI,List.length_map];exact line_of (by omega)),?_⟩
   refine⟨putI ms (useI n q) ((lkI ms (useI n q)).getD 0+q.2),_,_,_,rfl,Same.upd' hd sm,by rw[upd_same,kvI_put],key_put hnd,fun c=>?_,fun m hm=>?_,by have:=len_put ms (useI n q) ((lkI ms (useI n q)).getD 0+q.2);omega⟩
   ·rw[lkI_put,sumW_take hq]
    by_cases hcu:c=useI n q
    ·rw[if_pos hcu,if_pos hcu.symm,hcu,← hlk]
     rfl
    ·rw[if_neg hcu,if_neg (fun z=>hcu z.symm),hlk]
     omega
   ·rcases mem_put hm with h | h
    ·rw[h]
     unfold useI
     split <;> omega
    ·exact hkb m h
  ·rintro σ H2 ⟨ms,v1,v2,v3,rfl,sm,ed2,hnd,hlk,hkb,hml⟩
   rw[eu,List.take_length]at hlk
   refine⟨_,rfl,d,kvI ms,rfl,ed2,fun od=>?_⟩
   have g3:Same H (upd H2 d (.frz od (.dK (kvI ms)))):=Same.upd' hd sm
   have ed3:(upd H2 d (.frz od (.dK (kvI ms)))) d=some (.frz od (.dK (kvI ms))):=upd_same
   generalize upd H2 d (.frz od (.dK (kvI ms)))=H3 at g3 ed3 ⊢
   have hkl:(kvI ms).length=ms.length:=by simp[kvI]
   refine comp_items (d:=d) (od:=od) (kvs:=kvI ms) (fun i ys H4=>Same H3 H4∧Prs H4 ys ((ms.take i).filter fun m=>decide (m.2≠0))) ⟨Same.refl _,.nil⟩ ?_ ?_ ?_
   ·rintro i ys H4 hi ⟨g4,pr4⟩
    refine⟨g4 _ _ ed3,line_of ?_⟩
    rw[pr4.len]
    have:=List.length_filter_le (fun m:Int×Int=>decide (m.2≠0)) (ms.take i)
    rw[List.length_take]at this
    omega
   ·rintro i ky x ys H4 t hx ⟨g4,pr4⟩ ht
    obtain⟨m,hm,hmx⟩:∃ m,ms[i]?=some m∧((Sum.inl m.1:Key),V.int m.2)=(ky,x):=by
     unfold kvI at hx
     rw[List.getElem?_map]at hx
     obtain⟨m,h1,h2⟩:=Option.map_eq_some_iff.mp hx
     exact⟨m,h1,h2⟩
    cases hmx
    have g5:=Same.upd (o:=.tup [kV (Sum.inl m.1),V.int m.2]) ht
    have hts:(ms.take (i+1)).filter (fun m=>decide (m.2≠0))=(ms.take i).filter (fun m=>decide (m.2≠0))++(if m.2≠0 then [m]else []):=by
     rw[List.take_succ,hm,List.filter_append]
     congr 1
     by_cases h0:m.2≠0
     ·simp[h0]
     ·have h0':m.2=0:=by omega
      simp[h0']
    have et:(upd H4 t (.tup [kV (Sum.inl m.1),V.int m.2])) t=some (.tup [V.int m.1,V.int m.2]):=upd_same
    generalize upd H4 t (.tup [kV (Sum.inl m.1),V.int m.2])=H5 at g5 et ⊢
    refine⟨t,_,rfl,SqT.of et,rfl,_,_,rfl,_,_,rfl,rfl,_,rfl,_,_,rfl,rfl,_,rfl,?_⟩
    by_cases h0:m.2=0
    ·rw[decide_eq_true h0]
     refine⟨g4.trans g5,?_⟩
     rw[hts,if_neg (fun z=>z h0),List.append_nil]
     exact pr4.mono (TupS.same g5)
    ·rw[decide_eq_false h0]
     refine⟨_,rfl,_,rfl,(show 2≤sizeLine by decide),fun t2 ht2=>⟨(g4.trans g5).trans (Same.upd ht2),?_⟩⟩
     rw[hts,if_pos h0]
     exact Paired.append' (pr4.mono (TupS.same (g5.trans (Same.upd ht2)))) (.cons ⟨t2,rfl,upd_same⟩ .nil)
   ·rintro ys H4 ⟨g4,pr4⟩ D hD
    rw[hkl,List.take_length]at pr4
    have gD:=Same.upd (o:=.lst ys) hD
    have hfl:=List.length_filter_le (fun m:Int×Int=>decide (m.2≠0)) ms
    refine⟨D,ys,_,rfl,upd_same,pr4.mono (TupS.same gD),by omega,fun l us' qs hl pr' hperm hs=>?_⟩
    have hnm:ms.Nodup:=List.Pairwise.imp (fun h e=>h (by rw[e])) (List.pairwise_map.mp hnd)
    have heq:qs=tidyTo ws n n.toNat:=by
     refine pairs_unique (hperm.trans (perm_of_nodup (List.Pairwise.filter _ hnm) (tidy_sorted _).2 fun x=>?_)) hs (tidy_sorted _).1
     rw[List.mem_filter,mem_tidy]
     constructor
     ·rintro ⟨hx,h0⟩
      have hb:=hkb x hx
      have hl2:=mem_lkI hnd (c:=x.1) (m:=x.2) hx
      have:=hlk x.1
      rw[hl2]at this
      exact⟨⟨hb.1,by omega⟩,this,by simpa using h0⟩
     ·rintro ⟨hb,hsum,h0⟩
      have:=hlk x.1
      cases hq:lkI ms x.1 with
      | none=>rw[hq]at this;exact absurd (hsum.trans this.symm) h0
      | some m =>
       rw[hq]at this
       have hm:m=x.2:=this.trans hsum.symm
       have hx:=lkI_mem hq
       rw[hm]at hx
       exact⟨hx,by simpa using h0⟩
    subst heq
    have gA:=(g3.trans g4).trans gD
    exact k1 l us' _ (gA.free hl) (Same.upd' (gA.free hl) gA) upd_same (Prs.mono (TupS.new hl) pr')
noncomputable abbrev s_parting:Stmt:=top 33
theorem sc_parting:FnScope ["one","other","stones","length"] ["one","other","stones"] (defScope s_parting):=⟨rfl,rfl,rfl,by decide +kernel,rfl,by decide +kernel,by decide +kernel⟩
theorem ok_partingX {f:Addr} {fd:FuncData} (F:Fun K "parting" "parting" s_parting f fd) (B:Bt mg) (X:Errs K mg) (F_look_stones:FnAtX P w K mg base "look_stones" 4 ["stones"] (spLookStones X)) (F_look_walks:FnAtX P w K mg base "look_walks" 5 ["walks"] (spOr spLookW (spLookWR X))) (F_gain:FnAt P w K mg base "gain" 1 ["walks","size"] spGain):FnOk P w K mg base (CXR P w) 6 f fd ["one","other","stones"] (spParting X):=by
 refine F.okX sc_parting (fun vs H Q E h=>?_) (fun cdv A outer s H vs Q E hfr hr h=>?_)
 ·obtain⟨a,b,A,B',n,rfl,_⟩:=h
  rfl
 ·obtain⟨a,b,wa,wb,n,rfl,hA,hAl,hB,hBl,k1,k2⟩:=h
  refine⟨_,(pss_cons (ps_expr (pe_fnX F_look_stones hr rfl (passR hfr) (pa_cons (pv 2) pa_nil)))
 (pss_cons (ps_expr (pe_fnX F_look_walks hr rfl (passR hfr) (pa_cons (pv 0) pa_nil)))
 (pss_cons (ps_expr (pe_fnX F_look_walks hr rfl (passR hfr) (pa_cons (pv 1) pa_nil)))
 (pss_cons (ps_for passF rfl (pi_range2 rfl B.range (pa_cons pe_int (pa_cons (pe_op op_add (pv 2) pe_int) pa_nil))) (pg_name (i:=3) sc_parting.nd rfl (Or.inl rfl))
 (pss_one (ps_if (pt_cmpR op_neI (pe_fn F_gain hr rfl (pa_cons (pv 0) (pa_cons (pv 3) pa_nil))) (pe_fn F_gain hr rfl (pa_cons (pv 1) (pa_cons (pv 3) pa_nil))) (nomark _))
 (pss_one (ps_ret (pe_callTy (call_list_rng rfl) (by rfl) B.list boot_list (pa_cons (pe_range2 rfl B.range (pa_cons pe_int (pa_cons (pe_op op_add (pv 3) pe_int) pa_nil))) pa_nil))))
 pss_nil)))
 (pss_one (ps_ret pe_non)))))),?_⟩
  refine⟨_,rfl,n,rfl,fun hn=>?_,fun hn=>?_⟩
  case refine_2 =>
   have e:duePart wa wb n=.number:=by unfold duePart;rw[if_pos hn]
   rw[e]at k2
   exact k2 (fun z=>(nomatch z))
  by_cases cA:Crl wa
  case neg =>
   have e:duePart wa wb n=.creel:=by unfold duePart;rw[if_neg hn,if_neg fun z=>cA z.1]
   rw[e]at k2
   exact⟨_,rfl,.inr ⟨a,wa,rfl,hA,cA,k2 (fun z=>(nomatch z))⟩⟩
  refine⟨_,rfl,.inl ⟨a,wa,rfl,hA,cA,?_⟩⟩
  by_cases cB:Crl wb
  case neg =>
   have e:duePart wa wb n=.creel:=by unfold duePart;rw[if_neg hn,if_neg fun z=>cB z.2]
   rw[e]at k2
   exact⟨_,rfl,.inr ⟨b,wb,rfl,hB,cB,k2 (fun z=>(nomatch z))⟩⟩
  refine⟨_,rfl,.inl ⟨b,wb,rfl,hB,cB,?_⟩⟩
  have e:duePart wa wb n=.ok:=by unfold duePart;rw[if_neg hn,if_pos ⟨cA,cB⟩]
  obtain⟨k3,k4⟩:=k1 e
  have h1:1≤n∧n≤60:=⟨by omega,by omega⟩
  refine⟨_,rfl,_,_,rfl,rfl,_,_,rfl,⟨by decide,by decide,by omega,by omega⟩,for_range (lo:=1) (fun i σ H2=>∃ v3:Option V,σ=[some (.ref a),some (.ref b),some (.int n),v3]∧Same H H2∧Alk wa wb i) ⟨none,rfl,Same.refl _,fun L h1 h2=>by omega⟩ ?_ ?_⟩
  ·rintro i σ H2 hi ⟨v3,rfl,sm,hal⟩
   refine⟨_,rfl,_,rfl,a,wa,1+(i:Int),rfl,hA.mono sm,by omega,cA,by omega,by omega,fun H3 g3=>?_⟩
   have s3:=sm.trans g3
   refine⟨_,rfl,_,rfl,b,wb,1+(i:Int),rfl,hB.mono s3,by omega,cB,by omega,by omega,fun H4 g4=>?_⟩
   have s4:=s3.trans g4
   refine⟨_,_,rfl,rfl,_,rfl,?_⟩
   by_cases hg:gainM wa (1+(i:Int))=gainM wb (1+(i:Int))
   ·refine iteNS hg ⟨_,rfl,s4,fun L h1 h2=>?_⟩
    by_cases hL:L≤i
    ·exact hal L h1 hL
    ·obtain rfl:L=1+(i:Int):=by omega
     exact hg
   ·rw[decide_eq_false hg]
    refine iteT ⟨_,rfl,_,_,rfl,rfl,_,_,rfl,fun r hr0=>⟨r,_,_,rfl,upd_same,⟨by decide,by decide,by omega,by omega⟩,by omega,fun l hl=>?_⟩⟩
    have eL:(1+(i:Int)+1 - 1).toNat=i+1:=by omega
    rw[eL]
    have g5:=Same.upd (o:=.rng 1 (1+(i:Int)+1)) hr0
    exact k4 i (by omega) (by rw[Int.add_comm];exact hg) l _ ((s4.trans g5).free hl) ((s4.trans g5).trans (Same.upd hl)) upd_same
  ·rintro σ H2 ⟨v3,rfl,sm,hal⟩
   refine k3 ?_ H2 sm
   rw[show (n+1 - 1).toNat=n.toNat by omega]at hal
   exact hal
noncomputable abbrev s_law_numbers:Stmt:=top 35
theorem sc_law_numbers:FnScope ["_law_script","_law_many","_law_row_here","_law_seed","_law_cell","_law_rest","_law_k"] ["_law_script","_law_many"] (defScope s_law_numbers):=⟨rfl,rfl,rfl,by decide +kernel,rfl,by decide +kernel,by decide +kernel⟩
inductive I1_law_numbers (H:Hp) (a:Addr) (l:Addr) (p:Addr) (m:Nat) (ms:List Int) (i:Nat) (σ:St) (H2:Hp):Prop
 | mk (seed:Int) (xs:List Int) (v1 v2 v3:Option V) (k0_:σ=[some (.ref a),some (.int m),some (.ref l),some (.int seed),v1,v2,v3]) (k1_:Same H H2) (k2_:H2 p=some (.lst (ms.map V.int))) (k3_:H2 l=some (.lst (xs.map V.int))) (k4_:Nums xs) (k5_:xs.length≤61 * i) (k6_:0≤seed) (k7_:seed<2147483629):I1_law_numbers H a l p m ms i σ H2
inductive I2_law_numbers (H:Hp) (a:Addr) (l:Addr) (p:Addr) (m:Nat) (ms:List Int) (i:Nat) (seed:Int) (z:Int) (v3:Option V) (σ:St) (H3:Hp):Prop
 | mk (ys:List Int) (k0_:σ=[some (.ref a),some (.int m),some (.ref l),some (.int (sd1 seed z)),some (.int z),some (.int (rs1 z)),v3]) (k1_:Same H H3) (k2_:H3 p=some (.lst (ms.map V.int))) (k3_:H3 l=some (.lst (ys.map V.int))) (k4_:Nums ys) (k5_:ys.length≤61 * i+1):I2_law_numbers H a l p m ms i seed z v3 σ H3
inductive I3_law_numbers (H:Hp) (a:Addr) (l:Addr) (p:Addr) (m:Nat) (ms:List Int) (i:Nat) (seed:Int) (z:Int) (j:Nat) (σ:St) (H4:Hp):Prop
 | mk (r:Int) (ys:List Int) (v:Option V) (k0_:σ=[some (.ref a),some (.int m),some (.ref l),some (.int (sd1 seed z)),some (.int z),some (.int r),v]) (k1_:Same H H4) (k2_:H4 p=some (.lst (ms.map V.int))) (k3_:H4 l=some (.lst (ys.map V.int))) (k4_:Nums ys) (k5_:ys.length≤61 * i+1+j):I3_law_numbers H a l p m ms i seed z j σ H4
inductive I4_law_numbers (H:Hp) (a:Addr) (l:Addr) (m:Nat) (v1:Option V) (v2:Option V) (v3:Option V) (σ:St) (H3:Hp):Prop
 | mk (seed:Int) (ys:List Int) (k0_:σ=[some (.ref a),some (.int m),some (.ref l),some (.int seed),v1,v2,v3]) (k1_:Same H H3) (k2_:H3 l=some (.lst (ys.map V.int))) (k3_:Nums ys) (k4_:ys.length≤5000) (k5_:0≤seed) (k6_:seed<2147483629):I4_law_numbers H a l m v1 v2 v3 σ H3
theorem ok_numbers {f:Addr} {fd:FuncData} (F:Fun K "_law_numbers" "_law_numbers" s_law_numbers f fd) (B:Bt mg):FnOk P w K mg base CX0 1 f fd ["_law_script","_law_many"] (spNumbers K):=by
 refine F.ok sc_law_numbers (fun vs H Q E h=>?_) (fun cdv A outer s H vs Q E hr h=>?_)
 ·obtain⟨a,sc,m,rfl,_⟩:=h
  rfl
 ·obtain⟨a,sc,m,rfl,hS,hlen,hm,k⟩:=h
  refine⟨_,(pss_consO (ps_set (i:=2) sc_law_numbers.nd rfl (Or.inl rfl) (pe_lst pa_nil))
 (pss_consO (ps_set (i:=3) sc_law_numbers.nd rfl (Or.inl rfl) pe_int)
 (pss_consO (ps_for PassesOwn.never rfl (pi_list (pe_slice sl_list (pv 0) po_none (po_some pe_int))) (pg_name (i:=4) sc_law_numbers.nd rfl (Or.inl rfl))
 (pss_consO (ps_set (i:=3) sc_law_numbers.nd rfl (Or.inl rfl) (pe_op op_mod (pe_op op_add (pe_op op_add (pe_op op_mul (pv 3) pe_int) (pe_op op_mod (pv 4) pe_int)) pe_int) pe_int))
 (pss_consO (ps_set (i:=5) sc_law_numbers.nd rfl (Or.inl rfl) (pe_op op_sub (pv 4) (pe_op op_pow pe_int pe_int)))
 (pss_cut (ps_if (pt_cmpR op_lt (pv 5) pe_int (nomark _))
 (pss_one (ps_expr (pe_bm PySem.F.plainAttrs_list PySem.F.slot_list_append PySem.F.type_list_append mt_append (pv 2) (pa_cons (pe_op op_mod (pv 4) pe_int) pa_nil))))
 pss_nil)
 (pss_one (ps_for PassesOwn.never rfl (pi_range1 rfl B.range (pa_cons pe_int pa_nil)) (pg_name (i:=6) sc_law_numbers.nd rfl (Or.inl rfl))
 (pss_one (ps_if (pt_cmpR op_gt (pv 5) pe_int (nomark _))
 (pss_consO (ps_expr (pe_bm PySem.F.plainAttrs_list PySem.F.slot_list_append PySem.F.type_list_append mt_append (pv 2) (pa_cons (pe_op op_mod (pv 5) pe_int) pa_nil)))
 (pss_one (ps_set (i:=5) sc_law_numbers.nd rfl (Or.inl rfl) (pe_op op_fdiv (pv 5) pe_int))))
 pss_nil))))))))
 (pss_cons (ps_while PassesOwn.never (pt_cmpR op_lt (pe_callB call_len_seq (by rfl) B.len PySem.boot_len (pa_cons (pv 2) pa_nil)) (pv 1) (nomark _))
 (pss_consO (ps_set (i:=3) sc_law_numbers.nd rfl (Or.inl rfl) (pe_op op_mod (pe_op op_add (pe_op op_add (pe_op op_add (pe_op op_mul (pv 3) (pv 3)) (pe_op op_mul pe_int (pv 3))) (pe_op op_mul pe_int (pe_callB call_len_seq (by rfl) B.len PySem.boot_len (pa_cons (pv 2) pa_nil)))) pe_int) pe_int))
 (pss_one (ps_expr (pe_bm PySem.F.plainAttrs_list PySem.F.slot_list_append PySem.F.type_list_append mt_append (pv 2) (pa_cons (pe_op op_mod (pe_op op_fdiv (pv 3) pe_int) pe_int) pa_nil))))))
 (pss_one (ps_ret (pe_slice sl_list (pv 2) po_none (po_some (pv 1))))))))),?_⟩
  refine fun M1 hM1=>?_
  refine⟨by decide,fun l hl=>?_⟩
  refine hM1 [some (.ref a),some (.int m),some (.ref l),none,none,none,none] _ ?_
  clear hM1 M1
  refine fun M1 hM1=>?_
  refine hM1 [some (.ref a),some (.int m),some (.ref l),some (.int 59),none,none,none] _ ?_
  clear hM1 M1
  refine fun M1 hM1=>?_
  refine⟨_,rfl,_,rfl,a,sc.map V.int,rfl,(Same.upd hl).seq hS,fun p hp=>?_⟩
  obtain⟨ms,ec,hml,hmm⟩:=cutV_ints sc none (some 63)
  rw[ec]
  have hpl:p≠l:=fun e=>by subst e;rw[upd_same]at hp;cases hp
  have hHp:H p=none:=by rw[← hp,upd_ne hpl]
  refine⟨p,rfl,⟨_,SqL.of upd_same⟩,for_list (K:=K) (a:=p) (xs:=ms.map V.int) (I1_law_numbers H a l p m ms) ?_ ?_ ?_ ?_⟩
  ·exact⟨59,[],none,none,none,rfl,Same.upd' hHp (Same.upd hl),upd_same,by rw[upd_ne (Ne.symm hpl),upd_same];rfl,fun _ h=>(by cases h),Nat.le_refl _,by decide,by decide⟩
  ·rintro i σ H2 _ ⟨seed,xs,v1,v2,v3,_,_,e,_⟩
   exact SqL.of e
  ·rintro i x σ H2 hi ⟨seed,xs,v1,v2,v3,rfl,sm,ep,el,nx,lx,s0,s1⟩
   have hil:i<ms.length:=by
    have:=(List.getElem?_eq_some_iff.mp hi).1
    simpa using this
   obtain⟨z,rfl⟩:∃ z,x=V.int z:=by
    rw[List.getElem?_map]at hi
    cases e:ms[i]? with
    | none=>rw[e]at hi;cases hi
    | some z=>rw[e]at hi;exact⟨z,(Option.some.inj hi).symm⟩
   clear hM1
   refine fun M2 hM2=>?_
   refine⟨_,rfl,_,_,rfl,rfl,.inr ⟨by decide,by decide⟩,_,rfl,_,_,rfl,rfl,(by show (0:Int)<999983;decide),_,_,rfl,rfl,_,_,rfl,rfl,_,_,rfl,rfl,(by show (0:Int)<2147483563;decide),?_⟩
   have t0:0≤sd1 seed z:=Int.emod_nonneg _ (by decide)
   have t1:sd1 seed z<2147483563:=Int.emod_lt_of_pos _ (by decide)
   refine hM2 [some (.ref a),some (.int m),some (.ref l),some (.int (sd1 seed z)),some (.int z),v2,v3] _ ?_
   clear hM2 M2
   refine fun M2 hM2=>?_
   refine⟨_,rfl,_,_,rfl,rfl,⟨by decide,by decide,by decide⟩,_,_,rfl,rfl,?_⟩
   refine hM2 [some (.ref a),some (.int m),some (.ref l),some (.int (sd1 seed z)),some (.int z),some (.int (rs1 z)),v3] _ ?_
   clear hM2 M2
   refine⟨I2_law_numbers H a l p m ms i seed z v3,?_,?_⟩
   ·refine⟨_,rfl,_,_,rfl,rfl,_,rfl,iteD (fun _=>?_) (fun _=>⟨xs,rfl,sm,ep,el,nx,by omega⟩)⟩
    refine⟨_,rfl,.inl ⟨rfl,_,SqL.of el⟩,_,rfl,_,_,rfl,rfl,(by show (0:Int)<9967;decide),l,_,_,rfl,rfl,el,(by rw[List.length_map];exact line_of (by omega)),?_⟩
    refine⟨xs++[z % 9967],rfl,Same.upd' hl sm,by rw[upd_ne hpl];exact ep,by rw[upd_same];simp,?_,by simp;omega⟩
    intro n hn
    rcases List.mem_append.mp hn with h | h
    ·exact nx n h
    ·rw[List.mem_singleton.mp h]
     exact⟨Int.emod_nonneg _ (by decide),Int.emod_lt_of_pos _ (by decide)⟩
   ·rintro σ H3 ⟨ys,rfl,sm3,ep3,el3,nx3,lx3⟩
    refine⟨60,rfl,by decide,by decide,for_range (lo:=0) (n:=60) (I3_law_numbers H a l p m ms i seed z)
     ⟨rs1 z,ys,v3,rfl,sm3,ep3,el3,nx3,by omega⟩ ?_ ?_⟩
    ·rintro j σ H4 hj ⟨r,ys,v,rfl,sm4,ep4,el4,nx4,lx4⟩
     refine⟨_,rfl,_,_,rfl,rfl,_,rfl,iteD (fun hr0=>?_) (fun _=>⟨r,ys,_,rfl,sm4,ep4,el4,nx4,by omega⟩)⟩
     refine fun M2 hM2=>?_
     refine⟨_,rfl,.inl ⟨rfl,_,SqL.of el4⟩,_,rfl,_,_,rfl,rfl,(by show (0:Int)<1013;decide),l,_,_,rfl,rfl,el4,(by rw[List.length_map];exact line_of (by omega)),?_⟩
     refine hM2 [some (.ref a),some (.int m),some (.ref l),some (.int (sd1 seed z)),some (.int z),some (.int r),some (.int (0+(j:Int)))] _ ?_
     clear hM2 M2
     refine⟨_,rfl,_,_,rfl,rfl,⟨by decide,by decide⟩,?_⟩
     refine⟨r / 1013,ys++[r % 1013],_,rfl,Same.upd' hl sm4,by rw[upd_ne hpl];exact ep4,by rw[upd_same];simp,?_,by simp;omega⟩
     intro n hn
     rcases List.mem_append.mp hn with h | h
     ·exact nx4 n h
     ·rw[List.mem_singleton.mp h]
      have a1:=Int.emod_nonneg r (show (1013:Int)≠0 by decide)
      have a2:=Int.emod_lt_of_pos r (show (0:Int)<1013 by decide)
      exact⟨a1,by omega⟩
    ·rintro σ H4 ⟨r,ys,v,rfl,sm4,ep4,el4,nx4,lx4⟩
     exact⟨sd1 seed z,ys,_,_,_,rfl,sm4,ep4,el4,nx4,by omega,t0,by omega⟩
  ·rintro σ H2 ⟨seed,xs,v1,v2,v3,rfl,sm,ep,el,nx,lx,s0,s1⟩
   have lx':xs.length≤61 * 63:=by
    have:(ms.map V.int).length≤63:=by rw[List.length_map];omega
    omega
   refine hM1 [some (.ref a),some (.int m),some (.ref l),some (.int seed),v1,v2,v3] _ ?_
   clear hM1 M1
   refine while_by (I4_law_numbers H a l m v1 v2 v3)
    (fun _ H3=>match H3 l with | some (.lst ys)=>m - ys.length | _=>0) ⟨seed,xs,rfl,sm,el,nx,by omega,s0,s1⟩ ?_ ?_
   ·rintro σ H3 ⟨seed,ys,rfl,sm3,el3,nx3,lx3,q0,q1⟩
    refine⟨_,rfl,l,_,rfl,.inl (SqL.of el3),_,rfl,_,_,rfl,rfl,_,rfl,iteD (fun hc=>?_) (fun hc=>?_)⟩
    ·rw[List.length_map]at hc
     refine fun M1 hM1=>?_
     refine⟨_,rfl,_,rfl,_,_,rfl,rfl,.inl ⟨by omega,by omega⟩,_,rfl,_,_,rfl,rfl,.inl ⟨by decide,by decide⟩,_,_,rfl,rfl,_,rfl,l,_,rfl,.inl (SqL.of el3),_,_,rfl,rfl,.inl ⟨by decide,by decide⟩,_,_,rfl,rfl,_,_,rfl,rfl,_,_,rfl,rfl,(by show (0:Int)<2147483629;decide),?_⟩
     refine hM1 [some (.ref a),some (.int m),some (.ref l),some (.int (sd2 seed ys)),v1,v2,v3] _ ?_
     clear hM1 M1
     have t0:0≤sd2 seed ys:=Int.emod_nonneg _ (by decide)
     have t1:sd2 seed ys<2147483629:=Int.emod_lt_of_pos _ (by decide)
     refine⟨_,rfl,.inl ⟨rfl,_,SqL.of el3⟩,_,rfl,_,_,rfl,rfl,⟨by decide,by decide⟩,_,_,rfl,rfl,(by show (0:Int)<9967;decide),l,_,_,rfl,rfl,el3,(by rw[List.length_map];exact line_of (by omega)),?_⟩
     refine⟨⟨sd2 seed ys,ys++[sd2 seed ys / 1019 % 9967],rfl,Same.upd' hl sm3,by rw[upd_same,List.map_append];rfl,?_,by simp;omega,t0,t1⟩,?_⟩
     ·intro n hn
      rcases List.mem_append.mp hn with h | h
      ·exact nx3 n h
      ·rw[List.mem_singleton.mp h]
       exact⟨Int.emod_nonneg _ (by decide),Int.emod_lt_of_pos _ (by decide)⟩
     ·simp only[upd_same,el3,List.length_append,List.length_map,List.length_singleton]
      omega
    ·rw[List.length_map]at hc
     refine⟨_,rfl,_,rfl,_,rfl,l,_,rfl,SqL.of el3,fun p2 hp2=>?_⟩
     rw[cut_to ys m (by omega)]
     exact k p2 (ys.take m) _ (by simp;omega) (fun n hn=>nx3 n (List.mem_of_mem_take hn)) (sm3.free hp2) (Same.upd' (sm3.free hp2) sm3) upd_same
   ·intro σ H3 Q1 Q2 hq h
    obtain⟨x,e,p2,ys,e2,hq2,z,e3,i,j,e4,e5,b,e6,q⟩:=h
    exact⟨x,e,p2,ys,e2,hq2,z,e3,i,j,e4,e5,b,e6,hq _ _ q⟩
noncomputable abbrev s_law_same:Stmt:=top 36
theorem sc_law_same:FnScope ["_law_found","_law_due"] ["_law_found","_law_due"] (defScope s_law_same):=⟨rfl,rfl,rfl,by decide +kernel,rfl,by decide +kernel,by decide +kernel⟩
theorem same_step {f:Addr} {fd:FuncData} {n k:Nat} {spR:Sp} (F:Fun K "_law_same" "_law_same" s_law_same f fd) (B:Bt mg) (F_law_same:FnAt P w K mg base "_law_same" k ["_law_found","_law_due"] spR)
 (hsp:∀ m,m+1=n→∀ vs H Q E,spSame m vs H Q E→spR vs H Q E):FnOk P w K mg base CX0 (k+1) f fd ["_law_found","_law_due"] (spSame n):=by
 refine F.ok sc_law_same (fun vs H Q E h=>?_) (fun cdv A outer s H vs Q E hr h=>?_)
 ·obtain⟨x,y,d,rfl,_⟩:=h
  rfl
 ·obtain⟨x,y,d,rfl,h1,h2,hdep,hsh,hsm,kk⟩:=h
  have hu:=hr.units
  refine⟨_,(pss_cons (ps_if (pt_cmpR op_isN (pv 1) pe_non (nomark _))
 (pss_one (ps_ret (pe_cmpR op_isN (pv 0) pe_non (nomark _))))
 pss_nil)
 (pss_cons (ps_if (pt_truth (pe_callB call_isiT (by rfl) B.isinstance boot_isinstance (pa_cons (pv 1) (pa_cons (pe_tup (pa_cons (pe_bltn (v:=.ty "list") rfl B.list boot_list rfl) (pa_cons (pe_bltn (v:=.ty "tuple") rfl B.tuple boot_tuple rfl) pa_nil))) pa_nil))) (fun _=>rfl))
 (pss_cons (ps_if (PW.pt (pw_or (pt_cmpR op_ne (pe_callB call_isi (by rfl) B.isinstance boot_isinstance (pa_cons (pv 0) (pa_cons (pe_bltn (v:=.ty "list") rfl B.list boot_list rfl) pa_nil))) (pe_callB call_isi (by rfl) B.isinstance boot_isinstance (pa_cons (pv 1) (pa_cons (pe_bltn (v:=.ty "list") rfl B.list boot_list rfl) pa_nil))) (nomark _)) (pw_or1 (pt_cmpR op_ne (pe_callB call_isi (by rfl) B.isinstance boot_isinstance (pa_cons (pv 0) (pa_cons (pe_bltn (v:=.ty "tuple") rfl B.tuple boot_tuple rfl) pa_nil))) (pe_callB call_isi (by rfl) B.isinstance boot_isinstance (pa_cons (pv 1) (pa_cons (pe_bltn (v:=.ty "tuple") rfl B.tuple boot_tuple rfl) pa_nil))) (nomark _)))))
 (pss_one (ps_ret pe_bl))
 pss_nil)
 (pss_one (ps_ret (pe_and (pe_cmpR op_eqI (pe_callB call_len_seq (by rfl) B.len PySem.boot_len (pa_cons (pv 0) pa_nil)) (pe_callB call_len_seq (by rfl) B.len PySem.boot_len (pa_cons (pv 1) pa_nil)) (nomark _)) (pe_one (pe_callB (call_all rfl) (by rfl) B.all boot_all (pa_cons (pe_comp ["_law_k"] ["_law_found","_law_due"] [0,1] rfl (.of (show compOk (defScope s_law_same) _ ["_law_found","_law_due"] [0,1] ["_law_found","_law_due"]=true by decide +kernel)) (pi_range1 rfl B.range (pa_cons (pe_callB call_len_seq (by rfl) B.len PySem.boot_len (pa_cons (pv 1) pa_nil)) pa_nil)) (fun _ _ _=>(pg_name (i:=0) (show (["_law_k","_law_found","_law_due"]:List Str).Nodup by decide +kernel) rfl (Or.inl rfl))) (kg_name (by decide)) (fun _ _ _=>pif_nil) (fun _ _ _=>(pe_fn F_law_same hr rfl (pa_cons (pe_ix (ix_seqK K rfl) (pv 1) (pv 0) (fun _ _=>rfl)) (pa_cons (pe_ix (ix_seqK K rfl) (pv 2) (pv 0) (fun _ _=>rfl)) pa_nil)) (hj:=Nat.le_refl _)))) pa_nil)))))))
 pss_nil)
 (pss_cons (ps_if (PW.pt (pw_or (pt_cmpR op_ne (pe_callB call_isi (by rfl) B.isinstance boot_isinstance (pa_cons (pv 0) (pa_cons (pe_bltn (v:=.ty "bool") rfl B.bool boot_bool rfl) pa_nil))) (pe_callB call_isi (by rfl) B.isinstance boot_isinstance (pa_cons (pv 1) (pa_cons (pe_bltn (v:=.ty "bool") rfl B.bool boot_bool rfl) pa_nil))) (nomark _)) (pw_or1 (pt_cmpR op_ne (pe_callB call_isi (by rfl) B.isinstance boot_isinstance (pa_cons (pv 0) (pa_cons (pe_bltn (v:=.ty "str") rfl B.str boot_str rfl) pa_nil))) (pe_callB call_isi (by rfl) B.isinstance boot_isinstance (pa_cons (pv 1) (pa_cons (pe_bltn (v:=.ty "str") rfl B.str boot_str rfl) pa_nil))) (nomark _)))))
 (pss_one (ps_ret pe_bl))
 pss_nil)
 (pss_one (ps_ret (pe_and (pe_cmpR op_eq (pe_callB call_isi (by rfl) B.isinstance boot_isinstance (pa_cons (pv 0) (pa_cons (pe_bltn (v:=.ty "int") rfl B.int boot_int rfl) pa_nil))) (pe_callB call_isi (by rfl) B.isinstance boot_isinstance (pa_cons (pv 1) (pa_cons (pe_bltn (v:=.ty "int") rfl B.int boot_int rfl) pa_nil))) (nomark _)) (pe_one (pe_cmpR (op_eqD hu) (pv 0) (pv 1) (nomark _))))))))),?_⟩
  cases h1 with
  | non =>
   cases h2
   exact⟨_,rfl,rfl,_,rfl,iteDT rfl ⟨_,rfl,rfl,kk H (Same.refl H)⟩⟩
  | bl b =>
   cases h2
   refine⟨_,rfl,rfl,_,rfl,iteDF (by intro h;cases h) ?_⟩
   refine⟨_,rfl,(show 2≤sizeLine by decide),fun tp htp=>⟨_,tp,["list","tuple"],.bool b,false,rfl,upd_same,.bl b,rfl,false,rfl,?_⟩⟩
   refine⟨_,rfl,_,"bool",.bool b,true,rfl,.bl b,rfl,_,rfl,_,"bool",.bool b,true,rfl,.bl b,rfl,rfl,_,rfl,?_⟩
   refine⟨_,rfl,_,"str",.bool b,false,rfl,.bl b,rfl,_,rfl,_,"str",.bool b,false,rfl,.bl b,rfl,rfl,_,rfl,?_⟩
   refine⟨_,rfl,_,"int",.bool b,true,rfl,.bl b,rfl,_,rfl,_,"int",.bool b,true,rfl,.bl b,rfl,rfl,_,rfl,?_⟩
   refine⟨_,rfl,_,rfl,_,_,.bl b,.bl b,hsh,hsh,?_⟩
   rw[eqv_self hsh]
   exact kk _ (Same.upd htp)
  | int b =>
   cases h2
   refine⟨_,rfl,rfl,_,rfl,iteDF (by intro h;cases h) ?_⟩
   refine⟨_,rfl,(show 2≤sizeLine by decide),fun tp htp=>⟨_,tp,["list","tuple"],.int b,false,rfl,upd_same,.int b,rfl,false,rfl,?_⟩⟩
   refine⟨_,rfl,_,"bool",.int b,false,rfl,.int b,rfl,_,rfl,_,"bool",.int b,false,rfl,.int b,rfl,rfl,_,rfl,?_⟩
   refine⟨_,rfl,_,"str",.int b,false,rfl,.int b,rfl,_,rfl,_,"str",.int b,false,rfl,.int b,rfl,rfl,_,rfl,?_⟩
   refine⟨_,rfl,_,"int",.int b,true,rfl,.int b,rfl,_,rfl,_,"int",.int b,true,rfl,.int b,rfl,rfl,_,rfl,?_⟩
   refine⟨_,rfl,_,rfl,_,_,.int b,.int b,hsh,hsh,?_⟩
   rw[eqv_self hsh]
   exact kk _ (Same.upd htp)
  | str b =>
   cases h2
   refine⟨_,rfl,rfl,_,rfl,iteDF (by intro h;cases h) ?_⟩
   refine⟨_,rfl,(show 2≤sizeLine by decide),fun tp htp=>⟨_,tp,["list","tuple"],.str b,false,rfl,upd_same,.str b,rfl,false,rfl,?_⟩⟩
   refine⟨_,rfl,_,"bool",.str b,false,rfl,.str b,rfl,_,rfl,_,"bool",.str b,false,rfl,.str b,rfl,rfl,_,rfl,?_⟩
   refine⟨_,rfl,_,"str",.str b,true,rfl,.str b,rfl,_,rfl,_,"str",.str b,true,rfl,.str b,rfl,rfl,_,rfl,?_⟩
   refine⟨_,rfl,_,"int",.str b,false,rfl,.str b,rfl,_,rfl,_,"int",.str b,false,rfl,.str b,rfl,rfl,_,rfl,?_⟩
   refine⟨_,rfl,_,rfl,_,_,.str b,.str b,hsh,hsh,?_⟩
   rw[eqv_self hsh]
   exact kk _ (Same.upd htp)
  | @lst a1 us ds ea ta =>
   cases h2 with
   | @lst a2 ws _ eb tb =>
    have hlu:=ta.length
    have hlw:=tb.length
    have hsm':=hsm
    simp only[sml,Bool.and_eq_true,decide_eq_true_eq]at hsm'
    have hlen2:ws.length≤5000:=by omega
    have hln:(5000:Nat)<sizeLine:=by decide
    refine⟨_,rfl,rfl,_,rfl,iteDF (by intro h;cases h) ?_⟩
    refine⟨_,rfl,(show 2≤sizeLine by decide),fun tp htp=>?_⟩
    have sm0:=Same.upd (o:=.tup [V.ty "list",V.ty "tuple"]) htp
    refine⟨_,tp,["list","tuple"],.list ds,true,rfl,upd_same,(Den.lst eb tb).mono sm0,rfl,true,rfl,?_⟩
    generalize upd H tp (.tup [V.ty "list",V.ty "tuple"])=H0 at sm0 ⊢
    have d1:=(Den.lst ea ta).mono sm0
    have d2:=(Den.lst eb tb).mono sm0
    refine⟨_,rfl,_,"list",.list ds,true,rfl,d1,rfl,_,rfl,_,"list",.list ds,true,rfl,d2,rfl,rfl,_,rfl,?_⟩
    refine⟨_,rfl,_,"tuple",.list ds,false,rfl,d1,rfl,_,rfl,_,"tuple",.list ds,false,rfl,d2,rfl,rfl,_,rfl,?_⟩
    refine⟨_,rfl,a1,_,rfl,.inl (SqL.of (sm0 _ _ ea)),_,rfl,a2,_,rfl,.inl (SqL.of (sm0 _ _ eb)),_,_,rfl,rfl,_,rfl,iteDT (by omega) ?_⟩
    refine⟨_,rfl,a2,_,rfl,.inl (SqL.of (sm0 _ _ eb)),_,rfl,by omega,by omega,comp_range (lo:=0) (fun i ys H2=>Same H0 H2∧ys=List.replicate i (V.bl true)) ⟨Same.refl _,rfl⟩ ?_ ?_ ?_⟩
    ·rintro i ys H2 hi ⟨sm,rfl⟩
     rw[List.length_replicate]
     omega
    ·rintro i ys H2 hi ⟨sm,rfl⟩
     have hi':i<ds.length:=by omega
     obtain⟨v1,e1,q1⟩:=ta.get (i:=i) (d:=ds[i]) (by simp[hi'])
     obtain⟨v2,e2,q2⟩:=tb.get (i:=i) (d:=ds[i]) (by simp[hi'])
     have em:ds[i]∈ds:=List.getElem_mem hi'
     have sm1:Same H H2:=sm0.trans sm
     have ez:(0:Int)+(i:Int)=(i:Int):=by omega
     refine⟨_,rfl,_,rfl,.inl ⟨a1,_,_,_,rfl,rfl,SqL.of (sm1 _ _ ea),(by rw[ez];exact atI_nat e1),_,rfl,_,rfl,.inl ⟨a2,_,_,_,rfl,rfl,SqL.of (sm1 _ _ eb),(by rw[ez];exact atI_nat e2),?_⟩⟩⟩
     have hd1:=depth_mem em
     have hdd:PyData.depthAll ds+1≤n:=hdep
     refine hsp (n - 1) (by omega) _ _ _ _ ⟨v1,v2,ds[i],rfl,q1.mono sm1,q2.mono sm1,by omega,?_,sml_mem em hsm'.2,fun H3 sm3=>⟨sm.trans sm3,by rw[List.replicate_succ']⟩⟩
     have c1:PyData.canLayAll0 ds=true:=SeqAt.canLay_of_shaped hsh
     have c2:=SeqAt.depth_of_shaped hsh
     have c3:PyData.depthAll ds+1≤64:=c2
     simp only[SeqAt.shaped,canLay_mem em c1,Bool.true_and]
     exact decide_eq_true (by omega)
    ·rintro ys H2 ⟨sm,rfl⟩ D hD
     refine⟨D,List.replicate _ true,rfl,by rw[upd_same,List.map_replicate],?_⟩
     have:∀ k:Nat,(List.replicate k true).all id=true:=fun k=>by simp
     rw[this]
     exact kk _ ((sm0.trans sm).trans (Same.upd hD))
  | @tup a1 us ds ea ta =>
   cases h2 with
   | @tup a2 ws _ eb tb =>
    have hlu:=ta.length
    have hlw:=tb.length
    have hsm':=hsm
    simp only[sml,Bool.and_eq_true,decide_eq_true_eq]at hsm'
    have hlen2:ws.length≤5000:=by omega
    have hln:(5000:Nat)<sizeLine:=by decide
    refine⟨_,rfl,rfl,_,rfl,iteDF (by intro h;cases h) ?_⟩
    refine⟨_,rfl,(show 2≤sizeLine by decide),fun tp htp=>?_⟩
    have sm0:=Same.upd (o:=.tup [V.ty "list",V.ty "tuple"]) htp
    refine⟨_,tp,["list","tuple"],.tuple ds,true,rfl,upd_same,(Den.tup eb tb).mono sm0,rfl,true,rfl,?_⟩
    generalize upd H tp (.tup [V.ty "list",V.ty "tuple"])=H0 at sm0 ⊢
    have d1:=(Den.tup ea ta).mono sm0
    have d2:=(Den.tup eb tb).mono sm0
    refine⟨_,rfl,_,"list",.tuple ds,false,rfl,d1,rfl,_,rfl,_,"list",.tuple ds,false,rfl,d2,rfl,rfl,_,rfl,?_⟩
    refine⟨_,rfl,_,"tuple",.tuple ds,true,rfl,d1,rfl,_,rfl,_,"tuple",.tuple ds,true,rfl,d2,rfl,rfl,_,rfl,?_⟩
    refine⟨_,rfl,a1,_,rfl,.inr (SqT.of (sm0 _ _ ea)),_,rfl,a2,_,rfl,.inr (SqT.of (sm0 _ _ eb)),_,_,rfl,rfl,_,rfl,iteDT (by omega) ?_⟩
    refine⟨_,rfl,a2,_,rfl,.inr (SqT.of (sm0 _ _ eb)),_,rfl,by omega,by omega,comp_range (lo:=0) (fun i ys H2=>Same H0 H2∧ys=List.replicate i (V.bl true)) ⟨Same.refl _,rfl⟩ ?_ ?_ ?_⟩
    ·rintro i ys H2 hi ⟨sm,rfl⟩
     rw[List.length_replicate]
     omega
    ·rintro i ys H2 hi ⟨sm,rfl⟩
     have hi':i<ds.length:=by omega
     obtain⟨v1,e1,q1⟩:=ta.get (i:=i) (d:=ds[i]) (by simp[hi'])
     obtain⟨v2,e2,q2⟩:=tb.get (i:=i) (d:=ds[i]) (by simp[hi'])
     have em:ds[i]∈ds:=List.getElem_mem hi'
     have sm1:Same H H2:=sm0.trans sm
     have ez:(0:Int)+(i:Int)=(i:Int):=by omega
     refine⟨_,rfl,_,rfl,.inr (.inl ⟨a1,_,_,_,rfl,rfl,SqT.of (sm1 _ _ ea),(by rw[ez];exact atI_nat e1),_,rfl,_,rfl,.inr (.inl ⟨a2,_,_,_,rfl,rfl,SqT.of (sm1 _ _ eb),(by rw[ez];exact atI_nat e2),?_⟩)⟩)⟩
     have hd1:=depth_mem em
     have hdd:PyData.depthAll ds+1≤n:=hdep
     refine hsp (n - 1) (by omega) _ _ _ _ ⟨v1,v2,ds[i],rfl,q1.mono sm1,q2.mono sm1,by omega,?_,sml_mem em hsm'.2,fun H3 sm3=>⟨sm.trans sm3,by rw[List.replicate_succ']⟩⟩
     have c1:PyData.canLayAll0 ds=true:=SeqAt.canLay_of_shaped hsh
     have c2:=SeqAt.depth_of_shaped hsh
     have c3:PyData.depthAll ds+1≤64:=c2
     simp only[SeqAt.shaped,canLay_mem em c1,Bool.true_and]
     exact decide_eq_true (by omega)
    ·rintro ys H2 ⟨sm,rfl⟩ D hD
     refine⟨D,List.replicate _ true,rfl,by rw[upd_same,List.map_replicate],?_⟩
     have:∀ k:Nat,(List.replicate k true).all id=true:=fun k=>by simp
     rw[this]
     exact kk _ ((sm0.trans sm).trans (Same.upd hD))
theorem ok_same {f:Addr} {fd:FuncData} (F:Fun K "_law_same" "_law_same" s_law_same f fd) (B:Bt mg) (hmg:mg "_law_same"=some (.ref f)) (hb:Binds K fd ["_law_found","_law_due"] []) :
 ∀ n,FnOk P w K mg base CX0 (n+1) f fd ["_law_found","_law_due"] (spSame n):=by
 intro n
 induction n with
 | zero =>
  refine same_step (k:=0) (spR:=fun _ _ _ _=>False) F B ⟨f,fd,⟨fun _ _ _ _ h=>h.elim,fun _ _ _ _ _ _ _ _ _ _ _ _ _ h=>h.elim⟩,hmg,F.kp,hb⟩ fun m hm=>?_
  omega
 | succ n ih =>
  refine same_step F B ⟨f,fd,ih,hmg,F.kp,hb⟩ fun m hm vs H Q E h=>?_
  obtain rfl:m=n:=by omega
  exact h
noncomputable abbrev s_law_row:Stmt:=top 37
theorem sc_law_row:FnScope ["_law_d","_law_most","_law_place","_law_row_here","_law_k","_law_step"] ["_law_d","_law_most"] (defScope s_law_row):=⟨rfl,rfl,rfl,by decide +kernel,rfl,by decide +kernel,by decide +kernel⟩
inductive I1_law_row (H:Hp) (a:Addr) (l:Addr) (m:Nat) (i:Nat) (σ:St) (H2:Hp):Prop
 | mk (place:Int) (row:List Int) (v1 v2:Option V) (k0_:σ=[some (.ref a),some (.int m),some (.int place),some (.ref l),v1,v2]) (k1_:Same H H2) (k2_:H2 l=some (.lst (row.map V.int))) (k3_:Row row) (k4_:row.length=i) (k5_:-15≤place) (k6_:place≤15+12 * i) (k7_:∀ x∈row,-15≤x∧x≤place):I1_law_row H a l m i σ H2
theorem ok_row {f:Addr} {fd:FuncData} (F:Fun K "_law_row" "_law_row" s_law_row f fd) (B:Bt mg):FnOk P w K mg base CX0 1 f fd ["_law_d","_law_most"] spRow:=by
 refine F.ok sc_law_row (fun vs H Q E h=>?_) (fun cdv A outer s H vs Q E hr h=>?_)
 ·obtain⟨a,ns,m,rfl,_⟩:=h
  rfl
 ·obtain⟨a,ns,m,rfl,ha,hns,hlen,hm,k⟩:=h
  refine⟨_,(pss_cons (ps_set (i:=2) sc_law_row.nd rfl (Or.inl rfl) (pe_op op_sub (pe_op op_mod (pe_ix ix_list (pv 0) pe_int (fun _ _=>rfl)) pe_int) pe_int))
 (pss_cons (ps_set (i:=3) sc_law_row.nd rfl (Or.inl rfl) (pe_lst pa_nil))
 (pss_cons (ps_for PassesOwn.never rfl (pi_range1 rfl B.range (pa_cons (pe_op op_mod (pe_ix ix_list (pv 0) pe_int (fun _ _=>rfl)) (pe_op op_add (pv 1) pe_int)) pa_nil)) (pg_name (i:=4) sc_law_row.nd rfl (Or.inl rfl))
 (pss_cons (ps_set (i:=5) sc_law_row.nd rfl (Or.inl rfl) (pe_ix ix_list (pv 0) (pe_op op_add pe_int (pv 4)) (fun _ _=>rfl)))
 (pss_cons (ps_set (i:=2) sc_law_row.nd rfl (Or.inl rfl) (pe_op op_add (pe_op op_add (pv 2) pe_int) (pe_cut (pe_ifExp (pt_cmpR op_eqI (pe_op op_mod (pv 5) pe_int) pe_int (nomark _)) pe_int (pe_op op_mod (pe_op op_fdiv (pv 5) pe_int) (pe_ix ix_list (pe_lst (pa_cons pe_int (pa_cons pe_int (pa_cons pe_int (pa_cons pe_int pa_nil))))) (pe_op op_mod (pe_ix ix_list (pv 0) pe_int (fun _ _=>rfl)) pe_int) (fun _ _=>rfl)))))))
 (pss_one (ps_expr (pe_bm PySem.F.plainAttrs_list PySem.F.slot_list_append PySem.F.type_list_append mt_append (pv 3) (pa_cons (pv 2) pa_nil)))))))
 (pss_one (ps_ret (pv 3)))))),?_⟩
  obtain⟨n0,m0,_,e0⟩:=at_mem (ns:=ns) (i:=0) (by omega) (by omega)
  obtain⟨n1,m1,_,e1⟩:=at_mem (ns:=ns) (i:=1) (by omega) (by omega)
  obtain⟨n2,m2,_,e2⟩:=at_mem (ns:=ns) (i:=2) (by omega) (by omega)
  have p1:(0:Int)<(m:Int)+1:=by omega
  have q1:=Int.emod_nonneg n1 (show ((m:Int)+1)≠0 by omega)
  have q2:=Int.emod_lt_of_pos n1 p1
  have r1:=Int.emod_nonneg n0 (show (31:Int)≠0 by decide)
  have r2:=Int.emod_lt_of_pos n0 (show (0:Int)<31 by decide)
  refine⟨_,rfl,a,_,_,_,rfl,rfl,SqL.of ha,e0,_,_,rfl,rfl,(by show (0:Int)<31;decide),_,_,rfl,rfl,by decide,fun l hl=>?_⟩
  have ha':=Same.upd (o:=.lst []) hl _ _ ha
  refine⟨_,rfl,a,_,_,_,rfl,rfl,SqL.of ha',e1,_,rfl,_,_,rfl,rfl,_,_,rfl,rfl,p1,_,rfl,by omega,by omega,
   for_range (lo:=0) (n:=(n1 % ((m:Int)+1)).toNat) (I1_law_row H a l m) ⟨_,[],none,none,rfl,Same.upd hl,upd_same,List.Pairwise.nil,rfl,by omega,by omega,fun x hx=>by cases hx⟩ ?_ ?_⟩
  ·rintro i σ H2 hi ⟨place,row,v1,v2,rfl,sm,el,hrow,hrl,h1,h2,hx⟩
   obtain⟨st,ms,_,es⟩:=at_mem (ns:=ns) (i:=3+(0+(i:Int))) (by omega) (by omega)
   refine⟨_,rfl,_,rfl,_,_,rfl,rfl,a,_,_,_,rfl,rfl,SqL.of (sm _ _ ha),es,?_⟩
   refine⟨_,rfl,_,_,rfl,rfl,fun v H3=>∃ d:Int,v=.int d∧0≤d∧d≤11∧(H3=H2∨∃ p xs,H2 p=none∧H3=upd H2 p (.lst xs)),?_,?_⟩
   ·refine⟨_,rfl,_,_,rfl,rfl,(by show (0:Int)<3;decide),_,_,rfl,rfl,_,rfl,iteD (fun _=>⟨0,rfl,by decide,by decide,.inl rfl⟩) (fun _=>?_)⟩
    refine⟨_,rfl,_,_,rfl,rfl,⟨by decide,by decide⟩,(by show 4≤sizeLine;decide),fun p hp=>?_⟩
    obtain⟨w',mw,_,ew⟩:=at_mem (ns:=[2,3,5,12]) (i:=n2 % 4) (Int.emod_nonneg _ (by decide)) (Int.emod_lt_of_pos _ (by decide))
    refine⟨_,rfl,a,_,_,_,rfl,rfl,SqL.of ((Same.upd hp) _ _ (sm _ _ ha)),e2,_,_,rfl,rfl,(by show (0:Int)<4;decide),p,_,_,_,rfl,rfl,SqL.of upd_same,ew,_,_,rfl,rfl,?_,_,rfl,?_,?_,.inr ⟨p,_,hp,rfl⟩⟩
    ·simp at mw;omega
    ·exact Int.emod_nonneg _ (by simp at mw;omega)
    ·have:=Int.emod_lt_of_pos (st / 3) (show (0:Int)<w' by simp at mw;omega)
     simp at mw
     show st / 3 % w'≤11
     omega
   ·rintro v H3 ⟨d,rfl,d0,d1,hH3⟩
    have sm3:Same H H3:=by
     rcases hH3 with e | ⟨p,xs,hp,e⟩
     ·rw[e];exact sm
     ·rw[e];exact Same.upd' (sm.free hp) sm
    have el3:H3 l=some (.lst (row.map V.int)):=by
     rcases hH3 with e | ⟨p,xs,hp,e⟩
     ·rw[e];exact el
     ·rw[e,upd_ne (ne_of_none el hp)];exact el
    refine⟨_,_,rfl,rfl,_,rfl,.inl ⟨rfl,_,SqL.of el3⟩,_,rfl,l,_,_,rfl,rfl,el3,(by rw[List.length_map];exact line_of (by omega)),?_⟩
    refine⟨place+1+d,row++[place+1+d],_,_,rfl,Same.upd' hl sm3,by rw[upd_same,List.map_append];rfl,row_snoc hrow fun y hy=>?_,by simp[hrl],by omega,by omega,fun x hx'=>?_⟩
    ·have:=hx y hy;omega
    ·rcases List.mem_append.mp hx' with h | h
     ·have:=hx x h;omega
     ·rw[List.mem_singleton.mp h];omega
  ·rintro σ H2 ⟨place,row,v1,v2,rfl,sm,el,hrow,hrl,h1,h2,hx⟩
   exact⟨_,rfl,k row hrow (by omega) (fun x h=>by have:=hx x h;omega) l H2 hl sm el⟩
noncomputable abbrev s_law_long_row:Stmt:=top 38
theorem sc_law_long_row:FnScope ["_law_d","_law_most","_law_row_here","_law_cut","_law_by"] ["_law_d","_law_most"] (defScope s_law_long_row):=⟨rfl,rfl,rfl,by decide +kernel,rfl,by decide +kernel,by decide +kernel⟩
theorem ok_long {f:Addr} {fd:FuncData} (F:Fun K "_law_long_row" "_law_long_row" s_law_long_row f fd) (B:Bt mg) (F_law_row:FnAt P w K mg base "_law_row" 1 ["_law_d","_law_most"] spRow):FnOk P w K mg base CX0 2 f fd ["_law_d","_law_most"] spLong:=by
 refine F.ok sc_law_long_row (fun vs H Q E h=>?_) (fun cdv A outer s H vs Q E hr h=>?_)
 ·obtain⟨a,ns,m,rfl,_⟩:=h
  rfl
 ·obtain⟨a,ns,m,rfl,ha,hns,hlen,hm,k⟩:=h
  refine⟨_,(pss_cons (ps_set (i:=2) sc_law_long_row.nd rfl (Or.inl rfl) (pe_fn F_law_row hr rfl (pa_cons (pv 0) (pa_cons (pv 1) pa_nil))))
 (pss_cons (ps_set (i:=3) sc_law_long_row.nd rfl (Or.inl rfl) (pe_op op_mod (pe_op op_fdiv (pe_ix ix_list (pv 0) pe_int (fun _ _=>rfl)) pe_int) (pe_op op_add (pe_callB call_len_seq (by rfl) B.len PySem.boot_len (pa_cons (pv 2) pa_nil)) pe_int)))
 (pss_cons (ps_set (i:=4) sc_law_long_row.nd rfl (Or.inr rfl) (pe_ix ix_list (pe_lst (pa_cons pe_int (pa_cons (pe_op op_pow pe_int pe_int) (pa_cons (pe_op op_pow pe_int pe_int) (pa_cons (pe_op op_pow pe_int pe_int) pa_nil))))) (pe_op op_mod (pe_op op_fdiv (pe_ix ix_list (pv 0) pe_int (fun _ _=>rfl)) pe_int) pe_int) (fun _ _=>rfl)))
 (pss_one (ps_ret (pe_op op_cat (pe_slice sl_list (pv 2) po_none (po_some (pv 3))) (pe_comp ["_law_place"] ["_law_by"] [4] rfl (.of (show compOk (defScope s_law_long_row) _ ["_law_d","_law_most","_law_row_here","_law_cut","_law_by"] [4] ["_law_by"]=true by decide +kernel)) (pi_list (pe_slice sl_list (pv 2) (po_some (pv 3)) po_none)) (fun _ _ _=>(pg_name (i:=0) (show (["_law_place","_law_by"]:List Str).Nodup by decide +kernel) rfl (Or.inl rfl))) (kg_name (by decide)) (fun _ _ _=>pif_nil) (fun _ _ _=>(pe_op op_add (pv 0) (pv 1)))))))))),?_⟩
  obtain⟨n2,m2,_,e2⟩:=at_mem (ns:=ns) (i:=2) (by omega) (by omega)
  refine⟨_,rfl,_,rfl,a,ns,m,rfl,ha,hns,hlen,hm,fun row hrow hrl hrb l H1 hl sm el=>?_⟩
  have p1:(0:Int)<(row.length:Int)+1:=by omega
  refine⟨_,rfl,a,_,_,_,rfl,rfl,SqL.of (sm _ _ ha),e2,_,_,rfl,rfl,⟨by decide,by decide⟩,_,rfl,l,_,rfl,.inl (SqL.of el),_,_,rfl,rfl,_,_,rfl,rfl,(by rw[List.length_map];exact p1),?_⟩
  have c0:0≤n2 / 4 % ((row.length:Int)+1):=Int.emod_nonneg _ (by omega)
  have c1:n2 / 4 % ((row.length:Int)+1)<(row.length:Int)+1:=Int.emod_lt_of_pos _ p1
  obtain⟨c,hc⟩:∃ c:Nat,n2 / 4 % (((row.map V.int).length:Int)+1)=(c:Int):=⟨(n2 / 4 % (((row.map V.int).length:Int)+1)).toNat,by rw[List.length_map];omega⟩
  have hcl:c≤row.length:=by rw[List.length_map]at hc;omega
  refine⟨_,_,rfl,rfl,⟨by decide,by decide,by decide⟩,_,_,rfl,rfl,⟨by decide,by decide,by decide⟩,_,_,rfl,rfl,⟨by decide,by decide,by decide⟩,(show 4≤sizeLine by decide),fun p hp=>?_⟩
  obtain⟨b,mb,_,eb⟩:=at_mem (ns:=[0,10 ^ (3:Int).toNat,10 ^ (12:Int).toNat,10 ^ (40:Int).toNat]) (i:=n2 / 64 % 4) (Int.emod_nonneg _ (by decide)) (Int.emod_lt_of_pos _ (by decide))
  have hb:0≤b:=by
   simp only[List.mem_cons,List.mem_nil_iff,or_false]at mb
   rcases mb with h | h | h | h <;> rw[h] <;> decide
  have smp:=Same.upd (o:=.lst [V.int 0,V.int (10 ^ (3:Int).toNat),V.int (10 ^ (12:Int).toNat),V.int (10 ^ (40:Int).toNat)]) hp
  refine⟨_,rfl,a,_,_,_,rfl,rfl,SqL.of (smp _ _ (sm _ _ ha)),e2,_,_,rfl,rfl,⟨by decide,by decide⟩,_,_,rfl,rfl,(by show (0:Int)<4;decide),p,_,_,_,rfl,rfl,SqL.of upd_same,eb,?_⟩
  have el2:=smp _ _ el
  have sm2:Same H (upd H1 p (.lst [V.int 0,V.int (10 ^ (3:Int).toNat),V.int (10 ^ (12:Int).toNat),V.int (10 ^ (40:Int).toNat)])):=sm.trans smp
  generalize upd H1 p (.lst [V.int 0,V.int (10 ^ (3:Int).toNat),V.int (10 ^ (12:Int).toNat),V.int (10 ^ (40:Int).toNat)])=H2 at el2 sm2 ⊢
  refine⟨_,rfl,_,rfl,_,rfl,l,_,rfl,SqL.of el2,fun p1 hp1=>?_⟩
  have ec1:cutV (row.map V.int) none (some (n2 / 4 % (((row.map V.int).length:Int)+1)))=(row.take c).map V.int:=by rw[hc];exact cut_to row c hcl
  rw[show cutV (row.map V.int) none (some ((fun i j=>i % j) (n2 / 4) (((row.map V.int).length:Int)+1)))=(row.take c).map V.int from ec1]
  have el3:=Same.upd (o:=.lst ((row.take c).map V.int)) hp1 _ _ el2
  have sm3:Same H (upd H2 p1 (.lst ((row.take c).map V.int))):=sm2.trans (Same.upd hp1)
  have ep1:(upd H2 p1 (.lst ((row.take c).map V.int))) p1=some (.lst ((row.take c).map V.int)):=upd_same
  generalize upd H2 p1 (.lst ((row.take c).map V.int))=H3 at el3 sm3 ep1 ⊢
  refine⟨_,rfl,_,rfl,_,rfl,l,_,rfl,SqL.of el3,fun p2 hp2=>?_⟩
  have ec2:cutV (row.map V.int) (some (n2 / 4 % (((row.map V.int).length:Int)+1))) none=(row.drop c).map V.int:=by rw[hc];exact cut_from row c hcl
  rw[show cutV (row.map V.int) (some ((fun i j=>i % j) (n2 / 4) (((row.map V.int).length:Int)+1))) none=(row.drop c).map V.int from ec2]
  have sm4:=Same.upd (o:=.lst ((row.drop c).map V.int)) hp2
  have ep2:(upd H3 p2 (.lst ((row.drop c).map V.int))) p2=some (.lst ((row.drop c).map V.int)):=upd_same
  generalize upd H3 p2 (.lst ((row.drop c).map V.int))=H4 at sm4 ep2 ⊢
  have hdl:(row.drop c).length≤60:=by simp;omega
  refine⟨p2,rfl,⟨_,SqL.of ep2⟩,comp_list (xs:=(row.drop c).map V.int) (fun i ys H5=>H5=H4∧ys=(((row.drop c).take i).map (fun z=>z+b)).map V.int) ⟨rfl,rfl⟩ ?_ ?_ ?_⟩
  ·rintro i ys H5 hi ⟨rfl,rfl⟩
   exact⟨SqL.of ep2,take_len _ _ (by rw[List.length_map]at hi;omega) _⟩
  ·rintro i x ys H5 hi ⟨rfl,rfl⟩
   obtain⟨z,rfl,hz⟩:=int_at hi
   exact⟨_,rfl,_,rfl,_,_,rfl,rfl,rfl,snoc_map _ hz⟩
  ·rintro ys H5 ⟨rfl,rfl⟩ D hD
   rw[List.length_map,List.take_length]
   have smD:=Same.upd (o:=.lst (((row.drop c).map (fun z=>z+b)).map V.int)) hD
   refine⟨p1,D,_,_,rfl,rfl,smD _ _ (sm4 _ _ ep1),upd_same,?_,fun q hq=>?_⟩
   ·simp only[List.length_map,List.length_take,List.length_drop]
    exact line_le (by omega)
   ·rw[← List.map_append]
    have smH:=(sm3.trans sm4).trans smD
    refine k _ (row_long (c:=c) hrow hb) ?_ q _ (smH.free hq) (Same.upd' (smH.free hq) smH) upd_same
    simp only[List.length_append,List.length_map,List.length_take,List.length_drop]
    omega
noncomputable abbrev s_law_runs:Stmt:=top 39
theorem sc_law_runs:FnScope ["_law_row_here","_law_found","_law_place"] ["_law_row_here"] (defScope s_law_runs):=⟨rfl,rfl,rfl,by decide +kernel,rfl,by decide +kernel,by decide +kernel⟩
theorem ok_runs {f:Addr} {fd:FuncData} (F:Fun K "_law_runs" "_law_runs" s_law_runs f fd) (B:Bt mg):FnOk P w K mg base CX0 1 f fd ["_law_row_here"] spRuns:=by
 refine F.ok sc_law_runs (fun vs H Q E h=>?_) (fun cdv A outer s H vs Q E hr h=>?_)
 ·obtain⟨a,r,rfl,_⟩:=h
  rfl
 ·obtain⟨a,row,rfl,ha,hlen,k⟩:=h
  have hu:=hr.units
  refine⟨_,(pss_cons (ps_set (i:=1) sc_law_runs.nd rfl (Or.inl rfl) (pe_lst pa_nil))
 (pss_cons (ps_for PassesOwn.never rfl (pi_list (pv 0)) (pg_name (i:=2) sc_law_runs.nd rfl (Or.inl rfl))
 (pss_one (ps_if (PW.pt (pw_and (pt_cmpR (op_neD hu) (pv 1) (pe_lst pa_nil) (nomark _)) (pw_and1 (pt_cmpR op_eqI (pe_ix ix_tup (pe_ix ix_list (pv 1) (pe_un un_neg pe_int) (fun _ _=>rfl)) pe_int (fun _ _=>rfl)) (pe_op op_sub (pv 2) pe_int) (nomark _)))))
 (pss_one (ps_asg (pe_tup (pa_cons (pe_ix ix_tup (pe_ix ix_list (pv 1) (pe_un un_neg pe_int) (fun _ _=>rfl)) pe_int (fun _ _=>rfl)) (pa_cons (pv 2) pa_nil))) (pg_sub (pv 1) (pe_un un_neg pe_int) set_list)))
 (pss_one (ps_expr (pe_bm PySem.F.plainAttrs_list PySem.F.slot_list_append PySem.F.type_list_append mt_append (pv 1) (pa_cons (pe_tup (pa_cons (pv 2) (pa_cons (pv 2) pa_nil))) pa_nil)))))))
 (pss_one (ps_ret (pv 1))))),?_⟩
  refine⟨by decide,fun l hl=>?_⟩
  refine⟨_,rfl,a,rfl,⟨_,SqL.of (Same.upd hl _ _ ha)⟩,for_list (K:=K) (a:=a) (xs:=row.map V.int) (fun i σ H2=>∃ (us:List V) (v:Option V),σ=[some (.ref a),some (.ref l),v]∧Same H H2∧H2 l=some (.lst us)∧Prs H2 us (runsM (row.take i))∧us.length≤i)
   ⟨[],none,rfl,Same.upd hl,upd_same,.nil,Nat.le_refl _⟩ (fun i σ H2 _ ⟨us,v,_,sm,_⟩=>SqL.of (sm _ _ ha)) ?_ ?_⟩
  ·rintro i x σ H1 hi ⟨us,v,rfl,sm1,el1,pr1,hul⟩
   have hil:i<row.length:=by
    have:=(List.getElem?_eq_some_iff.mp hi).1
    simpa using this
   obtain⟨z,rfl,hz⟩:=int_at hi
   refine⟨_,rfl,by decide,fun p0 hp0=>?_⟩
   have sm:Same H (upd H1 p0 (.lst [])):=Same.upd' (sm1.free hp0) sm1
   have el:(upd H1 p0 (.lst [])) l=some (.lst us):=by rw[upd_ne (ne_of_none el1 hp0)];exact el1
   have pr:Prs (upd H1 p0 (.lst [])) us (runsM (row.take i)):=Prs.mono (TupS.new hp0) pr1
   have e0:(upd H1 p0 (.lst [])) p0=some (.lst []):=upd_same
   generalize upd H1 p0 (.lst [])=H2 at sm el pr e0
   refine⟨_,_,.lst el pr.dens,.lst e0 .nil,shaped_pairs _,rfl,_,rfl,?_⟩
   rcases List.eq_nil_or_concat (runsM (row.take i))with e | ⟨ps,q,e⟩
   ·have eu:us=[]:=by rw[e]at pr;cases pr;rfl
    rw[e]
    refine⟨_,rfl,.inl ⟨rfl,_,SqL.of el⟩,_,rfl,_,rfl,(show 2≤sizeLine by decide),fun t ht=>?_⟩
    have el':(upd H2 t (.tup [.int z,.int z])) l=some (.lst us):=by rw[upd_ne (ne_of_none el ht)];exact el
    refine⟨l,us,_,rfl,rfl,el',line_of (by omega),us++[.ref t],_,rfl,Same.upd' hl (Same.upd' (sm.free ht) sm),upd_same,?_,by simp;omega⟩
    rw[← runs_snoc hz,e,stepR_nil,eu]
    exact .cons ⟨t,rfl,by rw[upd_ne (Ne.symm (ne_of_none el ht)),upd_same]⟩ .nil
   ·rw[List.concat_eq_append]at e
    have pr':=pr
    rw[e]at pr'
    obtain⟨us',u,eu,pr1',t0,ru,ht0⟩:=Paired.split_last pr'
    subst eu ru
    have ne:PyData.eqv (.list ((runsM (row.take i)).map pD)) (.list [])=false:=by
     rw[e]
     cases ps <;> rfl
    rw[ne]
    by_cases hq:q.2=z - 1
    ·refine⟨_,rfl,_,rfl,l,_,_,_,rfl,rfl,SqL.of el,atI_last _ _,t0,_,_,_,rfl,rfl,SqT.of ht0,rfl,_,rfl,_,_,rfl,rfl,_,_,rfl,rfl,_,rfl,iteDT hq ?_⟩
     refine⟨_,rfl,_,rfl,l,_,_,_,rfl,rfl,SqL.of el,atI_last _ _,t0,_,_,_,rfl,rfl,SqT.of ht0,rfl,_,rfl,(show 2≤sizeLine by decide),fun t ht=>?_⟩
     have el':(upd H2 t (.tup [.int q.1,.int z])) l=some (.lst (us'++[.ref t0])):=by rw[upd_ne (ne_of_none el ht)];exact el
     refine⟨_,rfl,_,rfl,l,_,_,_,rfl,rfl,el',ix_last _ _,?_⟩
     rw[set_last]
     refine⟨us'++[.ref t],_,rfl,Same.upd' hl (Same.upd' (sm.free ht) sm),upd_same,?_,by simp at hul ⊢;omega⟩
     rw[← runs_snoc hz,e,stepR_snoc,if_pos hq]
     exact Paired.append' (Prs.mono (TupS.trans (TupS.new ht) (TupS.lst el')) pr1') (.cons ⟨t,rfl,by rw[upd_ne (Ne.symm (ne_of_none el ht)),upd_same]⟩ .nil)
    ·refine⟨_,rfl,_,rfl,l,_,_,_,rfl,rfl,SqL.of el,atI_last _ _,t0,_,_,_,rfl,rfl,SqT.of ht0,rfl,_,rfl,_,_,rfl,rfl,_,_,rfl,rfl,_,rfl,iteDF hq ?_⟩
     refine⟨_,rfl,.inl ⟨rfl,_,SqL.of el⟩,_,rfl,_,rfl,(show 2≤sizeLine by decide),fun t ht=>?_⟩
     have el':(upd H2 t (.tup [.int z,.int z])) l=some (.lst (us'++[.ref t0])):=by rw[upd_ne (ne_of_none el ht)];exact el
     refine⟨l,us'++[.ref t0],_,rfl,rfl,el',line_of (by omega),us'++[.ref t0]++[.ref t],_,rfl,Same.upd' hl (Same.upd' (sm.free ht) sm),upd_same,?_,by simp at hul ⊢;omega⟩
     rw[← runs_snoc hz,e,stepR_snoc,if_neg hq,← e]
     exact Paired.append' (Prs.mono (TupS.trans (TupS.new ht) (TupS.lst el')) pr) (.cons ⟨t,rfl,by rw[upd_ne (Ne.symm (ne_of_none el ht)),upd_same]⟩ .nil)
  ·rintro σ H2 ⟨us,v,rfl,sm,el,pr,hu⟩
   rw[List.length_map,List.take_length]at pr
   exact⟨_,rfl,k l us H2 hl sm el pr⟩
noncomputable abbrev s_law_lesser:Stmt:=top 40
theorem sc_law_lesser:FnScope ["_law_found","_law_size"] ["_law_found","_law_size"] (defScope s_law_lesser):=⟨rfl,rfl,rfl,by decide +kernel,rfl,by decide +kernel,by decide +kernel⟩
theorem ok_lesser {f:Addr} {fd:FuncData} (F:Fun K "_law_lesser" "_law_lesser" s_law_lesser f fd) (B:Bt mg):FnOk P w K mg base CX0 1 f fd ["_law_found","_law_size"] spLesser:=by
 refine F.ok sc_law_lesser (fun vs H Q E h=>?_) (fun cdv A outer s H vs Q E hr h=>?_)
 ·obtain⟨a,r,j,rfl,_⟩:=h
  rfl
 ·obtain⟨a,ps,j,rfl,⟨us,ha,pr⟩,hl,k⟩:=h
  have e:us.length=ps.length:=pr.len
  refine⟨_,(pss_one (ps_ret (pe_callB (call_sum rfl) (by rfl) B.sum boot_sum (pa_cons (pe_comp ["_law_own","_law_offset"] ["_law_size"] [1] rfl (.of (show compOk (defScope s_law_lesser) _ ["_law_found","_law_size"] [1] ["_law_size"]=true by decide +kernel)) (pi_list (pv 0)) (fun _ _ _=>(pg_tupK (n:=2) K rfl rfl (pgs_cons (pg_name (i:=0) (show (["_law_own","_law_offset","_law_size"]:List Str).Nodup by decide +kernel) rfl (Or.inl rfl)) (pgs_cons (pg_name (i:=1) (show (["_law_own","_law_offset","_law_size"]:List Str).Nodup by decide +kernel) rfl (Or.inl rfl)) pgs_nil)))) (kg_tup (kgs_cons (by decide) (kgs_cons (by decide) kgs_nil))) (fun _ _ _=>pif_nil) (fun _ _ _=>(pe_callB (call_min2 rfl) (by rfl) B.min boot_min (pa_cons (pv 2) (pa_cons (pv 0) pa_nil))))) pa_nil)))),?_⟩
  refine⟨_,rfl,a,rfl,⟨_,SqL.of ha⟩,comp_list (K:=K) (a:=a) (xs:=us) (fun i ys H3=>H3=H∧ys=((ps.take i).map (lesI j)).map V.int) ⟨rfl,rfl⟩ ?_ ?_ ?_⟩
  ·rintro i ys H3 hi ⟨rfl,rfl⟩
   exact⟨SqL.of ha,by simp only[List.length_map,List.length_take];exact line_of (by omega)⟩
  ·rintro i x ys H3 hi ⟨rfl,rfl⟩
   obtain⟨p,t',hp,rfl,et⟩:=paired_at pr hi
   exact⟨t',_,rfl,SqT.of et,rfl,_,_,rfl,_,_,rfl,rfl,_,rfl,_,rfl,_,_,rfl,rfl,snoc_pairs (lesI j) hp⟩
  ·rintro ys H3 ⟨rfl,rfl⟩ D hD
   exact⟨D,ps.map (lesI j),rfl,by rw[upd_same,e,List.take_length],k _ (Same.upd hD)⟩
noncomputable abbrev s_law_list:Stmt:=top 41
theorem sc_law_list:FnScope ["_law_row_here","_law_found","_law_place","_law_ripe","_law_size"] ["_law_row_here"] (defScope s_law_list):=⟨rfl,rfl,rfl,by decide +kernel,rfl,by decide +kernel,by decide +kernel⟩
inductive I1_law_list (H:Hp) (a:Addr) (r:Addr) (row:List Int) (i:Nat) (σ:St) (H3:Hp):Prop
 | mk (us:List V) (ps:Trs) (v2 v3 v4:Option V) (k0_:σ=[some (.ref a),some (.ref r),v2,v3,v4]) (k1_:Same H H3) (k2_:H3 r=some (.lst us)) (k3_:Prs H3 us ps) (k4_:Lst (row.take i) ps):I1_law_list H a r row i σ H3
inductive I2_law_list (H:Hp) (a:Addr) (r:Addr) (z:Int) (D:Addr) (s0:Int) (ps:Trs) (σ':St) (H':Hp):Prop
 | mk (us1:List V) (ps1:Trs) (k0_:σ'=[some (.ref a),some (.ref r),some (.int z),some (.ref D),some (.int s0)]) (k1_:Same H H') (k2_:H' r=some (.lst us1)) (k3_:Prs H' us1 ps1) (k4_:us1.length≤60) (k5_:(s0=0∧ps1=ps∨1≤s0∧(s0,z - 1 - 2 * les ps s0)∈ps∧ps1=ps.erase (s0,z - 1 - 2 * les ps s0))):I2_law_list H a r z D s0 ps σ' H'
theorem ok_law_list {f:Addr} {fd:FuncData} (F:Fun K "_law_list" "_law_list" s_law_list f fd) (B:Bt mg) (F_law_lesser:FnAt P w K mg base "_law_lesser" 1 ["_law_found","_law_size"] spLesser):FnOk P w K mg base CX0 2 f fd ["_law_row_here"] spLawList:=by
 refine F.ok sc_law_list (fun vs H Q E h=>?_) (fun cdv A outer s H vs Q E hr h=>?_)
 ·obtain⟨a,r,rfl,_⟩:=h
  rfl
 ·obtain⟨a,row,rfl,ha,hrow,hrl,k⟩:=h
  have hu:=hr.units
  refine⟨_,(pss_cons (ps_set (i:=1) sc_law_list.nd rfl (Or.inr rfl) (pe_lst pa_nil))
 (pss_cons (ps_for PassesOwn.never rfl (pi_list (pv 0)) (pg_name (i:=2) sc_law_list.nd rfl (Or.inr rfl))
 (pss_consO (ps_setc (i:=3) ["_law_size","_law_offset"] ["_law_place","_law_found"] [2,1] rfl sc_law_list.nd rfl rfl (.of (show compOk (defScope s_law_list) _ ["_law_row_here","_law_found","_law_place","_law_ripe","_law_size"] [2,1] ["_law_place","_law_found"]=true by decide +kernel)) (pi_list (pv 1)) (fun _ _ _=>(pg_tupK (n:=2) K rfl rfl (pgs_cons (pg_name (i:=0) (show (["_law_size","_law_offset","_law_place","_law_found"]:List Str).Nodup by decide +kernel) rfl (Or.inl rfl)) (pgs_cons (pg_name (i:=1) (show (["_law_size","_law_offset","_law_place","_law_found"]:List Str).Nodup by decide +kernel) rfl (Or.inl rfl)) pgs_nil)))) (kg_tup (kgs_cons (by decide) (kgs_cons (by decide) kgs_nil))) (fun _ _ _=>pif_one (pt_cmpR op_eqI (pv 1) (pe_op op_sub (pe_op op_sub (pv 2) pe_int) (pe_op op_mul pe_int (pe_fn F_law_lesser hr rfl (pa_cons (pv 3) (pa_cons (pv 0) pa_nil))))) (nomark _))) (fun _ _ _=>(pv 0)) (by first | rfl | decide +kernel))
 (pss_cons (ps_set (i:=4) sc_law_list.nd rfl (Or.inl rfl) (pe_maxdef rfl rfl B.max (pv 3) pe_int))
 (pss_cut (ps_if (pt_cmpR op_gt (pv 4) pe_int (nomark _))
 (pss_one (ps_expr (pe_bm PySem.F.plainAttrs_list PySem.F.slot_list_remove PySem.F.type_list_remove (mt_removeP hu) (pv 1) (pa_cons (pe_tup (pa_cons (pv 4) (pa_cons (pe_op op_sub (pe_op op_sub (pv 2) pe_int) (pe_op op_mul pe_int (pe_fn F_law_lesser hr rfl (pa_cons (pv 1) (pa_cons (pv 4) pa_nil))))) pa_nil))) pa_nil))))
 pss_nil)
 (pss_consO (ps_expr (pe_bm PySem.F.plainAttrs_list PySem.F.slot_list_append PySem.F.type_list_append mt_append (pv 1) (pa_cons (pe_tup (pa_cons (pe_op op_add (pv 4) pe_int) (pa_cons pe_int pa_nil))) pa_nil)))
 (pss_one (ps_asg (pe_tup (pa_cons (pe_op op_add (pv 4) pe_int) (pa_cons (pe_op op_sub (pv 2) (pe_op op_mul pe_int (pe_fn F_law_lesser hr rfl (pa_cons (pv 1) (pa_cons (pe_op op_add (pv 4) pe_int) pa_nil))))) pa_nil))) (pg_sub (pv 1) (pe_un un_neg pe_int) set_list))))))))
 (pss_one (ps_ret (pe_callB call_sortedP (by rfl) B.sorted boot_sorted (pa_cons (pv 1) pa_nil)))))),?_⟩
  refine⟨by decide,fun r hrn=>?_⟩
  have g1:=Same.upd (o:=.lst []) hrn
  have er:(upd H r (.lst [])) r=some (.lst []):=upd_same
  generalize upd H r (.lst [])=H1 at g1 er ⊢
  refine⟨_,rfl,a,rfl,⟨_,SqL.of (g1 _ _ ha)⟩,for_list (K:=K) (a:=a) (xs:=row.map V.int) (I1_law_list H a r row)
   ⟨[],[],none,none,none,rfl,g1,er,.nil,.nil⟩ (fun i σ H3 _ z_=>by obtain⟨_,_,_,_,_,_,sm,_⟩:=z_;exact SqL.of (sm _ _ ha)) ?_ ?_⟩
  ·rintro i x σ H3 hi ⟨us,ps,v2,v3,v4,rfl,sm,er3,pr,hl⟩
   obtain⟨z,rfl,hz⟩:=int_at hi
   have hil:i<row.length:=(List.getElem?_eq_some_iff.mp hz).1
   have htk:row.take (i+1)=row.take i++[z]:=by rw[List.take_succ,hz];rfl
   have hlt:∀ x∈row.take i,x<z:=fun x hx=>by
    have hp:(row.take i++[z]).Pairwise (·<·):=by rw[← htk];exact List.Pairwise.sublist (List.take_sublist _ _) hrow
    exact(List.pairwise_append.mp hp).2.2 x hx z (by simp)
   have hpl:ps.length≤60:=by
    have h3:=len_le_sum hl.pos
    have h4:(szs ps).sum=siz ps:=rfl
    have h5:=hl.sizx
    rw[List.length_take]at h5
    omega
   have eul:us.length=ps.length:=pr.len
   refine fun M1 hM1=>?_
   refine⟨_,rfl,r,rfl,⟨_,SqL.of er3⟩,comp_list (K:=K) (a:=r) (xs:=us) (fun j ys H4=>Same H3 H4∧ys.length≤j∧∃ ns:List Int,ys=ns.map V.int∧(∀ n∈ns,∃ q∈ps,n=q.1∧q.2=z - 1 - 2 * les ps q.1)∧(∀ q∈ps.take j,q.2=z - 1 - 2 * les ps q.1→q.1∈ns)) ⟨Same.refl _,Nat.le_refl _,[],rfl,fun n hn=>(nomatch hn),fun q hq=>by simp at hq⟩ ?_ ?_ ?_⟩
   ·rintro j ys H4 hj ⟨sm4,hyl,_⟩
    exact⟨SqL.of (sm4 _ _ er3),line_of (by omega)⟩
   ·rintro j x ys H4 hj ⟨sm4,hyl,ns,rfl,hn1,hn2⟩
    obtain⟨q,t',hq,rfl,et⟩:=paired_at (pr.mono (TupS.same sm4)) hj
    have hqm:=List.mem_of_getElem? hq
    refine⟨t',_,rfl,SqT.of et,rfl,_,_,rfl,_,_,rfl,rfl,?_⟩
    refine⟨_,rfl,_,rfl,_,_,rfl,rfl,_,rfl,_,rfl,r,ps,q.1,rfl,⟨us,sm4 _ _ er3,pr.mono (TupS.same sm4)⟩,by omega,fun H5 g5=>?_⟩
    refine⟨_,_,rfl,rfl,.inl ⟨by decide,by decide⟩,_,_,rfl,rfl,_,_,rfl,rfl,_,rfl,?_⟩
    have htj:∀ x∈ps.take (j+1),x∈ps.take j∨x=q:=fun x hx=>by
     rw[List.take_succ,hq]at hx
     rcases List.mem_append.mp hx with h | h
     ·exact .inl h
     ·exact .inr (by simpa using h)
    have hle:=lesM_les ps q.1
    refine iteD (fun hc=>?_) (fun hc=>?_)
    ·refine⟨_,rfl,sm4.trans g5,by rw[List.length_append,List.length_singleton];omega,ns++[q.1],by rw[List.map_append];rfl,fun n hn=>?_,fun x hx he=>?_⟩
     ·rcases List.mem_append.mp hn with h | h
      ·exact hn1 n h
      ·exact⟨q,hqm,by simpa using h,by omega⟩
     ·rcases htj x hx with h | h
      ·exact List.mem_append_left _ (hn2 x h he)
      ·rw[h];exact List.mem_append_right _ (by simp)
    ·refine⟨sm4.trans g5,by omega,ns,rfl,hn1,fun x hx he=>?_⟩
     rcases htj x hx with h | h
     ·exact hn2 x h he
     ·subst h;exact absurd (by omega) hc
   rintro ys H4 ⟨sm4,hyl,ns,rfl,hn1,hn2⟩ D hD
   rw[eul,List.take_length]at hn2
   have g5:=Same.upd (o:=.lst (ns.map V.int)) hD
   have eD:(upd H4 D (.lst (ns.map V.int))) D=some (.lst (ns.map V.int)):=upd_same
   generalize upd H4 D (.lst (ns.map V.int))=H5 at g5 eD ⊢
   have sm35:=sm4.trans g5
   have er5:=sm35 _ _ er3
   have pr5:=pr.mono (TupS.same sm35)
   have sm5:=sm.trans sm35
   obtain⟨s0,es,hs0,hcase,htop⟩:=ripe_top hl.pos hn1 hn2
   refine hM1 _ _ ?_
   refine⟨_,rfl,D,ns,rfl,SqL.of eD,?_⟩
   rw[es]
   refine⟨I2_law_list H a r z D s0 ps,?_,?_⟩
   ·refine⟨_,rfl,_,_,rfl,rfl,_,rfl,?_⟩
    refine iteD (fun hc=>?_) (fun hc=>?_)
    ·rcases hcase with hz0 | ⟨hz1,hmem⟩
     ·omega
     ·refine⟨_,rfl,.inl ⟨rfl,_,SqL.of er5⟩,_,rfl,_,rfl,_,_,rfl,rfl,_,rfl,_,rfl,r,ps,s0,rfl,⟨us,er5,pr5⟩,by omega,fun H6 g6=>?_⟩
      refine⟨_,_,rfl,rfl,.inl ⟨by decide,by decide⟩,_,_,rfl,rfl,(show 2≤sizeLine by decide),fun t ht=>?_⟩
      have er6:=g6 _ _ er5
      have g7:=Same.upd (o:=.tup [V.int s0,V.int (z - 1 - 2 * lesM ps s0)]) ht
      have et:(upd H6 t (.tup [V.int s0,V.int (z - 1 - 2 * lesM ps s0)])) t=some (.tup [V.int s0,V.int (z - 1 - 2 * lesM ps s0)]):=upd_same
      rw[lesM_les]at g7 et ⊢
      generalize upd H6 t (.tup [V.int s0,V.int (z - 1 - 2 * les ps s0)])=H7 at g7 et ⊢
      have er7:=g7 _ _ er6
      refine⟨r,us,ps,t,(s0,z - 1 - 2 * les ps s0),rfl,rfl,er7,pr5.mono (TupS.same (g6.trans g7)),et,hmem,fun us' pr' hul=>?_⟩
      exact⟨us',_,rfl,Same.upd' hrn ((sm5.trans g6).trans g7),upd_same,pr'.mono (TupS.lst er7),by omega,.inr ⟨hz1,hmem,rfl⟩⟩
    ·rcases hcase with hz0 | ⟨hz1,_⟩
     ·exact⟨us,ps,rfl,sm5,er5,pr5,by omega,.inl ⟨hz0,rfl⟩⟩
     ·omega
   ·rintro σ' H8 ⟨us1,ps1,rfl,sm8,er8,pr8,hul,hs⟩
    have hadd:=add_list hs0 hs htop
    have hpl1:us1.length=ps1.length:=pr8.len
    refine fun M2 hM2=>?_
    refine⟨_,rfl,.inl ⟨rfl,_,SqL.of er8⟩,_,rfl,_,_,rfl,rfl,(show 2≤sizeLine by decide),fun t ht=>?_⟩
    have g9:=Same.upd (o:=.tup [V.int (s0+1),V.int 0]) ht
    have et:(upd H8 t (.tup [V.int (s0+1),V.int 0])) t=some (.tup [V.int (s0+1),V.int 0]):=upd_same
    generalize upd H8 t (.tup [V.int (s0+1),V.int 0])=H9 at g9 et ⊢
    have er9:=g9 _ _ er8
    refine⟨r,us1,_,rfl,rfl,er9,line_of (by omega),?_⟩
    have sm9:Same H (upd H9 r (.lst (us1++[V.ref t]))):=Same.upd' hrn (sm8.trans g9)
    have er10:(upd H9 r (.lst (us1++[V.ref t]))) r=some (.lst (us1++[V.ref t])):=upd_same
    have pr10:Prs (upd H9 r (.lst (us1++[V.ref t]))) us1 ps1:=(pr8.mono (TupS.same g9)).mono (TupS.lst er9)
    have et10:(upd H9 r (.lst (us1++[V.ref t]))) t=some (.tup [V.int (s0+1),V.int 0]):=TupS.lst er9 _ _ et
    generalize upd H9 r (.lst (us1++[V.ref t]))=H10 at sm9 er10 pr10 et10 ⊢
    have prA:Prs H10 (us1++[V.ref t]) (ps1++[(s0+1,0)]):=Paired.append' pr10 (.cons ⟨t,rfl,et10⟩ .nil)
    refine hM2 _ _ ?_
    refine⟨_,rfl,_,_,rfl,rfl,_,rfl,_,rfl,_,rfl,_,_,rfl,rfl,r,ps1++[(s0+1,0)],s0+1,rfl,⟨_,er10,prA⟩,by rw[List.length_append,List.length_singleton];omega,fun H11 g11=>?_⟩
    refine⟨_,_,rfl,rfl,.inl ⟨by decide,by decide⟩,_,_,rfl,rfl,(show 2≤sizeLine by decide),fun t2 ht2=>?_⟩
    rw[lesM_les]
    have er11:=g11 _ _ er10
    have g12:=Same.upd (o:=.tup [V.int (s0+1),V.int (z - 2 * les (ps1++[(s0+1,0)]) (s0+1))]) ht2
    have et2:(upd H11 t2 (.tup [V.int (s0+1),V.int (z - 2 * les (ps1++[(s0+1,0)]) (s0+1))])) t2=some (.tup [V.int (s0+1),V.int (z - 2 * les (ps1++[(s0+1,0)]) (s0+1))]):=upd_same
    generalize upd H11 t2 (.tup [V.int (s0+1),V.int (z - 2 * les (ps1++[(s0+1,0)]) (s0+1))])=H12 at g12 et2 ⊢
    have er12:=g12 _ _ er11
    refine⟨_,rfl,_,rfl,r,_,_,_,rfl,rfl,er12,ix_last _ _,?_⟩
    rw[set_last]
    refine⟨us1++[V.ref t2],ps1++[(s0+1,z - 2 * les (ps1++[(s0+1,0)]) (s0+1))],_,_,_,rfl,Same.upd' hrn ((sm9.trans g11).trans g12),upd_same,?_,by rw[htk];exact .snoc hl hlt hadd⟩
    exact Paired.append' ((pr10.mono (TupS.same (g11.trans g12))).mono (TupS.lst er12)) (.cons ⟨t2,rfl,TupS.lst er12 _ _ et2⟩ .nil)
  ·rintro σ H3 ⟨us,ps,v2,v3,v4,rfl,sm,er3,pr,hl⟩
   rw[List.length_map,List.take_length]at hl
   have hpl:ps.length≤60:=by
    have h3:=len_le_sum hl.pos
    have h4:(szs ps).sum=siz ps:=rfl
    have h5:=hl.sizx
    omega
   refine⟨_,rfl,r,us,ps,rfl,er3,pr,by omega,fun l us' qs hl' pr' hperm hsort=>?_⟩
   exact k qs (hl.perm hperm.symm) hsort l us' _ (sm.free hl') (sm.trans (Same.upd hl')) upd_same (pr'.mono (TupS.new hl'))
noncomputable abbrev s_law_stones:Stmt:=top 42
theorem sc_law_stones:FnScope ["_law_pairs","_law_left","_law_row_here","_law_place","_law_size"] ["_law_pairs"] (defScope s_law_stones):=⟨rfl,rfl,rfl,by decide +kernel,rfl,by decide +kernel,by decide +kernel⟩
inductive stW (H0:Hp) (ps0:Trs) (a l r:Addr) (m:Nat) (σ:St) (Hx:Hp):Prop
 | mk (us:List V) (ps:Trs) (row:List Int) (v3 v4:Option V) (h0_:σ=[some (.ref a),some (.ref l),some (.ref r),v3,v4]) (h1_:Same H0 Hx) (h2_:Hx l=some (.lst us)) (h3_:Prs Hx us ps) (h4_:(∀ q∈ps,1≤q.1)) (h5_:Hx r=some (.lst (row.map V.int))) (h6_:siz ps=(m:Int)) (h7_:m+row.length≤60) (h8_:∀ r',Lst r' ps→Lst (r'++row.reverse) ps0):stW H0 ps0 a l r m σ Hx
theorem ok_law_stones {f:Addr} {fd:FuncData} (F:Fun K "_law_stones" "_law_stones" s_law_stones f fd) (B:Bt mg) (F_law_lesser:FnAt P w K mg base "_law_lesser" 1 ["_law_found","_law_size"] spLesser):FnOk P w K mg base CX0 2 f fd ["_law_pairs"] spStones:=by
 refine F.ok sc_law_stones (fun vs H Q E h=>?_) (fun cdv A outer s H vs Q E hr h=>?_)
 ·obtain⟨a,r,rfl,_⟩:=h
  rfl
 ·obtain⟨a,ps0,rfl,⟨us0,ha,pr0⟩,hT,k⟩:=h
  have hu:=hr.units
  refine⟨_,(pss_consO (ps_set (i:=1) sc_law_stones.nd rfl (Or.inr rfl) (pe_callTy call_list_of (by rfl) B.list boot_list (pa_cons (pv 0) pa_nil)))
 (pss_consO (ps_set (i:=2) sc_law_stones.nd rfl (Or.inl rfl) (pe_lst pa_nil))
 (pss_cons (ps_while PassesOwn.never (pt_cmpR (op_neD hu) (pv 1) (pe_lst pa_nil) (nomark _))
 (pss_consO (ps_set (i:=3) sc_law_stones.nd rfl (Or.inr rfl) (pe_callB (call_maxI rfl) (by rfl) B.max boot_max (pa_cons (pe_comp ["_law_size","_law_offset"] ["_law_left"] [1] rfl (.of (show compOk (defScope s_law_stones) _ ["_law_pairs","_law_left","_law_row_here","_law_place","_law_size"] [1] ["_law_left"]=true by decide +kernel)) (pi_list (pv 1)) (fun _ _ _=>(pg_tupK (n:=2) K rfl rfl (pgs_cons (pg_name (i:=0) (show (["_law_size","_law_offset","_law_left"]:List Str).Nodup by decide +kernel) rfl (Or.inl rfl)) (pgs_cons (pg_name (i:=1) (show (["_law_size","_law_offset","_law_left"]:List Str).Nodup by decide +kernel) rfl (Or.inl rfl)) pgs_nil)))) (kg_tup (kgs_cons (by decide) (kgs_cons (by decide) kgs_nil))) (fun _ _ _=>pif_nil) (fun _ _ _=>(pe_op op_add (pv 1) (pe_op op_mul pe_int (pe_fn F_law_lesser hr rfl (pa_cons (pv 2) (pa_cons (pv 0) pa_nil))))))) pa_nil)))
 (pss_consO (ps_set (i:=4) sc_law_stones.nd rfl (Or.inl rfl) (pe_callB (call_minI rfl) (by rfl) B.min boot_min (pa_cons (pe_comp ["_law_own","_law_offset"] ["_law_place","_law_left"] [3,1] rfl (.of (show compOk (defScope s_law_stones) _ ["_law_pairs","_law_left","_law_row_here","_law_place","_law_size"] [3,1] ["_law_place","_law_left"]=true by decide +kernel)) (pi_list (pv 1)) (fun _ _ _=>(pg_tupK (n:=2) K rfl rfl (pgs_cons (pg_name (i:=0) (show (["_law_own","_law_offset","_law_place","_law_left"]:List Str).Nodup by decide +kernel) rfl (Or.inl rfl)) (pgs_cons (pg_name (i:=1) (show (["_law_own","_law_offset","_law_place","_law_left"]:List Str).Nodup by decide +kernel) rfl (Or.inl rfl)) pgs_nil)))) (kg_tup (kgs_cons (by decide) (kgs_cons (by decide) kgs_nil))) (fun _ _ _=>pif_one (pt_cmpR op_eqI (pe_op op_add (pv 1) (pe_op op_mul pe_int (pe_fn F_law_lesser hr rfl (pa_cons (pv 3) (pa_cons (pv 0) pa_nil))))) (pv 2) (nomark _))) (fun _ _ _=>(pv 0))) pa_nil)))
 (pss_consO (ps_expr (pe_bm PySem.F.plainAttrs_list PySem.F.slot_list_remove PySem.F.type_list_remove (mt_removeP hu) (pv 1) (pa_cons (pe_tup (pa_cons (pv 4) (pa_cons (pe_op op_sub (pv 3) (pe_op op_mul pe_int (pe_fn F_law_lesser hr rfl (pa_cons (pv 1) (pa_cons (pv 4) pa_nil))))) pa_nil))) pa_nil)))
 (pss_consO (ps_if (pt_cmpR op_gt (pv 4) pe_int (nomark _))
 (pss_consO (ps_expr (pe_bm PySem.F.plainAttrs_list PySem.F.slot_list_append PySem.F.type_list_append mt_append (pv 1) (pa_cons (pe_tup (pa_cons (pe_op op_sub (pv 4) pe_int) (pa_cons pe_int pa_nil))) pa_nil)))
 (pss_one (ps_asg (pe_tup (pa_cons (pe_op op_sub (pv 4) pe_int) (pa_cons (pe_op op_sub (pe_op op_sub (pv 3) pe_int) (pe_op op_mul pe_int (pe_fn F_law_lesser hr rfl (pa_cons (pv 1) (pa_cons (pe_op op_sub (pv 4) pe_int) pa_nil))))) pa_nil))) (pg_sub (pv 1) (pe_un un_neg pe_int) set_list))))
 pss_nil)
 (pss_one (ps_expr (pe_bm PySem.F.plainAttrs_list PySem.F.slot_list_append PySem.F.type_list_append mt_append (pv 2) (pa_cons (pv 3) pa_nil)))))))))
 (pss_one (ps_ret (pe_rev (pv 2))))))),?_⟩
  refine fun M1 hM1=>?_
  refine⟨_,rfl,a,us0,rfl,.inl (SqL.of ha),fun l hl=>hM1 [some (.ref a),some (.ref l),none,none,none] _ ?_⟩
  clear hM1 M1
  have g1:=Same.upd (o:=.lst us0) hl
  have el:(upd H l (.lst us0)) l=some (.lst us0):=upd_same
  have pr1:=pr0.mono (TupS.new (o:=.lst us0) hl)
  generalize upd H l (.lst us0)=H1 at g1 el pr1 ⊢
  refine fun M1 hM1=>?_
  refine⟨by decide,fun r hrn=>hM1 [some (.ref a),some (.ref l),some (.ref r),none,none] _ ?_⟩
  clear hM1 M1
  have g2:=Same.upd (o:=.lst []) hrn
  have er:(upd H1 r (.lst [])) r=some (.lst []):=upd_same
  have el2:=g2 _ _ el
  have pr2:=pr1.mono (TupS.new (o:=.lst []) hrn)
  have hHr:H r=none:=g1.free hrn
  have hnlr:l≠r:=fun e=>by rw[e,hrn]at el;cases el
  generalize upd H1 r (.lst [])=H2 at g2 er el2 pr2 ⊢
  have hsz0:siz ps0=(szs ps0).sum:=rfl
  have hf:=hT.few
  have hlo:=siz_len hT.pos
  refine⟨stW H ps0 a l r,⟨(siz ps0).toNat,us0,ps0,[],none,none,rfl,g1.trans g2,el2,pr2,hT.pos,er,by omega,by simp only[List.length_nil];omega,fun r' hr'=>by simpa using hr'⟩,?_⟩
  clear el2 pr2 er g2 el pr1 g1 hlo hf hsz0 pr0 ha
  rintro m σ H3 ⟨us,ps,row,v3,v4,rfl,sm,el,pr,hpos,er,hm,hcount,fin⟩
  have hpl:=siz_len hpos
  have eul:us.length=ps.length:=pr.len
  refine⟨_,rfl,by decide,fun z0 hz0=>?_⟩
  have g3:=Same.upd (o:=.lst []) hz0
  have ez0:(upd H3 z0 (.lst [])) z0=some (.lst []):=upd_same
  have LP3:LP (upd H3 z0 (.lst [])) l ps:=LP.mono g3 ⟨us,el,pr⟩
  refine⟨_,_,LP3.den,Den.ints (ns:=[]) ez0,shaped_pairs _,shaped_ints [],_,rfl,?_⟩
  have sm3:=sm.trans g3
  have el3:=g3 _ _ el
  have er3:=g3 _ _ er
  have pr3:=pr.mono (TupS.new (o:=.lst []) hz0)
  generalize upd H3 z0 (.lst [])=H4 at sm3 el3 er3 pr3
  clear g3 ez0 LP3
  by_cases hps:ps=[]
  ·subst hps
   have hfin:Lst row.reverse ps0:=by simpa using fin [] .nil
   show (if (!PyData.eqv (.list []) (.list []))=true then _ else _)
   rw[if_neg (by decide)]
   refine⟨_,rfl,r,_,rfl,SqL.of er3,fun p hp=>?_⟩
   rw[← List.map_reverse]
   exact k row.reverse hfin p _ (sm3.free hp) (sm3.trans (Same.upd hp)) upd_same
  have hne:(!PyData.eqv (.list (ps.map pD)) (.list (([]:List Int).map PyData.int)))=true:=by
   cases ps with
   | nil=>exact absurd rfl hps
   | cons q t=>rfl
  rw[hne]
  show (if true=true then _ else _)
  rw[if_pos rfl]
  refine⟨fun σ' H'=>∃ m',m'<m∧stW H ps0 a l r m' σ' H',fun _ _ h=>h,?_⟩
  refine fun M1 hM1=>?_
  refine⟨_,rfl,l,rfl,⟨_,SqL.of el3⟩,comp_list (K:=K) (a:=l) (xs:=us) (fun j ys H5=>Same H4 H5∧ys=((ps.take j).map fun q=>q.2+2 * les ps q.1).map V.int) ⟨Same.refl _,rfl⟩ ?_ ?_ ?_⟩
  ·rintro j ys H5 hj ⟨sm5,rfl⟩
   exact⟨SqL.of (sm5 _ _ el3),by simp only[List.length_map,List.length_take];exact line_of (by omega)⟩
  ·rintro j x ys H5 hj ⟨sm5,rfl⟩
   obtain⟨q,t',hq,rfl,et⟩:=paired_at (pr3.mono (TupS.same sm5)) hj
   refine⟨t',_,rfl,SqT.of et,rfl,_,_,rfl,_,_,rfl,rfl,?_⟩
   refine⟨_,rfl,_,rfl,_,rfl,l,ps,q.1,rfl,⟨us,sm5 _ _ el3,pr3.mono (TupS.same sm5)⟩,by omega,fun H6 g6=>?_⟩
   refine⟨_,_,rfl,rfl,.inl ⟨by decide,by decide⟩,_,_,rfl,rfl,sm5.trans g6,?_⟩
   rw[← snoc_pairs (fun q=>q.2+2 * les ps q.1) hq]
   simp only[lesM_les]
  rintro ys H5 ⟨sm5,rfl⟩ D hD
  rw[eul,List.take_length]
  have g6:=Same.upd (o:=.lst ((ps.map fun q=>q.2+2 * les ps q.1).map V.int)) hD
  have eD:(upd H5 D (.lst ((ps.map fun q=>q.2+2 * les ps q.1).map V.int))) D=some (.lst ((ps.map fun q=>q.2+2 * les ps q.1).map V.int)):=upd_same
  generalize upd H5 D (.lst ((ps.map fun q=>q.2+2 * les ps q.1).map V.int))=H6 at g6 eD ⊢
  obtain⟨p0,ep0,hp0m,hp0⟩:=mxD_spec (ns:=ps.map fun q=>q.2+2 * les ps q.1) (by simpa using hps)
  refine⟨D,_,rfl,eD,by simpa using hps,?_⟩
  rw[ep0]
  have sm6:=(sm3.trans sm5).trans g6
  have s46:=sm5.trans g6
  have el6:=s46 _ _ el3
  have er6:=s46 _ _ er3
  have pr6:=pr3.mono (TupS.same s46)
  refine hM1 [some (.ref a),some (.ref l),some (.ref r),some (.int p0),v4] _ ?_
  clear hM1 M1 s46 sm5 g6 eD hD hne
  have hp0':∀ q∈ps,q.2+2 * les ps q.1≤p0:=fun q hq=>hp0 _ (List.mem_map.mpr ⟨q,hq,rfl⟩)
  refine fun M1 hM1=>?_
  refine⟨_,rfl,l,rfl,⟨_,SqL.of el6⟩,comp_list (K:=K) (a:=l) (xs:=us) (fun j ys H7=>Same H6 H7∧ys=(((ps.take j).filter fun q=>decide (q.2+2 * les ps q.1=p0)).map (·.1)).map V.int) ⟨Same.refl _,rfl⟩ ?_ ?_ ?_⟩
  ·rintro j ys H7 hj ⟨sm7,rfl⟩
   refine⟨SqL.of (sm7 _ _ el6),?_⟩
   simp only[List.length_map]
   have:=List.length_filter_le (fun q:Int×Int=>decide (q.2+2 * les ps q.1=p0)) (ps.take j)
   rw[List.length_take]at this
   exact line_of (by omega)
  ·rintro j x ys H7 hj ⟨sm7,rfl⟩
   obtain⟨q,t',hq,rfl,et⟩:=paired_at (pr6.mono (TupS.same sm7)) hj
   refine⟨t',_,rfl,SqT.of et,rfl,_,_,rfl,_,_,rfl,rfl,?_⟩
   refine⟨_,rfl,_,rfl,_,rfl,l,ps,q.1,rfl,⟨us,sm7 _ _ el6,pr6.mono (TupS.same sm7)⟩,by omega,fun H8 g8=>?_⟩
   refine⟨_,_,rfl,rfl,.inl ⟨by decide,by decide⟩,_,_,rfl,rfl,_,rfl,_,_,rfl,rfl,_,rfl,?_⟩
   have hle:=lesM_les ps q.1
   have htk:(ps.take (j+1)).filter (fun q=>decide (q.2+2 * les ps q.1=p0))=(ps.take j).filter (fun q=>decide (q.2+2 * les ps q.1=p0))++if q.2+2 * les ps q.1=p0 then [q]else []:=by
    rw[List.take_succ,hq,List.filter_append]
    congr 1
    by_cases c:q.2+2 * les ps q.1=p0
    ·rw[if_pos c];simp[c]
    ·rw[if_neg c];simp[c]
   refine iteD (fun hc=>?_) (fun hc=>?_)
   ·refine⟨_,rfl,sm7.trans g8,?_⟩
    rw[htk,if_pos (by omega)]
    simp
   ·refine⟨sm7.trans g8,?_⟩
    rw[htk,if_neg (by omega)]
    simp
  rintro ys H7 ⟨sm7,rfl⟩ D2 hD2
  rw[eul,List.take_length]
  obtain⟨ss,ess⟩:∃ ss,ss=(ps.filter fun q=>decide (q.2+2 * les ps q.1=p0)).map (·.1):=⟨_,rfl⟩
  rw[← ess]
  have hss:ss≠[]:=by
   obtain⟨q,hq,e⟩:=List.mem_map.mp hp0m
   intro z
   rw[z]at ess
   have:q∈ps.filter fun q=>decide (q.2+2 * les ps q.1=p0):=List.mem_filter.mpr ⟨hq,by simpa using e⟩
   rw[List.map_eq_nil_iff.mp ess.symm]at this
   cases this
  have g8:=Same.upd (o:=.lst (ss.map V.int)) hD2
  have eD2:(upd H7 D2 (.lst (ss.map V.int))) D2=some (.lst (ss.map V.int)):=upd_same
  generalize upd H7 D2 (.lst (ss.map V.int))=H8 at g8 eD2 ⊢
  obtain⟨s0,es0,hs0m,hs0⟩:=mnD_spec hss
  refine⟨D2,_,rfl,eD2,hss,?_⟩
  rw[es0]
  have s68:=sm7.trans g8
  have sm8:=sm6.trans s68
  have el8:=s68 _ _ el6
  have er8:=s68 _ _ er6
  have pr8:=pr6.mono (TupS.same s68)
  refine hM1 [some (.ref a),some (.ref l),some (.ref r),some (.int p0),some (.int s0)] _ ?_
  clear hM1 M1 s68 sm7 g8 eD2 hD2
  have hmem:(s0,p0 - 2 * les ps s0)∈ps:=by
   rw[ess]at hs0m
   obtain⟨q,hq,e⟩:=List.mem_map.mp hs0m
   obtain⟨h1,h2⟩:=List.mem_filter.mp hq
   have h3:q.2+2 * les ps q.1=p0:=by simpa using h2
   have e':q.1=s0:=e
   have:(s0,p0 - 2 * les ps s0)=q:=by rw[← e',← h3];exact Prod.ext rfl (by show _=q.2;omega)
   rw[this];exact h1
  have hmin:∀ q∈ps,q.2+2 * les ps q.1=p0→s0≤q.1:=fun q hq e=>hs0 q.1 (by rw[ess];exact List.mem_map.mpr ⟨q,List.mem_filter.mpr ⟨hq,by simpa using e⟩,rfl⟩)
  have hs1:=hpos _ hmem
  have hs1':1≤s0:=hs1
  clear ess hss hs0m hs0 es0 hp0m hp0 ep0 ss
  refine fun M1 hM1=>?_
  refine⟨_,rfl,.inl ⟨rfl,_,SqL.of el8⟩,_,rfl,_,rfl,_,rfl,_,rfl,l,ps,s0,rfl,⟨us,el8,pr8⟩,by omega,fun H9 g9=>?_⟩
  refine⟨_,_,rfl,rfl,.inl ⟨by decide,by decide⟩,_,_,rfl,rfl,(show 2≤sizeLine by decide),fun t ht=>?_⟩
  have el9:=g9 _ _ el8
  have g10:=Same.upd (o:=.tup [V.int s0,V.int (p0 - 2 * lesM ps s0)]) ht
  have et:(upd H9 t (.tup [V.int s0,V.int (p0 - 2 * lesM ps s0)])) t=some (.tup [V.int s0,V.int (p0 - 2 * lesM ps s0)]):=upd_same
  rw[lesM_les]at g10 et ⊢
  generalize upd H9 t (.tup [V.int s0,V.int (p0 - 2 * les ps s0)])=H10 at g10 et ⊢
  have el10:=g10 _ _ el9
  have s810:=g9.trans g10
  refine⟨l,us,ps,t,(s0,p0 - 2 * les ps s0),rfl,rfl,el10,pr8.mono (TupS.same s810),et,hmem,fun us1 pr1 hul=>?_⟩
  have sm11:Same H (upd H10 l (.lst us1)):=Same.upd' hl (sm8.trans s810)
  have el11:(upd H10 l (.lst us1)) l=some (.lst us1):=upd_same
  have er11:(upd H10 l (.lst us1)) r=some (.lst (row.map V.int)):=by rw[upd_ne (Ne.symm hnlr)];exact s810 _ _ er8
  have pr11:Prs (upd H10 l (.lst us1)) us1 (ps.erase (s0,p0 - 2 * les ps s0)):=pr1.mono (TupS.lst el10)
  generalize upd H10 l (.lst us1)=H11 at sm11 el11 er11 pr11 ⊢
  refine hM1 [some (.ref a),some (.ref l),some (.ref r),some (.int p0),some (.int s0)] _ ?_
  clear hM1 M1 s810 g10 et el10 el9 g9 ht pr1
  have hl1:us1.length=(ps.erase (s0,p0 - 2 * les ps s0)).length:=pr11.len
  refine fun M1 hM1=>?_
  have last:∀ (us2:List V) (ps2:Trs) (H12:Hp),Same H H12→H12 l=some (.lst us2)→Prs H12 us2 ps2→H12 r=some (.lst (row.map V.int))→Tak ps p0 ps2→M1 [some (.ref a),some (.ref l),some (.ref r),some (.int p0),some (.int s0)] H12:=fun us2 ps2 H12 sm12 el12 pr12 er12 hTak=>hM1 _ _ (by
   refine⟨_,rfl,.inl ⟨rfl,_,SqL.of er12⟩,_,rfl,r,_,_,rfl,rfl,er12,by rw[List.length_map];exact line_of (by omega),?_⟩
   have hsz:=hTak.sizx hpos
   refine⟨m - 1,by omega,us2,ps2,row++[p0],_,_,rfl,Same.upd' hHr sm12,by rw[upd_ne hnlr];exact el12,pr12.mono (TupS.lst er12),hTak.pos hpos,by rw[upd_same,List.map_append];rfl,by omega,by rw[List.length_append,List.length_singleton];omega,?_⟩
   rw[List.reverse_append]
   exact fin_step hTak hpos fin)
  clear hM1
  refine⟨_,rfl,_,_,rfl,rfl,_,rfl,?_⟩
  refine iteD (fun hc=>?_) (fun hc=>?_)
  ·refine fun M2 hM2=>?_
   refine⟨_,rfl,.inl ⟨rfl,_,SqL.of el11⟩,_,rfl,_,_,rfl,rfl,(show 2≤sizeLine by decide),fun t ht=>?_⟩
   have g12:=Same.upd (o:=.tup [V.int (s0 - 1),V.int 0]) ht
   have et:(upd H11 t (.tup [V.int (s0 - 1),V.int 0])) t=some (.tup [V.int (s0 - 1),V.int 0]):=upd_same
   generalize upd H11 t (.tup [V.int (s0 - 1),V.int 0])=H12 at g12 et ⊢
   have el12:=g12 _ _ el11
   refine⟨l,us1,_,rfl,rfl,el12,line_of (by omega),?_⟩
   have sm13:Same H (upd H12 l (.lst (us1++[V.ref t]))):=Same.upd' hl (sm11.trans g12)
   have el13:(upd H12 l (.lst (us1++[V.ref t]))) l=some (.lst (us1++[V.ref t])):=upd_same
   have er13:(upd H12 l (.lst (us1++[V.ref t]))) r=some (.lst (row.map V.int)):=by rw[upd_ne (Ne.symm hnlr)];exact g12 _ _ er11
   have pr13:Prs (upd H12 l (.lst (us1++[V.ref t]))) us1 (ps.erase (s0,p0 - 2 * les ps s0)):=(pr11.mono (TupS.same g12)).mono (TupS.lst el12)
   have et13:(upd H12 l (.lst (us1++[V.ref t]))) t=some (.tup [V.int (s0 - 1),V.int 0]):=TupS.lst el12 _ _ et
   generalize upd H12 l (.lst (us1++[V.ref t]))=H13 at sm13 el13 er13 pr13 et13 ⊢
   have prA:Prs H13 (us1++[V.ref t]) (ps.erase (s0,p0 - 2 * les ps s0)++[(s0 - 1,0)]):=Paired.append' pr13 (.cons ⟨t,rfl,et13⟩ .nil)
   refine hM2 _ _ ?_
   clear hM2 M2
   refine⟨_,rfl,_,_,rfl,rfl,_,rfl,_,_,rfl,rfl,_,rfl,_,rfl,_,_,rfl,rfl,l,ps.erase (s0,p0 - 2 * les ps s0)++[(s0 - 1,0)],s0 - 1,rfl,⟨_,el13,prA⟩,by rw[List.length_append,List.length_singleton];omega,fun H14 g14=>?_⟩
   refine⟨_,_,rfl,rfl,.inl ⟨by decide,by decide⟩,_,_,rfl,rfl,(show 2≤sizeLine by decide),fun t2 ht2=>?_⟩
   rw[lesM_les]
   have el14:=g14 _ _ el13
   have g15:=Same.upd (o:=.tup [V.int (s0 - 1),V.int (p0 - 1 - 2 * les (ps.erase (s0,p0 - 2 * les ps s0)++[(s0 - 1,0)]) (s0 - 1))]) ht2
   have et2:(upd H14 t2 (.tup [V.int (s0 - 1),V.int (p0 - 1 - 2 * les (ps.erase (s0,p0 - 2 * les ps s0)++[(s0 - 1,0)]) (s0 - 1))])) t2=some (.tup [V.int (s0 - 1),V.int (p0 - 1 - 2 * les (ps.erase (s0,p0 - 2 * les ps s0)++[(s0 - 1,0)]) (s0 - 1))]):=upd_same
   generalize upd H14 t2 (.tup [V.int (s0 - 1),V.int (p0 - 1 - 2 * les (ps.erase (s0,p0 - 2 * les ps s0)++[(s0 - 1,0)]) (s0 - 1))])=H15 at g15 et2 ⊢
   have el15:=g15 _ _ el14
   refine⟨_,rfl,_,rfl,l,_,_,_,rfl,rfl,el15,ix_last _ _,?_⟩
   rw[set_last]
   have s1315:=g14.trans g15
   refine last (us1++[V.ref t2]) (ps.erase (s0,p0 - 2 * les ps s0)++[(s0 - 1,p0 - 1 - 2 * les (ps.erase (s0,p0 - 2 * les ps s0)++[(s0 - 1,0)]) (s0 - 1))]) _ (Same.upd' hl (sm13.trans s1315)) upd_same ?_ (by rw[upd_ne (Ne.symm hnlr)];exact s1315 _ _ er13) (tak_list hpos hmem hp0' hmin (.inr ⟨by omega,rfl⟩))
   exact Paired.append' ((pr13.mono (TupS.same s1315)).mono (TupS.lst el15)) (.cons ⟨t2,rfl,TupS.lst el15 _ _ et2⟩ .nil)
  ·exact last us1 _ H11 sm11 el11 pr11 er11 (tak_list hpos hmem hp0' hmin (.inl ⟨by omega,rfl⟩))
noncomputable abbrev s_law_walks:Stmt:=top 43
theorem sc_law_walks:FnScope ["_law_d","_law_many","_law_found","_law_k","_law_creel"] ["_law_d","_law_many"] (defScope s_law_walks):=⟨rfl,rfl,rfl,by decide +kernel,rfl,by decide +kernel,by decide +kernel⟩
inductive I1_law_walks (H:Hp) (a:Addr) (l:Addr) (m:Nat) (i:Nat) (σ:St) (H2:Hp):Prop
 | mk (us:List V) (ws:List (Int×Int)) (v1 v2:Option V) (k0_:σ=[some (.ref a),some (.int m),some (.ref l),v1,v2]) (k1_:Same H H2) (k2_:H2 l=some (.lst us)) (k3_:Prs H2 us ws) (k4_:ws.length=i) (k5_:Crl ws) (k6_:∀ q∈ws,-4≤q.2∧q.2≤4):I1_law_walks H a l m i σ H2
inductive I2_law_walks (a:Addr) (l:Addr) (m:Nat) (H3:Hp) (i:Nat) (σ':St) (H':Hp):Prop
 | mk (o:Int) (k0_:σ'=[some (.ref a),some (.int m),some (.ref l),some (.int (0+(i:Int))),some (.int o)]) (k1_:H'=H3) (k2_:1≤o):I2_law_walks a l m H3 i σ' H'
theorem ok_walks {f:Addr} {fd:FuncData} (F:Fun K "_law_walks" "_law_walks" s_law_walks f fd) (B:Bt mg):FnOk P w K mg base CX0 1 f fd ["_law_d","_law_many"] spWalks:=by
 refine F.ok sc_law_walks (fun vs H Q E h=>?_) (fun cdv A outer s H vs Q E hr h=>?_)
 ·obtain⟨a,ns,m,rfl,_⟩:=h
  rfl
 ·obtain⟨a,ns,m,rfl,ha,hlen,hm,k⟩:=h
  refine⟨_,(pss_cons (ps_set (i:=2) sc_law_walks.nd rfl (Or.inl rfl) (pe_lst pa_nil))
 (pss_cons (ps_for PassesOwn.never rfl (pi_range1 rfl B.range (pa_cons (pe_op op_mod (pe_ix ix_list (pv 0) pe_int (fun _ _=>rfl)) (pe_op op_add (pv 1) pe_int)) pa_nil)) (pg_name (i:=3) sc_law_walks.nd rfl (Or.inl rfl))
 (pss_cons (ps_set (i:=4) sc_law_walks.nd rfl (Or.inl rfl) (pe_op op_add pe_int (pe_op op_mod (pe_ix ix_list (pv 0) (pe_op op_add pe_int (pe_op op_mul pe_int (pv 3))) (fun _ _=>rfl)) (pe_ix ix_list (pe_lst (pa_cons pe_int (pa_cons pe_int (pa_cons pe_int pa_nil)))) (pe_op op_mod (pe_op op_fdiv (pe_ix ix_list (pv 0) pe_int (fun _ _=>rfl)) pe_int) pe_int) (fun _ _=>rfl)))))
 (pss_cut (ps_if (pt_cmpR op_eqI (pe_op op_mod (pe_ix ix_list (pv 0) (pe_op op_add pe_int (pe_op op_mul pe_int (pv 3))) (fun _ _=>rfl)) pe_int) pe_int (nomark _))
 (pss_one (ps_set (i:=4) sc_law_walks.nd rfl (Or.inl rfl) (pe_op op_pow pe_int pe_int)))
 pss_nil)
 (pss_one (ps_expr (pe_bm PySem.F.plainAttrs_list PySem.F.slot_list_append PySem.F.type_list_append mt_append (pv 2) (pa_cons (pe_tup (pa_cons (pv 4) (pa_cons (pe_op op_sub (pe_op op_mod (pe_ix ix_list (pv 0) (pe_op op_add pe_int (pe_op op_mul pe_int (pv 3))) (fun _ _=>rfl)) pe_int) pe_int) pa_nil))) pa_nil)))))))
 (pss_one (ps_ret (pv 2))))),?_⟩
  obtain⟨n0,m0,_,e0⟩:=at_mem (ns:=ns) (i:=0) (by omega) (by omega)
  have p1:(0:Int)<(m:Int)+1:=by omega
  have q1:=Int.emod_nonneg n0 (show ((m:Int)+1)≠0 by omega)
  have q2:=Int.emod_lt_of_pos n0 p1
  refine⟨by decide,fun l hl=>?_⟩
  have ha':=Same.upd (o:=.lst []) hl _ _ ha
  refine⟨_,rfl,a,_,_,_,rfl,rfl,SqL.of ha',e0,_,rfl,_,_,rfl,rfl,_,_,rfl,rfl,p1,_,rfl,by omega,by omega,
   for_range (lo:=0) (n:=(n0 % ((m:Int)+1)).toNat) (I1_law_walks H a l m)
    ⟨[],[],none,none,rfl,Same.upd hl,upd_same,.nil,rfl,fun p hp=>(nomatch hp),fun p hp=>(nomatch hp)⟩ ?_ ?_⟩
  ·rintro i σ H2 hi ⟨us,ws,v1,v2,rfl,sm,el,pr,hpl,hcr,hct⟩
   obtain⟨x1,w1,_,y1⟩:=at_mem (ns:=ns) (i:=1+2 * (0+(i:Int))) (by omega) (by omega)
   obtain⟨x2,w2,_,y2⟩:=at_mem (ns:=ns) (i:=2+2 * (0+(i:Int))) (by omega) (by omega)
   have ha2:=sm _ _ ha
   refine⟨_,rfl,_,rfl,_,_,rfl,rfl,.inl ⟨by decide,by decide⟩,_,_,rfl,rfl,a,_,_,_,rfl,rfl,SqL.of ha2,y1,(show 3≤sizeLine by decide),fun p1 hp1=>?_⟩
   have g1:=Same.upd (o:=.lst [V.int 3,V.int 9,V.int 70]) hp1
   have f1:(upd H2 p1 (.lst [V.int 3,V.int 9,V.int 70])) p1=some (.lst ([3,9,70].map V.int)):=upd_same
   generalize upd H2 p1 (.lst [V.int 3,V.int 9,V.int 70])=H3 at g1 f1 ⊢
   obtain⟨z,mz,_,ez⟩:=at_mem (ns:=[3,9,70]) (i:=n0 / 8 % 3) (Int.emod_nonneg _ (by decide)) (Int.emod_lt_of_pos _ (by decide))
   have hz:(0:Int)<z:=by simp at mz;omega
   have z1:=Int.emod_nonneg x1 (Int.ne_of_gt hz)
   refine⟨_,rfl,a,_,_,_,rfl,rfl,SqL.of (g1 _ _ ha2),e0,_,_,rfl,rfl,⟨by decide,by decide⟩,_,_,rfl,rfl,(by show (0:Int)<3;decide),p1,_,_,_,rfl,rfl,SqL.of f1,ez,_,_,rfl,rfl,hz,_,_,rfl,rfl,?_⟩
   have sm3:=sm.trans g1
   have ha3:=sm3 _ _ ha
   refine⟨I2_law_walks a l m H3 i,⟨_,rfl,_,rfl,_,_,rfl,rfl,.inl ⟨by decide,by decide⟩,_,_,rfl,rfl,a,_,_,_,rfl,rfl,SqL.of ha3,y1,_,_,rfl,rfl,(by show (0:Int)<17;decide),_,_,rfl,rfl,_,rfl,iteD (fun _=>?_) (fun _=>⟨_,rfl,rfl,by omega⟩)⟩,?_⟩
   ·exact⟨_,_,rfl,rfl,⟨by decide,by decide,by decide⟩,_,rfl,rfl,by decide⟩
   ·rintro σ' H4 ⟨o,rfl,rfl,ho⟩
    have el4:=g1 _ _ el
    refine⟨_,rfl,.inl ⟨rfl,_,SqL.of el4⟩,_,rfl,_,rfl,_,rfl,_,_,rfl,rfl,.inl ⟨by decide,by decide⟩,_,_,rfl,rfl,a,_,_,_,rfl,rfl,SqL.of ha3,y2,_,_,rfl,rfl,(by show (0:Int)<9;decide),_,_,rfl,rfl,(show 2≤sizeLine by decide),fun t ht=>?_⟩
    have c1:=Int.emod_nonneg x2 (show (9:Int)≠0 by decide)
    have c2:=Int.emod_lt_of_pos x2 (show (0:Int)<9 by decide)
    have el6:(upd H4 t (.tup [.int o,.int (x2 % 9 - 4)])) l=some (.lst us):=by rw[upd_ne (ne_of_none el4 ht)];exact el4
    refine⟨l,us,_,rfl,rfl,el6,line_of (by rw[pr.len];omega),us++[.ref t],ws++[(o,x2 % 9 - 4)],_,_,rfl,Same.upd' hl (Same.upd' (sm3.free ht) sm3),upd_same,?_,by simp[hpl],fun p hp=>?_,fun p hp=>?_⟩
    ·exact Paired.append' (Prs.mono (TupS.trans (TupS.trans (TupS.same g1) (TupS.new ht)) (TupS.lst el6)) pr) (.cons ⟨t,rfl,by rw[upd_ne (Ne.symm (ne_of_none el4 ht)),upd_same]⟩ .nil)
    ·rcases List.mem_append.mp hp with h | h
     ·exact hcr p h
     ·rw[List.mem_singleton.mp h];exact ho
    ·rcases List.mem_append.mp hp with h | h
     ·exact hct p h
     ·rw[List.mem_singleton.mp h]
      constructor
      ·show -4≤x2 % 9 - 4;omega
      ·show x2 % 9 - 4≤4;omega
  ·rintro σ H2 ⟨us,ws,v1,v2,rfl,sm,el,pr,hpl,hcr,hct⟩
   exact⟨_,rfl,k ws (by omega) hcr hct l us H2 hl sm el pr⟩
noncomputable abbrev s_law_adds:Stmt:=top 44
theorem sc_law_adds:FnScope ["_law_pairs","_law_walks_here","_law_found","_law_size","_law_offset"] ["_law_pairs","_law_walks_here"] (defScope s_law_adds):=⟨rfl,rfl,rfl,by decide +kernel,rfl,by decide +kernel,by decide +kernel⟩
theorem ok_adds {f:Addr} {fd:FuncData} (F:Fun K "_law_adds" "_law_adds" s_law_adds f fd) (B:Bt mg):FnOk P w K mg base CX0 1 f fd ["_law_pairs","_law_walks_here"] spAdds:=by
 refine F.ok sc_law_adds (fun vs H Q E h=>?_) (fun cdv A outer s H vs Q E hr h=>?_)
 ·obtain⟨a,b,ps,ws,rfl,_⟩:=h
  rfl
 ·obtain⟨a,b,ps,ws,rfl,⟨us,ha,pr⟩,ht,⟨vs,hb,prw⟩,hwl,hc,k⟩:=h
  have e:us.length=ps.length:=pr.len
  have ew:vs.length=ws.length:=prw.len
  have hpl:=ht.len
  refine⟨_,(pss_cons (ps_set (i:=2) sc_law_adds.nd rfl (Or.inl rfl) (pe_lst pa_nil))
 (pss_cons (ps_for PassesOwn.never rfl (pi_list (pv 0)) (pg_tup rfl (pgs_cons (pg_name (i:=3) sc_law_adds.nd rfl (Or.inr rfl)) (pgs_cons (pg_name (i:=4) sc_law_adds.nd rfl (Or.inl rfl)) pgs_nil)))
 (pss_one (ps_expr (pe_bm PySem.F.plainAttrs_list PySem.F.slot_list_append PySem.F.type_list_append mt_append (pv 2) (pa_cons (pe_tup (pa_cons (pv 3) (pa_cons (pe_op op_add (pv 4) (pe_callB (call_sum rfl) (by rfl) B.sum boot_sum (pa_cons (pe_comp ["_law_creel","_law_count"] ["_law_size"] [3] rfl (.of (show compOk (defScope s_law_adds) _ ["_law_pairs","_law_walks_here","_law_found","_law_size","_law_offset"] [3] ["_law_size"]=true by decide +kernel)) (pi_list (pv 1)) (fun _ _ _=>(pg_tupK (n:=2) K rfl rfl (pgs_cons (pg_name (i:=0) (show (["_law_creel","_law_count","_law_size"]:List Str).Nodup by decide +kernel) rfl (Or.inl rfl)) (pgs_cons (pg_name (i:=1) (show (["_law_creel","_law_count","_law_size"]:List Str).Nodup by decide +kernel) rfl (Or.inl rfl)) pgs_nil)))) (kg_tup (kgs_cons (by decide) (kgs_cons (by decide) kgs_nil))) (fun _ _ _=>pif_nil) (fun _ _ _=>(pe_op op_mul (pv 1) (pe_callB (call_min2 rfl) (by rfl) B.min boot_min (pa_cons (pv 0) (pa_cons (pv 2) pa_nil)))))) pa_nil))) pa_nil))) pa_nil)))))
 (pss_one (ps_ret (pe_callB call_sortedP (by rfl) B.sorted boot_sorted (pa_cons (pv 2) pa_nil)))))),?_⟩
  refine⟨by decide,fun l hl=>?_⟩
  refine⟨_,rfl,a,rfl,⟨_,SqL.of (Same.upd hl _ _ ha)⟩,for_list (K:=K) (a:=a) (xs:=us) (fun i σ H2=>∃ (ys:List V) (v1 v2:Option V),σ=[some (.ref a),some (.ref b),some (.ref l),v1,v2]∧Same H H2∧H2 l=some (.lst ys)∧Prs H2 ys ((addsM ps ws).take i))
   ⟨[],none,none,rfl,Same.upd hl,upd_same,.nil⟩ (fun i σ H2 _ ⟨_,_,_,_,sm,_⟩=>SqL.of (sm _ _ ha)) ?_ ?_⟩
  ·rintro i x σ H2 hi ⟨ys,v1,v2,rfl,sm,el,pr2⟩
   obtain⟨p,t',hp,rfl,et⟩:=paired_at pr hi
   have hpm:=List.mem_of_getElem? hp
   have h1:=ht.pos p hpm
   have h2:=trn_le ht hpm
   refine⟨t',_,rfl,SqT.of (sm _ _ et),rfl,_,_,rfl,_,_,rfl,rfl,_,rfl,.inl ⟨rfl,_,SqL.of el⟩,_,rfl,_,rfl,_,rfl,b,rfl,⟨_,SqL.of (sm _ _ hb)⟩,comp_list (K:=K) (a:=b) (xs:=vs) (fun j zs H3=>H3=H2∧zs=((ws.take j).map (gainI p.1)).map V.int) ⟨rfl,rfl⟩ ?_ ?_ ?_⟩
   ·rintro j zs H3 hj ⟨rfl,rfl⟩
    exact⟨SqL.of (sm _ _ hb),by simp only[List.length_map,List.length_take];exact line_of (by omega)⟩
   ·rintro j y zs H3 hj ⟨rfl,rfl⟩
    obtain⟨q,t2,hq,rfl,et2⟩:=paired_at prw hj
    have h3:=hc q (List.mem_of_getElem? hq)
    refine⟨t2,_,rfl,SqT.of (sm _ _ et2),rfl,_,_,rfl,_,_,rfl,rfl,_,rfl,_,rfl,_,rfl,_,_,rfl,_,_,rfl,rfl,.inr ⟨?_,?_⟩,rfl,snoc_pairs (gainI p.1) hq⟩
    ·split <;> omega
    ·split <;> omega
   ·rintro zs H3 ⟨rfl,rfl⟩ D hD
    have gD:=Same.upd (o:=.lst (((ws.take vs.length).map (gainI p.1)).map V.int)) hD
    refine⟨D,ws.map (gainI p.1),rfl,by rw[upd_same,ew,List.take_length],_,_,rfl,rfl,(show 2≤sizeLine by decide),fun t ht'=>?_⟩
    have gt:=gD.trans (Same.upd (o:=.tup [.int p.1,.int (p.2+(ws.map (gainI p.1)).sum)]) ht')
    have elt:=gt _ _ el
    have ett:(upd (upd H3 D (.lst (((ws.take vs.length).map (gainI p.1)).map V.int))) t (.tup [.int p.1,.int (p.2+(ws.map (gainI p.1)).sum)])) t=some (.tup [.int p.1,.int (p.2+(ws.map (gainI p.1)).sum)]):=upd_same
    generalize upd (upd H3 D (.lst (((ws.take vs.length).map (gainI p.1)).map V.int))) t (.tup [.int p.1,.int (p.2+(ws.map (gainI p.1)).sum)])=H4 at gt elt ett ⊢
    have ly:=pr2.len
    refine⟨l,ys,_,rfl,rfl,elt,line_of (by rw[ly];simp only[List.length_take,addsM,List.length_map];omega),ys++[.ref t],_,_,rfl,Same.upd' hl (sm.trans gt),upd_same,?_⟩
    have ei:(addsM ps ws).take (i+1)=(addsM ps ws).take i++[(p.1,p.2+gainM ws p.1)]:=by
     rw[List.take_succ]
     unfold addsM
     rw[List.getElem?_map,hp]
     rfl
    rw[ei]
    exact Paired.append' (Prs.mono (TupS.trans (TupS.same gt) (TupS.lst elt)) pr2) (.cons ⟨t,rfl,by rw[upd_ne (ne_of ett elt (by intro z;cases z))];exact ett⟩ .nil)
  ·rintro σ H2 ⟨ys,v1,v2,rfl,sm,el,pr2⟩
   rw[e,show ps.length=(addsM ps ws).length by simp[addsM],List.take_length]at pr2
   refine⟨_,rfl,l,ys,addsM ps ws,rfl,el,pr2,by simp[addsM];omega,fun l' us' qs hl' pr' hperm hs=>?_⟩
   exact k qs hperm hs l' us' _ (sm.free hl') (Same.upd' (sm.free hl') sm) upd_same (Prs.mono (TupS.new hl') pr')
noncomputable abbrev s_law_why:Stmt:=top 45
theorem sc_law_why:FnScope ["_law_ask","_law_why_here","e"] ["_law_ask"] (defScope s_law_why):=⟨rfl,rfl,rfl,by decide +kernel,rfl,by decide +kernel,by decide +kernel⟩
theorem ok_why {f:Addr} {fd:FuncData} {kL:Nat} (X:Errs K mg) (Z:Sees X) (F:Fun K "_law_why" "_law_why" s_law_why f fd):FnOkS P w K mg base (CXR P w) (kL+1) f fd ["_law_ask"] (spWhy P w base X kL):=by
 refine F.okS sc_law_why (fun s o vs H Q E h=>?_) (fun cdv A outer s H vs Q E hfr hr h=>?_)
 ·obtain⟨f,D,spL,rfl,_⟩:=h
  rfl
 ·obtain⟨f,D,spL,rfl,L,mono,fo,laid,k⟩:=h
  refine⟨_,(pss_cons (ps_set (i:=1) sc_law_why.nd rfl (Or.inl rfl) (pe_tup (pa_cons pe_str (pa_cons pe_int pa_nil))))
   (pss_cons (ps_try ⟨rfl,rfl,rfl⟩ (pc_ask (i:=0) ⟨rfl,rfl,rfl⟩ hr rfl (Or.inl rfl))
    (ph_oneAs (i:=2) rfl X.m_row sc_law_why.nd rfl rfl (fun e=>(pss_one (ps_set (i:=1) sc_law_why.nd rfl (Or.inl rfl) (pe_tup (pa_cons pe_str (pa_cons (pe_xatK K rfl (pv 2) rfl) pa_nil))))))
    (ph_oneAs (i:=2) rfl X.m_trains sc_law_why.nd rfl rfl (fun e=>(pss_one (ps_set (i:=1) sc_law_why.nd rfl (Or.inl rfl) (pe_tup (pa_cons pe_str (pa_cons (pe_xatK K rfl (pv 2) rfl) pa_nil))))))
    (ph_oneAs (i:=2) rfl X.m_sizes sc_law_why.nd rfl rfl (fun e=>(pss_one (ps_set (i:=1) sc_law_why.nd rfl (Or.inl rfl) (pe_tup (pa_cons pe_str (pa_cons (pe_xatK K rfl (pv 2) rfl) pa_nil))))))
    (ph_one rfl X.m_many (fun e=>(pss_one (ps_set (i:=1) sc_law_why.nd rfl (Or.inl rfl) (pe_tup (pa_cons pe_str (pa_cons pe_int pa_nil))))))
    (ph_one rfl X.m_creel (fun e=>(pss_one (ps_set (i:=1) sc_law_why.nd rfl (Or.inl rfl) (pe_tup (pa_cons pe_str (pa_cons pe_int pa_nil))))))
    (ph_one rfl X.m_number (fun e=>(pss_one (ps_set (i:=1) sc_law_why.nd rfl (Or.inl rfl) (pe_tup (pa_cons pe_str (pa_cons pe_int pa_nil))))))
    (ph_one rfl X.m_near (fun e=>(pss_one (ps_set (i:=1) sc_law_why.nd rfl (Or.inl rfl) (pe_tup (pa_cons pe_str (pa_cons pe_int pa_nil))))))
    (ph_one rfl X.m_bare (fun e=>(pss_one (ps_set (i:=1) sc_law_why.nd rfl (Or.inl rfl) (pe_tup (pa_cons pe_str (pa_cons pe_int pa_nil))))))
    (ph_one rfl X.m_err (fun e=>(pss_one (ps_set (i:=1) sc_law_why.nd rfl (Or.inl rfl) (pe_tup (pa_cons pe_str (pa_cons pe_int pa_nil))))))
    ph_end))))))))))
   (pss_one (ps_ret (pv 1))))),?_⟩
  refine⟨by show 2≤sizeLine;decide,fun t ht=>⟨f,D,spL,rfl,L,fo,laid,mono _ _ _ _ _ (fun v H' q=>⟨_,rfl,q⟩) (fun cls od H' q e he=>?_) (k t ht)⟩⟩
  obtain⟨nm,i,W,q⟩:=q
  cases W with
  | row hd hl =>
   refine⟨true,Z.t0,?_⟩
   rw[if_pos rfl]
   exact⟨_,rfl,e,X.row,_,_,_,rfl,upd_same,(by rw[upd_ne (fun z=>by rw[z,he]at hd;cases hd)];exact hd),xg_of Z.g1,hl,(by show 2≤sizeLine;decide),fun t' ht'=>⟨_,rfl,q _ t' (sub2 he ht') upd_same⟩⟩
  | trains hd hl =>
   refine⟨false,Z.f10,?_⟩
   rw[if_neg (by decide)]
   refine⟨true,Z.t1,?_⟩
   rw[if_pos rfl]
   exact⟨_,rfl,e,X.trains,_,_,_,rfl,upd_same,(by rw[upd_ne (fun z=>by rw[z,he]at hd;cases hd)];exact hd),xg_of Z.g2,hl,(by show 2≤sizeLine;decide),fun t' ht'=>⟨_,rfl,q _ t' (sub2 he ht') upd_same⟩⟩
  | sizes hd hl =>
   refine⟨false,Z.f20,?_⟩
   rw[if_neg (by decide)]
   refine⟨false,Z.f21,?_⟩
   rw[if_neg (by decide)]
   refine⟨true,Z.t2,?_⟩
   rw[if_pos rfl]
   exact⟨_,rfl,e,X.sizes,_,_,_,rfl,upd_same,(by rw[upd_ne (fun z=>by rw[z,he]at hd;cases hd)];exact hd),xg_of Z.g3,hl,(by show 2≤sizeLine;decide),fun t' ht'=>⟨_,rfl,q _ t' (sub2 he ht') upd_same⟩⟩
  | many =>
   refine⟨false,Z.f30,?_⟩
   rw[if_neg (by decide)]
   refine⟨false,Z.f31,?_⟩
   rw[if_neg (by decide)]
   refine⟨false,Z.f32,?_⟩
   rw[if_neg (by decide)]
   refine⟨true,Z.t3,?_⟩
   rw[if_pos rfl]
   exact⟨(by show 2≤sizeLine;decide),fun t' ht'=>⟨_,rfl,q _ t' (sub1 ht') upd_same⟩⟩
  | creel =>
   refine⟨false,Z.f40,?_⟩
   rw[if_neg (by decide)]
   refine⟨false,Z.f41,?_⟩
   rw[if_neg (by decide)]
   refine⟨false,Z.f42,?_⟩
   rw[if_neg (by decide)]
   refine⟨false,Z.f43,?_⟩
   rw[if_neg (by decide)]
   refine⟨true,Z.t4,?_⟩
   rw[if_pos rfl]
   exact⟨(by show 2≤sizeLine;decide),fun t' ht'=>⟨_,rfl,q _ t' (sub1 ht') upd_same⟩⟩
  | number =>
   refine⟨false,Z.f50,?_⟩
   rw[if_neg (by decide)]
   refine⟨false,Z.f51,?_⟩
   rw[if_neg (by decide)]
   refine⟨false,Z.f52,?_⟩
   rw[if_neg (by decide)]
   refine⟨false,Z.f53,?_⟩
   rw[if_neg (by decide)]
   refine⟨false,Z.f54,?_⟩
   rw[if_neg (by decide)]
   refine⟨true,Z.t5,?_⟩
   rw[if_pos rfl]
   exact⟨(by show 2≤sizeLine;decide),fun t' ht'=>⟨_,rfl,q _ t' (sub1 ht') upd_same⟩⟩
  | near =>
   refine⟨false,Z.f60,?_⟩
   rw[if_neg (by decide)]
   refine⟨false,Z.f61,?_⟩
   rw[if_neg (by decide)]
   refine⟨false,Z.f62,?_⟩
   rw[if_neg (by decide)]
   refine⟨false,Z.f63,?_⟩
   rw[if_neg (by decide)]
   refine⟨false,Z.f64,?_⟩
   rw[if_neg (by decide)]
   refine⟨false,Z.f65,?_⟩
   rw[if_neg (by decide)]
   refine⟨true,Z.t6,?_⟩
   rw[if_pos rfl]
   exact⟨(by show 2≤sizeLine;decide),fun t' ht'=>⟨_,rfl,q _ t' (sub1 ht') upd_same⟩⟩
  | bare =>
   refine⟨false,Z.f70,?_⟩
   rw[if_neg (by decide)]
   refine⟨false,Z.f71,?_⟩
   rw[if_neg (by decide)]
   refine⟨false,Z.f72,?_⟩
   rw[if_neg (by decide)]
   refine⟨false,Z.f73,?_⟩
   rw[if_neg (by decide)]
   refine⟨false,Z.f74,?_⟩
   rw[if_neg (by decide)]
   refine⟨false,Z.f75,?_⟩
   rw[if_neg (by decide)]
   refine⟨false,Z.f76,?_⟩
   rw[if_neg (by decide)]
   refine⟨true,Z.t7,?_⟩
   rw[if_pos rfl]
   exact⟨(by show 2≤sizeLine;decide),fun t' ht'=>⟨_,rfl,q _ t' (sub1 ht') upd_same⟩⟩
noncomputable abbrev s_law_other:Stmt:=top 46
theorem sc_law_other:FnScope ["_law_walks_here","_law_d","_law_stones_here","_law_found","_law_at"] ["_law_walks_here","_law_d","_law_stones_here"] (defScope s_law_other):=⟨rfl,rfl,rfl,by decide +kernel,rfl,by decide +kernel,by decide +kernel⟩
theorem ok_law_other {f:Addr} {fd:FuncData} (F:Fun K "_law_other" "_law_other" s_law_other f fd) (B:Bt mg):FnOk P w K mg base CX0 1 f fd ["_law_walks_here","_law_d","_law_stones_here"] spLawOther:=by
 refine F.ok sc_law_other (fun vs H Q E h=>?_) (fun cdv A outer s H vs Q E hr h=>?_)
 ·obtain⟨a,b,ws,ds,n,rfl,_⟩:=h
  rfl
 ·obtain⟨a,b,ws,ds,n,rfl,⟨us,ha,pr⟩,hwl,hcr,hb,hdl,hn,k⟩:=h
  have hu:=hr.units
  have lu:us.length=ws.length:=pr.len
  refine⟨_,(pss_cons (ps_set (i:=3) sc_law_other.nd rfl (Or.inl rfl) (pe_op op_cat (pe_rev (pv 0)) (pe_lst (pa_cons (pe_tup (pa_cons (pe_op op_add (pe_op op_add (pv 2) pe_int) (pe_op op_mod (pe_ix ix_list (pv 1) pe_int (fun _ _=>rfl)) pe_int)) (pa_cons pe_int pa_nil))) (pa_cons (pe_tup (pa_cons (pv 2) (pa_cons (pe_un un_neg pe_int) pa_nil))) pa_nil)))))
 (pss_cut (ps_if (PW.pt (pw_and (pt_cmpR op_eqI (pe_op op_mod (pe_ix ix_list (pv 1) pe_int (fun _ _=>rfl)) pe_int) pe_int (nomark _)) (pw_and1 (pt_cmpR (op_neD hu) (pv 3) (pe_lst pa_nil) (nomark _)))))
 (pss_cons (ps_set (i:=4) sc_law_other.nd rfl (Or.inl rfl) (pe_op op_mod (pe_ix ix_list (pv 1) pe_int (fun _ _=>rfl)) (pe_callB call_len_seq (by rfl) B.len PySem.boot_len (pa_cons (pv 3) pa_nil))))
 (pss_one (ps_asg (pe_tup (pa_cons (pe_ix ix_tup (pe_ix ix_list (pv 3) (pv 4) (fun _ _=>rfl)) pe_int (fun _ _=>rfl)) (pa_cons (pe_op op_sub (pe_op op_add (pe_ix ix_tup (pe_ix ix_list (pv 3) (pv 4) (fun _ _=>rfl)) pe_int (fun _ _=>rfl)) (pe_op op_mod (pe_ix ix_list (pv 1) pe_int (fun _ _=>rfl)) pe_int)) pe_int) pa_nil))) (pg_sub (pv 3) (pv 4) set_list))))
 pss_nil)
 (pss_cut (ps_if (pt_cmpR op_eqI (pe_op op_mod (pe_ix ix_list (pv 1) pe_int (fun _ _=>rfl)) pe_int) pe_int (nomark _))
 (pss_cons (ps_expr (pe_bm PySem.F.plainAttrs_list PySem.F.slot_list_append PySem.F.type_list_append mt_append (pv 3) (pa_cons (pe_tup (pa_cons (pe_op op_add pe_int (pe_op op_mod (pe_ix ix_list (pv 1) pe_int (fun _ _=>rfl)) pe_int)) (pa_cons pe_int pa_nil))) pa_nil)))
 (pss_one (ps_expr (pe_bm PySem.F.plainAttrs_list PySem.F.slot_list_append PySem.F.type_list_append mt_append (pv 3) (pa_cons (pe_tup (pa_cons (pe_op op_add pe_int (pe_op op_mod (pe_ix ix_list (pv 1) pe_int (fun _ _=>rfl)) pe_int)) (pa_cons (pe_un un_neg pe_int) pa_nil))) pa_nil)))))
 pss_nil)
 (pss_one (ps_ret (pv 3)))))),?_⟩
  obtain⟨d0,_,_,e0⟩:=at_mem (ns:=ds) (i:=0) (by omega) (by omega)
  obtain⟨d1,_,_,e1⟩:=at_mem (ns:=ds) (i:=1) (by omega) (by omega)
  obtain⟨d2,_,_,e2⟩:=at_mem (ns:=ds) (i:=2) (by omega) (by omega)
  obtain⟨d3,_,_,e3⟩:=at_mem (ns:=ds) (i:=3) (by omega) (by omega)
  have c0:=Int.emod_nonneg d0 (show (3:Int)≠0 by decide)
  refine⟨_,rfl,a,_,rfl,SqL.of ha,fun p hp=>?_⟩
  have g1:=Same.upd (o:=.lst us.reverse) hp
  have ep:(upd H p (.lst us.reverse)) p=some (.lst us.reverse):=upd_same
  generalize upd H p (.lst us.reverse)=H1 at g1 ep ⊢
  refine⟨_,rfl,_,_,rfl,rfl,_,rfl,b,_,_,_,rfl,rfl,SqL.of (g1 _ _ hb),e0,_,_,rfl,rfl,(by show (0:Int)<3;decide),_,_,rfl,rfl,(show 2≤sizeLine by decide),fun t1 ht1=>?_⟩
  have g2:=Same.upd (o:=.tup [.int (n+1+d0 % 3),.int 2]) ht1
  have et1:(upd H1 t1 (.tup [.int (n+1+d0 % 3),.int 2])) t1=some (.tup [.int (n+1+d0 % 3),.int 2]):=upd_same
  generalize upd H1 t1 (.tup [.int (n+1+d0 % 3),.int 2])=H2 at g2 et1 ⊢
  refine⟨_,rfl,_,rfl,(show 2≤sizeLine by decide),fun t2 ht2=>?_⟩
  have g3:=Same.upd (o:=.tup [.int n,.int (-2)]) ht2
  have et2:(upd H2 t2 (.tup [.int n,.int (-2)])) t2=some (.tup [.int n,.int (-2)]):=upd_same
  generalize upd H2 t2 (.tup [.int n,.int (-2)])=H3 at g3 et2 ⊢
  refine⟨(show 2≤sizeLine by decide),fun l hl=>?_⟩
  have g4:=Same.upd (o:=.lst [V.ref t1,V.ref t2]) hl
  have el:(upd H3 l (.lst [V.ref t1,V.ref t2])) l=some (.lst [V.ref t1,V.ref t2]):=upd_same
  generalize upd H3 l (.lst [V.ref t1,V.ref t2])=H4 at g4 el ⊢
  have g14:=(g2.trans g3).trans g4
  refine⟨p,l,_,_,rfl,rfl,g14 _ _ ep,el,line_le (by simp only[List.length_reverse,List.length_cons,List.length_nil];omega),fun lf hlf=>?_⟩
  have g5:=Same.upd (o:=.lst (us.reverse++[V.ref t1,V.ref t2])) hlf
  have elf:(upd H4 lf (.lst (us.reverse++[V.ref t1,V.ref t2]))) lf=some (.lst (us.reverse++[V.ref t1,V.ref t2])):=upd_same
  have s4:=g1.trans g14
  have s5:=s4.trans g5
  have hlf0:H lf=none:=s4.free hlf
  have pr5:Prs (upd H4 lf (.lst (us.reverse++[V.ref t1,V.ref t2]))) (us.reverse++[V.ref t1,V.ref t2]) (ws.reverse++[(n+1+d0 % 3,2),(n,-2)]) :=
   Paired.append' (paired_rev (pr.mono (TupS.same s5))) (.cons ⟨t1,rfl,((g3.trans g4).trans g5) _ _ et1⟩ (.cons ⟨t2,rfl,(g4.trans g5) _ _ et2⟩ .nil))
  have cr5:Crl (ws.reverse++[(n+1+d0 % 3,2),(n,-2)]):=fun x hx=>by
   rcases List.mem_append.mp hx with h | h
   ·exact hcr x (List.mem_reverse.mp h)
   ·simp only[List.mem_cons,List.not_mem_nil,or_false]at h
    rcases h with e | e
    ·rw[e];show 1≤n+1+d0 % 3;omega
    ·rw[e];exact hn
  have ln5:(ws.reverse++[(n+1+d0 % 3,2),(n,-2)]).length≤22∧(ws.reverse++[(n+1+d0 % 3,2),(n,-2)])≠[]:=⟨by simp;omega,by simp⟩
  generalize us.reverse++[V.ref t1,V.ref t2]=vf at elf pr5 g5 s5 ⊢
  generalize ws.reverse++[(n+1+d0 % 3,(2:Int)),(n,-2)]=wf at pr5 cr5 ln5
  generalize upd H4 lf (.lst vf)=H5 at elf pr5 g5 s5 ⊢
  clear g1 g2 g3 g4 g5 g14 s4 ep et1 et2 el hp ht1 ht2 hl hlf
  refine⟨fun σ' H'=>∃ (vw:List V) (wx:List (Int×Int)) (v4:Option V),σ'=[some (.ref a),some (.ref b),some (.int n),some (.ref lf),v4]∧Same H H'∧H' lf=some (.lst vw)∧Prs H' vw wx∧wx.length≤22∧Crl wx,?_,?_⟩
  ·refine⟨_,rfl,b,_,_,_,rfl,rfl,SqL.of (s5 _ _ hb),e1,_,_,rfl,rfl,(by show (0:Int)<4;decide),_,_,rfl,rfl,_,rfl,iteD (fun _=>?_) (fun _=>⟨vf,wf,none,rfl,s5,elf,pr5,ln5.1,cr5⟩)⟩
   refine⟨_,rfl,by decide,fun q0 hq0=>?_⟩
   have g6:=Same.upd (o:=.lst []) hq0
   have eq0:(upd H5 q0 (.lst [])) q0=some (.lst []):=upd_same
   generalize upd H5 q0 (.lst [])=H6 at g6 eq0 ⊢
   have s6:=s5.trans g6
   have elf6:=g6 _ _ elf
   have pr6:=pr5.mono (TupS.same g6)
   refine⟨_,_,.lst elf6 pr6.dens,.lst eq0 .nil,shaped_pairs _,rfl,_,rfl,?_⟩
   cases hws:wf with
   | nil=>exact absurd hws ln5.2
   | cons z0 zr =>
    have ne:PyData.eqv (.list ((z0 :: zr).map pD)) (.list [])=false:=rfl
    rw[ne]
    have hpos:(0:Int)<(wf.length:Int):=by rw[hws,List.length_cons];omega
    have c0:=Int.emod_nonneg d2 (Int.ne_of_gt hpos)
    have c1:=Int.emod_lt_of_pos d2 hpos
    obtain⟨c,hc⟩:∃ c:Nat,d2 % (wf.length:Int)=(c:Int):=⟨(d2 % (wf.length:Int)).toNat,by omega⟩
    have lv:vf.length=wf.length:=pr5.len
    have hcl:c<vf.length:=by omega
    have hx:vf[c]?=some vf[c]:=List.getElem?_eq_getElem hcl
    obtain⟨q,t',hq,hvt,et⟩:=paired_at pr6 hx
    rw[hvt]at hx
    have hqm:=List.mem_of_getElem? hq
    have hat:atI vf (c:Int)=some (.ref t'):=atI_nat hx
    refine⟨_,rfl,b,_,_,_,rfl,rfl,SqL.of (s6 _ _ hb),e2,_,rfl,lf,_,rfl,.inl (SqL.of elf6),_,_,rfl,rfl,(by rw[lv];exact hpos),?_⟩
    rw[show (fun i j:Int=>V.int (i % j)) d2 (vf.length:Int)=V.int (c:Int)by show V.int (d2 % (vf.length:Int))=_;rw[lv,hc]]
    refine⟨_,rfl,_,rfl,lf,_,_,_,rfl,rfl,SqL.of elf6,hat,t',_,_,_,rfl,rfl,SqT.of et,rfl,_,rfl,_,rfl,lf,_,_,_,rfl,rfl,SqL.of elf6,hat,t',_,_,_,rfl,rfl,SqT.of et,rfl,_,rfl,b,_,_,_,rfl,rfl,SqL.of (s6 _ _ hb),e3,_,_,rfl,rfl,(by show (0:Int)<3;decide),_,_,rfl,rfl,_,_,rfl,rfl,(show 2≤sizeLine by decide),fun t ht=>?_⟩
    have g7:=Same.upd (o:=.tup [.int q.1,.int (q.2+d3 % 3 - 1)]) ht
    have ett:(upd H6 t (.tup [.int q.1,.int (q.2+d3 % 3 - 1)])) t=some (.tup [.int q.1,.int (q.2+d3 % 3 - 1)]):=upd_same
    generalize upd H6 t (.tup [.int q.1,.int (q.2+d3 % 3 - 1)])=H7 at g7 ett ⊢
    have elf7:=g7 _ _ elf6
    have hix:ixN vf.length (c:Int)=some c:=by
     unfold ixN
     rw[if_pos (by omega),if_pos (by omega)]
     rfl
    refine⟨_,rfl,_,rfl,lf,_,_,_,rfl,rfl,elf7,hix,?_⟩
    refine⟨vf.set c (.ref t),wf.set c (q.1,q.2+d3 % 3 - 1),_,rfl,Same.upd' hlf0 (s6.trans g7),upd_same,?_,by rw[List.length_set];exact ln5.1,crl_set' cr5 (cr5 q hqm)⟩
    exact paired_set ⟨t,rfl,by rw[upd_ne (ne_of ett elf7 (by intro z;cases z))];exact ett⟩ c (pr6.mono (TupS.trans (TupS.same g7) (TupS.lst elf7)))
  rintro σ' H6 ⟨vw,wx,v4,rfl,s6,elf6,pr6,ln6,cr6⟩
  have lv6:vw.length=wx.length:=pr6.len
  refine⟨fun σ' H'=>∃ (vw:List V) (wx:List (Int×Int)) (v4:Option V),σ'=[some (.ref a),some (.ref b),some (.int n),some (.ref lf),v4]∧Same H H'∧H' lf=some (.lst vw)∧Prs H' vw wx∧wx.length≤30∧Crl wx,?_,?_⟩
  ·refine⟨_,rfl,b,_,_,_,rfl,rfl,SqL.of (s6 _ _ hb),e1,_,_,rfl,rfl,(by show (0:Int)<4;decide),_,_,rfl,rfl,_,rfl,iteD (fun _=>?_) (fun _=>⟨vw,wx,v4,rfl,s6,elf6,pr6,by omega,cr6⟩)⟩
   have m2:=Int.emod_nonneg d2 (show (9:Int)≠0 by decide)
   have m3:=Int.emod_nonneg d3 (show (9:Int)≠0 by decide)
   refine⟨_,rfl,.inl ⟨rfl,_,SqL.of elf6⟩,_,rfl,b,_,_,_,rfl,rfl,SqL.of (s6 _ _ hb),e2,_,_,rfl,rfl,(by show (0:Int)<9;decide),_,_,rfl,rfl,(show 2≤sizeLine by decide),fun t ht=>?_⟩
   have g7:=Same.upd (o:=.tup [.int (1+d2 % 9),.int 1]) ht
   have et:(upd H6 t (.tup [.int (1+d2 % 9),.int 1])) t=some (.tup [.int (1+d2 % 9),.int 1]):=upd_same
   generalize upd H6 t (.tup [.int (1+d2 % 9),.int 1])=H7 at g7 et ⊢
   have elf7:=g7 _ _ elf6
   refine⟨lf,_,_,rfl,rfl,elf7,line_of (by omega),?_⟩
   have s8:Same H (upd H7 lf (.lst (vw++[V.ref t]))):=Same.upd' hlf0 (s6.trans g7)
   have elf8:(upd H7 lf (.lst (vw++[V.ref t]))) lf=some (.lst (vw++[V.ref t])):=upd_same
   have pr8:Prs (upd H7 lf (.lst (vw++[V.ref t]))) (vw++[V.ref t]) (wx++[(1+d2 % 9,1)]):=Paired.append' (pr6.mono (TupS.trans (TupS.same g7) (TupS.lst elf7))) (.cons ⟨t,rfl,TupS.lst elf7 _ _ et⟩ .nil)
   generalize upd H7 lf (.lst (vw++[V.ref t]))=H8 at s8 elf8 pr8 ⊢
   refine⟨_,rfl,.inl ⟨rfl,_,SqL.of elf8⟩,_,rfl,b,_,_,_,rfl,rfl,SqL.of (s8 _ _ hb),e3,_,_,rfl,rfl,(by show (0:Int)<9;decide),_,_,rfl,rfl,_,rfl,(show 2≤sizeLine by decide),fun t' ht'=>?_⟩
   have g9:=Same.upd (o:=.tup [.int (1+d3 % 9),.int (-1)]) ht'
   have et':(upd H8 t' (.tup [.int (1+d3 % 9),.int (-1)])) t'=some (.tup [.int (1+d3 % 9),.int (-1)]):=upd_same
   generalize upd H8 t' (.tup [.int (1+d3 % 9),.int (-1)])=H9 at g9 et' ⊢
   have elf9:=g9 _ _ elf8
   refine⟨lf,_,_,rfl,rfl,elf9,line_of (by simp;omega),?_⟩
   refine⟨vw++[V.ref t]++[V.ref t'],wx++[(1+d2 % 9,1)]++[(1+d3 % 9,-1)],_,rfl,Same.upd' hlf0 (s8.trans g9),upd_same,Paired.append' (pr8.mono (TupS.trans (TupS.same g9) (TupS.lst elf9))) (.cons ⟨t',rfl,TupS.lst elf9 _ _ et'⟩ .nil),by simp;omega,crl_snoc (crl_snoc cr6 (by show 1≤1+d2 % 9;omega)) (by show 1≤1+d3 % 9;omega)⟩
  rintro σ' H7 ⟨vx,wy,v5,rfl,s7,elf7,pr7,ln7,cr7⟩
  exact⟨_,rfl,k wy ln7 cr7 lf vx H7 hlf0 s7 elf7 pr7⟩
end
end CW
namespace CW
open PySem L2
section
variable {P:Program} {w:World} {K:PySem.W.Frag} {mg:Str→Option Value} {base:Heap}
noncomputable abbrev s_law:Stmt:=top 47
theorem sc_law:FnScope ["_law_script","_law_numbers_here","_law_one","_law_stones_here","_law_other_here","_law_handed","_law_found","_law_alike","_law_row_here","_law_kept","_law_why_here"] ["_law_script"] (defScope s_law):=⟨rfl,rfl,rfl,by decide +kernel,rfl,by decide +kernel,by decide +kernel⟩
theorem ok_law {f c PT:Addr} {fd:FuncData} {X:Errs K mg} (F:FunC K "law" "law" s_law f fd c) (hC:PySem.W.CodeHd base c PT) (hbm:BMain mg base) (B:Bt mg) (W:WhyAt P w K mg base X 9)
 (F_parting:FnAtX P w K mg base "parting" 6 ["one","other","stones"] (spParting X)) (F_tidied:FnAtX P w K mg base "tidied" 6 ["walks","stones"] (spTidied X)) (F_far:FnAt P w K mg base "far" 5 ["row","walks"] spFar) (F_law_numbers:FnAt P w K mg base "_law_numbers" 1 ["_law_script","_law_many"] (spNumbers K)) (F_law_walks:FnAt P w K mg base "_law_walks" 1 ["_law_d","_law_many"] spWalks) (F_law_other:FnAt P w K mg base "_law_other" 1 ["_law_walks_here","_law_d","_law_stones_here"] spLawOther)
 (F_law_long_row:FnAt P w K mg base "_law_long_row" 2 ["_law_d","_law_most"] spLong) (F_law_runs:FnAt P w K mg base "_law_runs" 1 ["_law_row_here"] spRuns) (F_law_list:FnAt P w K mg base "_law_list" 2 ["_law_row_here"] spLawList) (F_law_adds:FnAt P w K mg base "_law_adds" 1 ["_law_pairs","_law_walks_here"] spAdds) (F_law_stones:FnAt P w K mg base "_law_stones" 2 ["_law_pairs"] spStones)
 (F_law_same:FnAt P w K mg base "_law_same" 4 ["_law_found","_law_due"] (spSame 3)) :
 FnOk P w K mg base CX0 11 f fd ["_law_script"] (spLawT K PT):=by
 refine F.ok sc_law (fun vs H Q E h=>?_) (fun A outer s H vs Q E hr h=>?_)
 ·obtain⟨a,ns,rfl,_⟩:=h
  rfl
 ·obtain⟨a,sc,rfl,hP,hS,hlen,kk⟩:=h
  have hu:=hr.units
  refine⟨_,(pss_consO (ps_set (i:=1) sc_law.nd rfl (Or.inr rfl) (pe_fn F_law_numbers hr rfl (pa_cons (pv 0) (pa_cons pe_int pa_nil))))
 (pss_consO (ps_set (i:=2) sc_law.nd rfl (Or.inr rfl) (pe_fn F_law_walks hr rfl (pa_cons (pe_slice sl_list (pv 1) (po_some pe_int) po_none) (pa_cons pe_int pa_nil))))
 (pss_consO (ps_set (i:=3) sc_law.nd rfl (Or.inr rfl) (pe_op op_add pe_int (pe_op op_mod (pe_ix ix_list (pv 1) pe_int (fun _ _=>rfl)) (pe_ix ix_list (pe_lst (pa_cons pe_int (pa_cons pe_int (pa_cons pe_int pa_nil)))) (pe_op op_mod (pe_ix ix_list (pv 1) pe_int (fun _ _=>rfl)) pe_int) (fun _ _=>rfl)))))
 (pss_consO (ps_set (i:=4) sc_law.nd rfl (Or.inr rfl) (pe_fn F_law_other hr rfl (pa_cons (pv 2) (pa_cons (pe_slice sl_list (pv 1) (po_some pe_int) po_none) (pa_cons (pv 3) pa_nil)))))
 (pss_consO (ps_set (i:=5) sc_law.nd rfl (Or.inl rfl) (pe_lst (pa_cons (pe_callTy call_list_of (by rfl) B.list boot_list (pa_cons (pv 2) pa_nil)) (pa_cons (pe_callTy call_list_of (by rfl) B.list boot_list (pa_cons (pv 4) pa_nil)) pa_nil))))
 (pss_consO (ps_set (i:=6) sc_law.nd rfl (Or.inl rfl) (pe_fnX F_parting hr rfl passN (pa_cons (pe_ix ix_list (pv 5) pe_int (fun _ _=>rfl)) (pa_cons (pe_ix ix_list (pv 5) pe_int (fun _ _=>rfl)) (pa_cons (pv 3) pa_nil)))))
 (pss_consO (ps_set (i:=7) sc_law.nd rfl (Or.inl rfl) (pe_cmpR (op_eqD hu) (pe_fnX F_tidied hr rfl passN (pa_cons (pe_callTy call_list_of (by rfl) B.list boot_list (pa_cons (pv 2) pa_nil)) (pa_cons (pv 3) pa_nil))) (pe_fnX F_tidied hr rfl passN (pa_cons (pe_callTy call_list_of (by rfl) B.list boot_list (pa_cons (pv 4) pa_nil)) (pa_cons (pv 3) pa_nil))) (nomark _)))
 (pss_cons (ps_if (PW.pt (pw_or (pt_cmpR (op_neD hu) (pv 5) (pe_lst (pa_cons (pv 2) (pa_cons (pv 4) pa_nil))) (nomark _)) (pw_or1 (pt_cmpR op_ne (pe_cmpR op_isN (pv 6) pe_non (nomark _)) (pv 7) (nomark _)))))
 (pss_one (ps_ret pe_bl))
 pss_nil)
 (pss_cons (ps_if (pt_cmpR op_isN (pv 6) pe_non (nomark _))
 (pss_cons (ps_set (i:=8) sc_law.nd rfl (Or.inl rfl) (pe_fn F_law_long_row hr rfl (pa_cons (pe_slice sl_list (pv 1) (po_some pe_int) po_none) (pa_cons (pe_callB (call_min2 rfl) (by rfl) B.min boot_min (pa_cons (pv 3) (pa_cons pe_int pa_nil))) pa_nil))))
 (pss_one (ps_ret (pe_cmpR (op_eqD hu) (pe_fn F_far hr rfl (pa_cons (pe_callTy call_list_of (by rfl) B.list boot_list (pa_cons (pv 8) pa_nil)) (pa_cons (pv 2) pa_nil))) (pe_fn F_far hr rfl (pa_cons (pe_callTy call_list_of (by rfl) B.list boot_list (pa_cons (pv 8) pa_nil)) (pa_cons (pv 4) pa_nil))) (nomark _)))))
 pss_nil)
 (pss_cons (ps_if (PW.pt (pw_or (pt_not (pt_truth (pe_callB call_isi (by rfl) B.isinstance boot_isinstance (pa_cons (pv 6) (pa_cons (pe_bltn (v:=.ty "list") rfl B.list boot_list rfl) pa_nil))) (fun _=>rfl))) (pw_or1 (pt_not (pt_truth (pe_fn F_law_same hr rfl (pa_cons (pe_comp ["_law_place"] [] [] rfl (.of (show compOk (defScope s_law) _ ["_law_script","_law_numbers_here","_law_one","_law_stones_here","_law_other_here","_law_handed","_law_found","_law_alike","_law_row_here","_law_kept","_law_why_here"] [] []=true by decide +kernel)) (pi_list (pv 6)) (fun _ _ _=>(pg_name (i:=0) (show (["_law_place"]:List Str).Nodup by decide +kernel) rfl (Or.inl rfl))) (kg_name (by decide)) (fun _ _ _=>pif_nil) (fun _ _ _=>(pe_op op_add (pv 0) pe_int))) (pa_cons (pv 6) pa_nil))) (fun _=>rfl))))))
 (pss_one (ps_ret pe_bl))
 pss_nil)
 (pss_cons (ps_if (PW.pt (pw_or (pt_not (pt_chain op_le op_le pe_int (pe_callB call_len_seq (by rfl) B.len PySem.boot_len (pa_cons (pv 6) pa_nil)) (pv 3))) (pw_or1 (pt_cmpR op_neI (pe_callB call_len_seq (by rfl) B.len PySem.boot_len (pa_cons (pe_fn F_law_runs hr rfl (pa_cons (pv 6) pa_nil)) pa_nil)) pe_int (nomark _)))))
 (pss_one (ps_ret pe_bl))
 pss_nil)
 (pss_consO (ps_set (i:=9) sc_law.nd rfl (Or.inl rfl) (pe_callTy call_list_of (by rfl) B.list boot_list (pa_cons (pv 6) pa_nil)))
 (pss_cons (ps_expr (pe_bm PySem.F.plainAttrs_list PySem.F.slot_list_append PySem.F.type_list_append mt_append (pv 6) (pa_cons (pe_op op_add (pe_ix ix_list (pv 6) (pe_un un_neg pe_int) (fun _ _=>rfl)) pe_int) pa_nil)))
 (pss_consO (ps_set (i:=6) sc_law.nd rfl (Or.inl rfl) (pe_fnX F_parting hr rfl passN (pa_cons (pe_ix ix_list (pv 5) pe_int (fun _ _=>rfl)) (pa_cons (pe_ix ix_list (pv 5) pe_int (fun _ _=>rfl)) (pa_cons (pv 3) pa_nil)))))
 (pss_cons (ps_if (PW.pt (pw_or (pt_cmpR op_neI (pe_callB call_len_seq (by rfl) B.len PySem.boot_len (pa_cons (pe_fn F_law_runs hr rfl (pa_cons (pv 6) pa_nil)) pa_nil)) pe_int (nomark _)) (pw_or (pt_not (pt_chain op_le op_le pe_int (pe_callB call_len_seq (by rfl) B.len PySem.boot_len (pa_cons (pv 6) pa_nil)) (pv 3))) (pw_or (pt_cmpR (op_eqD hu) (pv 9) (pe_lst pa_nil) (nomark _)) (pw_or1 (pt_cmpR (op_neD hu) (pv 5) (pe_lst (pa_cons (pv 2) (pa_cons (pv 4) pa_nil))) (nomark _)))))))
 (pss_one (ps_ret pe_bl))
 pss_nil)
 (pss_cons (ps_if (pt_cmpR (op_eqD hu) (pe_fn F_law_stones hr rfl (pa_cons (pe_fn F_law_adds hr rfl (pa_cons (pe_fn F_law_list hr rfl (pa_cons (pv 6) pa_nil)) (pa_cons (pv 2) pa_nil))) pa_nil)) (pe_fn F_law_stones hr rfl (pa_cons (pe_fn F_law_adds hr rfl (pa_cons (pe_fn F_law_list hr rfl (pa_cons (pv 6) pa_nil)) (pa_cons (pv 4) pa_nil))) pa_nil)) (nomark _))
 (pss_one (ps_ret pe_bl))
 pss_nil)
 (pss_cons (ps_set (i:=10) sc_law.nd rfl (Or.inl rfl) (pe_lst (pa_cons (pe_whyL (k:=8) ["_law_one","_law_stones_here","_law_other_here"] [2,3,4] ⟨rfl,rfl,rfl⟩ W hr rfl rfl hC hbm rfl ⟨rfl,rfl,rfl,by decide +kernel,rfl,(by repeat first | exact CW.fm0 | refine CW.fm1 ⟨rfl,rfl⟩ ?_),CW.has_of (by repeat first | exact CW.fm0 | refine CW.fm1 (fun _=>rfl) ?_ | refine CW.fm1 (fun h=>nomatch h) ?_),(by repeat first | exact CW.ix_nil | refine CW.ix_cons ⟨_,rfl,rfl,Or.inr (Or.inl rfl),(show some PySem.NameKind.cell≠some PySem.NameKind.local by decide),rfl⟩ ?_),rfl⟩ (fun _ _ _=>rfl) (fun _ _ _ _ _ _ _ _ _ hfr hr h=>⟨_,(pe_fnX F_parting hr rfl (passL hfr) (pa_cons (pv 0) (pa_cons (pe_op op_cat (pv 2) (pe_lst (pa_cons (pe_tup (pa_cons pe_int (pa_cons pe_int pa_nil))) pa_nil))) (pa_cons (pv 1) pa_nil)))),h⟩)) pa_nil)))
 (pss_cons (ps_expr (pe_bm PySem.F.plainAttrs_list PySem.F.slot_list_append PySem.F.type_list_append mt_append (pv 10) (pa_cons (pe_whyL (k:=8) ["_law_other_here","_law_numbers_here"] [4,1] ⟨rfl,rfl,rfl⟩ W hr rfl rfl hC hbm rfl ⟨rfl,rfl,rfl,by decide +kernel,rfl,(by repeat first | exact CW.fm0 | refine CW.fm1 ⟨rfl,rfl⟩ ?_),CW.has_of (by repeat first | exact CW.fm0 | refine CW.fm1 (fun _=>rfl) ?_ | refine CW.fm1 (fun h=>nomatch h) ?_),(by repeat first | exact CW.ix_nil | refine CW.ix_cons ⟨_,rfl,rfl,Or.inr (Or.inl rfl),(show some PySem.NameKind.cell≠some PySem.NameKind.local by decide),rfl⟩ ?_),rfl⟩ (fun _ _ _=>rfl) (fun _ _ _ _ _ _ _ _ _ hfr hr h=>⟨_,(pe_fnX F_parting hr rfl (passL hfr) (pa_cons (pe_lst (pa_cons (pe_tup (pa_cons (pe_un un_neg pe_int) (pa_cons pe_int pa_nil))) pa_nil)) (pa_cons (pv 0) (pa_cons (pe_ix (ix_listK K rfl) (pe_lst (pa_cons pe_int (pa_cons pe_int pa_nil))) (pe_op op_mod (pe_ix (ix_listK K rfl) (pv 1) pe_int (fun _ _=>rfl)) pe_int) (fun _ _=>rfl)) pa_nil)))),h⟩)) pa_nil)))
 (pss_one (ps_ret (pe_cmpR (op_eqD hu) (pv 10) (pe_lst (pa_cons (pe_tup (pa_cons pe_str (pa_cons pe_int pa_nil))) (pa_cons (pe_tup (pa_cons pe_str (pa_cons pe_int pa_nil))) pa_nil))) (nomark _)))))))))))))))))))))),?_⟩
  refine fun M1 hM1=>?_
  refine⟨_,rfl,a,sc,100,rfl,hS,hlen,by decide,fun l1 nums H1 hnl hnums hl1 sm1 el1=>?_⟩
  have hP1:=sm1 _ _ hP
  refine hM1 [some (.ref a),some (.ref l1),none,none,none,none,none,none,none,none,none] _ ?_
  clear hM1 M1
  obtain⟨n0,m0,_,e0⟩:=at_mem (ns:=nums) (i:=0) (by omega) (by omega)
  obtain⟨n1,m1,_,e1⟩:=at_mem (ns:=nums) (i:=1) (by omega) (by omega)
  obtain⟨n9,m9,_,e9⟩:=at_mem (ns:=nums) (i:=9) (by omega) (by omega)
  refine fun M1 hM1=>?_
  refine⟨_,rfl,_,rfl,l1,_,rfl,SqL.of el1,fun p1 hp1=>?_⟩
  rw[show cutV (nums.map V.int) (some 10) none=(nums.drop 10).map V.int from cut_from nums 10 (by omega)]
  have g2:=Same.upd (o:=.lst ((nums.drop 10).map V.int)) hp1
  have ep1:(upd H1 p1 (.lst ((nums.drop 10).map V.int))) p1=some (.lst ((nums.drop 10).map V.int)):=upd_same
  generalize upd H1 p1 (.lst ((nums.drop 10).map V.int))=H2 at g2 ep1 ⊢
  refine⟨p1,nums.drop 10,7,rfl,ep1,by simp;omega,by decide,fun wa hwal cA hcta la va H3 hla g3 ela pra=>?_⟩
  have s13:=g2.trans g3
  refine hM1 [some (.ref a),some (.ref l1),some (.ref la),none,none,none,none,none,none,none,none] _ ?_
  clear hM1 M1
  have el3:=s13 _ _ el1
  have hP3:=s13 _ _ hP1
  refine fun M1 hM1=>?_
  refine⟨_,rfl,l1,_,_,_,rfl,rfl,SqL.of el3,e0,(show 3≤sizeLine by decide),fun p2 hp2=>?_⟩
  have g4:=Same.upd (o:=.lst [V.int 4,V.int 12,V.int 60]) hp2
  have ep2:(upd H3 p2 (.lst [V.int 4,V.int 12,V.int 60])) p2=some (.lst ([4,12,60].map V.int)):=upd_same
  generalize upd H3 p2 (.lst [V.int 4,V.int 12,V.int 60])=H4 at g4 ep2 ⊢
  obtain⟨wd,hwd,_,ew⟩:=at_mem (ns:=[4,12,60]) (i:=n1 % 3) (Int.emod_nonneg _ (by decide)) (Int.emod_lt_of_pos _ (by decide))
  have hwd2:0<wd∧wd≤60:=by simp at hwd;omega
  refine⟨_,rfl,l1,_,_,_,rfl,rfl,SqL.of (g4 _ _ el3),e1,_,_,rfl,rfl,(by show (0:Int)<3;decide),p2,_,_,_,rfl,rfl,SqL.of ep2,ew,_,_,rfl,rfl,hwd2.1,_,_,rfl,rfl,?_⟩
  have z1:=Int.emod_nonneg n0 (show wd≠0 by omega)
  have z2:=Int.emod_lt_of_pos n0 hwd2.1
  refine hM1 [some (.ref a),some (.ref l1),some (.ref la),some (.int (1+n0 % wd)),none,none,none,none,none,none,none] _ ?_
  clear hM1 M1
  have hn1:1≤1+n0 % wd∧1+n0 % wd≤60:=⟨by omega,by omega⟩
  generalize 1+n0 % wd=n at hn1 ⊢
  obtain⟨nn,hnn⟩:∃ nn:Nat,n=(nn:Int):=⟨n.toNat,by omega⟩
  have hok:¬ (n<1∨60<n):=by omega
  have ela4:=g4 _ _ ela
  have pra4:=pra.mono (TupS.same g4)
  refine fun M1 hM1=>?_
  refine⟨_,rfl,_,rfl,_,rfl,l1,_,rfl,SqL.of (g4 _ _ el3),fun p3 hp3=>?_⟩
  rw[show cutV (nums.map V.int) (some 2) none=(nums.drop 2).map V.int from cut_from nums 2 (by omega)]
  have g5:=Same.upd (o:=.lst ((nums.drop 2).map V.int)) hp3
  have ep3:(upd H4 p3 (.lst ((nums.drop 2).map V.int))) p3=some (.lst ((nums.drop 2).map V.int)):=upd_same
  generalize upd H4 p3 (.lst ((nums.drop 2).map V.int))=H5 at g5 ep3 ⊢
  refine⟨_,rfl,la,p3,wa,nums.drop 2,n,rfl,LP.mono g5 ⟨va,ela4,pra4⟩,by omega,cA,ep3,by simp;omega,hn1.1,fun wb hwbl cB lb vb H6 hlb g6 elb prb=>?_⟩
  have s36:=(g4.trans g5).trans g6
  have el6:=s36 _ _ el3
  have hP6:=s36 _ _ hP3
  have LPa6:LP H6 la wa:=LP.mono (g5.trans g6) ⟨va,ela4,pra4⟩
  have LPb6:LP H6 lb wb:=⟨vb,elb,prb⟩
  refine hM1 [some (.ref a),some (.ref l1),some (.ref la),some (.int n),some (.ref lb),none,none,none,none,none,none] _ ?_
  clear hM1 M1 s36 g4 g5 g6 ela4 pra4 elb prb ep1 ep2 ep3 s13 g2 g3 ela pra el3 hP3 hp1 hp2 hp3 hla hlb
  refine fun M1 hM1=>?_
  obtain⟨va6,ela6,pra6⟩:=id LPa6
  obtain⟨vb6,elb6,prb6⟩:=id LPb6
  refine⟨_,rfl,la,_,rfl,.inl (SqL.of ela6),fun h1 hh1=>?_⟩
  have g7:=Same.upd (o:=.lst va6) hh1
  have LP1:LP (upd H6 h1 (.lst va6)) h1 wa:=⟨va6,upd_same,pra6.mono (TupS.same g7)⟩
  generalize upd H6 h1 (.lst va6)=H7 at g7 LP1 ⊢
  refine⟨_,rfl,lb,_,rfl,.inl (SqL.of (g7 _ _ elb6)),fun h2 hh2=>?_⟩
  have g8:=Same.upd (o:=.lst vb6) hh2
  have LP2:LP (upd H7 h2 (.lst vb6)) h2 wb:=⟨vb6,upd_same,prb6.mono (TupS.same (g7.trans g8))⟩
  generalize upd H7 h2 (.lst vb6)=H8 at g8 LP2 ⊢
  refine⟨(show 2≤sizeLine by decide),fun lh hlh=>?_⟩
  have g9:=Same.upd (o:=.lst [V.ref h1,V.ref h2]) hlh
  have elh:(upd H8 lh (.lst [V.ref h1,V.ref h2])) lh=some (.lst [V.ref h1,V.ref h2]):=upd_same
  generalize upd H8 lh (.lst [V.ref h1,V.ref h2])=H9 at g9 elh ⊢
  have s69:=(g7.trans g8).trans g9
  have LP19:=LP1.mono (g8.trans g9)
  have LP29:=LP2.mono g9
  have LPa:=LPa6.mono s69
  have LPb:=LPb6.mono s69
  have el9:=s69 _ _ el6
  have hP9:=s69 _ _ hP6
  refine hM1 [some (.ref a),some (.ref l1),some (.ref la),some (.int n),some (.ref lb),some (.ref lh),none,none,none,none,none] _ ?_
  clear hM1 M1 s69 g7 g8 g9 LP1 LP2 LPa6 LPb6 ela6 pra6 elb6 prb6 hh1 hh2 hlh el6 hP6
  have hdP:duePart wa wb n=.ok:=by unfold duePart;rw[if_neg hok,if_pos ⟨cA,cB⟩]
  have hdA:dueTidy wa n=.ok:=by unfold dueTidy;rw[if_neg hok,if_pos cA]
  have hdB:dueTidy wb n=.ok:=by unfold dueTidy;rw[if_neg hok,if_pos cB]
  have htn:n.toNat=nn:=by omega
  have halk:tidyTo wa n n.toNat=tidyTo wb n n.toNat↔Alk wa wb nn:=by
   rw[htn,hnn]
   exact alike_iff cA cB nn (by omega)
  have two:∀ {H':Hp},Same H9 H'→Den H' (.ref lh) (.list [.list (wa.map pD),.list (wb.map pD)]):=fun g=>.lst (g _ _ elh) (.cons (LP19.mono g).den (.cons (LP29.mono g).den .nil))
  have two':∀ {H':Hp} {q:Addr},Same H9 H'→H' q=some (.lst [V.ref la,V.ref lb])→Den H' (.ref q) (.list [.list (wa.map pD),.list (wb.map pD)]):=fun g e=>.lst e (.cons (LPa.mono g).den (.cons (LPb.mono g).den .nil))
  have hsh2:=shaped_two' wa wb
  refine fun M1 hM1=>?_
  have key:∀ (v:V) (H':Hp),Same H9 H'→((v=.non∧Alk wa wb nn)∨∃ (L:Nat) (lf:Addr),v=.ref lf∧H9 lf=none∧H' lf=some (.lst ((upL (L+1)).map V.int))∧(L:Int)+1≤n∧gainM wa ((L:Int)+1)≠gainM wb ((L:Int)+1))→M1 [some (.ref a),some (.ref l1),some (.ref la),some (.int n),some (.ref lb),some (.ref lh),some v,none,none,none,none] H':=by
   intro v H10 g10 hv
   refine hM1 _ _ ?_
   clear hM1 M1
   refine fun M1 hM1=>?_
   obtain⟨va,ela,pra⟩:=LPa.mono g10
   refine⟨_,rfl,la,_,rfl,.inl (SqL.of ela),fun q1 hq1=>?_⟩
   have g11:=Same.upd (o:=.lst va) hq1
   have LPq:LP (upd H10 q1 (.lst va)) q1 wa:=⟨va,upd_same,pra.mono (TupS.same g11)⟩
   generalize upd H10 q1 (.lst va)=H11 at g11 LPq ⊢
   refine⟨_,rfl,q1,wa,n,rfl,LPq,by omega,fun _ t1 v1 H12 ht1 g12 et1 pt1=>?_,fun z=>absurd hdA z⟩
   have s12:=(g10.trans g11).trans g12
   obtain⟨vb,elb,prb⟩:=LPb.mono s12
   refine⟨_,rfl,lb,_,rfl,.inl (SqL.of elb),fun q2 hq2=>?_⟩
   have g13:=Same.upd (o:=.lst vb) hq2
   have LPq2:LP (upd H12 q2 (.lst vb)) q2 wb:=⟨vb,upd_same,prb.mono (TupS.same g13)⟩
   generalize upd H12 q2 (.lst vb)=H13 at g13 LPq2 ⊢
   refine⟨_,rfl,q2,wb,n,rfl,LPq2,by omega,fun _ t2 v2 H14 ht2 g14 et2 pt2=>?_,fun z=>absurd hdB z⟩
   refine⟨_,_,LP.den (LP.mono (g13.trans g14) ⟨v1,et1,pt1⟩),LP.den ⟨v2,et2,pt2⟩,shaped_pairs _,shaped_pairs _,?_⟩
   rw[eqv_pairs2]
   have g1014:=((g11.trans g12).trans g13).trans g14
   have s14:=g10.trans g1014
   refine hM1 [some (.ref a),some (.ref l1),some (.ref la),some (.int n),some (.ref lb),some (.ref lh),some v,some (.bl (decide (tidyTo wa n n.toNat=tidyTo wb n n.toNat))),none,none,none] _ ?_
   clear hM1 M1 LPq LPq2 ela pra elb prb et1 pt1 et2 pt2 hq1 hq2 ht1 ht2 s12 g11 g12 g13 g14
   refine⟨_,rfl,_,rfl,_,rfl,(show 2≤sizeLine by decide),fun q hq=>?_⟩
   have g15:=Same.upd (o:=.lst [V.ref la,V.ref lb]) hq
   have eq:(upd H14 q (.lst [V.ref la,V.ref lb])) q=some (.lst [V.ref la,V.ref lb]):=upd_same
   generalize upd H14 q (.lst [V.ref la,V.ref lb])=H15 at g15 eq ⊢
   have s15:=s14.trans g15
   refine⟨_,_,two s15,two' s15 eq,hsh2,hsh2,_,rfl,?_⟩
   rw[eqv_self hsh2]
   have g1015:=g1014.trans g15
   clear eq hq g15 s14 g1014
   have hl15:=s15 _ _ el9
   rcases hv with ⟨rfl,hal⟩ | ⟨L,lf,rfl,hlf,elf,hL,hne⟩
   ·-- alike
    refine⟨_,rfl,rfl,_,rfl,rfl,_,rfl,iteNS (by rw[decide_eq_true (halk.mpr hal)];rfl) ?_⟩
    refine⟨_,rfl,rfl,_,rfl,iteDT rfl ?_⟩
    refine⟨_,rfl,_,rfl,l1,_,rfl,SqL.of hl15,fun p4 hp4=>?_⟩
    rw[show cutV (nums.map V.int) (some 30) none=(nums.drop 30).map V.int from cut_from nums 30 (by omega)]
    have g16:=Same.upd (o:=.lst ((nums.drop 30).map V.int)) hp4
    have ep4:(upd H15 p4 (.lst ((nums.drop 30).map V.int))) p4=some (.lst ((nums.drop 30).map V.int)):=upd_same
    generalize upd H15 p4 (.lst ((nums.drop 30).map V.int))=H16 at g16 ep4 ⊢
    obtain⟨mm,hmm,hm1,hm2⟩:∃ mm:Nat,(if (30:Int)<n then 30 else n)=(mm:Int)∧mm≤30∧mm≤nn:=by
     by_cases z:(30:Int)<n
     ·exact⟨30,by rw[if_pos z];rfl,by decide,by omega⟩
     ·exact⟨nn,by rw[if_neg z,hnn],by omega,Nat.le_refl _⟩
    refine⟨_,rfl,_,_,rfl,p4,nums.drop 30,mm,(by show [V.ref p4,V.int (if (30:Int)<n then 30 else n)]=_;rw[hmm]),ep4,fun m hm=>hnums m (List.mem_of_mem_drop hm),by simp;omega,by omega,fun row hrow hrl lr H17 hlr g17 elr=>?_⟩
    have s17:=(s15.trans g16).trans g17
    have hrl60:row.length≤60:=by omega
    refine⟨_,rfl,lr,_,rfl,.inl (SqL.of elr),fun q1 hq1=>?_⟩
    have g18:=Same.upd (o:=.lst (row.map V.int)) hq1
    have f18:(upd H17 q1 (.lst (row.map V.int))) q1=some (.lst (row.map V.int)):=upd_same
    generalize upd H17 q1 (.lst (row.map V.int))=H18 at g18 f18 ⊢
    refine⟨_,rfl,q1,la,row,wa,rfl,f18,hrow,hrl60,LPa.mono (s17.trans g18),by omega,cA,fun r1 ps1 hp1 hr1 lf1 H19 hlf1 g19 elf1=>?_⟩
    refine⟨_,rfl,lr,_,rfl,.inl (SqL.of ((g18.trans g19) _ _ elr)),fun q2 hq2=>?_⟩
    have g20:=Same.upd (o:=.lst (row.map V.int)) hq2
    have f20:(upd H19 q2 (.lst (row.map V.int))) q2=some (.lst (row.map V.int)):=upd_same
    generalize upd H19 q2 (.lst (row.map V.int))=H20 at g20 f20 ⊢
    refine⟨_,rfl,q2,lb,row,wb,rfl,f20,hrow,hrl60,LPb.mono (((s17.trans g18).trans g19).trans g20),by omega,cB,fun r2 ps2 hp2 hr2 lf2 H21 hlf2 g21 elf2=>?_⟩
    obtain rfl:r1=r2:=hr1.row hr2 (adds_alk hp1 hp2 (by omega) hal)
    refine⟨_,_,Den.ints ((g20.trans g21) _ _ elf1),Den.ints elf2,shaped_ints _,shaped_ints _,?_⟩
    rw[eqv_self (shaped_ints r1)]
    exact kk _
   ·-- parted
    have hno:¬ Alk wa wb nn:=fun z=>hne (z _ (by omega) (by omega))
    refine⟨_,rfl,rfl,_,rfl,rfl,_,rfl,iteNS (by rw[decide_eq_false fun z=>hno (halk.mp z)];rfl) ?_⟩
    refine⟨_,rfl,rfl,_,rfl,iteDF (by intro h;cases h) ?_⟩
    have elf15:=g1015 _ _ elf
    have hlm:((upL (L+1)).map V.int).length=L+1:=by rw[List.length_map,upL_len]
    have hul:=upL_len (L+1)
    refine⟨_,rfl,_,"list",.list ((upL (L+1)).map PyData.int),true,rfl,Den.ints elf15,rfl,true,rfl,?_⟩
    refine⟨_,rfl,lf,rfl,⟨_,SqL.of elf15⟩,comp_list (K:=K) (a:=lf) (xs:=(upL (L+1)).map V.int) (fun i ys H16=>H16=H15∧ys=(((upL (L+1)).take i).map fun z=>z+0).map V.int) ⟨rfl,rfl⟩ ?_ ?_ ?_⟩
    ·rintro i ys H16 hi ⟨rfl,rfl⟩
     exact⟨SqL.of elf15,by rw[List.length_map,List.length_map,List.length_take];exact line_of (by omega)⟩
    ·rintro i x ys H16 hi ⟨rfl,rfl⟩
     obtain⟨z,rfl,hz⟩:=int_at hi
     exact⟨_,rfl,_,_,rfl,rfl,rfl,snoc_map (fun z=>z+0) hz⟩
    rintro ys H16 ⟨rfl,rfl⟩ D hD
    have em:(upL (L+1)).map (fun z=>z+0)=upL (L+1):=by
     conv=>rhs;rw[← List.map_id (upL (L+1))]
     exact List.map_congr_left fun z _=>by simp
    rw[hlm,show (upL (L+1)).take (L+1)=upL (L+1) from List.take_of_length_le (by omega),em]
    have g16:=Same.upd (o:=.lst ((upL (L+1)).map V.int)) hD
    have eD:(upd H16 D (.lst ((upL (L+1)).map V.int))) D=some (.lst ((upL (L+1)).map V.int)):=upd_same
    generalize upd H16 D (.lst ((upL (L+1)).map V.int))=H17 at g16 eD ⊢
    refine⟨_,rfl,_,_,_,rfl,Den.ints eD,Den.ints (g16 _ _ elf15),depth_intl _,shaped_ints _,sml_ints (by omega),fun H18 g18=>⟨true,rfl,?_⟩⟩
    have g1518:=g16.trans g18
    have elf18:=g1518 _ _ elf15
    refine⟨_,rfl,lf,_,rfl,.inl (SqL.of elf18),_,_,rfl,rfl,_,rfl,iteDT (by rw[hlm];omega) ⟨_,rfl,_,_,rfl,rfl,_,rfl,iteNS (by rw[hlm];omega) ?_⟩⟩
    refine⟨_,rfl,lf,_,rfl,elf18,by omega,fun lq uq H19 hlq g19 elq prq=>?_⟩
    refine⟨lq,_,rfl,.inl (SqL.of elq),_,_,rfl,rfl,_,rfl,iteNS (by rw[prq.len,runs_up];rfl) ?_⟩
    have elf19:=g19 _ _ elf18
    refine fun M1 hM1=>?_
    refine⟨_,rfl,lf,_,rfl,.inl (SqL.of elf19),fun lk hlk=>?_⟩
    have g20:=Same.upd (o:=.lst ((upL (L+1)).map V.int)) hlk
    have elk:(upd H19 lk (.lst ((upL (L+1)).map V.int))) lk=some (.lst ((upL (L+1)).map V.int)):=upd_same
    generalize upd H19 lk (.lst ((upL (L+1)).map V.int))=H20 at g20 elk ⊢
    refine hM1 [some (.ref a),some (.ref l1),some (.ref la),some (.int n),some (.ref lb),some (.ref lh),some (.ref lf),some (.bl (decide (tidyTo wa n n.toNat=tidyTo wb n n.toNat))),none,some (.ref lk),none] _ ?_
    clear hM1 M1
    have elf20:=g20 _ _ elf19
    have s20:=(((s15.trans g1518).trans g19).trans g20)
    have hat:atI ((upL (L+1)).map V.int) (-1)=some (V.int ((L:Int)+1)):=by
     rw[upL_succ,List.map_append]
     have:=at_last (ns:=upL L++[(L:Int)+1]) (by simp)
     rw[List.map_append]at this
     simpa using this
    refine⟨_,rfl,.inl ⟨rfl,_,SqL.of elf20⟩,_,rfl,_,rfl,lf,_,_,_,rfl,rfl,SqL.of elf20,hat,_,_,rfl,rfl,lf,_,_,rfl,rfl,elf20,by rw[hlm];exact line_of (by omega),?_⟩
    have s21:Same H9 (upd H20 lf (.lst ((upL (L+1)).map V.int++[V.int ((L:Int)+1+7)]))):=Same.upd' hlf s20
    have nkf:lk≠lf:=fun e=>by rw[e,elf19]at hlk;cases hlk
    have elk21:(upd H20 lf (.lst ((upL (L+1)).map V.int++[V.int ((L:Int)+1+7)]))) lk=some (.lst ((upL (L+1)).map V.int)):=by rw[upd_ne nkf];exact elk
    generalize upd H20 lf (.lst ((upL (L+1)).map V.int++[V.int ((L:Int)+1+7)]))=H21 at s21 elk21 ⊢
    clear elf elf15 elf18 elf19 elf20 g1015 g1518 g16 g18 g19 g20 elk elq prq eD s20 hlm em hat hlk hlq hD hlf s15 hl15 g10
    refine fun M1 hM1=>?_
    refine⟨_,rfl,lh,_,_,_,rfl,rfl,SqL.of (s21 _ _ elh),rfl,_,rfl,lh,_,_,_,rfl,rfl,SqL.of (s21 _ _ elh),rfl,_,rfl,h1,h2,wa,wb,n,rfl,LP19.mono s21,by omega,LP29.mono s21,by omega,fun _=>⟨fun hal=>absurd (by rw[htn]at hal;exact hal) hno,fun L2 hL2 hne2 lf H22 hlf g22 elf=>?_⟩,fun z=>absurd hdP z⟩
    refine hM1 [some (.ref a),some (.ref l1),some (.ref la),some (.int n),some (.ref lb),some (.ref lh),some (.ref lf),some (.bl (decide (tidyTo wa n n.toNat=tidyTo wb n n.toNat))),none,some (.ref lk),none] _ ?_
    clear hM1 M1
    have s22:=s21.trans g22
    have elk22:=g22 _ _ elk21
    have hlm:((upL (L2+1)).map V.int).length=L2+1:=by rw[List.length_map,upL_len]
    have hul2:=upL_len (L2+1)
    refine⟨_,rfl,lf,_,rfl,elf,by omega,fun lq uq H23 hlq g23 elq prq=>?_⟩
    refine⟨lq,_,rfl,.inl (SqL.of elq),_,_,rfl,rfl,_,rfl,iteNS (by rw[prq.len,runs_up];rfl) ?_⟩
    have elf23:=g23 _ _ elf
    have s23:=s22.trans g23
    refine⟨_,rfl,lf,_,rfl,.inl (SqL.of elf23),_,_,rfl,rfl,_,rfl,iteDT (by rw[hlm];omega) ⟨_,rfl,_,_,rfl,rfl,_,rfl,iteNS (by rw[hlm];omega) ?_⟩⟩
    refine⟨_,rfl,by decide,fun z0 hz0=>?_⟩
    have g24:=Same.upd (o:=.lst []) hz0
    have ez0:(upd H23 z0 (.lst [])) z0=some (.lst (([]:List Int).map V.int)):=upd_same
    generalize upd H23 z0 (.lst [])=H24 at g24 ez0 ⊢
    refine⟨_,_,Den.ints ((g23.trans g24) _ _ elk22),Den.ints ez0,shaped_ints _,shaped_ints [],_,rfl,?_⟩
    rw[eqv_ints2,decide_eq_false (show ¬ upL (L+1)=[] from fun z=>by rw[z]at hul;simp at hul)]
    have s24:=s23.trans g24
    refine⟨_,rfl,_,rfl,_,rfl,(show 2≤sizeLine by decide),fun q hq=>?_⟩
    have g25:=Same.upd (o:=.lst [V.ref la,V.ref lb]) hq
    have eq:(upd H24 q (.lst [V.ref la,V.ref lb])) q=some (.lst [V.ref la,V.ref lb]):=upd_same
    generalize upd H24 q (.lst [V.ref la,V.ref lb])=H25 at g25 eq ⊢
    have s25:=s24.trans g25
    refine⟨_,_,two s25,two' s25 eq,hsh2,hsh2,_,rfl,?_⟩
    rw[eqv_self hsh2]
    have elf25:=(g24.trans g25) _ _ elf23
    have hup:=(upL_row (L2+1)).1
    refine⟨_,rfl,lf,upL (L2+1),rfl,elf25,hup,by omega,fun qs1 hq1 hq1s k1 u1 H26 hk1 g26 ek1 pk1=>?_⟩
    have hT1:=hq1.trn (show (upL (L2+1)).length≤60 by omega)
    refine⟨_,rfl,k1,la,qs1,wa,rfl,⟨u1,ek1,pk1⟩,hT1,LPa.mono (s25.trans g26),by omega,cA,fun rs1 hr1 hr1s k2 u2 H27 hk2 g27 ek2 pk2=>?_⟩
    refine⟨k2,rs1,rfl,⟨u2,ek2,pk2⟩,trn_perm (trn_adds hT1) hr1,fun r1 hl1 k3 H28 hk3 g28 ek3=>?_⟩
    have s28:=((s25.trans g26).trans g27).trans g28
    have elf28:=((g26.trans g27).trans g28) _ _ elf25
    refine⟨_,rfl,lf,upL (L2+1),rfl,elf28,hup,by omega,fun qs2 hq2 hq2s k4 u4 H29 hk4 g29 ek4 pk4=>?_⟩
    have hT2:=hq2.trn (show (upL (L2+1)).length≤60 by omega)
    refine⟨_,rfl,k4,lb,qs2,wb,rfl,⟨u4,ek4,pk4⟩,hT2,LPb.mono (s28.trans g29),by omega,cB,fun rs2 hr2 hr2s k5 u5 H30 hk5 g30 ek5 pk5=>?_⟩
    refine⟨k5,rs2,rfl,⟨u5,ek5,pk5⟩,trn_perm (trn_adds hT2) hr2,fun r2 hl2 k6 H31 hk6 g31 ek6=>?_⟩
    have s2831:=(g29.trans g30).trans g31
    refine⟨_,_,Den.ints (s2831 _ _ ek3),Den.ints ek6,shaped_ints _,shaped_ints _,_,rfl,?_⟩
    rw[eqv_ints2,decide_eq_false (show ¬ r1=r2 from fun z=>by rw[← z]at hl2;exact hne2 (moved_eq hq1 hq2 hr1 hr2 hl1 hl2))]
    have s31:=s28.trans s2831
    have hP31:=s31 _ _ hP9
    have el31:=s31 _ _ el9
    have LPa31:=LPa.mono s31
    have LPb31:=LPb.mono s31
    obtain⟨vb,elb,prb⟩:=id LPb31
    have nlb:lb≠PT:=tbl_ne hP31 elb fun _ z=>by cases z
    have nl1:l1≠PT:=tbl_ne hP31 el31 fun _ z=>by cases z
    have lvb:vb.length≤30:=by rw[prb.len];exact hwbl
    clear s31 s2831 s28 s25 s24 s23 s22 s21 g22 g23 g24 g25 g26 g27 g28 g29 g30 g31 ek1 ek2 ek3 ek4 ek5 ek6 pk1 pk2 pk4 pk5 elf elf23 elf25 elf28 elq prq elk21 elk22 ez0 eq hk1 hk2 hk3 hk4 hk5 hk6 hq hz0 hlq
    have bad1:duePart wa (wb++[(0,1)]) n=.creel:=by
     unfold duePart
     rw[if_neg hok,if_neg fun z=>by have:=z.2 (0,1) (by simp);simp only at this;omega]
    refine⟨_,hP31,True.intro,rfl,why_got "BadCreel" 0 ?_ (fun H' t0 Q' g et0 kk=>⟨_,rfl,_,rfl,(show 2≤sizeLine by decide),fun tb htb=>⟨(show 1≤sizeLine by decide),fun lo hlo=>?_⟩⟩) fun tv H32 c1 ps1 g32 hP32 hps1 etv=>?_⟩
    ·rintro H Q Q' E E' hQ hE ⟨v,hv,v2,hv2,b1,h⟩
     refine⟨v,hv,v2,hv2,b1,fun t ht=>?_⟩
     obtain⟨b2,h⟩:=h t ht
     refine⟨b2,fun l hl=>?_⟩
     obtain⟨c1,c2,c3,c4,c5,c6,c7,c8,c9,h⟩:=h l hl
     refine⟨c1,c2,c3,c4,c5,c6,c7,c8,c9,fun p hp=>?_⟩
     obtain⟨v3,hv3,h⟩:=h p hp
     exact⟨v3,hv3,monoParting _ _ _ _ _ _ hQ hE h⟩
    ·have y1:=Same.upd (o:=.tup [.int 0,.int 1]) htb
     have etb:(upd H' tb (.tup [.int 0,.int 1])) tb=some (.tup [.int 0,.int 1]):=upd_same
     generalize upd H' tb (.tup [.int 0,.int 1])=J1 at y1 etb hlo ⊢
     have y2:=Same.upd (o:=.lst [V.ref tb]) hlo
     have elo:(upd J1 lo (.lst [V.ref tb])) lo=some (.lst [V.ref tb]):=upd_same
     generalize upd J1 lo (.lst [V.ref tb])=J2 at y2 elo ⊢
     have y12:=y1.trans y2
     have elb':J2 lb=some (.lst vb):=y12 _ _ (g _ _ nlb elb)
     refine⟨lb,lo,_,_,rfl,rfl,elb',elo,line_le (by simp only[List.length_singleton];omega),fun px hpx=>?_⟩
     have y3:=Same.upd (o:=.lst (vb++[V.ref tb])) hpx
     have epx:(upd J2 px (.lst (vb++[V.ref tb]))) px=some (.lst (vb++[V.ref tb])):=upd_same
     generalize upd J2 px (.lst (vb++[V.ref tb]))=J3 at y3 epx ⊢
     have y13:=y12.trans y3
     obtain⟨vb',elb2,prb'⟩:=(LPb31.monoP g hP31).mono y13
     have hvb:vb'=vb:=by
      have e1:=y3 _ _ elb'
      rw[e1]at elb2
      cases elb2
      rfl
     rw[hvb]at prb'
     have LPx:LP J3 px (wb++[(0,1)]):=⟨_,epx,Paired.append' prb' (.cons ⟨tb,rfl,(y2.trans y3) _ _ etb⟩ .nil)⟩
     refine⟨_,rfl,parting_why ((LPa31.monoP g hP31).mono y13) (by omega) LPx (by simp;omega) (y13 _ _ et0) fun tv H3 g3 e=>kk tv H3 (y13.trans g3) ?_⟩
     rw[bad1]at e
     exact e
    refine⟨(show 1≤sizeLine by decide),fun lw hlw=>?_⟩
    have g33:=Same.upd (o:=.lst [V.ref tv]) hlw
    have elw:(upd H32 lw (.lst [V.ref tv])) lw=some (.lst [V.ref tv]):=upd_same
    generalize upd H32 lw (.lst [V.ref tv])=H33 at g33 elw ⊢
    have hP33:=g33 _ _ hP32
    have q33:=g32.trans g33.toP
    have nlw:lw≠PT:=tbl_ne hP33 elw fun _ z=>by cases z
    have ntv:tv≠PT:=tbl_ne hP32 etv fun _ z=>by cases z
    have etv33:=g33 _ _ etv
    have tr1:=triples_snoc (ps:=#[]) (ps':=ps1) True.intro hps1
    obtain⟨m61,hm61,_,em61⟩:=at_mem (ns:=[0,61]) (i:=n9 % 2) (Int.emod_nonneg _ (by decide)) (Int.emod_lt_of_pos _ (by decide))
    have bad2:duePart [(-1,1)] wb m61=.number:=by
     unfold duePart
     rw[if_pos (by simp at hm61;omega)]
    have el33:=q33 _ _ nl1 el31
    have LPb33:=LPb31.monoP q33 hP31
    refine⟨_,rfl,.inl ⟨rfl,_,SqL.of elw⟩,_,hP33,tr1,(by rw[hps1];rfl),why_got "BadNumber" 0 ?_ (fun H' t0 Q' g et0 kk=>⟨_,rfl,(show 2≤sizeLine by decide),fun tb htb=>⟨(show 1≤sizeLine by decide),fun lo hlo=>?_⟩⟩) fun t2 H34 c2 ps2 g34 hP34 hps2 et2=>?_⟩
    ·rintro H Q Q' E E' hQ hE ⟨v,hv,b1,h⟩
     refine⟨v,hv,b1,fun t ht=>?_⟩
     obtain⟨b2,h⟩:=h t ht
     refine⟨b2,fun l hl=>?_⟩
     obtain⟨v2,hv2,b3,h⟩:=h l hl
     refine⟨v2,hv2,b3,fun p hp=>?_⟩
     obtain⟨c1,c2,c3,c4,c5,c6,c7,c8,c9,c10,d1,d2,d3,d4,d5,e1,e2,e3,e4,e5,e6,e7,e8,h⟩:=h p hp
     exact⟨c1,c2,c3,c4,c5,c6,c7,c8,c9,c10,d1,d2,d3,d4,d5,e1,e2,e3,e4,e5,e6,e7,e8,monoParting _ _ _ _ _ _ hQ hE h⟩
    ·have y1:=Same.upd (o:=.tup [.int (-1),.int 1]) htb
     have etb:(upd H' tb (.tup [.int (-1),.int 1])) tb=some (.tup [.int (-1),.int 1]):=upd_same
     generalize upd H' tb (.tup [.int (-1),.int 1])=J1 at y1 etb hlo ⊢
     have y2:=Same.upd (o:=.lst [V.ref tb]) hlo
     have elo:(upd J1 lo (.lst [V.ref tb])) lo=some (.lst [V.ref tb]):=upd_same
     generalize upd J1 lo (.lst [V.ref tb])=J2 at y2 elo ⊢
     refine⟨_,rfl,(show 2≤sizeLine by decide),fun px hpx=>?_⟩
     have y3:=Same.upd (o:=.lst [V.int 0,V.int 61]) hpx
     have epx:(upd J2 px (.lst [V.int 0,V.int 61])) px=some (.lst ([0,61].map V.int)):=upd_same
     generalize upd J2 px (.lst [V.int 0,V.int 61])=J3 at y3 epx ⊢
     have y13:=(y1.trans y2).trans y3
     have LPo:LP J3 lo [(-1,1)]:=⟨_,y3 _ _ elo,.cons ⟨tb,rfl,(y2.trans y3) _ _ etb⟩ .nil⟩
     refine⟨_,rfl,l1,_,_,_,rfl,rfl,SqL.of (y13 _ _ (g _ _ nl1 el33)),e9,_,_,rfl,rfl,(by show (0:Int)<2;decide),px,_,_,_,rfl,rfl,SqL.of epx,em61,parting_why LPo (by decide) ((LPb33.monoP g hP33).mono y13) (by omega) (y13 _ _ et0) fun tv H3 g3 e=>kk tv H3 (y13.trans g3) ?_⟩
     rw[bad2]at e
     exact e
    have elw34:=g34 _ _ nlw elw
    have etv34:=g34 _ _ ntv etv33
    refine⟨lw,_,_,rfl,rfl,elw34,(show 1<sizeLine by decide),?_⟩
    have elw35:(upd H34 lw (.lst ([V.ref tv]++[V.ref t2]))) lw=some (.lst [V.ref tv,V.ref t2]):=upd_same
    have etv35:(upd H34 lw (.lst ([V.ref tv]++[V.ref t2]))) tv=some (.tup [.str "BadCreel",.int 0]):=upd_keep elw34 etv34 fun z=>by cases z
    have et235:(upd H34 lw (.lst ([V.ref tv]++[V.ref t2]))) t2=some (.tup [.str "BadNumber",.int 0]):=upd_keep elw34 et2 fun z=>by cases z
    generalize upd H34 lw (.lst ([V.ref tv]++[V.ref t2]))=H35 at elw35 etv35 et235 ⊢
    refine⟨_,rfl,(show 2≤sizeLine by decide),fun tc htc=>?_⟩
    have g36:=Same.upd (o:=.tup [.str "BadCreel",.int 0]) htc
    have etc:(upd H35 tc (.tup [.str "BadCreel",.int 0])) tc=some (.tup [.str "BadCreel",.int 0]):=upd_same
    generalize upd H35 tc (.tup [.str "BadCreel",.int 0])=H36 at g36 etc ⊢
    refine⟨(show 2≤sizeLine by decide),fun td htd=>?_⟩
    have g37:=Same.upd (o:=.tup [.str "BadNumber",.int 0]) htd
    have etd:(upd H36 td (.tup [.str "BadNumber",.int 0])) td=some (.tup [.str "BadNumber",.int 0]):=upd_same
    generalize upd H36 td (.tup [.str "BadNumber",.int 0])=H37 at g37 etd ⊢
    refine⟨(show 2≤sizeLine by decide),fun le hle=>?_⟩
    have g38:=Same.upd (o:=.lst [V.ref tc,V.ref td]) hle
    have ele:(upd H37 le (.lst [V.ref tc,V.ref td])) le=some (.lst [V.ref tc,V.ref td]):=upd_same
    generalize upd H37 le (.lst [V.ref tc,V.ref td])=H38 at g38 ele ⊢
    have g3538:=(g36.trans g37).trans g38
    have hshw:SeqAt.shaped (.list [.tuple [.str "BadCreel",.int 0],.tuple [.str "BadNumber",.int 0]])=true:=by decide +kernel
    refine⟨_,_,.lst (g3538 _ _ elw35) (.cons (.tup (g3538 _ _ etv35) (.cons (.str _) (.cons (.int _) .nil))) (.cons (.tup (g3538 _ _ et235) (.cons (.str _) (.cons (.int _) .nil))) .nil)),.lst ele (.cons (.tup ((g37.trans g38) _ _ etc) (.cons (.str _) (.cons (.int _) .nil))) (.cons (.tup (g38 _ _ etd) (.cons (.str _) (.cons (.int _) .nil))) .nil)),hshw,hshw,?_⟩
    rw[eqv_self hshw]
    exact kk _
  refine⟨_,rfl,lh,_,_,_,rfl,rfl,SqL.of elh,rfl,_,rfl,lh,_,_,_,rfl,rfl,SqL.of elh,rfl,_,rfl,h1,h2,wa,wb,n,rfl,LP19,by omega,LP29,by omega,fun _=>⟨fun hal H' g=>key .non H' g (.inl ⟨rfl,by rw[htn]at hal;exact hal⟩),fun L hL hne lf H' hlf g elf=>key (.ref lf) H' g (.inr ⟨L,lf,rfl,hlf,elf,hL,hne⟩)⟩,fun z=>absurd hdP z⟩
end
end CW
namespace L2
open PySem PySem.Spec PyProof.Rows
section
variable {K:PySem.W.Frag} {x qual:Str} {st:Stmt} {f:Addr} {fd:FuncData} {p1 p2 p3 p4:Str}
theorem Fun.binds1 (F:Fun K x qual st f fd) (h:∀ (kV doc pm:Value) (an:Option Addr) (cdv ct u:Value),bindArgs (PySem.W.fnOf x qual (defArgs st) (defBody st) (defScope st) .none kV doc pm an cdv ct) ⟨[u],[]⟩=pure [(p1,u)]):Binds K fd [p1] [] :=
 F.binds fun a b c d e g us hl=>match us,hl with | [u],_=>h a b c d e g u
theorem Fun.binds2 (F:Fun K x qual st f fd) (h:∀ (kV doc pm:Value) (an:Option Addr) (cdv ct u v:Value),bindArgs (PySem.W.fnOf x qual (defArgs st) (defBody st) (defScope st) .none kV doc pm an cdv ct) ⟨[u,v],[]⟩=pure [(p1,u),(p2,v)]):Binds K fd [p1,p2] [] :=
 F.binds fun a b c d e g us hl=>match us,hl with | [u,v],_=>h a b c d e g u v
theorem Fun.binds3 (F:Fun K x qual st f fd) (h:∀ (kV doc pm:Value) (an:Option Addr) (cdv ct u v w:Value),bindArgs (PySem.W.fnOf x qual (defArgs st) (defBody st) (defScope st) .none kV doc pm an cdv ct) ⟨[u,v,w],[]⟩=pure [(p1,u),(p2,v),(p3,w)]):Binds K fd [p1,p2,p3] [] :=
 F.binds fun a b c d e g us hl=>match us,hl with | [u,v,w],_=>h a b c d e g u v w
end
end L2
namespace CW
open PySem L2
theorem all_mk {l:PySem.W.OpenLaw} {w:World} {K:PySem.W.Frag} {h:Heap} {mg:Str→Option Value} {fa:Addr} {ts:List Addr} {PT:Addr} (hts:PT∈ts) (X:K.In h) (G:h.Ns mainGlobals mg) (hfa:mg "law"=some (.ref fa))
 {C_BadRow:Addr}
 {C_BadTrains:Addr}
 {C_BadSizes:Addr}
 {C_TooMany:Addr}
 {C_BadCreel:Addr}
 {C_BadNumber:Addr}
 {C_TooNear:Addr}
 {C_Bare:Addr}
 {C_CreelError:Addr}
 {I_CreelError:Addr} {od_CreelError an_CreelError:Option Addr} {sl_CreelError:Array (Option Value)} {oc_CreelError kV_CreelError dc_CreelError pm_CreelError cd_CreelError ct_CreelError:Value}
 {T_CreelError:Addr} {uc_CreelError:Value} {ud_CreelError:Option Addr} {un_CreelError:Nat} {us_CreelError:Array (Option Value)} {ta_CreelError:Tok} {tb_CreelError:Tok}
 {I_BadCreel:Addr} {od_BadCreel an_BadCreel:Option Addr} {sl_BadCreel:Array (Option Value)} {oc_BadCreel kV_BadCreel dc_BadCreel pm_BadCreel cd_BadCreel ct_BadCreel:Value}
 {T_BadCreel:Addr} {uc_BadCreel:Value} {ud_BadCreel:Option Addr} {un_BadCreel:Nat} {us_BadCreel:Array (Option Value)} {ta_BadCreel:Tok}
 {I_BadNumber:Addr} {od_BadNumber an_BadNumber:Option Addr} {sl_BadNumber:Array (Option Value)} {oc_BadNumber kV_BadNumber dc_BadNumber pm_BadNumber cd_BadNumber ct_BadNumber:Value}
 {T_BadNumber:Addr} {uc_BadNumber:Value} {ud_BadNumber:Option Addr} {un_BadNumber:Nat} {us_BadNumber:Array (Option Value)} {ta_BadNumber:Tok}
 {f0:Addr} {od0 an0:Option Addr} {sl0:Array (Option Value)} {oc0 kV0 dc0 pm0 ct0:Value} {cd0:Value}
 {f1:Addr} {od1 an1:Option Addr} {sl1:Array (Option Value)} {oc1 kV1 dc1 pm1 ct1:Value} {cd1:Value}
 {f2:Addr} {od2 an2:Option Addr} {sl2:Array (Option Value)} {oc2 kV2 dc2 pm2 ct2:Value} {cd2:Value}
 {f3:Addr} {od3 an3:Option Addr} {sl3:Array (Option Value)} {oc3 kV3 dc3 pm3 ct3:Value} {cd3:Value}
 {f4:Addr} {od4 an4:Option Addr} {sl4:Array (Option Value)} {oc4 kV4 dc4 pm4 ct4:Value} {cd4:Value}
 {f5:Addr} {od5 an5:Option Addr} {sl5:Array (Option Value)} {oc5 kV5 dc5 pm5 ct5:Value} {cd5:Value}
 {f6:Addr} {od6 an6:Option Addr} {sl6:Array (Option Value)} {oc6 kV6 dc6 pm6 ct6:Value} {cd6:Value}
 {f7:Addr} {od7 an7:Option Addr} {sl7:Array (Option Value)} {oc7 kV7 dc7 pm7 ct7:Value} {cd7:Value}
 {f8:Addr} {od8 an8:Option Addr} {sl8:Array (Option Value)} {oc8 kV8 dc8 pm8 ct8:Value} {cd8:Value}
 {f9:Addr} {od9 an9:Option Addr} {sl9:Array (Option Value)} {oc9 kV9 dc9 pm9 ct9:Value} {cd9:Value}
 {f10:Addr} {od10 an10:Option Addr} {sl10:Array (Option Value)} {oc10 kV10 dc10 pm10 ct10:Value} {cd10:Value}
 {f11:Addr} {od11 an11:Option Addr} {sl11:Array (Option Value)} {oc11 kV11 dc11 pm11 ct11:Value} {cd11:Value}
 {f12:Addr} {od12 an12:Option Addr} {sl12:Array (Option Value)} {oc12 kV12 dc12 pm12 ct12:Value} {cd12:Value}
 {f13:Addr} {od13 an13:Option Addr} {sl13:Array (Option Value)} {oc13 kV13 dc13 pm13 ct13:Value} {cd13:Value}
 {f14:Addr} {od14 an14:Option Addr} {sl14:Array (Option Value)} {oc14 kV14 dc14 pm14 ct14:Value} {cd14:Value}
 {f15:Addr} {od15 an15:Option Addr} {sl15:Array (Option Value)} {oc15 kV15 dc15 pm15 ct15:Value} {cd15:Value}
 {f16:Addr} {od16 an16:Option Addr} {sl16:Array (Option Value)} {oc16 kV16 dc16 pm16 ct16:Value} {cd16:Value}
 {f17:Addr} {od17 an17:Option Addr} {sl17:Array (Option Value)} {oc17 kV17 dc17 pm17 ct17:Value} {cd17:Value}
 {f18:Addr} {od18 an18:Option Addr} {sl18:Array (Option Value)} {oc18 kV18 dc18 pm18 ct18:Value} {cd18:Value}
 {f19:Addr} {od19 an19:Option Addr} {sl19:Array (Option Value)} {oc19 kV19 dc19 pm19 ct19:Value} {cd19:Value}
 {f20:Addr} {od20 an20:Option Addr} {sl20:Array (Option Value)} {oc20 kV20 dc20 pm20 ct20:Value} {cd20:Value}
 {f21:Addr} {od21 an21:Option Addr} {sl21:Array (Option Value)} {oc21 kV21 dc21 pm21 ct21:Value} {cd21:Value}
 {f22:Addr} {od22 an22:Option Addr} {sl22:Array (Option Value)} {oc22 kV22 dc22 pm22 ct22:Value} {cd22:Value}
 {f23:Addr} {od23 an23:Option Addr} {sl23:Array (Option Value)} {oc23 kV23 dc23 pm23 ct23:Value} {cd23:Value}
 {f24:Addr} {od24 an24:Option Addr} {sl24:Array (Option Value)} {oc24 kV24 dc24 pm24 ct24:Value} {cd24:Value}
 {f25:Addr} {od25 an25:Option Addr} {sl25:Array (Option Value)} {oc25 kV25 dc25 pm25 ct25:Value} {cd25:Value}
 {f26:Addr} {od26 an26:Option Addr} {sl26:Array (Option Value)} {oc26 kV26 dc26 pm26 ct26:Value} {cd26:Value}
 {f27:Addr} {od27 an27:Option Addr} {sl27:Array (Option Value)} {oc27 kV27 dc27 pm27 ct27:Value} {cd27:Value}
 {f28:Addr} {od28 an28:Option Addr} {sl28:Array (Option Value)} {oc28 kV28 dc28 pm28 ct28:Value} {cd28:Value}
 {f29:Addr} {od29 an29:Option Addr} {sl29:Array (Option Value)} {oc29 kV29 dc29 pm29 ct29:Value} {cd29:Value}
 {cC:Addr}
 {f30:Addr} {od30 an30:Option Addr} {sl30:Array (Option Value)} {oc30 kV30 dc30 pm30 ct30:Value}
 {t_MOST_STONES:Tok}
 (ac_BadRow:PySem.W.nsIn K mainGlobals "BadRow"=some (some (.ref C_BadRow)))
 (ac_BadTrains:PySem.W.nsIn K mainGlobals "BadTrains"=some (some (.ref C_BadTrains)))
 (ac_BadSizes:PySem.W.nsIn K mainGlobals "BadSizes"=some (some (.ref C_BadSizes)))
 (ac_TooMany:PySem.W.nsIn K mainGlobals "TooMany"=some (some (.ref C_TooMany)))
 (ac_BadCreel:PySem.W.nsIn K mainGlobals "BadCreel"=some (some (.ref C_BadCreel)))
 (ac_BadNumber:PySem.W.nsIn K mainGlobals "BadNumber"=some (some (.ref C_BadNumber)))
 (ac_TooNear:PySem.W.nsIn K mainGlobals "TooNear"=some (some (.ref C_TooNear)))
 (ac_Bare:PySem.W.nsIn K mainGlobals "Bare"=some (some (.ref C_Bare)))
 (ac_CreelError:PySem.W.nsIn K mainGlobals "CreelError"=some (some (.ref C_CreelError)))
 (ai_CreelError:PySem.W.findIn K (.ref C_CreelError) "__init__"=some (some (.ref I_CreelError)))
 (li_CreelError:K.lookup I_CreelError=some ⟨oc_CreelError,od_CreelError,.func (PySem.W.fnOf "__init__" "CreelError.__init__" (defArgs s_CreelError_init) (defBody s_CreelError_init) (defScope s_CreelError_init) (.ref T_CreelError) kV_CreelError dc_CreelError pm_CreelError an_CreelError cd_CreelError ct_CreelError),sl_CreelError⟩)
 (co_CreelError:PySem.W.codeIn K cd_CreelError "CreelError.__init__"=true)
 (ke_CreelError:PySem.W.keepIn K (.ref I_CreelError)=true)
 (lt_CreelError:K.lookup T_CreelError=some ⟨uc_CreelError,ud_CreelError,.seq #[.str "" ta_CreelError,.str "CreelError" tb_CreelError] un_CreelError,us_CreelError⟩)
 (ai_BadCreel:PySem.W.findIn K (.ref C_BadCreel) "__init__"=some (some (.ref I_BadCreel)))
 (li_BadCreel:K.lookup I_BadCreel=some ⟨oc_BadCreel,od_BadCreel,.func (PySem.W.fnOf "__init__" "BadCreel.__init__" (defArgs s_BadCreel_init) (defBody s_BadCreel_init) (defScope s_BadCreel_init) (.ref T_BadCreel) kV_BadCreel dc_BadCreel pm_BadCreel an_BadCreel cd_BadCreel ct_BadCreel),sl_BadCreel⟩)
 (co_BadCreel:PySem.W.codeIn K cd_BadCreel "BadCreel.__init__"=true)
 (ke_BadCreel:PySem.W.keepIn K (.ref I_BadCreel)=true)
 (lt_BadCreel:K.lookup T_BadCreel=some ⟨uc_BadCreel,ud_BadCreel,.seq #[.str "" ta_BadCreel] un_BadCreel,us_BadCreel⟩)
 (fi_BadCreel:PySem.W.isFn K (.ref I_BadCreel)=true)
 (xi_BadCreel:excInI K C_BadCreel (some (.ref I_BadCreel))=true)
 (xw_BadCreel:xsIn K C_BadCreel C_CreelError "word"=true)
 (ai_BadNumber:PySem.W.findIn K (.ref C_BadNumber) "__init__"=some (some (.ref I_BadNumber)))
 (li_BadNumber:K.lookup I_BadNumber=some ⟨oc_BadNumber,od_BadNumber,.func (PySem.W.fnOf "__init__" "BadNumber.__init__" (defArgs s_BadNumber_init) (defBody s_BadNumber_init) (defScope s_BadNumber_init) (.ref T_BadNumber) kV_BadNumber dc_BadNumber pm_BadNumber an_BadNumber cd_BadNumber ct_BadNumber),sl_BadNumber⟩)
 (co_BadNumber:PySem.W.codeIn K cd_BadNumber "BadNumber.__init__"=true)
 (ke_BadNumber:PySem.W.keepIn K (.ref I_BadNumber)=true)
 (lt_BadNumber:K.lookup T_BadNumber=some ⟨uc_BadNumber,ud_BadNumber,.seq #[.str "" ta_BadNumber] un_BadNumber,us_BadNumber⟩)
 (fi_BadNumber:PySem.W.isFn K (.ref I_BadNumber)=true)
 (xi_BadNumber:excInI K C_BadNumber (some (.ref I_BadNumber))=true)
 (xw_BadNumber:xsIn K C_BadNumber C_CreelError "word"=true)
 (oga:PySem.W.specialIn K (.ref C_CreelError) "__getattribute__"=some (some (.builtin "type.__getattribute__")))
 (ore:PySem.W.readsIn K C_CreelError (.type "type")=true)
 (ofi:PySem.W.findCls K (.ref C_CreelError) (.type "type") "__init__"=some (.val (.ref I_CreelError)))
 (met:metIn K [C_BadRow,C_BadTrains,C_BadSizes,C_TooMany,C_BadCreel,C_BadNumber,C_TooNear,C_Bare]=true)
 (g1:xgIn K C_BadRow "at"=true)
 (g2:xgIn K C_BadTrains "at"=true)
 (g3:xgIn K C_BadSizes "at"=true)
 (ex1:PySem.W.exmOne K (.ref C_BadRow) (.ref C_CreelError)=some true)
 (ex4:PySem.W.exmOne K (.ref C_TooMany) (.ref C_CreelError)=some true)
 (z_VE:PySem.W.nsIn K mainGlobals "ValueError"=some none)
 (a0:PySem.W.nsIn K mainGlobals "look_row"=some (some (.ref f0)))
 (l0:K.lookup f0=some ⟨oc0,od0,.func (PySem.W.fnOf "look_row" "look_row" (defArgs s_look_row) (defBody s_look_row) (defScope s_look_row) .none kV0 dc0 pm0 an0 cd0 ct0),sl0⟩)
 (c0:PySem.W.codeIn K cd0 "look_row"=true)
 (k0:PySem.W.keepIn K (.ref f0)=true)
 (a1:PySem.W.nsIn K mainGlobals "look_creel"=some (some (.ref f1)))
 (l1:K.lookup f1=some ⟨oc1,od1,.func (PySem.W.fnOf "look_creel" "look_creel" (defArgs s_look_creel) (defBody s_look_creel) (defScope s_look_creel) .none kV1 dc1 pm1 an1 cd1 ct1),sl1⟩)
 (c1:PySem.W.codeIn K cd1 "look_creel"=true)
 (k1:PySem.W.keepIn K (.ref f1)=true)
 (a2:PySem.W.nsIn K mainGlobals "look_walks"=some (some (.ref f2)))
 (l2:K.lookup f2=some ⟨oc2,od2,.func (PySem.W.fnOf "look_walks" "look_walks" (defArgs s_look_walks) (defBody s_look_walks) (defScope s_look_walks) .none kV2 dc2 pm2 an2 cd2 ct2),sl2⟩)
 (c2:PySem.W.codeIn K cd2 "look_walks"=true)
 (k2:PySem.W.keepIn K (.ref f2)=true)
 (a3:PySem.W.nsIn K mainGlobals "look_trains"=some (some (.ref f3)))
 (l3:K.lookup f3=some ⟨oc3,od3,.func (PySem.W.fnOf "look_trains" "look_trains" (defArgs s_look_trains) (defBody s_look_trains) (defScope s_look_trains) .none kV3 dc3 pm3 an3 cd3 ct3),sl3⟩)
 (c3:PySem.W.codeIn K cd3 "look_trains"=true)
 (k3:PySem.W.keepIn K (.ref f3)=true)
 (a4:PySem.W.nsIn K mainGlobals "by_size"=some (some (.ref f4)))
 (l4:K.lookup f4=some ⟨oc4,od4,.func (PySem.W.fnOf "by_size" "by_size" (defArgs s_by_size) (defBody s_by_size) (defScope s_by_size) .none kV4 dc4 pm4 an4 cd4 ct4),sl4⟩)
 (c4:PySem.W.codeIn K cd4 "by_size"=true)
 (k4:PySem.W.keepIn K (.ref f4)=true)
 (a5:PySem.W.nsIn K mainGlobals "crowd"=some (some (.ref f5)))
 (l5:K.lookup f5=some ⟨oc5,od5,.func (PySem.W.fnOf "crowd" "crowd" (defArgs s_crowd) (defBody s_crowd) (defScope s_crowd) .none kV5 dc5 pm5 an5 cd5 ct5),sl5⟩)
 (c5:PySem.W.codeIn K cd5 "crowd"=true)
 (k5:PySem.W.keepIn K (.ref f5)=true)
 (a6:PySem.W.nsIn K mainGlobals "crowds"=some (some (.ref f6)))
 (l6:K.lookup f6=some ⟨oc6,od6,.func (PySem.W.fnOf "crowds" "crowds" (defArgs s_crowds) (defBody s_crowds) (defScope s_crowds) .none kV6 dc6 pm6 an6 cd6 ct6),sl6⟩)
 (c6:PySem.W.codeIn K cd6 "crowds"=true)
 (k6:PySem.W.keepIn K (.ref f6)=true)
 (a7:PySem.W.nsIn K mainGlobals "drop_last"=some (some (.ref f7)))
 (l7:K.lookup f7=some ⟨oc7,od7,.func (PySem.W.fnOf "drop_last" "drop_last" (defArgs s_drop_last) (defBody s_drop_last) (defScope s_drop_last) .none kV7 dc7 pm7 an7 cd7 ct7),sl7⟩)
 (c7:PySem.W.codeIn K cd7 "drop_last"=true)
 (k7:PySem.W.keepIn K (.ref f7)=true)
 (a8:PySem.W.nsIn K mainGlobals "add_train"=some (some (.ref f8)))
 (l8:K.lookup f8=some ⟨oc8,od8,.func (PySem.W.fnOf "add_train" "add_train" (defArgs s_add_train) (defBody s_add_train) (defScope s_add_train) .none kV8 dc8 pm8 an8 cd8 ct8),sl8⟩)
 (c8:PySem.W.codeIn K cd8 "add_train"=true)
 (k8:PySem.W.keepIn K (.ref f8)=true)
 (a9:PySem.W.nsIn K mainGlobals "add_stone"=some (some (.ref f9)))
 (l9:K.lookup f9=some ⟨oc9,od9,.func (PySem.W.fnOf "add_stone" "add_stone" (defArgs s_add_stone) (defBody s_add_stone) (defScope s_add_stone) .none kV9 dc9 pm9 an9 cd9 ct9),sl9⟩)
 (c9:PySem.W.codeIn K cd9 "add_stone"=true)
 (k9:PySem.W.keepIn K (.ref f9)=true)
 (a10:PySem.W.nsIn K mainGlobals "list_of"=some (some (.ref f10)))
 (l10:K.lookup f10=some ⟨oc10,od10,.func (PySem.W.fnOf "list_of" "list_of" (defArgs s_list_of) (defBody s_list_of) (defScope s_list_of) .none kV10 dc10 pm10 an10 cd10 ct10),sl10⟩)
 (c10:PySem.W.codeIn K cd10 "list_of"=true)
 (k10:PySem.W.keepIn K (.ref f10)=true)
 (a11:PySem.W.nsIn K mainGlobals "row_of"=some (some (.ref f11)))
 (l11:K.lookup f11=some ⟨oc11,od11,.func (PySem.W.fnOf "row_of" "row_of" (defArgs s_row_of) (defBody s_row_of) (defScope s_row_of) .none kV11 dc11 pm11 an11 cd11 ct11),sl11⟩)
 (c11:PySem.W.codeIn K cd11 "row_of"=true)
 (k11:PySem.W.keepIn K (.ref f11)=true)
 (a12:PySem.W.nsIn K mainGlobals "gain"=some (some (.ref f12)))
 (l12:K.lookup f12=some ⟨oc12,od12,.func (PySem.W.fnOf "gain" "gain" (defArgs s_gain) (defBody s_gain) (defScope s_gain) .none kV12 dc12 pm12 an12 cd12 ct12),sl12⟩)
 (c12:PySem.W.codeIn K cd12 "gain"=true)
 (k12:PySem.W.keepIn K (.ref f12)=true)
 (a13:PySem.W.nsIn K mainGlobals "added"=some (some (.ref f13)))
 (l13:K.lookup f13=some ⟨oc13,od13,.func (PySem.W.fnOf "added" "added" (defArgs s_added) (defBody s_added) (defScope s_added) .none kV13 dc13 pm13 an13 cd13 ct13),sl13⟩)
 (c13:PySem.W.codeIn K cd13 "added"=true)
 (k13:PySem.W.keepIn K (.ref f13)=true)
 (a14:PySem.W.nsIn K mainGlobals "far"=some (some (.ref f14)))
 (l14:K.lookup f14=some ⟨oc14,od14,.func (PySem.W.fnOf "far" "far" (defArgs s_far) (defBody s_far) (defScope s_far) .none kV14 dc14 pm14 an14 cd14 ct14),sl14⟩)
 (c14:PySem.W.codeIn K cd14 "far"=true)
 (k14:PySem.W.keepIn K (.ref f14)=true)
 (a15:PySem.W.nsIn K mainGlobals "look_stones"=some (some (.ref f15)))
 (l15:K.lookup f15=some ⟨oc15,od15,.func (PySem.W.fnOf "look_stones" "look_stones" (defArgs s_look_stones) (defBody s_look_stones) (defScope s_look_stones) .none kV15 dc15 pm15 an15 cd15 ct15),sl15⟩)
 (c15:PySem.W.codeIn K cd15 "look_stones"=true)
 (k15:PySem.W.keepIn K (.ref f15)=true)
 (a16:PySem.W.nsIn K mainGlobals "tidied"=some (some (.ref f16)))
 (l16:K.lookup f16=some ⟨oc16,od16,.func (PySem.W.fnOf "tidied" "tidied" (defArgs s_tidied) (defBody s_tidied) (defScope s_tidied) .none kV16 dc16 pm16 an16 cd16 ct16),sl16⟩)
 (c16:PySem.W.codeIn K cd16 "tidied"=true)
 (k16:PySem.W.keepIn K (.ref f16)=true)
 (a17:PySem.W.nsIn K mainGlobals "parting"=some (some (.ref f17)))
 (l17:K.lookup f17=some ⟨oc17,od17,.func (PySem.W.fnOf "parting" "parting" (defArgs s_parting) (defBody s_parting) (defScope s_parting) .none kV17 dc17 pm17 an17 cd17 ct17),sl17⟩)
 (c17:PySem.W.codeIn K cd17 "parting"=true)
 (k17:PySem.W.keepIn K (.ref f17)=true)
 (a18:PySem.W.nsIn K mainGlobals "_law_numbers"=some (some (.ref f18)))
 (l18:K.lookup f18=some ⟨oc18,od18,.func (PySem.W.fnOf "_law_numbers" "_law_numbers" (defArgs s_law_numbers) (defBody s_law_numbers) (defScope s_law_numbers) .none kV18 dc18 pm18 an18 cd18 ct18),sl18⟩)
 (c18:PySem.W.codeIn K cd18 "_law_numbers"=true)
 (k18:PySem.W.keepIn K (.ref f18)=true)
 (a19:PySem.W.nsIn K mainGlobals "_law_same"=some (some (.ref f19)))
 (l19:K.lookup f19=some ⟨oc19,od19,.func (PySem.W.fnOf "_law_same" "_law_same" (defArgs s_law_same) (defBody s_law_same) (defScope s_law_same) .none kV19 dc19 pm19 an19 cd19 ct19),sl19⟩)
 (c19:PySem.W.codeIn K cd19 "_law_same"=true)
 (k19:PySem.W.keepIn K (.ref f19)=true)
 (a20:PySem.W.nsIn K mainGlobals "_law_row"=some (some (.ref f20)))
 (l20:K.lookup f20=some ⟨oc20,od20,.func (PySem.W.fnOf "_law_row" "_law_row" (defArgs s_law_row) (defBody s_law_row) (defScope s_law_row) .none kV20 dc20 pm20 an20 cd20 ct20),sl20⟩)
 (c20:PySem.W.codeIn K cd20 "_law_row"=true)
 (k20:PySem.W.keepIn K (.ref f20)=true)
 (a21:PySem.W.nsIn K mainGlobals "_law_long_row"=some (some (.ref f21)))
 (l21:K.lookup f21=some ⟨oc21,od21,.func (PySem.W.fnOf "_law_long_row" "_law_long_row" (defArgs s_law_long_row) (defBody s_law_long_row) (defScope s_law_long_row) .none kV21 dc21 pm21 an21 cd21 ct21),sl21⟩)
 (c21:PySem.W.codeIn K cd21 "_law_long_row"=true)
 (k21:PySem.W.keepIn K (.ref f21)=true)
 (a22:PySem.W.nsIn K mainGlobals "_law_runs"=some (some (.ref f22)))
 (l22:K.lookup f22=some ⟨oc22,od22,.func (PySem.W.fnOf "_law_runs" "_law_runs" (defArgs s_law_runs) (defBody s_law_runs) (defScope s_law_runs) .none kV22 dc22 pm22 an22 cd22 ct22),sl22⟩)
 (c22:PySem.W.codeIn K cd22 "_law_runs"=true)
 (k22:PySem.W.keepIn K (.ref f22)=true)
 (a23:PySem.W.nsIn K mainGlobals "_law_lesser"=some (some (.ref f23)))
 (l23:K.lookup f23=some ⟨oc23,od23,.func (PySem.W.fnOf "_law_lesser" "_law_lesser" (defArgs s_law_lesser) (defBody s_law_lesser) (defScope s_law_lesser) .none kV23 dc23 pm23 an23 cd23 ct23),sl23⟩)
 (c23:PySem.W.codeIn K cd23 "_law_lesser"=true)
 (k23:PySem.W.keepIn K (.ref f23)=true)
 (a24:PySem.W.nsIn K mainGlobals "_law_list"=some (some (.ref f24)))
 (l24:K.lookup f24=some ⟨oc24,od24,.func (PySem.W.fnOf "_law_list" "_law_list" (defArgs s_law_list) (defBody s_law_list) (defScope s_law_list) .none kV24 dc24 pm24 an24 cd24 ct24),sl24⟩)
 (c24:PySem.W.codeIn K cd24 "_law_list"=true)
 (k24:PySem.W.keepIn K (.ref f24)=true)
 (a25:PySem.W.nsIn K mainGlobals "_law_stones"=some (some (.ref f25)))
 (l25:K.lookup f25=some ⟨oc25,od25,.func (PySem.W.fnOf "_law_stones" "_law_stones" (defArgs s_law_stones) (defBody s_law_stones) (defScope s_law_stones) .none kV25 dc25 pm25 an25 cd25 ct25),sl25⟩)
 (c25:PySem.W.codeIn K cd25 "_law_stones"=true)
 (k25:PySem.W.keepIn K (.ref f25)=true)
 (a26:PySem.W.nsIn K mainGlobals "_law_walks"=some (some (.ref f26)))
 (l26:K.lookup f26=some ⟨oc26,od26,.func (PySem.W.fnOf "_law_walks" "_law_walks" (defArgs s_law_walks) (defBody s_law_walks) (defScope s_law_walks) .none kV26 dc26 pm26 an26 cd26 ct26),sl26⟩)
 (c26:PySem.W.codeIn K cd26 "_law_walks"=true)
 (k26:PySem.W.keepIn K (.ref f26)=true)
 (a27:PySem.W.nsIn K mainGlobals "_law_adds"=some (some (.ref f27)))
 (l27:K.lookup f27=some ⟨oc27,od27,.func (PySem.W.fnOf "_law_adds" "_law_adds" (defArgs s_law_adds) (defBody s_law_adds) (defScope s_law_adds) .none kV27 dc27 pm27 an27 cd27 ct27),sl27⟩)
 (c27:PySem.W.codeIn K cd27 "_law_adds"=true)
 (k27:PySem.W.keepIn K (.ref f27)=true)
 (a28:PySem.W.nsIn K mainGlobals "_law_why"=some (some (.ref f28)))
 (l28:K.lookup f28=some ⟨oc28,od28,.func (PySem.W.fnOf "_law_why" "_law_why" (defArgs s_law_why) (defBody s_law_why) (defScope s_law_why) .none kV28 dc28 pm28 an28 cd28 ct28),sl28⟩)
 (c28:PySem.W.codeIn K cd28 "_law_why"=true)
 (k28:PySem.W.keepIn K (.ref f28)=true)
 (a29:PySem.W.nsIn K mainGlobals "_law_other"=some (some (.ref f29)))
 (l29:K.lookup f29=some ⟨oc29,od29,.func (PySem.W.fnOf "_law_other" "_law_other" (defArgs s_law_other) (defBody s_law_other) (defScope s_law_other) .none kV29 dc29 pm29 an29 cd29 ct29),sl29⟩)
 (c29:PySem.W.codeIn K cd29 "_law_other"=true)
 (k29:PySem.W.keepIn K (.ref f29)=true)
 (a30:PySem.W.nsIn K mainGlobals "law"=some (some (.ref f30)))
 (l30:K.lookup f30=some ⟨oc30,od30,.func (PySem.W.fnOf "law" "law" (defArgs s_law) (defBody s_law) (defScope s_law) .none kV30 dc30 pm30 an30 (.ref cC) ct30),sl30⟩)
 (c30:PySem.W.codeIn K (.ref cC) "law"=true)
 (k30:PySem.W.keepIn K (.ref f30)=true)
 (z_len:PySem.W.nsIn K mainGlobals "len"=some none)
 (z_range:PySem.W.nsIn K mainGlobals "range"=some none)
 (z_list:PySem.W.nsIn K mainGlobals "list"=some none)
 (z_tuple:PySem.W.nsIn K mainGlobals "tuple"=some none)
 (z_bool:PySem.W.nsIn K mainGlobals "bool"=some none)
 (z_str:PySem.W.nsIn K mainGlobals "str"=some none)
 (z_int:PySem.W.nsIn K mainGlobals "int"=some none)
 (z_isinstance:PySem.W.nsIn K mainGlobals "isinstance"=some none)
 (z_all:PySem.W.nsIn K mainGlobals "all"=some none)
 (z_sorted:PySem.W.nsIn K mainGlobals "sorted"=some none)
 (z_max:PySem.W.nsIn K mainGlobals "max"=some none)
 (z_min:PySem.W.nsIn K mainGlobals "min"=some none)
 (z_set:PySem.W.nsIn K mainGlobals "set"=some none)
 (z_reversed:PySem.W.nsIn K mainGlobals "reversed"=some none)
 (z_sum:PySem.W.nsIn K mainGlobals "sum"=some none)
 (z_enumerate:PySem.W.nsIn K mainGlobals "enumerate"=some none)
 (z_zip:PySem.W.nsIn K mainGlobals "zip"=some none)
 (z_any:PySem.W.nsIn K mainGlobals "any"=some none)
 (z_abs:PySem.W.nsIn K mainGlobals "abs"=some none)
 (y_MOST_STONES:PySem.W.nsIn K mainGlobals "MOST_STONES"=some (some (.int 60 t_MOST_STONES)))
 (hcp:PySem.W.codeHdIn K cC PT=true)
 (hlp:K.lookup PT=none) :
 ∃ (fd:FuncData) (c P:Addr),P∈ts∧PySem.W.codeHdIn K c P=true∧K.lookup P=none∧(∀ (s:Shared) (v:Value),BindsTo s fd ⟨[v],[]⟩ [("_law_script",v)])∧∀ base:Heap,K.In base→base.Ns mainGlobals mg→BMain mg base→PySem.W.CodeHd base c P→FnOk l.prog w K mg base CX0 11 fa fd ["_law_script"] (spLawT K P):=by
 have e:=hfa.symm.trans (PySem.W.mg_of X G a30)
 cases e
 have B:Bt mg:=⟨PySem.W.mg_none_of X G z_len,PySem.W.mg_none_of X G z_range,PySem.W.mg_none_of X G z_list,PySem.W.mg_none_of X G z_tuple,PySem.W.mg_none_of X G z_bool,PySem.W.mg_none_of X G z_str,PySem.W.mg_none_of X G z_int,PySem.W.mg_none_of X G z_isinstance,PySem.W.mg_none_of X G z_all,PySem.W.mg_none_of X G z_sorted,PySem.W.mg_none_of X G z_max,PySem.W.mg_none_of X G z_min,PySem.W.mg_none_of X G z_set,PySem.W.mg_none_of X G z_reversed,PySem.W.mg_none_of X G z_sum,PySem.W.mg_none_of X G z_enumerate,PySem.W.mg_none_of X G z_zip,PySem.W.mg_none_of X G z_any,PySem.W.mg_none_of X G z_abs⟩
 have mV:=PySem.W.mg_none_of X G z_VE
 have C:Cn mg t_MOST_STONES:=⟨PySem.W.mg_of X G y_MOST_STONES⟩
 have FI_CreelError:=funD_mk (st:=s_CreelError_init) li_CreelError co_CreelError ke_CreelError
 have BI_CreelError:Binds K (PySem.W.fnOf "__init__" "CreelError.__init__" (defArgs s_CreelError_init) (defBody s_CreelError_init) (defScope s_CreelError_init) (.ref T_CreelError) kV_CreelError dc_CreelError pm_CreelError an_CreelError cd_CreelError ct_CreelError) ["self","why","word"] []:=fun s us kin hl=>match us,hl with | [_,_,_],_=>PySem.W.binds_K (T:=T_CreelError) kin rfl lt_CreelError rfl rfl rfl
 have FI_BadCreel:=funD_mk (st:=s_BadCreel_init) li_BadCreel co_BadCreel ke_BadCreel
 have BI_BadCreel:Binds K (PySem.W.fnOf "__init__" "BadCreel.__init__" (defArgs s_BadCreel_init) (defBody s_BadCreel_init) (defScope s_BadCreel_init) (.ref T_BadCreel) kV_BadCreel dc_BadCreel pm_BadCreel an_BadCreel cd_BadCreel ct_BadCreel) ["self","why"] []:=fun s us kin hl=>match us,hl with | [_,_],_=>PySem.W.binds_K (T:=T_BadCreel) kin rfl lt_BadCreel rfl rfl rfl
 have FI_BadNumber:=funD_mk (st:=s_BadNumber_init) li_BadNumber co_BadNumber ke_BadNumber
 have BI_BadNumber:Binds K (PySem.W.fnOf "__init__" "BadNumber.__init__" (defArgs s_BadNumber_init) (defBody s_BadNumber_init) (defScope s_BadNumber_init) (.ref T_BadNumber) kV_BadNumber dc_BadNumber pm_BadNumber an_BadNumber cd_BadNumber ct_BadNumber) ["self","why"] []:=fun s us kin hl=>match us,hl with | [_,_],_=>PySem.W.binds_K (T:=T_BadNumber) kin rfl lt_BadNumber rfl rfl rfl
 let E:Errs K mg:=⟨C_BadRow,C_BadTrains,C_BadSizes,C_TooMany,C_BadCreel,C_BadNumber,C_TooNear,C_Bare,C_CreelError,PySem.W.mg_of X G ac_BadRow,PySem.W.mg_of X G ac_BadTrains,PySem.W.mg_of X G ac_BadSizes,PySem.W.mg_of X G ac_TooMany,PySem.W.mg_of X G ac_BadCreel,PySem.W.mg_of X G ac_BadNumber,PySem.W.mg_of X G ac_TooNear,PySem.W.mg_of X G ac_Bare,PySem.W.mg_of X G ac_CreelError⟩
 have Z:Sees E:=⟨met,g1,g2,g3,ex1,ex4⟩
 have OI:OInit K C_CreelError I_CreelError:=⟨oga,ore,ofi,ke_CreelError⟩
 have F0:=fun_mk (st:=s_look_row) l0 c0 k0
 have b0:=F0.binds1 (p1:="row") fun _ _ _ _ _ _ _=>rfl
 have m0:=PySem.W.mg_of X G a0
 have F1:=fun_mk (st:=s_look_creel) l1 c1 k1
 have b1:=F1.binds1 (p1:="creel") fun _ _ _ _ _ _ _=>rfl
 have m1:=PySem.W.mg_of X G a1
 have F2:=fun_mk (st:=s_look_walks) l2 c2 k2
 have b2:=F2.binds1 (p1:="walks") fun _ _ _ _ _ _ _=>rfl
 have m2:=PySem.W.mg_of X G a2
 have F3:=fun_mk (st:=s_look_trains) l3 c3 k3
 have b3:=F3.binds1 (p1:="trains") fun _ _ _ _ _ _ _=>rfl
 have m3:=PySem.W.mg_of X G a3
 have F4:=fun_mk (st:=s_by_size) l4 c4 k4
 have b4:=F4.binds1 (p1:="trains") fun _ _ _ _ _ _ _=>rfl
 have m4:=PySem.W.mg_of X G a4
 have F5:=fun_mk (st:=s_crowd) l5 c5 k5
 have b5:=F5.binds2 (p1:="offsets") (p2:="size") fun _ _ _ _ _ _ _ _=>rfl
 have m5:=PySem.W.mg_of X G a5
 have F6:=fun_mk (st:=s_crowds) l6 c6 k6
 have b6:=F6.binds1 (p1:="offsets") fun _ _ _ _ _ _ _=>rfl
 have m6:=PySem.W.mg_of X G a6
 have F7:=fun_mk (st:=s_drop_last) l7 c7 k7
 have b7:=F7.binds2 (p1:="offsets") (p2:="size") fun _ _ _ _ _ _ _ _=>rfl
 have m7:=PySem.W.mg_of X G a7
 have F8:=fun_mk (st:=s_add_train) l8 c8 k8
 have b8:=F8.binds3 (p1:="offsets") (p2:="size") (p3:="place") fun _ _ _ _ _ _ _ _ _=>rfl
 have m8:=PySem.W.mg_of X G a8
 have F9:=fun_mk (st:=s_add_stone) l9 c9 k9
 have b9:=F9.binds2 (p1:="offsets") (p2:="place") fun _ _ _ _ _ _ _ _=>rfl
 have m9:=PySem.W.mg_of X G a9
 have F10:=fun_mk (st:=s_list_of) l10 c10 k10
 have b10:=F10.binds1 (p1:="row") fun _ _ _ _ _ _ _=>rfl
 have m10:=PySem.W.mg_of X G a10
 have F11:=fun_mk (st:=s_row_of) l11 c11 k11
 have b11:=F11.binds1 (p1:="trains") fun _ _ _ _ _ _ _=>rfl
 have m11:=PySem.W.mg_of X G a11
 have F12:=fun_mk (st:=s_gain) l12 c12 k12
 have b12:=F12.binds2 (p1:="walks") (p2:="size") fun _ _ _ _ _ _ _ _=>rfl
 have m12:=PySem.W.mg_of X G a12
 have F13:=fun_mk (st:=s_added) l13 c13 k13
 have b13:=F13.binds2 (p1:="trains") (p2:="walks") fun _ _ _ _ _ _ _ _=>rfl
 have m13:=PySem.W.mg_of X G a13
 have F14:=fun_mk (st:=s_far) l14 c14 k14
 have b14:=F14.binds2 (p1:="row") (p2:="walks") fun _ _ _ _ _ _ _ _=>rfl
 have m14:=PySem.W.mg_of X G a14
 have F15:=fun_mk (st:=s_look_stones) l15 c15 k15
 have b15:=F15.binds1 (p1:="stones") fun _ _ _ _ _ _ _=>rfl
 have m15:=PySem.W.mg_of X G a15
 have F16:=fun_mk (st:=s_tidied) l16 c16 k16
 have b16:=F16.binds2 (p1:="walks") (p2:="stones") fun _ _ _ _ _ _ _ _=>rfl
 have m16:=PySem.W.mg_of X G a16
 have F17:=fun_mk (st:=s_parting) l17 c17 k17
 have b17:=F17.binds3 (p1:="one") (p2:="other") (p3:="stones") fun _ _ _ _ _ _ _ _ _=>rfl
 have m17:=PySem.W.mg_of X G a17
 have F18:=fun_mk (st:=s_law_numbers) l18 c18 k18
 have b18:=F18.binds2 (p1:="_law_script") (p2:="_law_many") fun _ _ _ _ _ _ _ _=>rfl
 have m18:=PySem.W.mg_of X G a18
 have F19:=fun_mk (st:=s_law_same) l19 c19 k19
 have b19:=F19.binds2 (p1:="_law_found") (p2:="_law_due") fun _ _ _ _ _ _ _ _=>rfl
 have m19:=PySem.W.mg_of X G a19
 have F20:=fun_mk (st:=s_law_row) l20 c20 k20
 have b20:=F20.binds2 (p1:="_law_d") (p2:="_law_most") fun _ _ _ _ _ _ _ _=>rfl
 have m20:=PySem.W.mg_of X G a20
 have F21:=fun_mk (st:=s_law_long_row) l21 c21 k21
 have b21:=F21.binds2 (p1:="_law_d") (p2:="_law_most") fun _ _ _ _ _ _ _ _=>rfl
 have m21:=PySem.W.mg_of X G a21
 have F22:=fun_mk (st:=s_law_runs) l22 c22 k22
 have b22:=F22.binds1 (p1:="_law_row_here") fun _ _ _ _ _ _ _=>rfl
 have m22:=PySem.W.mg_of X G a22
 have F23:=fun_mk (st:=s_law_lesser) l23 c23 k23
 have b23:=F23.binds2 (p1:="_law_found") (p2:="_law_size") fun _ _ _ _ _ _ _ _=>rfl
 have m23:=PySem.W.mg_of X G a23
 have F24:=fun_mk (st:=s_law_list) l24 c24 k24
 have b24:=F24.binds1 (p1:="_law_row_here") fun _ _ _ _ _ _ _=>rfl
 have m24:=PySem.W.mg_of X G a24
 have F25:=fun_mk (st:=s_law_stones) l25 c25 k25
 have b25:=F25.binds1 (p1:="_law_pairs") fun _ _ _ _ _ _ _=>rfl
 have m25:=PySem.W.mg_of X G a25
 have F26:=fun_mk (st:=s_law_walks) l26 c26 k26
 have b26:=F26.binds2 (p1:="_law_d") (p2:="_law_many") fun _ _ _ _ _ _ _ _=>rfl
 have m26:=PySem.W.mg_of X G a26
 have F27:=fun_mk (st:=s_law_adds) l27 c27 k27
 have b27:=F27.binds2 (p1:="_law_pairs") (p2:="_law_walks_here") fun _ _ _ _ _ _ _ _=>rfl
 have m27:=PySem.W.mg_of X G a27
 have F28:=fun_mk (st:=s_law_why) l28 c28 k28
 have b28:=F28.binds1 (p1:="_law_ask") fun _ _ _ _ _ _ _=>rfl
 have m28:=PySem.W.mg_of X G a28
 have F29:=fun_mk (st:=s_law_other) l29 c29 k29
 have b29:=F29.binds3 (p1:="_law_walks_here") (p2:="_law_d") (p3:="_law_stones_here") fun _ _ _ _ _ _ _ _ _=>rfl
 have m29:=PySem.W.mg_of X G a29
 refine⟨PySem.W.fnOf "law" "law" (defArgs s_law) (defBody s_law) (defScope s_law) .none kV30 dc30 pm30 an30 (.ref cC) ct30,cC,PT,hts,hcp,hlp,fun s v=>.of_eq rfl,fun base _ _ hbm hC=>?_⟩
 have OB:=ok_CreelError_init (P:=l.prog) (w:=w) (mg:=mg) (base:=base) FI_CreelError mV
 have R_BadCreel:RaisesAs l.prog w K mg base "BadCreel" E.creel ["self","why"] (spX0 "BadCreel" C_BadCreel):=⟨E.m_creel,I_BadCreel,_,xcls_of xi_BadCreel,fi_BadCreel,ok_BadCreel_init FI_BadCreel OI OB BI_CreelError E.m_err (xcls_of xi_BadCreel) (xs_of xw_BadCreel),BI_BadCreel⟩
 have R_BadNumber:RaisesAs l.prog w K mg base "BadNumber" E.number ["self","why"] (spX0 "BadNumber" C_BadNumber):=⟨E.m_number,I_BadNumber,_,xcls_of xi_BadNumber,fi_BadNumber,ok_BadNumber_init FI_BadNumber OI OB BI_CreelError E.m_err (xcls_of xi_BadNumber) (xs_of xw_BadNumber),BI_BadNumber⟩
 have A_look_row:FnAt l.prog w K mg base "look_row" 1 ["row"] spLook:=⟨f0,_,ok_look F0 B C,m0,k0,b0⟩
 have A0_look_creel:FnAt l.prog w K mg base "look_creel" 1 ["creel"] spLookCreel:=⟨f1,_,ok_look_creel F1 B,m1,k1,b1⟩
 have A_look_creel:FnAtX l.prog w K mg base "look_creel" 4 ["creel"] (spLookCreelX E):=⟨f1,_,ok_look_creelX F1 B E R_BadCreel,m1,k1,b1⟩
 have A0_look_walks_ok:=ok_look_walks F2 B A0_look_creel
 have A0_look_walks:FnAt l.prog w K mg base "look_walks" 2 ["walks"] spLookW:=⟨f2,_,A0_look_walks_ok,m2,k2,b2⟩
 have A_look_walks:FnAtX l.prog w K mg base "look_walks" 5 ["walks"] (spOr spLookW (spLookWR E)):=⟨f2,_,fn_or A0_look_walks_ok (ok_look_walksR F2 B E A_look_creel),m2,k2,b2⟩
 have A_look_trains:FnAt l.prog w K mg base "look_trains" 1 ["trains"] spLookT:=⟨f3,_,ok_look_trains F3 B C,m3,k3,b3⟩
 have A_by_size:FnAt l.prog w K mg base "by_size" 1 ["trains"] spBySizeV:=⟨f4,_,ok_by_size F4 B,m4,k4,b4⟩
 have A_crowd:FnAt l.prog w K mg base "crowd" 1 ["offsets","size"] spCrowdS:=⟨f5,_,ok_crowd F5 B,m5,k5,b5⟩
 have A_crowds:FnAt l.prog w K mg base "crowds" 1 ["offsets"] spCrowdsV:=⟨f6,_,ok_crowds F6 B,m6,k6,b6⟩
 have A_drop_last:FnAt l.prog w K mg base "drop_last" 1 ["offsets","size"] spDropLast:=⟨f7,_,ok_drop_last F7 B,m7,k7,b7⟩
 have A_add_train:FnAt l.prog w K mg base "add_train" 2 ["offsets","size","place"] spAddTrainV:=⟨f8,_,ok_add_train F8 B A_crowd,m8,k8,b8⟩
 have A_add_stone:FnAt l.prog w K mg base "add_stone" 3 ["offsets","place"] spAddStone:=⟨f9,_,ok_add_stone F9 B A_crowds A_drop_last A_add_train,m9,k9,b9⟩
 have A_list_of:FnAt l.prog w K mg base "list_of" 4 ["row"] spListOf:=⟨f10,_,ok_list_of F10 B A_look_row A_add_stone,m10,k10,b10⟩
 have A_row_of:FnAt l.prog w K mg base "row_of" 3 ["trains"] spRowOfV:=⟨f11,_,ok_row_of F11 B A_look_trains A_by_size A_crowds A_drop_last A_add_train,m11,k11,b11⟩
 have A_gain:FnAt l.prog w K mg base "gain" 1 ["walks","size"] spGain:=⟨f12,_,ok_gain F12 B,m12,k12,b12⟩
 have A_added:FnAt l.prog w K mg base "added" 3 ["trains","walks"] spAdded:=⟨f13,_,ok_added F13 B A_look_trains A0_look_walks A_gain,m13,k13,b13⟩
 have A_far:FnAt l.prog w K mg base "far" 5 ["row","walks"] spFar:=⟨f14,_,ok_far F14 B A_list_of A_added A_row_of,m14,k14,b14⟩
 have A_look_stones:FnAtX l.prog w K mg base "look_stones" 4 ["stones"] (spLookStones E):=⟨f15,_,ok_look_stonesX F15 B C E R_BadNumber,m15,k15,b15⟩
 have A_tidied:FnAtX l.prog w K mg base "tidied" 6 ["walks","stones"] (spTidied E):=⟨f16,_,ok_tidiedX F16 B E A_look_stones A_look_walks,m16,k16,b16⟩
 have A_parting:FnAtX l.prog w K mg base "parting" 6 ["one","other","stones"] (spParting E):=⟨f17,_,ok_partingX F17 B E A_look_stones A_look_walks A_gain,m17,k17,b17⟩
 have A_law_numbers:FnAt l.prog w K mg base "_law_numbers" 1 ["_law_script","_law_many"] (spNumbers K):=⟨f18,_,ok_numbers F18 B,m18,k18,b18⟩
 have A_law_same:FnAt l.prog w K mg base "_law_same" 4 ["_law_found","_law_due"] (spSame 3):=⟨f19,_,ok_same F19 B m19 b19 3,m19,k19,b19⟩
 have A_law_row:FnAt l.prog w K mg base "_law_row" 1 ["_law_d","_law_most"] spRow:=⟨f20,_,ok_row F20 B,m20,k20,b20⟩
 have A_law_long_row:FnAt l.prog w K mg base "_law_long_row" 2 ["_law_d","_law_most"] spLong:=⟨f21,_,ok_long F21 B A_law_row,m21,k21,b21⟩
 have A_law_runs:FnAt l.prog w K mg base "_law_runs" 1 ["_law_row_here"] spRuns:=⟨f22,_,ok_runs F22 B,m22,k22,b22⟩
 have A_law_lesser:FnAt l.prog w K mg base "_law_lesser" 1 ["_law_found","_law_size"] spLesser:=⟨f23,_,ok_lesser F23 B,m23,k23,b23⟩
 have A_law_list:FnAt l.prog w K mg base "_law_list" 2 ["_law_row_here"] spLawList:=⟨f24,_,ok_law_list F24 B A_law_lesser,m24,k24,b24⟩
 have A_law_stones:FnAt l.prog w K mg base "_law_stones" 2 ["_law_pairs"] spStones:=⟨f25,_,ok_law_stones F25 B A_law_lesser,m25,k25,b25⟩
 have A_law_walks:FnAt l.prog w K mg base "_law_walks" 1 ["_law_d","_law_many"] spWalks:=⟨f26,_,ok_walks F26 B,m26,k26,b26⟩
 have A_law_adds:FnAt l.prog w K mg base "_law_adds" 1 ["_law_pairs","_law_walks_here"] spAdds:=⟨f27,_,ok_adds F27 B,m27,k27,b27⟩
 have W:WhyAt l.prog w K mg base E 9:=⟨f28,_,ok_why E Z F28,m28,k28,b28⟩
 have A_law_other:FnAt l.prog w K mg base "_law_other" 1 ["_law_walks_here","_law_d","_law_stones_here"] spLawOther:=⟨f29,_,ok_law_other F29 B,m29,k29,b29⟩
 exact ok_law ⟨⟨_,_,_,_,_,_,_,_,rfl,l30,c30⟩⟩ hC hbm B W A_parting A_tidied A_far A_law_numbers A_law_walks A_law_other A_law_long_row A_law_runs A_law_list A_law_adds A_law_stones A_law_same
theorem walk {l:PySem.W.OpenLaw} {q:Program} {loose:List Str} {XP:(Str→Option Value)→Heap→Prop} {YP:World→Heap→Prop} {d:DefRec} {K:Params→PySem.W.Frag} (hn:l.most=some 63) (hdf:d.params.defaults=[]) {ts:List Addr}
 (hY:∀ (w:World) (h:Heap),YP w h→(K w.params).In h) (hTab:∀ (w:World) (h:Heap),YP w h→∀ P∈ts,h.get? P=some (PySem.W.tabObj #[]))
 (F:∀ (w:World) (mg:Str→Option Value) (fa:Addr) (h:Heap),(K w.params).In h→h.Ns mainGlobals mg→mg d.name=some (.ref fa) →
  ∃ (fd:FuncData) (c P:Addr),P∈ts∧PySem.W.codeHdIn (K w.params) c P=true∧(K w.params).lookup P=none∧(∀ (s:Shared) (v:Value),BindsTo s fd ⟨[v],[]⟩ [("_law_script",v)])∧∀ base:Heap,(K w.params).In base→base.Ns mainGlobals mg→BMain mg base→PySem.W.CodeHd base c P→FnOk l.prog w (K w.params) mg base CX0 11 fa fd ["_law_script"] (spLawT (K w.params) P)) :
 PySem.W.WalkO q loose XP YP l.row.toRowW d [] (fun f vs=>PySem.call f vs) :=
 L2.walk_ofT (n:=63) (k:=11) (x:="_law_script") (CX:=fun _=>CX0) (sp:=fun w P=>spLawT (K w.params) P) hn (by decide) hdf ⟨rfl,by decide,by decide⟩ hY hTab F (fun _ P H a ns hl hP hS=>⟨a,ns,rfl,hP,hS,hl,fun _=>rfl⟩) fun _ _ _ _ _ z=>z
end CW
def PySem.W.Fast.tw13685116968230878119:Unit:=()
def PySem.W.Fast.tw7679831884182868411:Unit:=()
def PySem.W.Fast.tw505745045117452702:Unit:=()
def PySem.W.Fast.tw191959471527546307:Unit:=()
def PySem.W.Fast.tw9459077076570459487:Unit:=()
def PySem.W.Fast.tw3819926357582091030:Unit:=()
def PySem.W.Fast.tw4341245207122393967:Unit:=()
def PySem.W.Fast.tw14214101443903563526:Unit:=()
def PySem.W.Fast.tw11807646601241383642:Unit:=()
def PySem.W.Fast.tw671162412057664497:Unit:=()
def PySem.W.Fast.tw15492818782685604108:Unit:=()
def PySem.W.Fast.tw8605691849561283460:Unit:=()
def PySem.W.Fast.tw16910762939988870176:Unit:=()
def PySem.W.Fast.tw16984120961054952378:Unit:=()
def PySem.W.Fast.tw14235856042889545058:Unit:=()
def PySem.W.Fast.tw16612690998229232952:Unit:=()
def PySem.W.Fast.tw16130812547758127493:Unit:=()
def PySem.W.Fast.tw5522753447055700804:Unit:=()
def PySem.W.Fast.tw15498909829862941974:Unit:=()
def PySem.W.Fast.tw2307497329348643618:Unit:=()
def PySem.W.Fast.tw2322276282285496033:Unit:=()
def PySem.W.Fast.tw11492714442950684348:Unit:=()
def PySem.W.Fast.tw16762638150478673624:Unit:=()
def PySem.W.Fast.tw4036128524632655992:Unit:=()
def PySem.W.Fast.tw13868293049406937102:Unit:=()
def PySem.W.Fast.tw2393516604717687703:Unit:=()
def PySem.W.Fast.tw4206563659872293082:Unit:=()
def PySem.W.Fast.tw5499104890431519602:Unit:=()
def PySem.W.Fast.tw15592993239293670241:Unit:=()
def PySem.W.Fast.tw5255362759549540839:Unit:=()
def PySem.W.Fast.tw704624152065489817:Unit:=()
def PySem.W.Fast.tw10588561256469101460:Unit:=()
def PySem.W.Fast.tw4304946943925969372:Unit:=()
def PySem.W.Fast.tw4111915239924180200:Unit:=()
def PySem.W.Fast.tw4975374837223755844:Unit:=()
def PySem.W.Fast.tw2295648976387669222:Unit:=()
def PySem.W.Fast.tw14126802592427993811:Unit:=()
def PySem.W.Fast.tw1888586836011569195:Unit:=()
def PySem.W.Fast.tw7923870470371295950:Unit:=()
def PySem.W.Fast.tw3471968149959141502:Unit:=()
def PySem.W.Fast.tw4674867261142870621:Unit:=()
def PySem.W.Fast.tw3899574366188303151:Unit:=()
def PySem.W.Fast.tw580209459927049068:Unit:=()
def PySem.W.Fast.tw9261385796417375821:Unit:=()
def PySem.W.Fast.tw7570636910631410812:Unit:=()
def PySem.W.Fast.tw1105202021217250671:Unit:=()
def PySem.W.Fast.tw17027878194341315888:Unit:=()
def PySem.W.Fast.tw16289096977157589300:Unit:=()
def PySem.W.Fast.tw15816872214089293358:Unit:=()
def PySem.W.Fast.tw7921413703227443344:Unit:=()
def PySem.W.Fast.tw7896720701170914834:Unit:=()
def PySem.W.Fast.tw11571823323753221032:Unit:=()
def PySem.W.Fast.tw17089852619766174835:Unit:=()
def PySem.W.Fast.tw575478765104682448:Unit:=()
def PySem.W.Fast.tw8122900001675248002:Unit:=()
def PySem.W.Fast.tw13280470479488832038:Unit:=()
def PySem.W.Fast.tw14150824791583959634:Unit:=()
def PySem.W.Fast.tw685421933966337643:Unit:=()
def PySem.W.Fast.tw14113941180420815973:Unit:=()
def PySem.W.Fast.tw3018262152731452845:Unit:=()
def PySem.W.Fast.tw10988767283662474569:Unit:=()
def PySem.W.Fast.tw472697093081074985:Unit:=()
def PySem.W.Fast.tw15898907105691822657:Unit:=()
def PySem.W.Fast.tw6746684804651923528:Unit:=()
def PySem.W.Fast.tw4576368552370266945:Unit:=()
def PySem.W.Fast.tw17747622786227122034:Unit:=()
def PySem.W.Fast.tw12989133003124899283:Unit:=()
def PySem.W.Fast.tw7161946118511260238:Unit:=()
def PySem.W.Fast.tw16120205132440710110:Unit:=()
def PySem.W.Fast.tw2950825085919815228:Unit:=()
def PySem.W.Fast.tw17588989215752606557:Unit:=()
def PySem.W.Fast.tw5274169454714469627:Unit:=()
def PySem.W.Fast.tw6072033575734651060:Unit:=()
def PySem.W.Fast.tw8735664436552483538:Unit:=()
def PySem.W.Fast.tw10052743377314453965:Unit:=()
def PySem.W.Fast.tw1991567290175462133:Unit:=()
def PySem.W.Fast.tw6619407452500552765:Unit:=()
def PySem.W.Fast.tw1522226641383589930:Unit:=()
def PySem.W.Fast.tw12285306775367073255:Unit:=()
def PySem.W.Fast.tw4972903183634102264:Unit:=()
def PySem.W.Fast.tw12381596421392197161:Unit:=()
def PySem.W.Fast.tw5591960799333157586:Unit:=()
def PySem.W.Fast.tw2114633308110052271:Unit:=()
def PySem.W.Fast.tw16176768140180169908:Unit:=()
def PySem.W.Fast.tw17401468799575202416:Unit:=()
def PySem.W.Fast.tw10491227199777217082:Unit:=()
def PySem.W.Fast.tw10954532846972380632:Unit:=()
def PySem.W.Fast.tw16244030027234644174:Unit:=()
def PySem.W.Fast.tw372946465681776494:Unit:=()
def PySem.W.Fast.tw4839308888847902775:Unit:=()
def PySem.W.Fast.tw12645750704394750367:Unit:=()
def PySem.W.Fast.tw6665748309649640671:Unit:=()
def PySem.W.Fast.tw223325972703477924:Unit:=()
def PySem.W.Fast.tw1069416026221499869:Unit:=()
def PySem.W.Fast.tw11121355071358296930:Unit:=()
def PySem.W.Fast.tw9936744284199541112:Unit:=()
def PySem.W.Fast.tw11365623833553789345:Unit:=()
def PySem.W.Fast.tw4706709215277258039:Unit:=()
def PySem.W.Fast.tw11945590286857512592:Unit:=()
def PySem.W.Fast.tw16428502100736711826:Unit:=()
def PySem.W.Fast.tw15540541098662647012:Unit:=()
def PySem.W.Fast.tw15393235889184519577:Unit:=()
def PySem.W.Fast.tw4888809437769044047:Unit:=()
def PySem.W.Fast.tw7586683331253299966:Unit:=()
def PySem.W.Fast.tw9554348673039870919:Unit:=()
def PySem.W.Fast.tw3573815125553043064:Unit:=()
def PySem.W.Fast.tw17757631612793006511:Unit:=()
def PySem.W.Fast.tw11211054672939908145:Unit:=()
def PySem.W.Fast.tw5683581713123164737:Unit:=()
def PySem.W.Fast.tw2289219652910936838:Unit:=()
def PySem.W.Fast.tw809452931499460919:Unit:=()
def PySem.W.Fast.tw10062914113495328990:Unit:=()
def PySem.W.Fast.tw10795221014589776159:Unit:=()
def PySem.W.Fast.tw13778005244793544203:Unit:=()
def PySem.W.Fast.tw12695911236202779886:Unit:=()
def PySem.W.Fast.tw15524663831273280499:Unit:=()
def PySem.W.Fast.tw2568130287700094103:Unit:=()
def PySem.W.Fast.tw1877358469174032301:Unit:=()
def PySem.W.Fast.tw13788247420551079880:Unit:=()
def PySem.W.Fast.tw15809754712915140053:Unit:=()
def PySem.W.Fast.tw9965745561820802566:Unit:=()
def PySem.W.Fast.tw5777119382071035611:Unit:=()
def PySem.W.Fast.tw9611920170017712174:Unit:=()
def PySem.W.Fast.tw6399209235086309757:Unit:=()
def PySem.W.Fast.tw1380622832755552524:Unit:=()
def PySem.W.Fast.tw7642555847957932372:Unit:=()
def PySem.W.Fast.tw4662067437848972331:Unit:=()
def PySem.W.Fast.tw7479889160388072242:Unit:=()
def PySem.W.Fast.tw7585802626014951222:Unit:=()
def PySem.W.Fast.tw1145760668185520471:Unit:=()
def PySem.W.Fast.tw12750200753200247495:Unit:=()
def PySem.W.Fast.tw4921534400215394350:Unit:=()
def PySem.W.Fast.tw11480858367803458810:Unit:=()
def PySem.W.Fast.tw14494037215193455532:Unit:=()
def PySem.W.Fast.tw795876289101836864:Unit:=()
def PySem.W.Fast.tw15396279052666165741:Unit:=()
def PySem.W.Fast.tw4957098778180664447:Unit:=()
def PySem.W.Fast.tw2676653725976665319:Unit:=()
def PySem.W.Fast.tw7689361745976280865:Unit:=()
def PySem.W.Fast.tw8190997632472002644:Unit:=()
def PySem.W.Fast.tw776101465202197917:Unit:=()
def PySem.W.Fast.tw9953650395006111189:Unit:=()
def PySem.W.Fast.tw14277158560338797701:Unit:=()
def PySem.W.Fast.tw14071613324609924239:Unit:=()
def PySem.W.Fast.tw13360435100626165657:Unit:=()
def PySem.W.Fast.tw11814625984156002061:Unit:=()
def PySem.W.Fast.tw3804439222093491559:Unit:=()
def PySem.W.Fast.tw1140174412130475538:Unit:=()
def PySem.W.Fast.tw16813725379703827009:Unit:=()
def PySem.W.Fast.tw4852735613348732380:Unit:=()
def PySem.W.Fast.tw17817335689879449619:Unit:=()
def PySem.W.Fast.tw17937347270129506734:Unit:=()
def PySem.W.Fast.tw2647233820117295953:Unit:=()
def PySem.W.Fast.tw6045002768513662990:Unit:=()
def PySem.W.Fast.tw4720697005841264414:Unit:=()
def PySem.W.Fast.tw5076227423131977450:Unit:=()
def PySem.W.Fast.tw10351149114714720135:Unit:=()
def PySem.W.Fast.tw7111536242784465463:Unit:=()
def PySem.W.Fast.tw13499692294621671957:Unit:=()
def PySem.W.Fast.tw10208783942022300617:Unit:=()
def PySem.W.Fast.tw15155021141026412873:Unit:=()
def PySem.W.Fast.tw7616451256025419942:Unit:=()
def PySem.W.Fast.tw4661871112884323064:Unit:=()
open PySem PySem.W PyProof.Rows
set_option maxRecDepth 100000 in
set_option maxHeartbeats 0 in
theorem PySem.Challenge.cw_creelway_k33_whole_walks_alike_or_parted_holds : PySem.Challenge.rw_creelway_k33_whole_walks_alike_or_parted.Holds := by
 w_on;o_law;k_head;(case hw=>w_witness2)
 k_fill
 refine CW.walk (l:=PySem.Challenge.rw_creelway_k33_whole_walks_alike_or_parted) rfl rfl (fun w h Y=>PySem.W.km_in_of Y) (fun w h Y=>PySem.W.km_tabs_of Y) ?F
 case F =>
  intro w mg fa h KX G hmg
  refine' CW.all_mk (List.Mem.head _) KX G hmg ?ac_BadRow ?ac_BadTrains ?ac_BadSizes ?ac_TooMany ?ac_BadCreel ?ac_BadNumber ?ac_TooNear ?ac_Bare ?ac_CreelError ?ai_CreelError ?li_CreelError ?co_CreelError ?ke_CreelError ?lt_CreelError ?ai_BadCreel ?li_BadCreel ?co_BadCreel ?ke_BadCreel ?lt_BadCreel ?fi_BadCreel ?xi_BadCreel ?xw_BadCreel ?ai_BadNumber ?li_BadNumber ?co_BadNumber ?ke_BadNumber ?lt_BadNumber ?fi_BadNumber ?xi_BadNumber ?xw_BadNumber ?oga ?ore ?ofi ?met ?g1 ?g2 ?g3 ?ex1 ?ex4 ?z_VE ?a0 ?l0 ?c0 ?k0 ?a1 ?l1 ?c1 ?k1 ?a2 ?l2 ?c2 ?k2 ?a3 ?l3 ?c3 ?k3 ?a4 ?l4 ?c4 ?k4 ?a5 ?l5 ?c5 ?k5 ?a6 ?l6 ?c6 ?k6 ?a7 ?l7 ?c7 ?k7 ?a8 ?l8 ?c8 ?k8 ?a9 ?l9 ?c9 ?k9 ?a10 ?l10 ?c10 ?k10 ?a11 ?l11 ?c11 ?k11 ?a12 ?l12 ?c12 ?k12 ?a13 ?l13 ?c13 ?k13 ?a14 ?l14 ?c14 ?k14 ?a15 ?l15 ?c15 ?k15 ?a16 ?l16 ?c16 ?k16 ?a17 ?l17 ?c17 ?k17 ?a18 ?l18 ?c18 ?k18 ?a19 ?l19 ?c19 ?k19 ?a20 ?l20 ?c20 ?k20 ?a21 ?l21 ?c21 ?k21 ?a22 ?l22 ?c22 ?k22 ?a23 ?l23 ?c23 ?k23 ?a24 ?l24 ?c24 ?k24 ?a25 ?l25 ?c25 ?k25 ?a26 ?l26 ?c26 ?k26 ?a27 ?l27 ?c27 ?k27 ?a28 ?l28 ?c28 ?k28 ?a29 ?l29 ?c29 ?k29 ?a30 ?l30 ?c30 ?k30 ?z_len ?z_range ?z_list ?z_tuple ?z_bool ?z_str ?z_int ?z_isinstance ?z_all ?z_sorted ?z_max ?z_min ?z_set ?z_reversed ?z_sum ?z_enumerate ?z_zip ?z_any ?z_abs ?y_MOST_STONES ?hcp ?hlp
  (case ac_BadRow=>k_is)
  (case ac_BadTrains=>k_is)
  (case ac_BadSizes=>k_is)
  (case ac_TooMany=>k_is)
  (case ac_BadCreel=>k_is)
  (case ac_BadNumber=>k_is)
  (case ac_TooNear=>k_is)
  (case ac_Bare=>k_is)
  (case ac_CreelError=>k_is)
  (case ai_CreelError=>k_is)
  (case li_CreelError=>k_is)
  (case co_CreelError=>k_is)
  (case ke_CreelError=>k_is)
  (case lt_CreelError=>k_is)
  (case ai_BadCreel=>k_is)
  (case li_BadCreel=>k_is)
  (case co_BadCreel=>k_is)
  (case ke_BadCreel=>k_is)
  (case lt_BadCreel=>k_is)
  (case fi_BadCreel=>k_is)
  (case xi_BadCreel=>kernel_rfl)
  (case xw_BadCreel=>kernel_rfl)
  (case ai_BadNumber=>k_is)
  (case li_BadNumber=>k_is)
  (case co_BadNumber=>k_is)
  (case ke_BadNumber=>k_is)
  (case lt_BadNumber=>k_is)
  (case fi_BadNumber=>k_is)
  (case xi_BadNumber=>kernel_rfl)
  (case xw_BadNumber=>kernel_rfl)
  (case oga=>k_is)
  (case ore=>k_is)
  (case ofi=>k_is)
  (case met=>kernel_rfl)
  (case g1=>kernel_rfl)
  (case g2=>kernel_rfl)
  (case g3=>kernel_rfl)
  (case ex1=>kernel_rfl)
  (case ex4=>kernel_rfl)
  (case z_VE=>k_is)
  (case a0=>k_is)
  (case l0=>k_is)
  (case c0=>k_is)
  (case k0=>k_is)
  (case a1=>k_is)
  (case l1=>k_is)
  (case c1=>k_is)
  (case k1=>k_is)
  (case a2=>k_is)
  (case l2=>k_is)
  (case c2=>k_is)
  (case k2=>k_is)
  (case a3=>k_is)
  (case l3=>k_is)
  (case c3=>k_is)
  (case k3=>k_is)
  (case a4=>k_is)
  (case l4=>k_is)
  (case c4=>k_is)
  (case k4=>k_is)
  (case a5=>k_is)
  (case l5=>k_is)
  (case c5=>k_is)
  (case k5=>k_is)
  (case a6=>k_is)
  (case l6=>k_is)
  (case c6=>k_is)
  (case k6=>k_is)
  (case a7=>k_is)
  (case l7=>k_is)
  (case c7=>k_is)
  (case k7=>k_is)
  (case a8=>k_is)
  (case l8=>k_is)
  (case c8=>k_is)
  (case k8=>k_is)
  (case a9=>k_is)
  (case l9=>k_is)
  (case c9=>k_is)
  (case k9=>k_is)
  (case a10=>k_is)
  (case l10=>k_is)
  (case c10=>k_is)
  (case k10=>k_is)
  (case a11=>k_is)
  (case l11=>k_is)
  (case c11=>k_is)
  (case k11=>k_is)
  (case a12=>k_is)
  (case l12=>k_is)
  (case c12=>k_is)
  (case k12=>k_is)
  (case a13=>k_is)
  (case l13=>k_is)
  (case c13=>k_is)
  (case k13=>k_is)
  (case a14=>k_is)
  (case l14=>k_is)
  (case c14=>k_is)
  (case k14=>k_is)
  (case a15=>k_is)
  (case l15=>k_is)
  (case c15=>k_is)
  (case k15=>k_is)
  (case a16=>k_is)
  (case l16=>k_is)
  (case c16=>k_is)
  (case k16=>k_is)
  (case a17=>k_is)
  (case l17=>k_is)
  (case c17=>k_is)
  (case k17=>k_is)
  (case a18=>k_is)
  (case l18=>k_is)
  (case c18=>k_is)
  (case k18=>k_is)
  (case a19=>k_is)
  (case l19=>k_is)
  (case c19=>k_is)
  (case k19=>k_is)
  (case a20=>k_is)
  (case l20=>k_is)
  (case c20=>k_is)
  (case k20=>k_is)
  (case a21=>k_is)
  (case l21=>k_is)
  (case c21=>k_is)
  (case k21=>k_is)
  (case a22=>k_is)
  (case l22=>k_is)
  (case c22=>k_is)
  (case k22=>k_is)
  (case a23=>k_is)
  (case l23=>k_is)
  (case c23=>k_is)
  (case k23=>k_is)
  (case a24=>k_is)
  (case l24=>k_is)
  (case c24=>k_is)
  (case k24=>k_is)
  (case a25=>k_is)
  (case l25=>k_is)
  (case c25=>k_is)
  (case k25=>k_is)
  (case a26=>k_is)
  (case l26=>k_is)
  (case c26=>k_is)
  (case k26=>k_is)
  (case a27=>k_is)
  (case l27=>k_is)
  (case c27=>k_is)
  (case k27=>k_is)
  (case a28=>k_is)
  (case l28=>k_is)
  (case c28=>k_is)
  (case k28=>k_is)
  (case a29=>k_is)
  (case l29=>k_is)
  (case c29=>k_is)
  (case k29=>k_is)
  (case a30=>k_is)
  (case l30=>k_is)
  (case c30=>k_is)
  (case k30=>k_is)
  (case z_len=>k_is)
  (case z_range=>k_is)
  (case z_list=>k_is)
  (case z_tuple=>k_is)
  (case z_bool=>k_is)
  (case z_str=>k_is)
  (case z_int=>k_is)
  (case z_isinstance=>k_is)
  (case z_all=>k_is)
  (case z_sorted=>k_is)
  (case z_max=>k_is)
  (case z_min=>k_is)
  (case z_set=>k_is)
  (case z_reversed=>k_is)
  (case z_sum=>k_is)
  (case z_enumerate=>k_is)
  (case z_zip=>k_is)
  (case z_any=>k_is)
  (case z_abs=>k_is)
  (case y_MOST_STONES=>k_is)
  (case hcp=>kernel_rfl)
  (case hlp=>kernel_rfl)
