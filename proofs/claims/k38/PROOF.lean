import PyProof.Rows.All
import Wide.All
import OpenK.AllK
import Wide.FinOn
import Lean
import PyProof.EqAt
import PyProof.EqKinds
import PyProof.TupleCall
import PySem.Challenge.RW_creelway_k38_great_niches_numbered
set_option Elab.async false
set_option linter.all false
set_option maxRecDepth 100000
set_option maxHeartbeats 4000000
section
open PySem PySem.Spec PyProof.Rows
def aAs:=@wpAny_bind
def aAt:=@wpAny_pure
def aAu:=@List.length_map
def aAv:=@Heap.get?_push_of_some
def aAw:=@List.mem_cons_self
def aAx:=@List.mem_cons_of_mem
def aAy:=@List.mem_append_right
def aAz:=@Heap.get?_update_other
def aBA:=@Heap.lt_size
def aBB:=@Heap.get?_push_size
def aBC:=@List.size_toArray
def aBD:=@List.length_append
def aBE:=@List.getElem?_eq_getElem
def aBF:=@List.mem_of_getElem?
def aBG:=@Around.under_plainId
def aBH:=@Bool.false_ne_true
def aBI:=@List.take_length
def aBJ:=@List.map_append
def aBK:=@List.length_take
def aBL:=@Nat.lt_of_lt_of_le
def aBM:=@Array.getElem?_eq_getElem
def aBN:=@Heap.get?_update_self
def aBO:=@List.mem_append_left
def aBP:=@List.length_replicate
def aBQ:=@decide_eq_false
def aBR:=@decide_eq_true
def aBS:=@Nat.ne_of_lt
def aBT:=@List.getElem?_map
def aBU:=@List.map_cons
def aBV:=@Nat.ne_of_gt
def aBW:=@List.foldl_cons
def aBX:=@List.sum_cons
def aBY:=@List.length_cons
def aBZ:=@List.map_map
def aB0:=@List.take_succ
def aB1:=@List.mem_singleton
def aB2:=@List.eq_nil_of_length_eq_zero
def aB3:=@PySem.F.plainAttrs_list
def aB4:=@PySem.F.slot_list_append
def aB5:=@PySem.F.type_list_append
def aB6:=@Option.map_eq_some_iff
def aB7:=@List.getElem?_eq_some_iff
def aB8:=@List.mem_cons
def aB9:=@List.mem_append
def aBa:=@List.mem_map
def aBb:=@List.mem_filter
end
namespace L2
open PySem PySem.Spec PyProof.Rows
abbrev Key:=Sum Int Str
def oH:Key->Value->Bool
 | .inl k,v=>Value.isInt k v
 | .inr x,v=>Value.isStrOf x v
def aA0 (w:World):Key->Int
 | .inl k=>hashInt k
 | .inr x=>hashStr w x
theorem bV:∀ {k:Key} {v:Value},oH k v=true->(∃ i t,k=Sum.inl i/\v=Value.int i t)\/(∃ x t,k=Sum.inr x/\v=Value.str x t)
 | .inl i,v,h=>by
  obtain⟨t,e⟩:=Value.isInt_shape (k:=i) (v:=v) h;exact .inl ⟨i,t,rfl,e⟩
 | .inr x,v,h=>by
  obtain⟨t,e⟩:=Value.isStrOf_shape (x:=x) (v:=v) h;exact .inr ⟨x,t,rfl,e⟩
theorem B3 (i:Int) (t:Tok):oH (.inl i) (.int i t)=true:=by simp[oH,Value.isInt]
theorem B4 (x:Str) (t:Tok):oH (.inr x) (.str x t)=true:=by simp[oH,Value.isStrOf]
theorem d9 (a b:Int):decide ((Sum.inl a:Key)=Sum.inl b)=(a == b):=by
 by_cases e:a=b
 ·subst e;simp
 ·have h:¬ (Sum.inl a:Key)=Sum.inl b:=fun q=>e (Sum.inl.inj q);rw[aBQ h];exact(beq_eq_false_iff_ne.mpr e).symm
theorem e7 (a b:Str):decide ((Sum.inr a:Key)=Sum.inr b)=decide (a=b):=by
 by_cases e:a=b
 ·subst e;simp
 ·have h:¬ (Sum.inr a:Key)=Sum.inr b:=fun q=>e (Sum.inr.inj q);rw[aBQ h,aBQ e]
theorem e8 (a:Int) (b:Str):decide ((Sum.inl a:Key)=Sum.inr b)=false:=aBQ (fun q=>nomatch q)
theorem e9 (a:Str) (b:Int):decide ((Sum.inr a:Key)=Sum.inl b)=false:=aBQ (fun q=>nomatch q)
def bJ (prog:Program) (w:World):PySem.KeyKind prog w Key where
 is:=oH
 hash:=aA0 w
 inj:=fun v a b ha hb=>by
  rcases bV ha with ⟨i,t,rfl,rfl⟩ | ⟨x,t,rfl,rfl⟩
  ·rcases bV hb with ⟨j,u,rfl,e⟩ | ⟨y,u,rfl,e⟩
   ·injection e with e1 _;rw[e1]
   ·exact nomatch e
  ·rcases bV hb with ⟨j,u,rfl,e⟩ | ⟨y,u,rfl,e⟩
   ·exact nomatch e
   ·injection e with e1 _;rw[e1]
 byValue:=fun k v h=>by
  rcases bV h with ⟨i,t,rfl,rfl⟩ | ⟨x,t,rfl,rfl⟩ <;> rfl
 pyHash:=fun hv h=>by
  rcases bV hv with ⟨i,t,rfl,rfl⟩ | ⟨x,t,rfl,rfl⟩
  ·exact wpAny_pyHash_int h
  ·exact wpAny_pyHash_str h
 eqBool:=fun hu hv h=>by
  rcases bV hu with ⟨i,t,rfl,rfl⟩ | ⟨x,t,rfl,rfl⟩
  ·rcases bV hv with ⟨j,u,rfl,rfl⟩ | ⟨y,u,rfl,rfl⟩
   ·rw[d9]at h;exact wpAny_eqBool_int h
   ·rw[e8]at h;exact SeqAt.EqAt.int_str i t y u _ _ _ _ h
  ·rcases bV hv with ⟨j,u,rfl,rfl⟩ | ⟨y,u,rfl,rfl⟩
   ·rw[e9]at h;exact SeqAt.EqAt.str_int x t j u _ _ _ _ h
   ·rw[e7]at h;exact wpAny_eqBool_str h
 «strs»:=fun k x t v h=>by
  rcases bV h with ⟨i,u,rfl,e⟩ | ⟨y,u,rfl,e⟩
  ·exact nomatch e
  ·injection e with e1 _
   subst e1;cases v <;> rfl
theorem oI (prog:Program) (w:World) (k:Key) (v:Value):(bJ prog w).is k v=oH k v:=rfl
theorem uO (prog:Program) (w:World) (i:Int) (t:Tok):(bJ prog w).is (.inl i) (.int i t)=true:=B3 i t
theorem uP (prog:Program) (w:World) (x:Str) (t:Tok):(bJ prog w).is (.inr x) (.str x t)=true:=B4 x t
inductive V where
 | non | bl (b:Bool) | int (i:Int) | str (x:Str) | byt (b:Array UInt8) | flt (b:UInt64) | ref (a:Addr) | ty (n:String)
 deriving DecidableEq
def RelV:V->Value->Prop
 | .non,u=>u=Value.none
 | .bl b,u=>u=Value.bool b
 | .int i,u=>∃ t,u=Value.int i t
 | .str x,u=>∃ t,u=Value.str x t
 | .byt b,u=>∃ t,u=Value.bytes b t
 | .flt b,u=>∃ t,u=Value.float b t
 | .ref a,u=>u=Value.ref a
 | .ty n,u=>u=Value.type n
abbrev Vals:List V->List Value->Prop:=Paired RelV
theorem Vals.length {xs:List V} {us:List Value} (r:Vals xs us):xs.length=us.length:=Paired.length r
theorem Vals.get:∀ {xs:List V} {us:List Value} {i:Nat} {x:V},Vals xs us->xs[i]?=some x->∃ u,us[i]?=some u/\RelV x u
 | _,_,_,_,.nil,e=>by simp at e
 | _,_,0,_,.cons r _,e=>by simp at e;subst e;exact⟨_,rfl,r⟩
 | _,_,i+1,x,.cons _ t,e=>by
  obtain⟨u,h1,h2⟩:=Vals.get (i:=i) (x:=x) t (by simpa using e);exact⟨u,by simpa using h1,h2⟩
theorem Vals.set {x:V} {u:Value} (r:RelV x u):∀ {xs:List V} {us:List Value} (i:Nat),Vals xs us->Vals (xs.set i x) (us.set i u)
 | _,_,_,.nil=>.nil
 | _,_,0,.cons _ t=>.cons r t
 | _,_,i+1,.cons q t=>.cons q (Vals.set r i t)
theorem Vals.append:∀ {xs ys:List V} {us ws:List Value},Vals xs us->Vals ys ws->Vals (xs++ys) (us++ws)
 | _,_,_,_,.nil,s=>s
 | _,_,_,_,.cons r t,s=>.cons r (Vals.append t s)
theorem Vals.take:∀ {xs:List V} {us:List Value} (n:Nat),Vals xs us->Vals (xs.take n) (us.take n)
 | _,_,0,_=>.nil
 | _,_,_+1,.nil=>.nil
 | _,_,n+1,.cons r t=>.cons r (Vals.take n t)
theorem Vals.drop:∀ {xs:List V} {us:List Value} (n:Nat),Vals xs us->Vals (xs.drop n) (us.drop n)
 | _,_,0,r=>r
 | _,_,_+1,.nil=>.nil
 | _,_,n+1,.cons _ t=>Vals.drop n t
def RelO:Option V->Option Value->Prop
 | some v,some u=>RelV v u
 | none,none=>True
 | _,_=>False
def KV {κ:Type}:List (κ×V)->List (κ×Value)->Prop:=Paired fun(p:κ×V) (q:κ×Value)=>p.1=q.1/\RelV p.2 q.2
def kV:Key->V
 | .inl i=>.int i
 | .inr x=>.str x
inductive HO where
 | lst (xs:List V)
 | tup (xs:List V)
 | dK (kvs:List (Key×V)) | dT (kvs:List (List Key×V))
 | set (S:Int->Bool) (n:Nat)
 | ins (C dx:Addr) (fs:List (Str×V))
 | own (x:Addr)
 | xd (fs:List (Str×V))
 | met (f x:Addr)
 | rng (lo hi:Int)
 | frz (o:Obj) (u:HO)
 | tbl (ps:Array Value)
 | ext (φ:Heap->Prop)
abbrev Hp:=Addr->Option HO
def upd (H:Hp) (a:Addr) (o:HO):Hp:=fun b=>if b=a then some o else H b
theorem aB {H:Hp} {a:Addr} {o:HO}:upd H a o a=some o:=by unfold upd;rw[if_pos rfl]
theorem aC {H:Hp} {a b:Addr} {o:HO} (h:b≠a):upd H a o b=H b:=by unfold upd;rw[if_neg h]
theorem fH {H:Hp} {a b:Addr} {o u:HO} (h:H a=some o) (h':H b=some u) (d:o≠u):a≠b:=by
 intro e;subst e;rw[h]at h';exact d (Option.some.inj h')
theorem aN {H:Hp} {a b:Addr} {o:HO} (h:H a=some o) (h':H b=none):a≠b:=by
 intro e;subst e;rw[h]at h';cases h'
section
variable (P:Program) (w:World)
def ObjOk (H:Hp) (h:Heap) (a:Addr):HO->Prop
 | .lst xs=>xs.length<=sizeLine/\∃ (its:List Value) (n:Nat),Vals xs its/\h.get? a=some { cls:=.type "list",data:=.seq its.toArray n }
 | .tup xs=>xs.length<=sizeLine/\∃ its:List Value,Vals xs its/\IsTup h a its.toArray
 | .dK kvs=>kvs.length<=sizeLine/\(a == sysModules)=false/\∃ vs,KV kvs vs/\h.DictOf (bJ P w) a vs
 | .dT kvs=>kvs.length<=sizeLine/\(a == sysModules)=false/\∃ xs:List (List Key×Addr×Value),
  Paired (fun(p:List Key×V) (q:List Key×Addr×Value)=>p.1=q.1/\H q.2.1=some (.tup (p.1.map kV))/\RelV p.2 q.2.2) kvs xs /\
  ∃ o es ep,h.get? a=some o/\o.ExactDict/\o.data=.dict es ep/\es.toList=xs.map (entryOfKey (tupleKind (bJ P w)))/\(xs.map (·.1)).Nodup
 | .set S n=>h.SetOf (intKind P w) a S n
 | .ins C dx fs=>H dx=some (.own a)/\fs.length<=1000/\dx≠a/\h.get? a=some (PySem.W.instObj C dx) /\
  ∃ mA,h.Ns1 dx mA/\(∀ f,RelO (fs.lookup f) (mA f))/\PySem.Within mA (fs.map (·.1))
 | .own _=>∃ o,h.get? a=some o
 | .xd fs=>∃ mA,h.Ns1 a mA/\∀ f,RelO (fs.lookup f) (mA f)
 | .rng lo hi=>∃ t u v,h.get? a=some { cls:=.type "range",data:=.fields #[.int lo t,.int hi u,.int 1 v] }
 | .frz o u=>h.get? a=some o/\ObjOk H h a u
 | .tbl ps=>h.get? a=some { cls:=.none,data:=.fields ps }
 | .met f x=>h.get? a=some (PySem.W.methodObj (.ref f) (.ref x))
 | .ext φ=>φ h/\(∃ o,h.get? a=some o)/\∀ h1 h2:Heap,φ h1->(∀ o,h1.get? a=some o->h2.get? a=some o)->φ h2
def HOk (H:Hp) (h:Heap):Prop:=∀ a o,H a=some o->ObjOk P w H h a o
end
section
variable {P:Program} {w:World} {H H':Hp} {h h':Heap} {a:Addr} {o:HO}
theorem ObjOk.lt (x:ObjOk P w H h a o):a<h.objs.size:=by
 cases o with
 | lst xs=>obtain⟨_,_,_,_,e⟩:=x;exact aBA e
 | tup xs=>obtain⟨_,_,_,p⟩:=x;exact p.lt
 | dK kvs=>obtain⟨_,_,_,_,o,_,_,e,_⟩:=x;exact aBA e
 | dT kvs=>obtain⟨_,_,_,_,o,_,_,e,_⟩:=x;exact aBA e
 | set S n=>obtain⟨o,_,_,_,e,_⟩:=x;exact aBA e
 | ins C dx fs=>obtain⟨_,_,_,e,_⟩:=x;exact aBA e
 | own y=>obtain⟨_,e⟩:=x;exact aBA e
 | xd fs=>obtain⟨_,⟨_,_,_,e,_⟩,_⟩:=x;exact aBA e
 | rng lo hi=>obtain⟨_,_,_,e⟩:=x;exact aBA e
 | frz ob u=>obtain⟨e,_⟩:=x;exact aBA e
 | tbl ps=>exact aBA (show h.get? a=some _ from x)
 | met f y=>exact aBA (show h.get? a=some _ from x)
 | ext φ=>obtain⟨_,⟨_,e⟩,_⟩:=x;exact aBA e
theorem Paired.mapP {α β:Type} {F G:α->β->Prop}:∀ {l₁:List α} {l₂:List β},Paired F l₁ l₂->(∀ a b,F a b->G a b)->Paired G l₁ l₂
 | _,_,.nil,_=>.nil
 | _,_,.cons r t,f=>.cons (f _ _ r) (Paired.mapP t f)
theorem ObjOk.stay (x:ObjOk P w H h a o) (k:∀ b u,(b=a\/H b=some (.own a))->h.get? b=some u->h'.get? b=some u)
 (ho:∀ b,H b=some (.own a)->H' b=some (.own a)) (ht:∀ b xs,H b=some (.tup xs)->H' b=some (.tup xs)):ObjOk P w H' h' a o:=by
 induction o with
 | lst xs=>obtain⟨z,its,n,r,e⟩:=x;exact⟨z,its,n,r,k _ _ (.inl rfl) e⟩
 | tup xs=>obtain⟨z,its,r,ob,e,c⟩:=x;exact⟨z,its,r,ob,k _ _ (.inl rfl) e,c⟩
 | dK kvs=>obtain⟨z,y,vs,r,ob,es,ep,e,c⟩:=x;exact⟨z,y,vs,r,ob,es,ep,k _ _ (.inl rfl) e,c⟩
 | dT kvs =>
  obtain⟨z,y,xs,r,ob,es,ep,e,c⟩:=x;exact⟨z,y,xs,Paired.mapP r fun p q z=>⟨z.1,ht _ _ z.2.1,z.2.2⟩,ob,es,ep,k _ _ (.inl rfl) e,c⟩
 | set S n=>obtain⟨ob,es,ep,t,e,c⟩:=x;exact⟨ob,es,ep,t,k _ _ (.inl rfl) e,c⟩
 | ins C dx fs =>
  obtain⟨d,z,ne,e,mA,⟨od,es,ep,e2,c⟩,r⟩:=x;exact⟨ho _ d,z,ne,k _ _ (.inl rfl) e,mA,⟨od,es,ep,k _ _ (.inr d) e2,c⟩,r⟩
 | own y=>obtain⟨ob,e⟩:=x;exact⟨ob,k _ _ (.inl rfl) e⟩
 | xd fs=>obtain⟨mA,⟨od,es,ep,e,c⟩,r⟩:=x;exact⟨mA,⟨od,es,ep,k _ _ (.inl rfl) e,c⟩,r⟩
 | rng lo hi=>obtain⟨t,u,v,e⟩:=x;exact⟨t,u,v,k _ _ (.inl rfl) e⟩
 | frz ob u ih=>obtain⟨e,q⟩:=x;exact⟨k _ _ (.inl rfl) e,ih q⟩
 | tbl ps =>
  have e:h.get? a=some { cls:=.none,data:=.fields ps }:=x;show h'.get? a=some { cls:=.none,data:=.fields ps };exact k a _ (.inl rfl) e
 | met f y =>
  have e:h.get? a=some (PySem.W.methodObj (.ref f) (.ref y)):=x;show h'.get? a=some (PySem.W.methodObj (.ref f) (.ref y));exact k a _ (.inl rfl) e
 | ext φ=>obtain⟨p,⟨o,e⟩,st⟩:=x;exact⟨st _ _ p fun o q=>k _ _ (.inl rfl) q,⟨o,k _ _ (.inl rfl) e⟩,st⟩
theorem HOk.lt (x:HOk P w H h) (e:H a=some o):a<h.objs.size:=(x a o e).lt
theorem HOk.fresh (x:HOk P w H h) (e:h.objs.size<=a):H a=none:=by
 cases q:H a with
 | none=>rfl
 | some u=>exact absurd (aBL (x.lt q) e) (Nat.lt_irrefl _)
theorem HOk.kept (x:HOk P w H h) (k:∀ b u,h.get? b=some u->h'.get? b=some u):HOk P w H h':=fun a o e =>
 (x a o e).stay (fun b u _ q=>k b u q) (fun _ q=>q) fun _ _ q=>q
theorem HOk.laid (x:HOk P w H h) (k:∀ b u,h.get? b=some u->h'.get? b=some u) (hp:h.objs.size<=a) (new:ObjOk P w (upd H a o) h' a o):HOk P w (upd H a o) h':=fun b u e=>by
 have hn:=x.fresh hp
 by_cases hb:b=a
 ·subst hb;rw[aB]at e;cases e;exact new
 ·rw[aC hb]at e;exact(x b u e).stay (fun c v _ q=>k c v q) (fun c q=>by rw[aC (aN q hn)];exact q) fun c xs q=>by rw[aC (aN q hn)];exact q
end
def Rd (H:Hp) (a:Addr) (u:HO):Prop:=H a=some u\/∃ o,H a=some (.frz o u)
theorem Rd.ok {P:Program} {w:World} {H:Hp} {h:Heap} {a:Addr} {u:HO} (r:Rd H a u) (x:HOk P w H h):ObjOk P w H h a u:=by
 rcases r with r | ⟨o,r⟩
 ·exact x a u r
 ·obtain⟨_,q⟩:=x a _ r;exact q
def Mut:Option HO->Prop
 | some (.lst _)=>True
 | some (.dK _)=>True
 | some (.dT _)=>True
 | some (.set _ _)=>True
 | some (.ins _ _ _)=>True
 | some (.ext _)=>True
 | _=>False
section
variable {P:Program} {w:World} {H:Hp} {h h':Heap} {x e:Addr} {o':HO}
theorem HOk.write (ok:HOk P w H h) (mu:Mut (H x)) (he:e=x\/H e=some (.own x)) (k:∀ b u,b≠e->h.get? b=some u->h'.get? b=some u) (heo:∃ u,h'.get? e=some u)
 (new:ObjOk P w (upd H x o') h' x o'):HOk P w (upd H x o') h':=fun b u q=>by
 have nown:∀ c y,H c=some (.own y)->c≠x:=fun c y r z=>by subst z;rw[r]at mu;exact mu
 have ntup:∀ c xs,H c=some (.tup xs)->c≠x:=fun c xs r z=>by subst z;rw[r]at mu;exact mu
 by_cases hb:b=x
 ·subst hb;rw[aB]at q;cases q;exact new
 ·rw[aC hb]at q
  by_cases hbe:b=e
  ·have q':H b=some (.own x):=by
    rcases he with z | z
    ·exact absurd (hbe.trans z) hb
    ·rw[hbe];exact z
   rw[q]at q';cases q';obtain⟨v,hv⟩:=heo;exact⟨v,by rw[hbe];exact hv⟩
  ·refine(ok b u q).stay (fun c v hc r=>k c v ?_ r) (fun c r=>by rw[aC (nown c b r)];exact r) fun c xs r=>by rw[aC (ntup c xs r)];exact r
   rcases hc with rfl | hc
   ·exact hbe
   ·rintro rfl;rcases he with z | z
    ·exact nown c b hc z
    ·rw[hc]at z;cases z;exact hb rfl
end
structure Un (fs ex:List Addr) (H H':Hp) (h h':Heap):Prop where
 keep:∀ b o,h.get? b=some o->H b=none->b∉fs->b∉ex->h'.get? b=some o
 slot:∀ b o,h.get? b=some o->H b=none->b∈fs->b∉ex->∃ sl,h'.get? b=some { o with slots:=sl }
 free:∀ b o,h.get? b=some o->H b=none->b∉ex->H' b=none
 there:∀ b o,h.get? b=some o->b∉ex->∃ o',h'.get? b=some o'
 tups:∀ b xs,H b=some (.tup xs)->H' b=some (.tup xs)
 frzs:∀ b o u,H b=some (.frz o u)->H' b=some (.frz o u)
 tbls:∀ b ps,H b=some (.tbl ps)->∃ more,H' b=some (.tbl (ps++more))
section
variable {fs fs' ex ex':List Addr} {H H1 H2:Hp} {h h1 h2 h':Heap} {a x e:Addr} {o:HO}
theorem Un.any (u:Un fs ex H H1 h h1) {b:Addr} {ob:Obj} (q:h.get? b=some ob) (n:H b=none) (hx:b∉ex):∃ sl,h1.get? b=some { ob with slots:=sl }:=by
 by_cases hb:b∈fs
 ·exact u.slot b ob q n hb hx
 ·exact⟨ob.slots,u.keep b ob q n hb hx⟩
theorem Un.trans (a:Un fs ex H H1 h h1) (b:Un fs ex H1 H2 h1 h2):Un fs ex H H2 h h2 where
 keep:=fun c ob q n hc hx=>b.keep c ob (a.keep c ob q n hc hx) (a.free c ob q n hx) hc hx
 slot:=fun c ob q n hc hx=>by
  obtain⟨sl,e1⟩:=a.slot c ob q n hc hx;obtain⟨sl',e2⟩:=b.slot c _ e1 (a.free c ob q n hx) hc hx;exact⟨sl',e2⟩
 free:=fun c ob q n hx=>by
  obtain⟨o',e1⟩:=a.there c ob q hx;exact b.free c o' e1 (a.free c ob q n hx) hx
 there:=fun c ob q hx=>by
  obtain⟨o',e1⟩:=a.there c ob q hx;exact b.there c o' e1 hx
 tups:=fun c xs q=>b.tups c xs (a.tups c xs q)
 frzs:=fun c ob xs q=>b.frzs c ob xs (a.frzs c ob xs q)
 tbls:=fun c ps q=>by
  obtain⟨m1,e1⟩:=a.tbls c ps q;obtain⟨m2,e2⟩:=b.tbls c _ e1;exact⟨m1++m2,by rw[e2,Array.append_assoc]⟩
theorem Un.kept (k:∀ b u,h.get? b=some u->h'.get? b=some u):Un fs ex H H h h' :=
 ⟨fun b ob q _ _ _=>k b ob q,fun b ob q _ _ _=>⟨ob.slots,k b ob q⟩,fun _ _ _ n _=>n,fun b ob q _=>⟨ob,k b ob q⟩,fun _ _ q=>q,fun _ _ _ q=>q,fun _ ps q=>⟨#[],by rw[q];simp⟩⟩
theorem Un.refl:Un fs ex H H h h:=Un.kept fun _ _ q=>q
theorem Un.laid (k:∀ b u,h.get? b=some u->h'.get? b=some u) (hp:h.objs.size<=a) (hn:H a=none):Un fs ex H (upd H a o) h h' where
 keep:=fun b u q _ _ _=>k b u q
 slot:=fun b u q _ _ _=>⟨u.slots,k b u q⟩
 free:=fun b u q n _=>by rw[aC (aBS (aBL (aBA q) hp))];exact n
 there:=fun b u q _=>⟨u,k b u q⟩
 tups:=fun b xs q=>by rw[aC (aN q hn)];exact q
 frzs:=fun b u xs q=>by rw[aC (aN q hn)];exact q
 tbls:=fun b ps q=>⟨#[],by rw[aC (aN q hn),q];simp⟩
theorem Un.write (mu:Mut (H x)) (he:e=x\/H e=some (.own x)) (k:∀ b u,b≠e->h.get? b=some u->h'.get? b=some u) (heo:∃ u,h'.get? e=some u):Un fs ex H (upd H x o) h h':=by
 have hx:∀ b,H b=none->b≠x:=fun b n z=>by subst z;rw[n]at mu;exact mu
 have hb:∀ b,H b=none->b≠e:=fun b n z=>by
  subst z;rcases he with r | r
  ·exact hx b n r
  ·rw[n]at r;cases r
 have hm:∀ b u,H b=some u->¬ Mut (some u)->b≠x:=fun b u q nm z=>by subst z;rw[q]at mu;exact nm mu
 refine⟨fun b u q n _ _=>k b u (hb b n) q,fun b u q n _ _=>⟨u.slots,k b u (hb b n) q⟩,fun b u q n _=>by rw[aC (hx b n)];exact n,fun b u q _=>?_,
  fun b xs q=>by rw[aC (hm b _ q fun z=>z)];exact q,fun b u xs q=>by rw[aC (hm b _ q fun z=>z)];exact q,fun b ps q=>⟨#[],by rw[aC (hm b _ q fun z=>z),q];simp⟩⟩
 by_cases hbe:b=e
 ·subst hbe;exact heo
 ·exact⟨u,k b u hbe q⟩
end
def trk (h:Heap) (H:Hp):List Addr:=(List.range h.objs.size).filter fun a=>(H a).isSome
def oJ (h:Heap) (H:Hp):Heap:=PySem.W.hideAll h (trk h H)
theorem B6 (h:Heap) (H:Hp):(oJ h H).objs.size=h.objs.size:=PySem.W.hideAll_size _ _
theorem J9 {h:Heap} {H:Hp} {b:Addr} {o:Obj} (e:h.get? b=some o) (n:H b=none):(oJ h H).get? b=some o :=
 PySem.W.hideAll_get _ e fun hm=>by
  have q:(H b).isSome=true:=(aBb.mp hm).2;rw[n]at q;simp at q
theorem U8 {h:Heap} {H:Hp} {b:Addr} {o:Obj} (e:(oJ h H).get? b=some o):h.get? b=some o/\H b=none:=by
 have e':h.get? b=some o:=PySem.W.of_hideAll (trk h H) e;refine⟨e',?_⟩;cases q:H b with
 | none=>rfl
 | some x =>
  have hm:b∈trk h H:=aBb.mpr ⟨List.mem_range.mpr (aBA e'),by simp[q]⟩;have z:(oJ h H).get? b=none:=PySem.W.hideAll_none (trk h H) hm;rw[z]at e;cases e
def U9 (g h:Heap) (L:Addr):List (Addr×Obj):=(List.range h.objs.size).filterMap fun a=>if a=L\/(g.get? a).isSome=true then none else (h.get? a).map fun o=>(a,o)
def rest (g h:Heap) (L d:Addr):List (Addr×Obj):=(U9 g h L).filter fun p=>decide (p.1≠d)
structure Mod (K:PySem.W.Frag) (mg:Str->Option Value) (base:Heap):Prop where
 kin:K.In base
 glob:base.Ns mainGlobals mg
 blt:∃ mb,base.Ns builtinsNs mb/\∀ x:Str,x≠"__name__"->mb x=bootBuiltins x
 nolimit:base.NoLimit
structure Cx where
 prog:Program
 w:World
 K:PySem.W.Frag
 mg:Str->Option Value
 base:Heap
 A:Around
 N:List Str
 s₀:Shared
 H₀:Hp
 env:Env
 outer:List Env
 stack:List Env
 ex:List Addr
 fn:Str->Bool
 calm:Bool
 pn:List (Addr×Obj)
 xe:Value->Shared->Prop
def frs (l:List Env):List Addr:=l.filterMap (·.frame)
abbrev Cx.fs (X:Cx):List Addr:=frs X.outer
def Vis (sc:Scope) (x:Str):Prop:=sc.names.lookup x=some .local\/sc.names.lookup x=some .cell\/sc.names.lookup x=some .free
def Loc (sc:Scope) (x:Str):Prop:=sc.names.lookup x=some .local\/sc.names.lookup x=some .cell
def aA1 (env:Env) (h:Heap) (m:Str->Option Value) (x:Str) (u:Value):Prop :=
 (env.kindOf x=some .local/\m x=some u)\/((env.kindOf x=some .cell\/env.kindOf x=some .free)/\∃ c,env.cells.lookup x=some c/\h.IsCell c (some u))
structure Cx.Ok (X:Cx):Prop where
 mod:Mod X.K X.mg X.base
 kind:X.env.scope.kind=.function
 glob:X.env.globals=mainGlobals
 blt:X.env.builtins=builtinsNs
 above:X.s₀.heap.objs.size<=X.env.locals
 inj:∀ x y c,X.env.cells.lookup x=some c->X.env.cells.lookup y=some c->x=y
 has:∀ x,(X.env.kindOf x=some .cell\/X.env.kindOf x=some .free)->∃ c,X.env.cells.lookup x=some c
 cab:∀ x c,X.fn x=true->X.env.cells.lookup x=some c->X.s₀.heap.objs.size<=c
 hd:X.calm=true->X.A.handled=none
 frames:X.A.frames=some X.stack
 stk:X.stack=X.outer\/(X.stack=X.env :: X.outer/\X.env.frame=some X.env.locals)
 exf:∀ b∈X.ex,b≠X.env.locals/\∀ x c,X.env.cells.lookup x=some c->c≠b
 bs:∀ b o,X.base.get? b=some o->X.s₀.heap.get? b=some o/\X.H₀ b=none
 bsz:X.base.objs.size<=X.s₀.heap.objs.size
 noex:∀ b o,X.base.get? b=some o->b∉X.ex
 exfs:∀ b∈X.ex,b∉X.fs
 funs:X.s₀.heap.FunFrames X.base X.outer
 frf:∀ b∈X.fs,X.H₀ b=none
structure Inv (X:Cx) (pins:List (Addr×Obj)) (σ:List (Option V)) (H:Hp) (s:Shared):Prop where
 ok:X.Ok
 os:s.os=X.s₀.os
 bare:AllBare s.gens
 base:Un X.fs X.ex X.H₀ H X.s₀.heap s.heap
 loc:∃ m,s.heap.Ns X.env.locals m/\∀ (i:Nat) (x:Str) (v:V),X.N[i]?=some x->σ[i]?=some (some v)->Vis X.env.scope x->∃ u,RelV v u/\aA1 X.env s.heap m x u
 cell:∀ x c,X.env.cells.lookup x=some c->∃ v,s.heap.IsCell c v
 free:H X.env.locals=none
 freeC:∀ x c,X.env.cells.lookup x=some c->H c=none
 pin:∀ p∈X.pn++pins,s.heap.get? p.1=some p.2/\H p.1=none/\p.1≠X.env.locals/\p.1∉X.fs/\∀ v,p.2.data≠.cell v
 hok:HOk X.prog X.w H s.heap
 len:σ.length=X.N.length
section
variable {X:Cx} {pins:List (Addr×Obj)} {σ:List (Option V)} {H H':Hp} {s:Shared} {h':Heap}
theorem Cx.Ok.nofr (ok:X.Ok) {b:Addr} {o:Obj} (e:X.base.get? b=some o):b∉X.fs:=fun hb=>by
 have:=(ok.funs.mem hb).1;rw[e]at this;cases this
theorem Inv.bs (I:Inv X pins σ H s):∀ b o,X.base.get? b=some o->s.heap.get? b=some o/\H b=none:=fun b o e =>
 ⟨I.base.keep b o (I.ok.bs b o e).1 (I.ok.bs b o e).2 (I.ok.nofr e) (I.ok.noex b o e),I.base.free b o (I.ok.bs b o e).1 (I.ok.bs b o e).2 (I.ok.noex b o e)⟩
theorem Inv.bk (I:Inv X pins σ H s):∀ b o,X.base.get? b=some o->s.heap.get? b=some o:=fun b o e=>(I.bs b o e).1
theorem Inv.mod (I:Inv X pins σ H s):Mod X.K X.mg X.base:=I.ok.mod
theorem Inv.kIn (I:Inv X pins σ H s):X.K.In s.heap:=I.ok.mod.kin.keeps I.bk
theorem Inv.nolimit (I:Inv X pins σ H s):s.heap.NoLimit:=I.ok.mod.nolimit.keeps I.bk
theorem Inv.fr (I:Inv X pins σ H s):∃ m,Fr X.base X.env.locals s.heap m :=
 let ⟨m,hn,_⟩:=I.loc
 ⟨m,hn,I.bk,Nat.le_trans I.ok.bsz I.ok.above⟩
theorem Inv.lt (I:Inv X pins σ H s):X.env.locals<s.heap.objs.size:=let ⟨_,hn,_⟩:=I.loc;hn.lt
theorem Inv.sz (I:Inv X pins σ H s):X.s₀.heap.objs.size<=s.heap.objs.size:=Nat.le_trans I.ok.above (Nat.le_of_lt I.lt)
theorem Inv.nofs (I:Inv X pins σ H s) {a:Addr} (h:s.heap.objs.size<=a):a∉X.fs:=fun hb=>by
 obtain⟨_,o,ho,_⟩:=I.ok.funs.mem hb;exact absurd (aBL (aBA ho) (Nat.le_trans I.sz h)) (Nat.lt_irrefl _)
theorem Inv.cne (I:Inv X pins σ H s):∀ x c,X.env.cells.lookup x=some c->c≠X.env.locals:=fun x c e z=>by
 obtain⟨v,o,ho,hd⟩:=I.cell x c e;obtain⟨m,⟨o',es,ep,ho',hd',_⟩,_⟩:=I.loc;rw[z,ho']at ho;cases ho;rw[hd']at hd;cases hd
theorem Inv.funs (I:Inv X pins σ H s):s.heap.FunFrames X.base X.outer:=by
 have all:∀ (l:List Env),(∀ b∈frs l,b∈X.fs)->X.s₀.heap.FunFrames X.base l->s.heap.FunFrames X.base l:=by
  intro l
  induction l with
  | nil=>intro _ _;trivial
  | cons env r ih =>
   intro hs hl;obtain⟨hk,⟨L,o,hf,hn,ho,hd⟩,hr⟩:=hl;have hL:L∈X.fs:=hs L (by unfold frs;rw[List.filterMap_cons,hf];exact aAw);obtain⟨sl,e⟩:=I.base.slot L o ho (I.ok.frf L hL) hL fun z=>I.ok.exfs L z hL;exact⟨hk,⟨L,_,hf,hn,e,hd⟩,ih (fun b hb=>hs b (by unfold frs;rw[List.filterMap_cons,hf];exact aAx _ hb)) hr⟩
 exact all X.outer (fun _ hb=>hb) I.ok.funs
theorem Inv.stack (I:Inv X pins σ H s):s.heap.FunFrames X.base X.stack:=by
 rcases I.ok.stk with e | ⟨e,hf⟩
 ·rw[e];exact I.funs
 ·rw[e];obtain⟨m,hn,_⟩:=I.loc;refine .cons (by rw[I.ok.kind];decide) hf hn ?_ I.funs;exact Heap.get?_none_of_le (Nat.le_trans I.ok.bsz I.ok.above)
theorem Inv.stkSub (I:Inv X pins σ H s):∀ b∈frs X.stack,b∈X.env.locals :: X.fs:=fun b hb=>by
 rcases I.ok.stk with e | ⟨e,hf⟩
 ·rw[e]at hb;exact aAx _ hb
 ·rw[e]at hb;unfold frs at hb;rw[List.filterMap_cons,hf]at hb;exact hb
theorem Inv.stkFree (I:Inv X pins σ H s):∀ b∈frs X.stack,H b=none:=fun b hb=>by
 rcases aB8.mp (I.stkSub b hb)with e | hb
 ·rw[e];exact I.free
 ·obtain⟨_,o,ho,_⟩:=I.ok.funs.mem hb;exact I.base.free b o ho (I.ok.frf b hb) fun z=>I.ok.exfs b z hb
theorem Inv.step {g':Array GenState} {t':Nat} {d':Drawn} {ch:List Addr} (I:Inv X pins σ H s)
 (hch:∀ b∈ch,(b∈X.ex\/X.s₀.heap.objs.size<=b)/\b≠X.env.locals/\(∀ x c,X.env.cells.lookup x=some c->c≠b)/\∀ p∈X.pn++pins,p.1≠b)
 (keep:∀ b o,b≠X.env.locals->b∉X.fs->b∉ch->s.heap.get? b=some o->H b=none->h'.get? b=some o)
 (slot:∀ b o,b≠X.env.locals->b∈X.fs->b∉ch->s.heap.get? b=some o->H b=none->∃ sl,h'.get? b=some { o with slots:=sl }) (free:∀ b o,b∉ch->s.heap.get? b=some o->H b=none->H' b=none)
 (there:∀ b o,b∉ch->s.heap.get? b=some o->∃ o',h'.get? b=some o')
 (tups:∀ b xs,H b=some (.tup xs)->H' b=some (.tup xs)) (frzs:∀ b o u,H b=some (.frz o u)->H' b=some (.frz o u)) (tbls:∀ b ps,H b=some (.tbl ps)->∃ more,H' b=some (.tbl (ps++more)))
 (ns:∀ m,s.heap.Ns X.env.locals m->h'.Ns X.env.locals m) (hok:HOk X.prog X.w H' h') (hg:AllBare g') :
 Inv X pins σ H' { s with heap:=h',gens:=g',drawn:=d',toks:=t' }:=by
 have neL:∀ b o,X.s₀.heap.get? b=some o->b≠X.env.locals:=fun b o e=>aBS (aBL (aBA e) I.ok.above);have neC:∀ b o,X.s₀.heap.get? b=some o->b∉X.ex->b∉ch:=fun b o e hx hb=>by
  rcases (hch b hb).1 with z | z
  ·exact hx z
  ·exact absurd (aBL (aBA e) z) (Nat.lt_irrefl _)
 have cellK:∀ x c,X.env.cells.lookup x=some c->∀ v,s.heap.IsCell c v->h'.IsCell c v:=fun x c e v ⟨o,ho,hd⟩=>by
  have nch:c∉ch:=fun z=>(hch c z).2.2.1 x c e rfl
  by_cases hc:c∈X.fs
  ·obtain⟨sl,q⟩:=slot c o (I.cne x c e) hc nch ho (I.freeC x c e);exact⟨_,q,hd⟩
  ·exact⟨o,keep c o (I.cne x c e) hc nch ho (I.freeC x c e),hd⟩
 refine⟨I.ok,I.os,hg,⟨fun b o e n hb hx=>?_,fun b o e n hb hx=>?_,fun b o e n hx=>?_,fun b o e hx=>?_,fun b xs e=>tups b xs (I.base.tups b xs e),fun b o xs e=>frzs b o xs (I.base.frzs b o xs e),fun b ps e=>?_⟩,?_,fun x c e=>?_,?_,fun x c e=>?_,fun p hp=>?_,hok,I.len⟩
 ·exact keep b o (neL b o e) hb (neC b o e hx) (I.base.keep b o e n hb hx) (I.base.free b o e n hx)
 ·obtain⟨sl,e1⟩:=I.base.slot b o e n hb hx;obtain⟨sl',e2⟩:=slot b _ (neL b o e) hb (neC b o e hx) e1 (I.base.free b o e n hx);exact⟨sl',e2⟩
 ·obtain⟨o',e1⟩:=I.base.there b o e hx;exact free b o' (neC b o e hx) e1 (I.base.free b o e n hx)
 ·obtain⟨o',e1⟩:=I.base.there b o e hx;exact there b o' (neC b o e hx) e1
 ·obtain⟨m1,e1⟩:=I.base.tbls b ps e;obtain⟨m2,e2⟩:=tbls b _ e1;exact⟨m1++m2,by rw[e2,Array.append_assoc]⟩
 ·obtain⟨m,hn,hl⟩:=I.loc;refine⟨m,ns m hn,fun i x v e1 e2 e3=>?_⟩;obtain⟨u,r,l⟩:=hl i x v e1 e2 e3;refine⟨u,r,?_⟩;rcases l with l | ⟨k,c,e,z⟩
  ·exact .inl l
  ·exact .inr ⟨k,c,e,cellK x c e _ z⟩
 ·obtain⟨v,z⟩:=I.cell x c e;exact⟨v,cellK x c e v z⟩
 ·obtain⟨m,⟨o,_,_,ho,_⟩,_⟩:=I.loc;exact free _ o (fun z=>(hch _ z).2.1 rfl) ho I.free
 ·obtain⟨v,o,ho,hd⟩:=I.cell x c e;exact free c o (fun z=>(hch c z).2.2.1 x c e rfl) ho (I.freeC x c e)
 ·obtain⟨e,n,ne,nf,d⟩:=I.pin p hp;have nch:p.1∉ch:=fun z=>(hch p.1 z).2.2.2 p hp rfl;exact⟨keep p.1 p.2 ne nf nch e n,free p.1 p.2 nch e n,ne,nf,d⟩
theorem Inv.un {t':Nat} (I:Inv X pins σ H s) (u:Un X.fs [] H H' s.heap h') (hok:HOk X.prog X.w H' h'):Inv X pins σ H' { s with heap:=h',toks:=t' }:=by
 obtain⟨m,⟨o,es,ep,ho,r⟩,_⟩:=id I.loc;obtain⟨sl,hL⟩:=u.any ho I.free (by simp);exact I.step (g':=s.gens) (d':=s.drawn) (ch:=[]) (fun _ z=>nomatch z) (fun b o _ hb _ e n=>u.keep b o e n hb (by simp)) (fun b o _ hb _ e n=>u.slot b o e n hb (by simp)) (fun b o _ e n=>u.free b o e n (by simp)) (fun b o _ e=>u.there b o e (by simp)) u.tups u.frzs u.tbls (fun m' hm=>by
  obtain⟨o',es',ep',ho',r'⟩:=hm;rw[ho]at ho';cases ho';exact⟨_,es',ep',hL,r'⟩) hok I.bare
theorem Inv.call {g':Array GenState} {t':Nat} {d':Drawn} {ch:List Addr} (I:Inv X pins σ H s) (u:Un (frs X.stack) ch H H' s.heap h') (hok:HOk X.prog X.w H' h') (hg:AllBare g')
 (hch:∀ b∈ch,(b∈X.ex\/X.s₀.heap.objs.size<=b)/\b≠X.env.locals/\(∀ x c,X.env.cells.lookup x=some c->c≠b)/\∀ p∈X.pn++pins,p.1≠b) :
 Inv X pins σ H' { s with heap:=h',gens:=g',drawn:=d',toks:=t' }:=by
 obtain⟨m,⟨o,es,ep,ho,r⟩,_⟩:=id I.loc;obtain⟨sl,hL⟩:=u.any ho I.free fun z=>(hch _ z).2.1 rfl;exact I.step (ch:=ch) hch (fun b o hL hb hc e n=>u.keep b o e n (fun z=>(aB8.mp (I.stkSub b z)).elim hL hb) hc) (fun b o _ _ hc e n=>u.any e n hc) (fun b o hc e n=>u.free b o e n hc) (fun b o hc e=>u.there b o e hc) u.tups u.frzs u.tbls (fun m' hm=>by
  obtain⟨o',es',ep',ho',r'⟩:=hm;rw[ho]at ho';cases ho';exact⟨_,es',ep',hL,r'⟩) hok hg
theorem Inv.turned {t':Nat} {it:Addr} (I:Inv X pins σ H s) (k:∀ b o,b≠it->s.heap.get? b=some o->h'.get? b=some o) (hn:H it=none) (hL:it≠X.env.locals)
 (h1:it∈X.ex\/X.s₀.heap.objs.size<=it) (h2:∀ x c,X.env.cells.lookup x=some c->c≠it) (h3:∀ p∈X.pn++pins,p.1≠it):Inv X pins σ H { s with heap:=h',toks:=t' }:=by
 have nit:∀ b u,H b=some u->b≠it:=fun b u e z=>by rw[z,hn]at e;cases e
 refine I.step (g':=s.gens) (d':=s.drawn) (ch:=[it]) (fun b hb=>?_) (fun b o _ _ hc e _=>k b o (fun z=>hc (by simp[z])) e) (fun b o _ _ hc e _=>⟨o.slots,k b o (fun z=>hc (by simp[z])) e⟩) (fun _ _ _ _ n=>n)
  (fun b o hc e=>⟨o,k b o (fun z=>hc (by simp[z])) e⟩) (fun _ _ e=>e) (fun _ _ _ e=>e) (fun b ps e=>⟨#[],by rw[e];simp⟩) (fun m hm=>?_) (fun b u e=>?_) I.bare
 ·have e:b=it:=by simpa using hb
  subst e;exact⟨h1,hL,h2,h3⟩
 ·obtain⟨o,es,ep,ho,r⟩:=hm;exact⟨o,es,ep,k _ o (Ne.symm hL) ho,r⟩
 ·refine(I.hok b u e).stay (fun c v hc q=>k c v ?_ q) (fun _ q=>q) fun _ _ q=>q;rcases hc with z | z
  ·rw[z];exact nit b u e
  ·exact nit c _ z
theorem Inv.tok (I:Inv X pins σ H s) (t:Nat):Inv X pins σ H { s with toks:=t }:=I.un (h':=s.heap) (t':=t) Un.refl I.hok
theorem Inv.kept {t':Nat} (I:Inv X pins σ H s) (k:∀ b u,s.heap.get? b=some u->h'.get? b=some u):Inv X pins σ H { s with heap:=h',toks:=t' }:=I.un (Un.kept k) (I.hok.kept k)
theorem Inv.laid {a:Addr} {o:HO} {t':Nat} (I:Inv X pins σ H s) (k:∀ b u,s.heap.get? b=some u->h'.get? b=some u) (hp:s.heap.objs.size<=a) (new:ObjOk X.prog X.w (upd H a o) h' a o) :
 Inv X pins σ (upd H a o) { s with heap:=h',toks:=t' }:=I.un (Un.laid k hp (I.hok.fresh hp)) (I.hok.laid k hp new)
theorem Inv.write {x e:Addr} {o:HO} {t':Nat} (I:Inv X pins σ H s) (mu:Mut (H x)) (he:e=x\/H e=some (.own x)) (k:∀ b u,b≠e->s.heap.get? b=some u->h'.get? b=some u) (heo:∃ u,h'.get? e=some u)
 (new:ObjOk X.prog X.w (upd H x o) h' x o):Inv X pins σ (upd H x o) { s with heap:=h',toks:=t' }:=I.un (Un.write mu he k heo) (I.hok.write mu he k heo new)
theorem Inv.weak {σ':List (Option V)} (I:Inv X pins σ H s) (hl:σ'.length=σ.length) (w:∀ (i:Nat) v,σ'[i]?=some (some v)->σ[i]?=some (some v)):Inv X pins σ' H s :=
 ⟨I.ok,I.os,I.bare,I.base,let ⟨m,hn,hl'⟩:=I.loc;⟨m,hn,fun i x v e1 e2 e3=>hl' i x v e1 (w i v e2) e3⟩,I.cell,I.free,I.freeC,I.pin,I.hok,hl.trans I.len⟩
theorem Inv.pins_of {pins':List (Addr×Obj)} (I:Inv X pins σ H s) (h:∀ p∈pins',s.heap.get? p.1=some p.2/\H p.1=none/\p.1≠X.env.locals/\p.1∉X.fs/\∀ v,p.2.data≠.cell v):Inv X pins' σ H s :=
 ⟨I.ok,I.os,I.bare,I.base,I.loc,I.cell,I.free,I.freeC,fun p hp=>(aB9.mp hp).elim (fun z=>I.pin p (aBO _ z)) (h p),I.hok,I.len⟩
theorem uQ {N:List Str} (hN:N.Nodup) {i j:Nat} {x:Str} (a:N[i]?=some x) (b:N[j]?=some x):i=j:=by
 obtain⟨h1,e1⟩:=aB7.mp a;obtain⟨h2,e2⟩:=aB7.mp b;exact(List.getElem_inj hN).mp (e1.trans e2.symm)
theorem rE {M:Model} {A:Around} {E:Value->Shared->Prop} {i:Nat} {x:Str} {v:V} {u:Value} {Q:Unit->Shared->Prop} (I:Inv X pins σ H s) (hN:X.N.Nodup) (hi:X.N[i]?=some x) (hx:Loc X.env.scope x) (r:RelV v u)
 (h:∀ s',Inv X pins (σ.set i (some v)) H s'->(∃ a,Heap.SameBut a s.heap s'.heap/\(a=X.env.locals\/X.env.cells.lookup x=some a))->Q () s') (hf:X.fn x=true\/X.env.scope.names.lookup x=some .local:=by first | exact .inl rfl | exact .inr rfl | assumption):wpAny M A (storeName X.env x u) Q E s:=by
 obtain⟨m,hn,hl⟩:=id I.loc;have hcls:(X.env.scope.kind == .class || (X.env.scope.kind == .module && X.env.locals != X.env.globals))=false:=by rw[I.ok.kind];rfl
 have hiσ:i<σ.length:=by rw[I.len];exact(aB7.mp hi).1
 have cne:=I.cne;have tracked:∀ {a:Addr} {h':Heap},(∃ o,s.heap.get? a=some o/\H a=none)->Heap.SameBut a s.heap h'->HOk X.prog X.w H h':=fun {a h'} ha hs b ob e=>by
  obtain⟨_,_,hfree⟩:=ha;refine(I.hok b ob e).stay (fun c w' hc q=>(hs.2 c ?_).trans q) (fun _ q=>q) fun _ _ q=>q;rintro rfl;rcases hc with rfl | hc
  ·rw[hfree]at e;cases e
  ·rw[hfree]at hc;cases hc
 rcases hx with hk | hk
 ·refine wpAny_storeName_local hk hn (fun h' hn' hs=>?_) hcls;obtain⟨oL,_,_,hoL,_⟩:=id hn;refine h _ ⟨I.ok,I.os,I.bare,⟨fun b o e n hb hx=>?_,fun b o e n hb hx=>?_,I.base.free,fun b o e hx=>?_,I.base.tups,I.base.frzs,I.base.tbls⟩,⟨_,hn',fun j y v' e1 e2 e3=>?_⟩,fun y c e=>?_,I.free,I.freeC,fun p hp=>?_,tracked ⟨oL,hoL,I.free⟩ hs,by simpa using I.len⟩ ⟨_,hs,.inl rfl⟩
  ·exact(hs.2 b (aBS (aBL (aBA e) I.ok.above))).trans (I.base.keep b o e n hb hx)
  ·obtain⟨sl,e1⟩:=I.base.slot b o e n hb hx;exact⟨sl,(hs.2 b (aBS (aBL (aBA e) I.ok.above))).trans e1⟩
  ·obtain⟨o',e1⟩:=I.base.there b o e hx;exact⟨o',(hs.2 b (aBS (aBL (aBA e) I.ok.above))).trans e1⟩
  ·by_cases hj:j=i
   ·subst hj;rw[hi]at e1;cases e1;rw[List.getElem?_set_self hiσ]at e2;cases e2;exact⟨u,r,.inl ⟨hk,by simp⟩⟩
   ·rw[List.getElem?_set_ne (Ne.symm hj)]at e2;obtain⟨u',r',q⟩:=hl j y v' e1 e2 e3;refine⟨u',r',?_⟩;rcases q with ⟨k,e⟩ | ⟨k,c,e,z⟩
    ·refine .inl ⟨k,?_⟩;have:y≠x:=fun e=>hj (uQ hN e1 (e ▸ hi));simp[this,e]
    ·exact .inr ⟨k,c,e,z.sameBut hs (cne y c e)⟩
  ·obtain⟨w',z⟩:=I.cell y c e;exact⟨w',z.sameBut hs (cne y c e)⟩
  ·obtain⟨e,n,ne,nf,d⟩:=I.pin p hp;exact⟨(hs.2 p.1 ne).trans e,n,ne,nf,d⟩
 ·have hfn:X.fn x=true:=by
   rcases hf with z | z
   ·exact z
   ·rw[z]at hk;cases hk
  obtain⟨c,hc⟩:=I.ok.has x (.inl hk);obtain⟨w',z⟩:=I.cell x c hc;refine wpAny_storeName_cell I.ok.kind hk hc z (fun h' hc' hs=>?_);obtain⟨oc,hoc,hocd⟩:=id z;refine h { s with heap:=h' } ⟨I.ok,I.os,I.bare,⟨fun b o e n hb hx=>?_,fun b o e n hb hx=>?_,I.base.free,fun b o e hx=>?_,I.base.tups,I.base.frzs,I.base.tbls⟩,⟨m,hn.sameBut hs (Ne.symm (cne x c hc)),fun j y v' e1 e2 e3=>?_⟩,fun y c' e=>?_,I.free,I.freeC,fun p hp=>?_,tracked ⟨oc,hoc,I.freeC x c hc⟩ hs,by simpa using I.len⟩ ⟨c,hs,.inr hc⟩
  ·exact(hs.2 b (aBS (aBL (aBA e) (I.ok.cab x c hfn hc)))).trans (I.base.keep b o e n hb hx)
  ·obtain⟨sl,e1⟩:=I.base.slot b o e n hb hx;exact⟨sl,(hs.2 b (aBS (aBL (aBA e) (I.ok.cab x c hfn hc)))).trans e1⟩
  ·obtain⟨o',e1⟩:=I.base.there b o e hx;exact⟨o',(hs.2 b (aBS (aBL (aBA e) (I.ok.cab x c hfn hc)))).trans e1⟩
  ·by_cases hj:j=i
   ·subst hj;rw[hi]at e1;cases e1;rw[List.getElem?_set_self hiσ]at e2;cases e2;exact⟨u,r,.inr ⟨.inl hk,c,hc,hc'⟩⟩
   ·rw[List.getElem?_set_ne (Ne.symm hj)]at e2;obtain⟨u',r',q⟩:=hl j y v' e1 e2 e3;refine⟨u',r',?_⟩;rcases q with q | ⟨k,c',e,z'⟩
    ·exact .inl q
    ·refine .inr ⟨k,c',e,z'.sameBut hs ?_⟩;rintro rfl;exact hj (uQ hN e1 (I.ok.inj _ _ _ e hc ▸ hi))
  ·by_cases hcc:c'=c
   ·subst hcc;exact⟨_,hc'⟩
   ·obtain⟨w2,z2⟩:=I.cell y c' e;exact⟨w2,z2.sameBut hs hcc⟩
  ·obtain⟨e,n,ne,nf,d⟩:=I.pin p hp;refine⟨(hs.2 p.1 ?_).trans e,n,ne,nf,d⟩;intro q;rw[q,hoc]at e;have q':oc=p.2:=Option.some.inj e;exact d w' (by rw[<- q'];exact hocd)
theorem oK {M:Model} {A:Around} {E:Value->Shared->Prop} {i:Nat} {x:Str} {v:V} {u:Value} {Q:Unit->Shared->Prop} (I:Inv X pins σ H s) (hN:X.N.Nodup) (hi:X.N[i]?=some x) (hx:Loc X.env.scope x) (r:RelV v u)
 (h:∀ s',Inv X pins (σ.set i (some v)) H s'->Q () s') (hf:X.fn x=true\/X.env.scope.names.lookup x=some .local:=by first | exact .inl rfl | exact .inr rfl | assumption):wpAny M A (storeName X.env x u) Q E s :=
 rE I hN hi hx r (fun s' I' _=>h s' I') hf
theorem Inv.call' {s':Shared} {ch:List Addr} (I:Inv X pins σ H s) (ho:s'.os=s.os) (u:Un (frs X.stack) ch H H' s.heap s'.heap) (hok:HOk X.prog X.w H' s'.heap) (hg:AllBare s'.gens)
 (hch:∀ b∈ch,(b∈X.ex\/X.s₀.heap.objs.size<=b)/\b≠X.env.locals/\(∀ x c,X.env.cells.lookup x=some c->c≠b)/\∀ p∈X.pn++pins,p.1≠b):Inv X pins σ H' s':=by
 obtain⟨h',g',d',t',o'⟩:=s';have e:o'=s.os:=ho;subst e;exact I.call (g':=g') (t':=t') (d':=d') u hok hg hch
end
abbrev XK:=Value->Option Addr->Hp->Prop
abbrev St:=List (Option V)
abbrev VK:=V->Hp->Prop
abbrev TE:=St->Hp->VK->Prop
abbrev TT:=St->Hp->(Bool->Hp->Prop)->Prop
abbrev TA:=St->Hp->(List V->Hp->Prop)->Prop
structure qR where
 nx:St->Hp->Prop
 rt:VK
 bk:St->Hp->Prop:=fun _ _=>False
 ct:St->Hp->Prop:=fun _ _=>False
abbrev TS:=qR->St->Hp->Prop
def EP (X:Cx) (pins:List (Addr×Obj)) (σ:St) (Q:VK) (u:Value) (s':Shared):Prop:=∃ v H',Inv X pins σ H' s'/\RelV v u/\Q v H'
def TP (X:Cx) (pins:List (Addr×Obj)) (σ:St) (Q:Bool->Hp->Prop) (b:Bool) (s':Shared):Prop:=∃ H',Inv X pins σ H' s'/\Q b H'
def AP (X:Cx) (pins:List (Addr×Obj)) (σ:St) (Q:List V->Hp->Prop) (us:List Value) (s':Shared):Prop:=∃ vs H',Inv X pins σ H' s'/\Vals vs us/\Q vs H'
def SP (X:Cx) (pins:List (Addr×Obj)) (D:qR) (f:Flow) (s':Shared):Prop :=
 match f with
 | .next=>∃ σ' H',Inv X pins σ' H' s'/\D.nx σ' H'
 | .brk=>∃ σ' H',Inv X pins σ' H' s'/\D.bk σ' H'
 | .cont=>∃ σ' H',Inv X pins σ' H' s'/\D.ct σ' H'
 | .ret u=>∃ v σ' H',Inv X pins σ' H' s'/\RelV v u/\D.rt v H'
def PE (X:Cx) (e:Expr) (t:TE):Prop :=
 ∀ (pins:List (Addr×Obj)) (s:Shared) (σ:St) (H:Hp) (Q:VK),Inv X pins σ H s->t σ H Q->wpAny (model X.prog X.w) X.A (eval e X.env) (EP X pins σ Q) X.xe s
def PT (X:Cx) (e:Expr) (t:TT):Prop :=
 ∀ (pins:List (Addr×Obj)) (s:Shared) (σ:St) (H:Hp) (Q:Bool->Hp->Prop),Inv X pins σ H s->t σ H Q->wpAny (model X.prog X.w) X.A (isTrue e X.env (eval e X.env)) (TP X pins σ Q) X.xe s
def PW (X:Cx) (e:Expr) (t:TT):Prop :=
 ∀ (whole:Sem Value) (pins:List (Addr×Obj)) (s:Shared) (σ:St) (H:Hp) (Q:Bool->Hp->Prop),Inv X pins σ H s->t σ H Q->wpAny (model X.prog X.w) X.A (isTrue e X.env whole) (TP X pins σ Q) X.xe s
theorem PW.pt {X:Cx} {e:Expr} {t:TT} (h:PW X e t):PT X e t:=h _
def PA (X:Cx) (es:List Expr) (t:TA):Prop :=
 ∀ (pos:Pos) (pins:List (Addr×Obj)) (s:Shared) (σ:St) (H:Hp) (Q:List V->Hp->Prop),Inv X pins σ H s->t σ H Q->wpAny (model X.prog X.w) X.A (spliced (backTo pos (starEach es X.env))) (AP X pins σ Q) X.xe s
def PS (X:Cx) (st:Stmt) (t:TS):Prop :=
 ∀ (pins:List (Addr×Obj)) (s:Shared) (σ:St) (H:Hp) (D:qR),Inv X pins σ H s->t D σ H->wpAny (model X.prog X.w) X.A (exec st X.env) (SP X pins D) X.xe s
def PSs (X:Cx) (st:List Stmt) (t:TS):Prop :=
 ∀ (pins:List (Addr×Obj)) (s:Shared) (σ:St) (H:Hp) (D:qR),Inv X pins σ H s->t D σ H->wpAny (model X.prog X.w) X.A (execs st X.env) (SP X pins D) X.xe s
theorem thn {α:Type} {t:Sem α} {Q Q':α->Shared->Prop} {M:Model} {A:Around} {E:Value->Shared->Prop} {s:Shared} (h:wpAny M A t Q E s) (hQ:∀ a s,Q a s->Q' a s):wpAny M A t Q' E s:=wpAny_mono h hQ fun _ _ x=>x
section
variable {X:Cx}
def x3 (i:Nat):TE:=fun σ H Q=>∃ v,σ[i]?=some (some v)/\Q v H
def tC (v:V):TE:=fun _ H Q=>Q v H
theorem i3 {i:Nat} {x:Str} {pos:Pos} (hN:X.N[i]?=some x) (hv:Vis X.env.scope x) (hd:(x == ("__debug__":Str))=false:=by decide) (hcd:(x == ("__classdict__":Str))=false:=by decide):PE X (.Name x pos) (x3 i):=by
 intro pins s σ H Q I h;obtain⟨v,e,h⟩:=h;obtain⟨m,hn,hl⟩:=I.loc;obtain⟨u,r,l⟩:=hl i x v hN e hv;have fin:EP X pins σ Q u s:=⟨v,H,I,r,h⟩;rcases l with ⟨hk,hm⟩ | ⟨hk,c,hc,hcell⟩
 ·exact wpAny_Name (wpAny_loadName_local I.ok.kind hk hn hm fin) hd
 ·rcases hk with hk | hk
  ·exact wpAny_Name (wpAny_loadName_cell I.ok.kind hk hc hcell fin) hd
  ·exact wpAny_Name (wpAny_loadName_free I.ok.kind hk hc hcell fin hcd) hd
theorem aG {i j pos}:PE X (.Constant (.int i) j pos) (tC (.int i)):=fun _ _ _ H _ I h=>wpAny_Constant_int ⟨.int i,H,I.tok _,⟨_,rfl⟩,h⟩
theorem yZ {b j pos}:PE X (.Constant (.bool b) j pos) (tC (.bl b)):=fun _ _ _ H _ I h=>Constant_bool ⟨.bl b,H,I,rfl,h⟩
theorem K0 {j pos}:PE X (.Constant .none j pos) (tC .non):=fun _ _ _ H _ I h=>Constant_none ⟨.non,H,I,rfl,h⟩
def Gl (X:Cx) (x:Str):Prop:=X.env.kindOf x=some .globalImplicit
theorem zA {E:Value->Shared->Prop} {pins:List (Addr×Obj)} {s:Shared} {σ:St} {H:Hp} {x:Str} {u:Value} {pos:Pos} {Q:Value->Shared->Prop} (I:Inv X pins σ H s) (hg:Gl X x) (hm:X.mg x=some u) (h:Q u s)
 (hd:(x == ("__debug__":Str))=false:=by decide):wpAny (model X.prog X.w) X.A (eval (.Name x pos) X.env) Q E s :=
 Calls.Name_function_global I.ok.kind hg (Calls.loadGlobal_global (by rw[I.ok.glob];exact I.mod.glob.keeps I.bk) hm h) hd
theorem hU {E:Value->Shared->Prop} {pins:List (Addr×Obj)} {s:Shared} {σ:St} {H:Hp} {x:Str} {u:Value} {pos:Pos} {Q:Value->Shared->Prop} (I:Inv X pins σ H s) (hg:Gl X x) (hm:X.mg x=none) (hv:bootBuiltins x=some u) (h:Q u s)
 (hn:x≠"__name__":=by decide) (hd:(x == ("__debug__":Str))=false:=by decide):wpAny (model X.prog X.w) X.A (eval (.Name x pos) X.env) Q E s:=by
 obtain⟨mb,h1,h2⟩:=I.mod.blt;exact Calls.Name_function_global I.ok.kind hg (Calls.loadGlobal_builtin (by rw[I.ok.glob];exact I.mod.glob.keeps I.bk) hm (by rw[I.ok.blt];exact h1.keeps I.bk) ((h2 x hn).trans hv) h) hd
theorem nY {x:Str} {v:V} {u:Value} {pos:Pos} (hg:Gl X x) (hm:X.mg x=some u) (r:RelV v u) (hd:(x == ("__debug__":Str))=false:=by decide):PE X (.Name x pos) (tC v) :=
 fun _ _ _ H _ I h=>zA I hg hm ⟨v,H,I,r,h⟩ hd
theorem dQ {x:Str} {v:V} {u:Value} {pos:Pos} (hg:Gl X x) (hm:X.mg x=none) (hv:bootBuiltins x=some u) (r:RelV v u) (hn:x≠"__name__":=by decide) (hd:(x == ("__debug__":Str))=false:=by decide):PE X (.Name x pos) (tC v) :=
 fun _ _ _ H _ I h=>hU I hg hm hv ⟨v,H,I,r,h⟩ hn hd
variable {a b:Expr} {ta tb:TE} {pos:Pos}
variable {tA tB':TT} {rest:List Expr}
def tOr (t u:TT):TT:=fun σ H Q=>t σ H fun c H1=>if c=true then Q true H1 else u σ H1 Q
def aA2 (t:TT):TT:=fun σ H Q=>t σ H fun c H1=>Q (!c) H1
theorem kM (ha:PT X a tA):PW X (.BoolOp .Or [a] pos) tA:=by
 intro wh pins s σ H Q I h;refine isTrue_or (thn (ha pins s σ H Q I h) fun c s1 e=>?_);cases c with
 | false=>exact isTrue_or_nil e
 | true=>exact e
theorem oM (ha:PT X a tA) (hb:PW X (.BoolOp .Or (b :: rest) pos) tB'):PW X (.BoolOp .Or (a :: b :: rest) pos) (tOr tA tB'):=by
 intro wh pins s σ H Q I h;refine isTrue_or (thn (ha pins s σ H _ I h) fun c s1 ⟨H1,I1,q1⟩=>?_);cases c with
 | true=>exact⟨H1,I1,q1⟩
 | false=>exact hb wh pins s1 σ H1 Q I1 q1
theorem xB (ha:PT X a tA):PT X (.UnaryOp .Not a pos) (aA2 tA):=by
 intro pins s σ H Q I h;exact isTrue_not (ha pins s σ H (fun c H1=>Q (!c) H1) I h)
def x4 (ta tb:TE):TE:=fun σ H Q=>ta σ H fun x H1=>∃ c,x=.bl c/\if c=true then tb σ H1 Q else Q (.bl false) H1
theorem K1 {op} {t:TE} (h:PE X a t):PE X (.BoolOp op [a] pos) t:=fun pins s σ H Q I hw=>BoolOp_one (h pins s σ H Q I hw)
theorem K2 (ha:PE X a ta) (hb:PE X (.BoolOp .And (b :: rest) pos) tb):PE X (.BoolOp .And (a :: b :: rest) pos) (x4 ta tb):=by
 intro pins s σ H Q I h;refine BoolOp_and (thn (ha pins s σ H _ I h) fun v s1 ⟨x,H1,I1,r1,q1⟩=>?_);obtain⟨c,rfl,q1⟩:=q1;cases r1;refine wpAny_truthy_bool ?_;cases c with
 | true=>exact hb pins s1 σ H1 Q I1 q1
 | false=>exact⟨.bl false,H1,I1,rfl,q1⟩
def tIf (t:TT) (ta tb:TE):TE:=fun σ H Q=>t σ H fun c H1=>if c=true then ta σ H1 Q else tb σ H1 Q
theorem K3 {c:Expr} (hc:PT X c tA) (ha:PE X a ta) (hb:PE X b tb):PE X (.IfExp c a b pos) (tIf tA ta tb):=by
 intro pins s σ H Q I h;refine wpAny_IfExp (thn (hc pins s σ H _ I h) fun d s1 ⟨H1,I1,q1⟩=>?_);cases d with
 | true=>exact ha pins s1 σ H1 Q I1 q1
 | false=>exact hb pins s1 σ H1 Q I1 q1
end
def SqL (K:PySem.W.Frag) (H:Hp) (a:Addr) (xs:List V):Prop :=
 Rd H a (.lst xs) \/
  ∃ (o:Obj) (its:Array Value) (n:Nat),K.lookup a=some o/\o.cls=.type "list"/\o.dict=none/\o.data=.seq its n/\its.size<=sizeLine/\Vals xs its.toList
def SqT (K:PySem.W.Frag) (H:Hp) (a:Addr) (xs:List V):Prop :=
 Rd H a (.tup xs) \/
  ∃ (o:Obj) (its:Array Value) (n:Nat),K.lookup a=some o/\o.cls=.type "tuple"/\o.data=.seq its n/\its.size<=sizeLine/\Vals xs its.toList
def aA3:Value->Option V
 | .none=>some .non
 | .bool b=>some (.bl b)
 | .int i _=>some (.int i)
 | .str x _=>some (.str x)
 | .bytes b _=>some (.byt b)
 | .float b _=>some (.flt b)
 | .ref a=>some (.ref a)
 | .type n=>some (.ty n)
 | _=>none
theorem RelV.abs {x:V} {u:Value} (r:RelV x u):aA3 u=some x:=by
 cases x with
 | non=>cases r;rfl
 | bl _=>cases r;rfl
 | int _=>obtain⟨t,rfl⟩:=r;rfl
 | str _=>obtain⟨t,rfl⟩:=r;rfl
 | byt _=>obtain⟨t,rfl⟩:=r;rfl
 | flt _=>obtain⟨t,rfl⟩:=r;rfl
 | ref _=>cases r;rfl
 | ty _=>cases r;rfl
theorem RelV.inj {x y:V} {u:Value} (r:RelV x u) (q:RelV y u):x=y:=Option.some.inj (r.abs.symm.trans q.abs)
theorem Vals.inj:∀ {xs ys:List V} {us:List Value},Vals xs us->Vals ys us->xs=ys
 | _,_,_,.nil,.nil=>rfl
 | _,_,_,.cons r t,.cons r' t'=>by rw[r.inj r',Vals.inj t t']
section
variable {X:Cx} {pins:List (Addr×Obj)} {σ:St} {H:Hp} {s:Shared} {a:Addr} {xs ys:List V}
theorem SqL.of {K:PySem.W.Frag} (h:H a=some (.lst xs)):SqL K H a xs:=.inl (.inl h)
theorem SqT.of {K:PySem.W.Frag} (h:H a=some (.tup xs)):SqT K H a xs:=.inl (.inl h)
theorem Inv.list (I:Inv X pins σ H s) (h:SqL X.K H a xs):∃ its:List Value,Vals xs its/\PlainL s.heap a its.toArray/\xs.length<=sizeLine:=by
 rcases h with h | ⟨o,its,n,hk,hc,hd,hs,hz,r⟩
 ·obtain⟨z,its,n,r,e⟩:=h.ok I.hok;exact⟨its,r,⟨_,n,e,rfl,rfl,rfl⟩,z⟩
 ·refine⟨its.toList,r,⟨o,n,I.kIn a o hk,hc,hd,by simpa using hs⟩,?_⟩;have e:=r.length;simp only[Array.length_toList]at e;omega
theorem Inv.tuple (I:Inv X pins σ H s) (h:SqT X.K H a xs):∃ its:List Value,Vals xs its/\IsTup s.heap a its.toArray/\xs.length<=sizeLine:=by
 rcases h with h | ⟨o,its,n,hk,hc,hs,hz,r⟩
 ·obtain⟨z,its,r,p⟩:=h.ok I.hok;exact⟨its,r,p,z⟩
 ·refine⟨its.toList,r,⟨o,I.kIn a o hk,hc,n,by simpa using hs⟩,?_⟩;have e:=r.length;simp only[Array.length_toList]at e;omega
theorem Inv.list_inj (I:Inv X pins σ H s) (h:SqL X.K H a xs) (h':SqL X.K H a ys):xs=ys:=by
 obtain⟨its,r,⟨o,n,e,_,_,d⟩,_⟩:=I.list h;obtain⟨its',r',⟨o',n',e',_,_,d'⟩,_⟩:=I.list h';rw[e]at e';cases e';rw[d]at d'
 injection d' with d1 _
 have:its=its':=by simpa using congrArg Array.toList d1
 subst this;exact r.inj r'
end
abbrev Cx.wish (X:Cx) (E:Value->Shared->Prop):Cx:={ X with xe:=E }
abbrev Cx.nox (X:Cx):Cx:=X.wish fun _ _=>False
theorem Cx.Ok.wish {X:Cx} (ok:X.Ok) (E:Value->Shared->Prop):(X.wish E).Ok :=
 ⟨ok.mod,ok.kind,ok.glob,ok.blt,ok.above,ok.inj,ok.has,ok.cab,ok.hd,ok.frames,ok.stk,ok.exf,ok.bs,ok.bsz,ok.noex,ok.exfs,ok.funs,ok.frf⟩
theorem Cx.Ok.unwish {X:Cx} {E:Value->Shared->Prop} (ok:(X.wish E).Ok):X.Ok :=
 ⟨ok.mod,ok.kind,ok.glob,ok.blt,ok.above,ok.inj,ok.has,ok.cab,ok.hd,ok.frames,ok.stk,ok.exf,ok.bs,ok.bsz,ok.noex,ok.exfs,ok.funs,ok.frf⟩
section
variable {X:Cx} {pins:List (Addr×Obj)} {σ:St} {H:Hp} {s:Shared} {E:Value->Shared->Prop}
theorem Inv.wish (I:Inv X pins σ H s) (E:Value->Shared->Prop):Inv (X.wish E) pins σ H s:=⟨I.ok.wish E,I.os,I.bare,I.base,I.loc,I.cell,I.free,I.freeC,I.pin,I.hok,I.len⟩
theorem Inv.unwish (I:Inv (X.wish E) pins σ H s):Inv X pins σ H s:=⟨I.ok.unwish,I.os,I.bare,I.base,I.loc,I.cell,I.free,I.freeC,I.pin,I.hok,I.len⟩
theorem SP.unwish {D:qR} {f:Flow} {s':Shared} (h:SP (X.wish E) pins D f s'):SP X pins D f s':=by
 cases f with
 | next=>obtain⟨σ',H',I,q⟩:=h;exact⟨σ',H',I.unwish,q⟩
 | brk=>obtain⟨σ',H',I,q⟩:=h;exact⟨σ',H',I.unwish,q⟩
 | cont=>obtain⟨σ',H',I,q⟩:=h;exact⟨σ',H',I.unwish,q⟩
 | ret u=>obtain⟨v,σ',H',I,r,q⟩:=h;exact⟨v,σ',H',I.unwish,r,q⟩
theorem PE.nox {e:Expr} {t:TE} (h:PE X.nox e t):PE X e t:=fun pins s σ H Q I hw =>
 wpAny_mono (h pins s σ H Q (I.wish _) hw) (fun _ _ ⟨v,H',I',r,q⟩=>⟨v,H',I'.unwish,r,q⟩) fun _ _ z=>False.elim z
theorem PT.nox {e:Expr} {t:TT} (h:PT X.nox e t):PT X e t:=fun pins s σ H Q I hw =>
 wpAny_mono (h pins s σ H Q (I.wish _) hw) (fun _ _ ⟨H',I',q⟩=>⟨H',I'.unwish,q⟩) fun _ _ z=>False.elim z
theorem PSs.nox {st:List Stmt} {t:TS} (h:PSs X.nox st t):PSs X st t:=fun pins s σ H D I hw =>
 wpAny_mono (h pins s σ H D (I.wish _) hw) (fun _ _ q=>q.unwish) fun _ _ z=>False.elim z
end
section
variable {X:Cx} {st:Stmt} {rest:List Stmt} {t u:TS} {e:Expr} {te:TE} {pos:Pos}
def x5:TS:=fun D σ H=>D.nx σ H
def aA4 (t u:TS):TS:=fun D σ H=>t { D with nx:=u D } σ H
theorem bS:PSs X [] x5:=fun _ _ σ H _ I h=>wpAny_execs_nil ⟨σ,H,I,h⟩
theorem aF (h1:PS X st t) (h2:PSs X rest u):PSs X (st :: rest) (aA4 t u):=by
 intro pins s σ H D I h;refine wpAny_execs_cons (thn (h1 pins s σ H { D with nx:=u D } I h) fun f s1 q=>?_);cases f with
 | next =>
  obtain⟨σ',H',I',q⟩:=q;exact h2 pins s1 σ' H' D I' q
 | ret v=>exact q
 | brk=>exact q
 | cont=>exact q
theorem aH (h1:PS X st t):PSs X [st] t:=by
 intro pins s σ H D I h;refine wpAny_execs_cons (thn (h1 pins s σ H D I h) fun f s1 q=>?_);cases f with
 | next=>exact wpAny_execs_nil q
 | ret v=>exact q
 | brk=>exact q
 | cont=>exact q
theorem Inv.quiet {pins:List (Addr×Obj)} {σ:St} {H:Hp} {s:Shared} (I:Inv X pins σ H s):interactive X.env=false:=by simp[interactive,I.ok.kind]
def x6 (te:TE):TS:=fun D σ H=>te σ H fun _ H1=>D.nx σ H1
theorem bN (he:PE X e te) (hs:swapsWith e none pos.line X.env=pure false:=by rfl):PS X (.Expr e pos) (x6 te):=by
 intro pins s σ H D I h;exact wpAny_Expr_any (thn (he pins s σ H _ I h) fun v s1 ⟨x,H1,I1,r1,q1⟩=>⟨σ,H1,I1,q1⟩) I.quiet hs
def aA5 (te:TE):TS:=fun D σ H=>te σ H D.rt
theorem bQ (he:PE X e te):PS X (.Return (some e) pos) (aA5 te):=by
 intro pins s σ H D I h;exact wpAny_Return_some (thn (he pins s σ H _ I h) fun v s1 ⟨x,H1,I1,r1,q1⟩=>⟨x,σ,H1,I1,r1,q1⟩)
def aA6 (c:TT) (t u:TS):TS:=fun D σ H=>c σ H fun b H1=>if b=true then t D σ H1 else u D σ H1
theorem cY {c:Expr} {a b:List Stmt} {tc:TT} (hc:PT X c tc) (ha:PSs X a t) (hb:PSs X b u):PS X (.If c a b pos) (aA6 tc t u):=by
 intro pins s σ H D I h;refine wpAny_If (thn (hc pins s σ H _ I h) fun d s1 ⟨H1,I1,q1⟩=>?_);cases d with
 | true=>exact ha pins s1 σ H1 D I1 q1
 | false=>exact hb pins s1 σ H1 D I1 q1
def i4:TS:=fun _ _ _=>False
theorem eA:PS X st i4:=fun _ _ _ _ _ _ h=>h.elim
end
abbrev TG:=V->St->Hp->(St->Hp->Prop)->Prop
abbrev TGs:=List V->St->Hp->(St->Hp->Prop)->Prop
def PG (X:Cx) (target:Expr) (t:TG):Prop :=
 ∀ (pins:List (Addr×Obj)) (s:Shared) (σ:St) (H:Hp) (v:V) (u:Value) (Q:St->Hp->Prop),Inv X pins σ H s->RelV v u->t v σ H Q ->
  wpAny (model X.prog X.w) X.A (assign target X.env u) (fun _ s'=>∃ σ' H',Inv X pins σ' H' s'/\Q σ' H') X.xe s
def PGs (X:Cx) (ts:List Expr) (t:TGs):Prop :=
 ∀ (pins:List (Addr×Obj)) (s:Shared) (σ:St) (H:Hp) (vs:List V) (us:List Value) (Q:St->Hp->Prop),Inv X pins σ H s->Vals vs us->t vs σ H Q ->
  wpAny (model X.prog X.w) X.A (assignInOrder ((assignEach ts X.env).map (·.2)) us) (fun _ s'=>∃ σ' H',Inv X pins σ' H' s'/\Q σ' H') X.xe s
abbrev i5:=V->V->V->Hp->(Hp->Prop)->Prop
def x8 (X:Cx) (t:i5):Prop :=
 ∀ (pins:List (Addr×Obj)) (s:Shared) (σ:St) (H:Hp) (o i v:V) (ov iv u:Value) (Q:Hp->Prop),Inv X pins σ H s->RelV o ov->RelV i iv->RelV v u->t o i v H Q ->
  wpAny (model X.prog X.w) X.A (setItem ov iv u) (fun _ s'=>∃ H',Inv X pins σ H' s'/\Q H') X.xe s
abbrev TIp:=V->V->Hp->VK->Prop
def PIp (X:Cx) (op:Operator) (t:TIp):Prop :=
 ∀ (pins:List (Addr×Obj)) (s:Shared) (σ:St) (H:Hp) (x y:V) (v u:Value) (Q:VK),Inv X pins σ H s->RelV x v->RelV y u->t x y H Q ->
  wpAny (model X.prog X.w) X.A (inplaceOp op v u) (EP X pins σ Q) X.xe s
section
variable {X:Cx} {pos:Pos}
def nB (i:Nat):TG:=fun v σ H Q=>Q (σ.set i (some v)) H
theorem aK {i:Nat} {x:Str} (hN:X.N.Nodup) (hi:X.N[i]?=some x) (hx:Loc X.env.scope x) (hf:X.fn x=true\/X.env.scope.names.lookup x=some .local:=by first | exact .inl rfl | exact .inr rfl | assumption):PG X (.Name x pos) (nB i):=by
 intro pins s σ H v u Q I r h;exact wpAny_assign_Name (oK I hN hi hx r (fun s' I'=>⟨_,H,I',h⟩) hf)
def x9:TGs:=fun vs σ H Q=>vs=[]/\Q σ H
def Z9 (t:TG) (u:TGs):TGs:=fun vs σ H Q=>∃ v r,vs=v :: r/\t v σ H fun σ' H'=>u r σ' H' Q
theorem cF:PGs X [] x9:=by
 intro pins s σ H vs us Q I r h;obtain⟨e,h⟩:=h;subst e;cases r;exact assignInOrder_nil ⟨σ,H,I,h⟩
theorem aP {e:Expr} {es:List Expr} {t:TG} {u:TGs} (h1:PG X e t) (h2:PGs X es u)
 (hs:(assignEach (e :: es) X.env).map (·.2)=assign e X.env :: (assignEach es X.env).map (·.2):=by rfl):PGs X (e :: es) (Z9 t u):=by
 intro pins s σ H vs us Q I r h;obtain⟨v,vr,e1,h⟩:=h;subst e1;cases r with
 | cons r rr =>
  rw[hs];refine assignInOrder_cons (thn (h1 pins s σ H _ _ _ I r h) fun _ s1 ⟨σ1,H1,I1,q1⟩=>?_);exact h2 pins s1 σ1 H1 _ _ Q I1 rr q1
def i6 (K:PySem.W.Frag) (n:Nat) (t:TGs):TG:=fun v σ H Q=>∃ a xs,v=.ref a/\SqT K H a xs/\xs.length=n/\t xs σ H Q
theorem gD {es:List Expr} {k:Nat} {t:TGs} {n:Nat} (hc:X.calm=true) (h:PGs X es t)
 (hn:(assignEach es X.env).length=n:=by rfl) (hst:(assignEach es X.env).findIdx? (·.1)=none:=by rfl):PG X (.Tuple es k pos) (i6 X.K n t):=by
 intro pins s σ H v u Q I r hw;obtain⟨a,xs,e1,hq,hl,hw⟩:=hw;subst e1;cases r;obtain⟨its,rv,ht,hz⟩:=I.tuple hq;refine assign_Tuple_tuple (I.ok.hd hc) ht (by simp[hn,<- hl,rv.length]) hst fun h' hx=>?_;have I1:Inv X pins σ H { s with heap:=h' }:=I.kept (t':=s.toks) fun b o e=>hx b o (aBS (aBA e)) e;exact h pins _ σ H xs _ Q I1 (by simpa using rv) hw
def aA7 (to ti:TE) (t:i5):TG:=fun v σ H Q=>to σ H fun o H1=>ti σ H1 fun i H2=>t o i v H2 fun H3=>Q σ H3
theorem i7 {o i:Expr} {to ti:TE} {t:i5} (ho:PE X o to) (hi:PE X i ti) (hs:x8 X t)
 (ha:∀ v,assign (.Subscript o i pos) X.env v=(do
  let ov <- holding [v] (eval o X.env)
  let iv <- holding [v,ov] (eval i X.env)
  standAt pos
  holding [v,ov,iv] (setItem ov iv v)
  release [v,ov,iv] []):=by intro _;rfl):PG X (.Subscript o i pos) (aA7 to ti t):=by
 intro pins s σ H v u Q I r h;rw[ha];refine aAs (wpAny_holding (thn (ho pins s σ H _ I h) fun ov s1 ⟨x,H1,I1,r1,q1⟩=>?_));refine aAs (wpAny_holding (thn (hi pins s1 σ H1 _ I1 q1) fun iv s2 ⟨y,H2,I2,r2,q2⟩=>?_));refine aAs (wpAny_standAt (aAs (wpAny_holding (thn (hs pins s2 σ H2 x y v ov iv u _ I2 r1 r2 r q2) fun _ s3 ⟨H3,I3,q3⟩=>?_))));exact wpAny_release ⟨σ,H3,I3,q3⟩
def i8 (te:TE) (g:TG):TS:=fun D σ H=>te σ H fun x H1=>g x σ H1 D.nx
theorem xC {tg e:Expr} {te:TE} {g:TG} (he:PE X e te) (hg:PG X tg g) (hs:swapsWithSole [tg] e pos.line X.env=pure false:=by rfl) (hw:swappedStores [tg] e X.env=pure none:=by rfl)
 (h1:(assignEach [tg] X.env).map (·.2)=[assign tg X.env]:=by rfl):PS X (.Assign [tg] e pos) (i8 te g):=by
 intro pins s σ H D I h;refine wpAny_Assign_stores (thn (he pins s σ H _ I h) fun v s1 ⟨x,H1,I1,r1,q1⟩=>?_) hs hw;rw[h1];exact thn (hg pins s1 σ H1 x v _ I1 r1 q1) fun _ s2 q=>q
theorem aQ {i:Nat} {x:Str} {e:Expr} {te:TE} {pos':Pos} (hN:X.N.Nodup) (hi:X.N[i]?=some x) (hx:Loc X.env.scope x) (he:PE X e te) (hs:swapsWith e (some (.Name x pos')) pos.line X.env=pure false:=by rfl) (hf:X.fn x=true\/X.env.scope.names.lookup x=some .local:=by first | exact .inl rfl | exact .inr rfl | assumption) :
 PS X (.Assign [.Name x pos'] e pos) (i8 te (nB i)):=by
 intro pins s σ H D I h;refine wpAny_Assign_Name (thn (he pins s σ H _ I h) fun v s1 ⟨y,H1,I1,r1,q1⟩=>?_) hs;exact oK I1 hN hi hx r1 (fun s2 I2=>⟨_,H1,I2,q1⟩) hf
def aA8 (i:Nat) (te:TE) (ti:TIp):TS:=fun D σ H=>∃ x,σ[i]?=some (some x)/\te σ H fun y H1=>ti x y H1 fun z H2=>D.nx (σ.set i (some z)) H2
theorem iW {i:Nat} {x:Str} {e:Expr} {te:TE} {op:Operator} {ti:TIp} {pos':Pos} (hN:X.N.Nodup) (hi:X.N[i]?=some x) (hx:Loc X.env.scope x) (he:PE X e te) (ho:PIp X op ti) (hf:X.fn x=true\/X.env.scope.names.lookup x=some .local:=by first | exact .inl rfl | exact .inr rfl | assumption) :
 PS X (.AugAssign (.Name x pos') op e pos) (aA8 i te ti):=by
 intro pins s σ H D I h;obtain⟨v,e1,h⟩:=h;obtain⟨m,hn,hl⟩:=I.loc;have vis:Vis X.env.scope x:=by rcases hx with k | k;exact .inl k;exact .inr (.inl k)
 obtain⟨u,r,l⟩:=hl i x v hi e1 vis;refine wpAny_AugAssign_Name ?_;have go:wpAny (model X.prog X.w) X.A (eval e X.env) (fun w s₂=>wpAny (model X.prog X.w) X.A (inplaceOp op u w) (fun r s₃=>wpAny (model X.prog X.w) X.A (storeName X.env x r) (fun _=>SP X pins D .next) X.xe s₃) X.xe s₂) X.xe s:=by
  refine thn (he pins s σ H _ I h) fun w s1 ⟨y,H1,I1,r1,q1⟩=>?_;refine thn (ho pins s1 σ H1 v y u w _ I1 r r1 q1) fun z s2 ⟨zv,H2,I2,r2,q2⟩=>?_;exact oK I2 hN hi hx r2 (fun s3 I3=>⟨_,H2,I3,q2⟩) hf
 rcases l with ⟨hk,hm⟩ | ⟨hk,c,hc,hcell⟩
 ·exact wpAny_loadName_local I.ok.kind hk hn hm go
 ·rcases hk with hk | hk
  ·exact wpAny_loadName_cell I.ok.kind hk hc hcell go
  ·rcases hx with k | k
   ·have:X.env.scope.names.lookup x=some .free:=hk;rw[k]at this;cases this
   ·have:X.env.scope.names.lookup x=some .free:=hk;rw[k]at this;cases this
def ipI (f:Int->Int->Int):TIp:=fun x y H Q=>∃ i j,x=.int i/\y=.int j/\Q (.int (f i j)) H
theorem sR:PIp X .Add (ipI fun i j=>i+j):=by
 intro pins s σ H x y v u Q I r1 r2 h;obtain⟨i,j,e1,e2,q⟩:=h;subst e1;subst e2;obtain⟨t,rfl⟩:=r1;obtain⟨t',rfl⟩:=r2;exact iadd_int ⟨.int _,H,I.tok _,⟨_,rfl⟩,q⟩
theorem K4:PIp X .Sub (ipI fun i j=>i - j):=by
 intro pins s σ H x y v u Q I r1 r2 h;obtain⟨i,j,e1,e2,q⟩:=h;subst e1;subst e2;obtain⟨t,rfl⟩:=r1;obtain⟨t',rfl⟩:=r2;exact isub_int ⟨.int _,H,I.tok _,⟨_,rfl⟩,q⟩
end
section
variable {X:Cx} {pos:Pos}
def K5 (c:TT) (tb:TS):TS:=fun D σ H=>∃ W:Nat->St->Hp->Prop,(∃ m,W m σ H)/\∀ m σ H,W m σ H ->
 c σ H fun b H1=>if b=true then ∃ N:St->Hp->Prop,(∀ σ' H',N σ' H'->∃ m',m'<m/\W m' σ' H')/\tb { D with nx:=N,ct:=N,bk:=D.nx } σ H1 else D.nx σ H1
theorem kX {c:Expr} {body:List Stmt} {tc:TT} {tb:TS} (hp:PassesOwn (model X.prog X.w) X.A X.env X.xe) (hc:PT X c tc) (hb:PSs X body tb):PS X (.While c body [] pos) (K5 tc tb):=by
 intro pins s σ H D I h;obtain⟨W,⟨m0,w0⟩,turn⟩:=h;refine wpAny_While (codeAny_whileLoop (fun n s'=>∃ σ' H',Inv X pins σ' H' s'/\W n σ' H') ?_ m0 ⟨σ,H,I,w0⟩);rintro n s1 ⟨σ1,H1,I1,w1⟩;refine wpAny_passesOwn hp (thn (hc pins s1 σ1 H1 _ I1 (turn n σ1 H1 w1)) fun b s2 ⟨H2,I2,q2⟩=>?_);cases b with
 | true =>
  obtain⟨N,hN,q2⟩:=q2;rw[if_pos rfl];refine wpAny_passesOwn hp (thn (hb pins s2 σ1 H2 _ I2 q2) fun f s3 q3=>?_);cases f with
  | next =>
   obtain⟨σ3,H3,I3,n3⟩:=q3;obtain⟨m',hm,w3⟩:=hN σ3 H3 n3;exact⟨m',hm,σ3,H3,I3,w3⟩
  | cont =>
   obtain⟨σ3,H3,I3,n3⟩:=q3;obtain⟨m',hm,w3⟩:=hN σ3 H3 n3;exact⟨m',hm,σ3,H3,I3,w3⟩
  | brk=>exact q3
  | ret v=>exact q3
 | false =>
  rw[if_neg aBH];exact wpAny_execs_nil ⟨σ1,H2,I2,q2⟩
end
structure It where
 go:Nat->Hp->Prop
 yld:Nat->Hp->V->Hp->Prop
 stop:Nat->Hp->Prop
def gR (X:Cx) (pins:List (Addr×Obj)) (H:Hp) (b:Addr):Prop :=
 H b=none/\b≠X.env.locals/\b∉X.fs/\(b∈X.ex\/X.s₀.heap.objs.size<=b)/\(∀ x c,X.env.cells.lookup x=some c->c≠b)/\∀ p∈X.pn++pins,p.1≠b
theorem Inv.fpOk {X:Cx} {pins:List (Addr×Obj)} {σ:St} {H H':Hp} {s:Shared} {b:Addr} (I:Inv X pins σ H s) (hb:s.heap.objs.size<=b) (hn:H' b=none):gR X pins H' b:=by
 refine⟨hn,aBV (aBL I.lt hb),I.nofs hb,.inr (Nat.le_trans I.sz hb),fun x c e z=>?_,fun p hp z=>?_⟩
 ·obtain⟨v,q⟩:=I.cell x c e;exact absurd (aBL q.lt (by rw[z];exact hb)) (Nat.lt_irrefl _)
 ·exact absurd (aBL (aBA (I.pin p hp).1) (by rw[z];exact hb)) (Nat.lt_irrefl _)
structure qS (P:Program) (w:World) (K:PySem.W.Frag) (tg:Expr) (J:It) (fp:List Addr) (it:Addr) (tn:Nat->Heap->Prop):Prop where
 mem:it∈fp
 obj:∀ i h,tn i h->∀ b∈fp,∃ o,h.get? b=some o/\∀ v,o.data≠.cell v
 keep:∀ i h h',tn i h->(∀ b∈fp,∀ o,h.get? b=some o->h'.get? b=some o)->tn i h'
 item:∀ (X:Cx),X.prog=P->X.w=w->X.K=K->X.calm=true->∀ (i:Nat) (pins:List (Addr×Obj)) (s:Shared) (σ:St) (H:Hp) (E:Value->Shared->Prop),Inv X pins σ H s->(∀ b∈fp,gR X pins H b)->tn i s.heap->J.go i H ->
  wpAny (model P w) X.A (pyNext (.ref it)) (fun r s1=>∃ u,r=some u /\
   wpAny (model P w) X.A (letOwnedTupleGo tg (.ref it) u) (fun _ s2=>∃ x H',Inv X pins σ H' s2/\RelV x u/\J.yld i H x H'/\tn (i+1) s2.heap/\∀ b∈fp,H' b=none) E s1) E s
 done:∀ (X:Cx),X.prog=P->X.w=w->X.K=K->X.calm=true->∀ (i:Nat) (pins:List (Addr×Obj)) (s:Shared) (σ:St) (H:Hp) (E:Value->Shared->Prop),Inv X pins σ H s->(∀ b∈fp,gR X pins H b)->tn i s.heap->J.stop i H ->
  wpAny (model P w) X.A (pyNext (.ref it)) (fun r s1=>r=none/\Inv X pins σ H s1) E s
 self:∀ (A:Around) (i:Nat) (s:Shared) (Q:Value->Shared->Prop) (E:Value->Shared->Prop),tn i s.heap->Q (.ref it) s->wpAny (model P w) A (pyIter (.ref it)) Q E s
abbrev TI:=St->Hp->(It->Hp->Prop)->Prop
def PIE (X:Cx) (pins:List (Addr×Obj)) (σ:St) (tg:Expr) (R:It->Hp->Prop) (itv:Value) (s2:Shared):Prop :=
 ∃ (it:Addr) (fp:List Addr) (tn:Nat->Heap->Prop) (J:It) (H':Hp),itv=.ref it/\Inv X pins σ H' s2/\qS X.prog X.w X.K tg J fp it tn/\tn 0 s2.heap/\(∀ b∈fp,gR X pins H' b)/\R J H'
def PI (X:Cx) (tg iter:Expr) (wi:TI):Prop :=
 ∀ (pins:List (Addr×Obj)) (s:Shared) (σ:St) (H:Hp) (R:It->Hp->Prop),Inv X pins σ H s->wi σ H R ->
  wpAny (model X.prog X.w) X.A (eval iter X.env) (fun v s1=>wpAny (model X.prog X.w) X.A (pyIter v) (PIE X pins σ tg R) X.xe s1) X.xe s
theorem K6 {M:Model} {A:Around} {E:Value->Shared->Prop} {s:Shared} {tg:Expr} {it:Addr} {u:Value} {o:Obj} {n:String} {vs:Array Value} {Q:Unit->Shared->Prop} (ho:s.heap.get? it=some o) (hc:o.cls=.type n) (hd:o.data=.fields vs)
 (hn:["enumerate","zip","dict_itemiterator","dict_reverseitemiterator","odict_iterator","itertools.zip_longest","itertools.pairwise"].contains n=false) (hQ:Q () s):wpAny M A (letOwnedTupleGo tg (.ref it) u) Q E s:=by
 unfold letOwnedTupleGo;cases tg <;> first
  | exact aAt hQ
  | (cases u <;> first
   | exact aAt hQ
   | (refine aAs (wpAny_load ho ?_)
      rw[hc,hd];show wpAny M A (if (["enumerate","zip","dict_itemiterator","dict_reverseitemiterator","odict_iterator","itertools.zip_longest","itertools.pairwise"].contains n && vs[0]? == some (rawInt _))=true then _ else _) Q E s;rw[if_neg (by intro h;rw[hn,Bool.false_and]at h;cases h)];exact aAt hQ))
def Itl (K:PySem.W.Frag) (a:Addr):It :=
 ⟨fun i H=>∃ xs x,SqL K H a xs/\xs[i]?=some x,fun i H x H'=>H'=H/\∀ xs,SqL K H a xs->xs[i]?=some x,fun i H=>∃ xs,SqL K H a xs/\xs.length<=i⟩
def Itr (lo:Int) (n:Nat):It:=⟨fun i _=>i<n,fun i H x H'=>H'=H/\x=.int (lo+i),fun i _=>n<=i⟩
theorem B7 {P:Program} {w:World} {K:PySem.W.Frag} {tg:Expr} (a it:Addr):qS P w K tg (Itl K a) [it] it (fun i h=>h.IsListIter it a i) where
 mem:=by simp
 obj:=fun i h st b hb=>by
  have e:b=it:=by simpa using hb
  subst e;obtain⟨o,e,c,d⟩:=st;exact⟨o,e,fun v z=>by rw[d]at z;cases z⟩
 keep:=fun i h h' st k=>st.at fun o e=>k it (by simp) o e
 item:=by
  intro X hP hw hK hc i pins s σ H E I hf st hg;subst hP hw hK;obtain⟨xs,x,hq,hx⟩:=hg;obtain⟨its,rv,p,hz⟩:=I.list hq;obtain⟨u,hu,ru⟩:=rv.get hx;obtain⟨f0,f1,f2,f3,f4,f5⟩:=hf it (by simp);refine wpAny_pyNext_list_item st p.isList (x:=u) (by simpa using hu) fun h' st' sb=>?_;have I1:Inv X pins σ H { s with heap:=h' }:=I.turned (t':=s.toks) (fun b o hb e=>(sb.2 b hb).trans e) f0 f1 f3 f4 f5;obtain⟨o,e,c,d⟩:=id st';exact⟨u,rfl,K6 (s:={ s with heap:=h' }) e c d (by decide) ⟨x,H,I1,ru,⟨rfl,fun ys hy=>by rw[I.list_inj hy hq];exact hx⟩,st',fun b hb=>(hf b hb).1⟩⟩
 done:=by
  intro X hP hw hK hc i pins s σ H E I hf st hg;subst hP hw hK;obtain⟨xs,hq,hx⟩:=hg;obtain⟨its,rv,p,hz⟩:=I.list hq;obtain⟨f0,f1,f2,f3,f4,f5⟩:=hf it (by simp);have hl:=rv.length;exact wpAny_pyNext_list_end (I.ok.hd hc) st p.isList (by simp;omega) fun h' eb=>⟨rfl,I.turned (t':=s.toks) (fun b o hb e=>eb b o hb e) f0 f1 f3 f4 f5⟩
 self:=fun _ _ _ _ _ st h=>wpAny_pyIter_listiter st h
theorem xD {P:Program} {w:World} {K:PySem.W.Frag} {tg:Expr} (it:Addr) (lo:Int) (n:Nat):qS P w K tg (Itr lo n) [it] it (fun i h=>IsRangeIter h it (lo+(i:Nat) * 1) ((n:Int) - (i:Nat)) 1) where
 mem:=by simp
 obj:=fun i h st b hb=>by
  have e:b=it:=by simpa using hb
  subst e;exact⟨_,st,fun v z=>by
   have z':Data.fields _=Data.cell v:=z;cases z'⟩
 keep:=fun i h h' st k=>k it (by simp) _ st
 item:=by
  intro X hP hw hK hc i pins s σ H E I hf st hg;subst hP hw hK;obtain⟨f0,f1,f2,f3,f4,f5⟩:=hf it (by simp);have W:=Walks.range (prog:=X.prog) (w:=X.w) (I.ok.hd hc) it lo 1 n;refine W.item i s _ _ hg st fun v h' tk hv st' kk=>?_;obtain⟨t,rfl⟩:=hv;have I1:Inv X pins σ H { s with heap:=h',toks:=tk }:=I.turned (fun b o hb e=>kk b o (by simpa using hb) e) f0 f1 f3 f4 f5;refine⟨_,rfl,K6 (s:={ s with heap:=h',toks:=tk }) (n:="range_iterator") st' rfl rfl (by decide) ⟨.int (lo+i),H,I1,⟨t,?_⟩,⟨rfl,rfl⟩,st',fun b hb=>(hf b hb).1⟩⟩;rw[Int.mul_one]
 done:=by
  intro X hP hw hK hc i pins s σ H E I hf st hg;subst hP hw hK;obtain⟨f0,f1,f2,f3,f4,f5⟩:=hf it (by simp);exact wpAny_pyNext_range_end (I.ok.hd hc) st (by have:n<=i:=hg;omega) fun h' eb=>⟨rfl,I.turned (t':=s.toks) (fun b o hb e=>eb b o hb e) f0 f1 f3 f4 f5⟩
 self:=fun _ _ _ _ _ st h=>wpAny_pyIter_rangeiter st h
section
variable {X:Cx} {tg:Expr}
def d0 (K:PySem.W.Frag) (tl:TE):TI:=fun σ H R=>tl σ H fun x H1=>∃ a,x=.ref a/\(∃ xs,SqL K H1 a xs)/\R (Itl K a) H1
theorem bW {l:Expr} {tl:TE} (hl:PE X l tl):PI X tg l (d0 X.K tl):=by
 intro pins s σ H R I h;refine thn (hl pins s σ H _ I h) fun v s1 ⟨x,H1,I1,r1,q1⟩=>?_;obtain⟨a,e,⟨xs,hq⟩,q⟩:=q1;subst e;cases r1;obtain⟨its,rv,p,hz⟩:=I1.list hq;refine wpAny_pyIter_list p.isList ?_;refine⟨s1.heap.objs.size,[s1.heap.objs.size],_,_,H1,rfl,I1.kept (t':=s1.toks) fun b o e=>aAv _ e,B7 a _,⟨_,aBB _ rfl,rfl,rfl⟩,fun b hb=>?_,q⟩;have e:b=s1.heap.objs.size:=by simpa using hb
 subst e;exact I1.fpOk (Nat.le_refl _) (I1.hok.fresh (Nat.le_refl _))
theorem uR {pins:List (Addr×Obj)} {σ:St} {H:Hp} {s:Shared} {R:It->Hp->Prop} {E:Value->Shared->Prop} {lo hi:Int} {t u v:Tok} {tk:Nat} (I:Inv X pins σ H s) (h1:-(2 ^ 62)<=lo) (h2:lo<2 ^ 62) (h3:-(2 ^ 62)<=hi) (h4:hi<2 ^ 62)
 (q:R (Itr lo (hi - lo).toNat) H):wpAny (model X.prog X.w) X.A (pyIter (.ref s.heap.objs.size)) (PIE X pins σ tg R) E { s with heap:=s.heap.push { cls:=.type "range",data:=.fields #[.int lo t,.int hi u,.int 1 v] },toks:=tk }:=by
 refine wpAny_pyIter_range (IsRange.new ..) (small_one h1 h2 h3 h4) ?_;have I1:Inv X pins σ H { s with heap:=s.heap.push { cls:=.type "range",data:=.fields #[.int lo t,.int hi u,.int 1 v] },toks:=tk }:=I.kept fun b o e=>aAv _ e;refine⟨(s.heap.push { cls:=.type "range",data:=.fields #[.int lo t,.int hi u,.int 1 v] }).objs.size,[(s.heap.push { cls:=.type "range",data:=.fields #[.int lo t,.int hi u,.int 1 v] }).objs.size],_,_,H,rfl,
  I1.kept (t':=tk) fun b o e=>aAv _ e,xD _ lo (hi - lo).toNat,?_,fun b hb=>?_,q⟩
 ·have e1:lo+((0:Nat):Int) * 1=lo:=by simp
  have e2:(((hi - lo).toNat:Nat):Int) - ((0:Nat):Int)=Builtin.Range.rangeSize lo hi 1:=by rw[rangeSize_one];split <;> omega
  show IsRangeIter _ _ (lo+((0:Nat):Int) * 1) ((((hi - lo).toNat:Nat):Int) - ((0:Nat):Int)) 1;rw[e1,e2];exact aBB _ rfl
 ·have e:b=(s.heap.push { cls:=.type "range",data:=.fields #[.int lo t,.int hi u,.int 1 v] }).objs.size:=by simpa using hb
  subst e;exact I1.fpOk (Nat.le_refl _) (I1.hok.fresh (Nat.le_refl _))
def y3 (ta:TA):TI:=fun σ H R=>ta σ H fun vs H1=>∃ j:Int,vs=[.int j]/\-(2 ^ 62)<=j/\j<2 ^ 62/\R (Itr 0 j.toNat) H1
def y4 (ta:TA):TI:=fun σ H R=>ta σ H fun vs H1=>∃ i j:Int,vs=[.int i,.int j]/\(-(2 ^ 62)<=i/\i<2 ^ 62/\-(2 ^ 62)<=j/\j<2 ^ 62)/\R (Itr i (j - i).toNat) H1
theorem fX {a:Expr} {ta:TA} {p pos:Pos} (hg:Gl X "range") (hm:X.mg "range"=none) (ha:PA X [a] ta) (hs:starEach [a] X.env=[(false,eval a X.env)]:=by rfl):PI X tg (.Call (.Name "range" p) [a] [] pos) (y3 ta):=by
 intro pins s σ H R I h;refine Call_ (hU I hg hm boot_range (PyProof.Rows.callWith_type1 (thn (ha pos pins s σ H _ I h) fun us s1 ⟨vs,H1,I1,r1,q1⟩=>?_) hs rfl));obtain⟨j,e,q1,q2,q⟩:=q1;subst e;cases r1 with
 | cons r rr =>
  cases rr;obtain⟨t,rfl⟩:=r;exact call_range_1 (uR I1 (by omega) (by omega) q1 q2 (by simpa using q))
theorem jR {a b:Expr} {ta:TA} {p pos:Pos} (hg:Gl X "range") (hm:X.mg "range"=none) (ha:PA X [a,b] ta) (hs:starEach [a,b] X.env=[(false,eval a X.env),(false,eval b X.env)]:=by rfl) (hs2:starEach [b] X.env=[(false,eval b X.env)]:=by rfl) :
 PI X tg (.Call (.Name "range" p) [a,b] [] pos) (y4 ta):=by
 intro pins s σ H R I h;refine Call_ (hU I hg hm boot_range (PyProof.Rows.callWith_type1 (thn (ha pos pins s σ H _ I h) fun us s1 ⟨vs,H1,I1,r1,q1⟩=>?_) (by rw[hs,hs2]) (by rw[hs2];rfl)));obtain⟨i,j,e,⟨q1,q2,q3,q4⟩,q⟩:=q1;subst e;cases r1 with
 | cons r rr =>
  cases rr with
  | cons r' rr =>
   cases rr;obtain⟨t,rfl⟩:=r;obtain⟨t',rfl⟩:=r';exact call_range_2 (uR I1 q1 q2 q3 q4 q)
def aA9 (wi:TI) (g:TG) (tb:TS):TS:=fun D σ H=>wi σ H fun J H1=>∃ W:Nat->Nat->St->Hp->Prop,(∃ m,W 0 m σ H1)/\∀ i m σ H,W i m σ H ->
 (J.stop i H/\D.nx σ H)\/(J.go i H/\∃ N:St->Hp->Prop,(∀ σ' H',N σ' H'->∃ m',m'<m/\W (i+1) m' σ' H')/\∀ x H',J.yld i H x H'->g x σ H' fun σ2 H2=>tb { D with nx:=N,ct:=N,bk:=D.nx } σ2 H2)
def bR (fp:List Addr) (h:Heap):List (Addr×Obj):=fp.filterMap fun b=>(h.get? b).map fun o=>(b,o)
theorem bH {fp:List Addr} {h:Heap} {b:Addr} {o:Obj} (hb:b∈fp) (e:h.get? b=some o):(b,o)∈bR fp h:=List.mem_filterMap.mpr ⟨b,hb,by rw[e];rfl⟩
theorem fY {fp:List Addr} {h:Heap} {p:Addr×Obj} (hp:p∈bR fp h):p.1∈fp/\h.get? p.1=some p.2:=by
 obtain⟨b,hb,e⟩:=List.mem_filterMap.mp hp;cases q:h.get? b with
 | none=>rw[q]at e;cases e
 | some o =>
  rw[q]at e;have e':(b,o)=p:=Option.some.inj e;subst e';exact⟨hb,q⟩
theorem Inv.pinned {pins:List (Addr×Obj)} {σ:St} {H:Hp} {s:Shared} {fp:List Addr} (I:Inv X pins σ H s) (hf:∀ b∈fp,gR X pins H b) (ho:∀ b∈fp,∃ o,s.heap.get? b=some o/\∀ v,o.data≠.cell v):Inv X (pins++bR fp s.heap) σ H s :=
 I.pins_of fun p hp=>(aB9.mp hp).elim (fun z=>I.pin p (aAy _ z)) fun z=>by
  obtain⟨hb,e⟩:=fY z;obtain⟨f0,f1,f2,_⟩:=hf p.1 hb;obtain⟨o,e',d⟩:=ho p.1 hb;rw[e]at e';cases e';exact⟨e,f0,f1,f2,d⟩
theorem Inv.unpinned {pins pl:List (Addr×Obj)} {σ:St} {H:Hp} {s:Shared} (I:Inv X (pins++pl) σ H s):Inv X pins σ H s:=I.pins_of fun p hp=>I.pin p (aAy _ (aBO _ hp))
theorem cK {iter:Expr} {body:List Stmt} {wi:TI} {g:TG} {tb:TS} {pos:Pos} (hp:PassesOwn (model X.prog X.w) X.A X.env X.xe) (hc:X.calm=true) (hi:PI X tg iter wi) (hg:PG X tg g) (hb:PSs X body tb)
 (hs:∀ x,foldedSetIterable iter X.env x=pure x:=by intro _;rfl):PS X (.For tg iter body [] pos) (aA9 wi g tb):=by
 intro pins s σ H D I h;refine wpAny_For (thn (hi pins s σ H _ I h) fun v s1 h1=>thn h1 fun itv s2 h2=>?_) hs;obtain⟨it,fp,tn,J,H2,e,I2,T,st2,f2,W,⟨m0,w0⟩,turn⟩:=h2;subst e;have stat:∀ {H':Hp},(∀ b∈fp,H' b=none)->∀ b∈fp,gR X pins H' b:=fun hn b hb=>⟨hn b hb,(f2 b hb).2⟩;refine codeAny_forLoop_any (fun n s'=>∃ i σ' H',Inv X pins σ' H' s'/\tn i s'.heap/\(∀ b∈fp,H' b=none)/\W i n σ' H') ?_ m0 ⟨0,σ,H2,I2,st2,fun b hb=>(f2 b hb).1,w0⟩;rintro n s3 ⟨i,σ3,H3,I3,st3,fr3,w3⟩;rcases turn i n σ3 H3 w3 with ⟨stop,qn⟩ | ⟨go,N,hN,step⟩
 ·refine wpAny_passesOwn hp (thn (T.done X rfl rfl rfl hc i pins s3 σ3 H3 X.xe I3 (stat fr3) st3 stop) fun r s4 ⟨hr,I4⟩=>?_);subst hr;exact wpAny_execs_nil ⟨σ3,H3,I4,qn⟩
 ·refine wpAny_passesOwn hp (thn (T.item X rfl rfl rfl hc i pins s3 σ3 H3 X.xe I3 (stat fr3) st3 go) fun r s4 ⟨u,hr,h4⟩=>?_);subst hr;refine wpAny_passesOwn hp (thn h4 fun _ s5 ⟨x,H5,I5,r5,y5,st5,fr5⟩=>?_);have I5':=I5.pinned (stat fr5) (T.obj _ _ st5);refine wpAny_passesOwn hp (thn (hg _ s5 σ3 H5 x u _ I5' r5 (step x H5 y5)) fun _ s6 ⟨σ6,H6,I6,q6⟩=>?_);refine wpAny_passesOwn hp (thn (hb _ s6 σ6 H6 _ I6 q6) fun f s7 q7=>?_);have again:∀ {σ7:St} {H7:Hp},Inv X (pins++bR fp s5.heap) σ7 H7 s7->N σ7 H7->∃ m,m<n/\∃ i σ' H',Inv X pins σ' H' s7/\tn i s7.heap/\(∀ b∈fp,H' b=none)/\W i m σ' H':=fun {σ7 H7} I7 n7=>by
   obtain⟨m',hm,w7⟩:=hN σ7 H7 n7;refine⟨m',hm,i+1,σ7,H7,I7.unpinned,T.keep _ _ _ st5 fun b hb o e=>(I7.pin (b,o) (aAy _ (aAy _ (bH hb e)))).1,fun b hb=>?_,w7⟩;obtain⟨o,e,d⟩:=T.obj _ _ st5 b hb;exact(I7.pin (b,o) (aAy _ (aAy _ (bH hb e)))).2.1
  cases f with
  | next=>obtain⟨σ7,H7,I7,n7⟩:=q7;exact again I7 n7
  | cont=>obtain⟨σ7,H7,I7,n7⟩:=q7;exact again I7 n7
  | brk=>obtain⟨σ7,H7,I7,q7⟩:=q7;exact⟨σ7,H7,I7.unpinned,q7⟩
  | ret v=>obtain⟨x7,σ7,H7,I7,r7,q7⟩:=q7;exact⟨x7,σ7,H7,I7.unpinned,r7,q7⟩
end
theorem eC {K:PySem.W.Frag} {a:Addr} {xs:List V} {g:TG} {tb:TS} {D:qR} {σ:St} {H:Hp} (Pv:Nat->St->Hp->Prop) (h0:Pv 0 σ H) (hl:∀ i σ H,i<=xs.length->Pv i σ H->SqL K H a xs)
 (hs:∀ i x σ H,xs[i]?=some x->Pv i σ H->g x σ H fun σ2 H2=>tb { D with nx:=Pv (i+1),ct:=Pv (i+1),bk:=D.nx } σ2 H2) (hd:∀ σ H,Pv xs.length σ H->D.nx σ H) :
 ∃ W:Nat->Nat->St->Hp->Prop,(∃ m,W 0 m σ H)/\∀ i m σ H,W i m σ H ->
  ((Itl K a).stop i H/\D.nx σ H)\/((Itl K a).go i H/\∃ N:St->Hp->Prop,(∀ σ' H',N σ' H'->∃ m',m'<m/\W (i+1) m' σ' H')/\∀ x H',(Itl K a).yld i H x H'->g x σ H' fun σ2 H2=>tb { D with nx:=N,ct:=N,bk:=D.nx } σ2 H2):=by
 refine⟨fun i m σ H=>m=xs.length - i/\i<=xs.length/\Pv i σ H,⟨xs.length,by simp,Nat.zero_le _,h0⟩,?_⟩;rintro i m σ H ⟨rfl,hi,p⟩;have q:=hl i σ H hi p
 by_cases hlt:i<xs.length
 ·refine .inr ⟨⟨xs,xs[i],q,by simp[hlt]⟩,Pv (i+1),fun σ' H' p'=>⟨xs.length - (i+1),by omega,rfl,hlt,p'⟩,fun x H' y=>?_⟩;obtain⟨e,y⟩:=y;subst e;exact hs i x σ _ (y xs q) p
 ·have e:i=xs.length:=by omega
  subst e;exact .inl ⟨⟨xs,q,Nat.le_refl _⟩,hd σ H p⟩
theorem dS {lo:Int} {n:Nat} {g:TG} {tb:TS} {D:qR} {σ:St} {H:Hp} (Pv:Nat->St->Hp->Prop) (h0:Pv 0 σ H)
 (hs:∀ i σ H,i<n->Pv i σ H->g (.int (lo+i)) σ H fun σ2 H2=>tb { D with nx:=Pv (i+1),ct:=Pv (i+1),bk:=D.nx } σ2 H2) (hd:∀ σ H,Pv n σ H->D.nx σ H) :
 ∃ W:Nat->Nat->St->Hp->Prop,(∃ m,W 0 m σ H)/\∀ i m σ H,W i m σ H ->
  ((Itr lo n).stop i H/\D.nx σ H)\/((Itr lo n).go i H/\∃ N:St->Hp->Prop,(∀ σ' H',N σ' H'->∃ m',m'<m/\W (i+1) m' σ' H')/\∀ x H',(Itr lo n).yld i H x H'->g x σ H' fun σ2 H2=>tb { D with nx:=N,ct:=N,bk:=D.nx } σ2 H2):=by
 refine⟨fun i m σ H=>m=n - i/\i<=n/\Pv i σ H,⟨n,by simp,Nat.zero_le _,h0⟩,?_⟩;rintro i m σ H ⟨rfl,hi,p⟩
 by_cases hlt:i<n
 ·refine .inr ⟨hlt,Pv (i+1),fun σ' H' p'=>⟨n - (i+1),by omega,rfl,hlt,p'⟩,fun x H' y=>?_⟩;obtain⟨e,y⟩:=y;subst e y;exact hs i σ _ hlt p
 ·have e:i=n:=by omega
  subst e;exact .inl ⟨Nat.le_refl _,hd σ H p⟩
theorem uS {c:TT} {tb:TS} {D:qR} {σ:St} {H:Hp} (Pv:St->Hp->Prop) (μ:St->Hp->Nat) (h0:Pv σ H)
 (hs:∀ σ H,Pv σ H->c σ H fun b H1=>if b=true then tb { D with nx:=fun σ' H'=>Pv σ' H'/\μ σ' H'<μ σ H,ct:=fun σ' H'=>Pv σ' H'/\μ σ' H'<μ σ H,bk:=D.nx } σ H1 else D.nx σ H1)
 (mono:∀ σ H Q Q',(∀ b H1,Q b H1->Q' b H1)->c σ H Q->c σ H Q'):K5 c tb D σ H:=by
 refine⟨fun m σ H=>m=μ σ H/\Pv σ H,⟨_,rfl,h0⟩,?_⟩;rintro m σ H ⟨rfl,p⟩;refine mono σ H _ _ (fun b H1 q=>?_) (hs σ H p);cases b with
 | true=>exact⟨_,fun σ' H' ⟨p',l⟩=>⟨_,l,rfl,p'⟩,q⟩
 | false=>exact q
abbrev R2:=V->V->Hp->VK->Prop
def OpR (X:Cx) (f:Value->Value->Sem Value) (r:R2):Prop :=
 ∀ (pins:List (Addr×Obj)) (s:Shared) (σ:St) (H:Hp) (x y:V) (v u:Value) (Q:VK),Inv X pins σ H s->RelV x v->RelV y u->r x y H Q ->
  wpAny (model X.prog X.w) X.A (f v u) (EP X pins σ Q) X.xe s
def UnR (X:Cx) (f:Value->Sem Value) (r:V->Hp->VK->Prop):Prop :=
 ∀ (pins:List (Addr×Obj)) (s:Shared) (σ:St) (H:Hp) (x:V) (v:Value) (Q:VK),Inv X pins σ H s->RelV x v->r x H Q ->
  wpAny (model X.prog X.w) X.A (f v) (EP X pins σ Q) X.xe s
def eS (X:Cx) (f:Value) (r:List V->Hp->VK->Prop):Prop :=
 ∀ (pins:List (Addr×Obj)) (s:Shared) (σ:St) (H:Hp) (xs:List V) (us:List Value) (Q:VK),Inv X pins σ H s->Vals xs us->r xs H Q ->
  wpAny (model X.prog X.w) X.A (call f us) (EP X pins σ Q) X.xe s
def aAa (X:Cx) (r:V->Hp->(Bool->Hp->Prop)->Prop):Prop :=
 ∀ (pins:List (Addr×Obj)) (s:Shared) (σ:St) (H:Hp) (x:V) (v:Value) (Q:Bool->Hp->Prop),Inv X pins σ H s->RelV x v->r x H Q ->
  wpAny (model X.prog X.w) X.A (truthy v) (TP X pins σ Q) X.xe s
def tOp (r:R2) (ta tb:TE):TE:=fun σ H Q=>ta σ H fun x H1=>tb σ H1 fun y H2=>r x y H2 Q
def tUn (r:V->Hp->VK->Prop) (ta:TE):TE:=fun σ H Q=>ta σ H fun x H1=>r x H1 Q
def rI (C:Int->Int->Prop) (g:Int->Int->V):R2:=fun x y H Q=>∃ i j,x=.int i/\y=.int j/\C i j/\Q (g i j) H
def rI0 (g:Int->Int->V):R2:=fun x y H Q=>∃ i j,x=.int i/\y=.int j/\Q (g i j) H
def rU (g:Int->V):V->Hp->VK->Prop:=fun x H Q=>∃ i,x=.int i/\Q (g i) H
section
variable {X:Cx} {a b c:Expr} {ta tb tc:TE} {pos:Pos}
theorem i9 (ha:PE X a ta) (hb:PE X b tb) {pins:List (Addr×Obj)} {s:Shared} {σ:St} {H:Hp} {R:V->V->Hp->Prop} (I:Inv X pins σ H s)
 (h:ta σ H fun x H1=>tb σ H1 fun y H2=>R x y H2) {Q:Value->Shared->Prop} {f:Value->Value->Sem Value}
 (hf:∀ v u s2 x y H2,Inv X pins σ H2 s2->RelV x v->RelV y u->R x y H2->wpAny (model X.prog X.w) X.A (f v u) Q X.xe s2) :
 wpAny (model X.prog X.w) X.A (eval a X.env) (fun v s₁=>wpAny (model X.prog X.w) X.A (eval b X.env) (fun u s₂=>wpAny (model X.prog X.w) X.A (f v u) Q X.xe s₂) X.xe s₁) X.xe s:=by
 refine thn (ha pins s σ H _ I h) fun v s1 ⟨x,H1,I1,r1,q1⟩=>?_;refine thn (hb pins s1 σ H1 _ I1 q1) fun u s2 ⟨y,H2,I2,r2,q2⟩=>?_;exact hf v u s2 x y H2 I2 r1 r2 q2
theorem aL {op:Operator} {r:R2} (ho:OpR X (binaryOp op) r) (ha:PE X a ta) (hb:PE X b tb):PE X (.BinOp a op b pos) (tOp r ta tb):=by
 intro pins s σ H Q I h;exact wpAny_BinOp (i9 ha hb I h fun v u s2 x y H2 I2 rx ry q=>ho pins s2 σ H2 x y v u Q I2 rx ry q)
theorem rF {op:UnaryOp} {r:V->Hp->VK->Prop} (ho:UnR X (unaryOp op) r) (ha:PE X a ta):PE X (.UnaryOp op a pos) (tUn r ta):=by
 intro pins s σ H Q I h;exact UnaryOp_ (thn (ha pins s σ H _ I h) fun v s1 ⟨x,H1,I1,r1,q1⟩=>ho pins s1 σ H1 x v Q I1 r1 q1)
theorem opI {f:Value->Value->Sem Value} {C:Int->Int->Prop} {g:Int->Int->Int}
 (rule:∀ (i j:Int) (t u:Tok) (s:Shared) (Q:Value->Shared->Prop) (E:Value->Shared->Prop),C i j->Q (.int (g i j) s.toks) { s with toks:=s.toks+1 }->wpAny (model X.prog X.w) X.A (f (.int i t) (.int j u)) Q E s) :
 OpR X f (rI C fun i j=>.int (g i j)):=by
 intro pins s σ H x y v u Q I rx ry h;obtain⟨i,j,rfl,rfl,hc,q⟩:=h;obtain⟨t,rfl⟩:=rx;obtain⟨t',rfl⟩:=ry;exact rule i j t t' s _ _ hc ⟨.int (g i j),H,I.tok _,⟨_,rfl⟩,q⟩
theorem y6 {f:Value->Value->Sem Value} {g:Int->Int->Int}
 (rule:∀ (i j:Int) (t u:Tok) (s:Shared) (Q:Value->Shared->Prop) (E:Value->Shared->Prop),Q (.int (g i j) s.toks) { s with toks:=s.toks+1 }->wpAny (model X.prog X.w) X.A (f (.int i t) (.int j u)) Q E s) :
 OpR X f (rI0 fun i j=>.int (g i j)):=by
 intro pins s σ H x y v u Q I rx ry h;obtain⟨i,j,rfl,rfl,q⟩:=h;obtain⟨t,rfl⟩:=rx;obtain⟨t',rfl⟩:=ry;exact rule i j t t' s _ _ ⟨.int (g i j),H,I.tok _,⟨_,rfl⟩,q⟩
theorem K7 {f:Value->Value->Sem Value} {g:Int->Int->Bool}
 (rule:∀ (i j:Int) (t u:Tok) (s:Shared) (Q:Value->Shared->Prop) (E:Value->Shared->Prop),Q (.bool (g i j)) s->wpAny (model X.prog X.w) X.A (f (.int i t) (.int j u)) Q E s) :
 OpR X f (rI0 fun i j=>.bl (g i j)):=by
 intro pins s σ H x y v u Q I rx ry h;obtain⟨i,j,rfl,rfl,q⟩:=h;obtain⟨t,rfl⟩:=rx;obtain⟨t',rfl⟩:=ry;exact rule i j t t' s _ _ ⟨.bl (g i j),H,I,rfl,q⟩
def aAb (i j:Int):Prop:=0<j/\j<1073741824
def aAc (i j:Int):Prop:=0<=j/\j<=1000000/\i.natAbs<2 ^ 64
def CMul (i j:Int):Prop:=(-(2 ^ 64)<i/\i<2 ^ 64)\/(-(2 ^ 64)<j/\j<2 ^ 64)
theorem CMul.ok {i j:Int} (h:CMul i j):IntMulOk i j:=by
 rcases h with ⟨h1,h2⟩ | ⟨h1,h2⟩
 ·exact .of_left (intBits_le_64 h1 h2)
 ·exact .of_right (intBits_le_64 h1 h2)
theorem bX:OpR X (binaryOp .Add) (rI0 fun i j=>.int (i+j)):=y6 fun _ _ _ _ _ _ _ q=>add_int q
theorem cD:OpR X (binaryOp .Sub) (rI0 fun i j=>.int (i - j)):=y6 fun _ _ _ _ _ _ _ q=>sub_int q
theorem cL:OpR X (binaryOp .Mult) (rI CMul fun i j=>.int (i * j)):=opI fun _ _ _ _ _ _ _ hc q=>mul_int q hc.ok
theorem nZ:OpR X (binaryOp .FloorDiv) (rI aAb fun i j=>.int (i / j)):=opI fun i j _ _ _ _ _ hc q=>by
 have h1:(0:Int)<j:=hc.1;have h2:j<1073741824:=hc.2;exact floordiv_int (by omega) (by rw[Int.fdiv_eq_ediv_of_nonneg i (by omega)];exact q) (.inl (PyProof.noPylong_small (by omega)))
theorem fP:OpR X (binaryOp .Mod) (rI (fun _ j=>0<j) fun i j=>.int (i % j)):=opI fun i j _ _ _ _ _ hc q=>by
 have h1:(0:Int)<j:=hc;exact mod_int' (by omega) (by rw[Int.fmod_eq_emod_of_nonneg i (by omega)];exact q)
theorem j3:OpR X (binaryOp .Pow) (rI aAc fun i j=>.int (i ^ j.toNat)):=opI fun _ _ _ _ _ _ _ hc q=>pow_int_small hc.1 hc.2.1 hc.2.2 q
theorem unI {f:Value->Sem Value} {g:Int->Int}
 (rule:∀ (i:Int) (t:Tok) (s:Shared) (Q:Value->Shared->Prop) (E:Value->Shared->Prop),Q (.int (g i) s.toks) { s with toks:=s.toks+1 }->wpAny (model X.prog X.w) X.A (f (.int i t)) Q E s) :
 UnR X f (rU fun i=>.int (g i)):=by
 intro pins s σ H x v Q I rx h;obtain⟨i,rfl,q⟩:=h;obtain⟨t,rfl⟩:=rx;exact rule i t s _ _ ⟨.int (g i),H,I.tok _,⟨_,rfl⟩,q⟩
theorem mI:UnR X (unaryOp .USub) (rU fun i=>.int (-i)):=unI fun _ _ _ _ _ q=>neg_int q
end
def y8:V->V->Bool
 | .non,.non=>true | .non,.int _=>true | .int _,.non=>true | .non,.bl _=>true | .bl _,.non=>true | .non,.str _=>true | .str _,.non=>true
 | .int _,.int _=>true | .bl _,.bl _=>true | .str _,.str _=>true | .byt _,.byt _=>true
 | .int _,.str _=>true | .str _,.int _=>true | .bl _,.str _=>true | .str _,.bl _=>true
 | _,_=>false
def rEq:R2:=fun x y H Q=>y8 x y=true/\Q (.bl (decide (x=y))) H
def rNe:R2:=fun x y H Q=>y8 x y=true/\Q (.bl (!decide (x=y))) H
theorem zB {i j:Int}:decide (V.int i=V.int j)=(i == j):=by
 rw[Bool.eq_iff_iff];simp
theorem K8 {i j:Bool}:decide (V.bl i=V.bl j)=(i == j):=by
 rw[Bool.eq_iff_iff];simp
theorem zC {i j:Str}:decide (V.str i=V.str j)=(i == j):=by
 rw[Bool.eq_iff_iff];simp
theorem zD {i j:Array UInt8}:decide (V.byt i=V.byt j)=(i.toList == j.toList):=by
 rw[Bool.eq_iff_iff];cases i;cases j;simp
section
variable {X:Cx} {a b c:Expr} {ta tb tc:TE} {pos:Pos}
theorem bL {pins:List (Addr×Obj)} {σ:St} {H:Hp} {s:Shared} {Q:VK} {k k':Bool} (I:Inv X pins σ H s) (q:Q (.bl k) H) (e:k=k'):EP X pins σ Q (.bool k') s:=by
 subst e;exact⟨.bl k,H,I,rfl,q⟩
theorem y9:OpR X (compareOp .Eq) rEq:=by
 intro pins s σ H x y v u Q I rx ry h;obtain⟨hs,q⟩:=h;cases x with
 | non =>
  cases rx;cases y with
  | non=>cases ry;exact PySem.EqNone.eq_none_none (bL I q (by simp))
  | bl j=>cases ry;exact PySem.EqNone.eq_none_bool (bL I q (by simp))
  | int j=>obtain⟨t',rfl⟩:=ry;exact PySem.EqNone.eq_none_int (bL I q (by simp))
  | str j=>obtain⟨t',rfl⟩:=ry;exact PySem.EqNone.eq_none_str (bL I q (by simp))
  | _=>exact absurd (show false=true from hs) aBH
 | bl i =>
  cases rx;cases y with
  | non=>cases ry;exact PySem.EqNone.eq_bool_none (bL I q (by simp))
  | bl j=>cases ry;exact eq_bool (bL I q K8)
  | str j=>obtain⟨t',rfl⟩:=ry;exact PySem.EqMixed.eq_bool_str (bL I q (by simp))
  | _=>exact absurd (show false=true from hs) aBH
 | int i =>
  obtain⟨t,rfl⟩:=rx;cases y with
  | non=>cases ry;exact PySem.EqNone.eq_int_none (bL I q (by simp))
  | int j=>obtain⟨t',rfl⟩:=ry;exact eq_int (bL I q zB)
  | str j=>obtain⟨t',rfl⟩:=ry;exact PySem.EqMixed.eq_int_str (bL I q (by simp))
  | _=>exact absurd (show false=true from hs) aBH
 | str i =>
  obtain⟨t,rfl⟩:=rx;cases y with
  | non=>cases ry;exact PySem.EqNone.eq_str_none (bL I q (by simp))
  | bl j=>cases ry;exact PySem.EqMixed.eq_str_bool (bL I q (by simp))
  | int j=>obtain⟨t',rfl⟩:=ry;exact PySem.EqMixed.eq_str_int (bL I q (by simp))
  | str j=>obtain⟨t',rfl⟩:=ry;exact eq_str (bL I q zC)
  | _=>exact absurd (show false=true from hs) aBH
 | byt i =>
  obtain⟨t,rfl⟩:=rx;cases y with
  | byt j=>obtain⟨t',rfl⟩:=ry;exact PySem.W.eq_bytes (bL I q zD)
  | _=>exact absurd (show false=true from hs) aBH
 | _=>cases y <;> exact absurd (show false=true from hs) aBH
theorem zE:OpR X (compareOp .NotEq) rNe:=by
 intro pins s σ H x y v u Q I rx ry h;obtain⟨hs,q⟩:=h;cases x with
 | non =>
  cases rx;cases y with
  | non=>cases ry;exact PySem.EqNone.ne_none_none (bL I q (by simp))
  | bl j=>cases ry;exact PySem.EqNone.ne_none_bool (bL I q (by simp))
  | int j=>obtain⟨t',rfl⟩:=ry;exact PySem.EqNone.ne_none_int (bL I q (by simp))
  | str j=>obtain⟨t',rfl⟩:=ry;exact PySem.EqNone.ne_none_str (bL I q (by simp))
  | _=>exact absurd (show false=true from hs) aBH
 | bl i =>
  cases rx;cases y with
  | non=>cases ry;exact PySem.EqNone.ne_bool_none (bL I q (by simp))
  | bl j=>cases ry;exact ne_bool (bL I q (congrArg not K8))
  | str j=>obtain⟨t',rfl⟩:=ry;exact PySem.EqMixed.ne_bool_str (bL I q (by simp))
  | _=>exact absurd (show false=true from hs) aBH
 | int i =>
  obtain⟨t,rfl⟩:=rx;cases y with
  | non=>cases ry;exact PySem.EqNone.ne_int_none (bL I q (by simp))
  | int j=>obtain⟨t',rfl⟩:=ry;exact ne_int (bL I q (congrArg not zB))
  | str j=>obtain⟨t',rfl⟩:=ry;exact PySem.EqMixed.ne_int_str (bL I q (by simp))
  | _=>exact absurd (show false=true from hs) aBH
 | str i =>
  obtain⟨t,rfl⟩:=rx;cases y with
  | non=>cases ry;exact PySem.EqNone.ne_str_none (bL I q (by simp))
  | bl j=>cases ry;exact PySem.EqMixed.ne_str_bool (bL I q (by simp))
  | int j=>obtain⟨t',rfl⟩:=ry;exact PySem.EqMixed.ne_str_int (bL I q (by simp))
  | str j=>obtain⟨t',rfl⟩:=ry;exact ne_str (bL I q (congrArg not zC))
  | _=>exact absurd (show false=true from hs) aBH
 | byt i =>
  obtain⟨t,rfl⟩:=rx;cases y with
  | byt j=>obtain⟨t',rfl⟩:=ry;exact PySem.W.ne_bytes (bL I q (congrArg not zD))
  | _=>exact absurd (show false=true from hs) aBH
 | _=>cases y <;> exact absurd (show false=true from hs) aBH
theorem iX:OpR X (compareOp .Lt) (rI0 fun i j=>.bl (decide (i<j))):=K7 fun _ _ _ _ _ _ _ q=>lt_int q
theorem K9:OpR X (compareOp .LtE) (rI0 fun i j=>.bl (decide (i<=j))):=K7 fun _ _ _ _ _ _ _ q=>le_int q
theorem iT:OpR X (compareOp .Gt) (rI0 fun i j=>.bl (decide (j<i))):=K7 fun _ _ _ _ _ _ _ q=>gt_int q
theorem z0:OpR X (compareOp .GtE) (rI0 fun i j=>.bl (decide (j<=i))):=K7 fun _ _ _ _ _ _ _ q=>ge_int q
theorem L0:OpR X (compareOp .Is) (fun x y H Q=>y=.non/\Q (.bl (decide (x=.non))) H):=by
 intro pins s σ H x y v u Q I rx ry h;obtain⟨rfl,q⟩:=h;cases ry;refine is_none_gen (bL I q ?_);cases x <;> first
  | (cases rx;rfl)
  | (obtain⟨t,rfl⟩:=rx;rfl)
theorem aZ (b:Expr) {op:CmpOp} (h:op≠.In:=by decide) (h2:op≠.NotIn:=by decide):behindInMarks op b=false:=by
 have e1:(op == CmpOp.In)=false:=by cases op <;> first | rfl | exact absurd rfl h
 have e2:(op == CmpOp.NotIn)=false:=by cases op <;> first | rfl | exact absurd rfl h2
 cases b <;> simp[behindInMarks,e1,e2]
theorem iI {op:CmpOp} {r:R2} (ho:OpR X (compareOp op) r) (ha:PE X a ta) (hb:PE X b tb) (hm:behindInMarks op b=false):PE X (.Compare a [op] [b] pos) (tOp r ta tb):=by
 intro pins s σ H Q I h;exact wpAny_Compare1 (i9 ha hb I h fun v u s2 x y H2 I2 rx ry q=>ho pins s2 σ H2 x y v u Q I2 rx ry q) hm
def z4 (t:TE):TT:=fun σ H Q=>t σ H fun x H'=>∃ k,x=.bl k/\Q k H'
theorem aX {op:CmpOp} {r:R2} (ho:OpR X (compareOp op) r) (ha:PE X a ta) (hb:PE X b tb) (hm:behindInMarks op b=false):PT X (.Compare a [op] [b] pos) (z4 (tOp r ta tb)):=by
 intro pins s σ H Q I h;refine wpAny_isTrue_Compare1 (thn (ha pins s σ H _ I h) fun v s1 ⟨x,H1,I1,r1,q1⟩=>thn (hb pins s1 σ H1 _ I1 q1) fun u s2 ⟨y,H2,I2,r2,q2⟩ =>
  thn (ho pins s2 σ H2 x y v u _ I2 r1 r2 q2) fun c s3 ⟨z,H3,I3,r3,k,e,q3⟩=>?_) hm
 subst e;cases r3;exact wpAny_truthy_bool ⟨H3,I3,q3⟩
def j4 (r r':R2) (ta tb tc:TE):TE:=fun σ H Q=>ta σ H fun x H1=>tb σ H1 fun y H2=>r x y H2 fun z H3=>∃ k,z=.bl k /\
 (if k=true then tc σ H3 fun w' H4=>r' y w' H4 Q else Q (.bl false) H3)
theorem L1 {op op':CmpOp} {r r':R2} (ho:OpR X (compareOp op) r) (ho':OpR X (compareOp op') r') (ha:PE X a ta) (hb:PE X b tb) (hc:PE X c tc)
 (hm:lastMarks [op,op'] [b,c]=false:=by with_unfolding_all rfl):PE X (.Compare a [op,op'] [b,c] pos) (j4 r r' ta tb tc):=by
 intro pins s σ H Q I h;refine Compare_chain (thn (ha pins s σ H _ I h) fun v s1 ⟨x,H1,I1,r1,q1⟩=>chain_link (thn (hb pins s1 σ H1 _ I1 q1) fun u s2 ⟨y,H2,I2,r2,q2⟩ =>
  thn (ho pins s2 σ H2 x y v u _ I2 r1 r2 q2) fun d s3 ⟨z,H3,I3,r3,k,e,q3⟩=>?_)) hm
 subst e;cases r3;refine wpAny_truthy_bool ?_;cases k with
 | false=>exact ite_ff ⟨.bl false,H3,I3,rfl,q3⟩
 | true=>exact ite_tt (chain_last (thn (hc pins s3 σ H3 _ I3 q3) fun w' s4 ⟨z',H4,I4,r4,q4⟩=>ho' pins s4 σ H4 y z' u w' Q I4 r2 r4 q4))
def z5 (K:PySem.W.Frag) (x:V) (H:Hp) (k:Bool):Prop :=
 match x with
 | .non=>k=false
 | .bl b=>k=b
 | .int i=>k=(i != 0)
 | .str y=>y.length<=sizeLine/\k=((y.length:Int) != 0)
 | .byt y=>y.size<=sizeLine/\k=((y.size:Int) != 0)
 | .ref p=>(∃ xs,SqL K H p xs/\k=!xs.isEmpty)\/(∃ xs,SqT K H p xs/\k=!xs.isEmpty)\/∃ kvs,H p=some (.dK kvs)/\k=!kvs.isEmpty
 | _=>False
theorem xE {κ:Type} {kvs:List (κ×V)} {vs:List (κ×Value)} (r:KV kvs vs):(!vs.isEmpty)=!kvs.isEmpty:=by
 cases r <;> rfl
theorem oN {xs:List V} {its:List Value} (r:Vals xs its):(!its.toArray.isEmpty)=!xs.isEmpty:=by
 cases r <;> simp
theorem mJ:(sizeLine:Nat)<2 ^ 63:=by rw[sizeLine_eq];decide
theorem j5:aAa X (fun x H Q=>∃ k,z5 X.K x H k/\Q k H):=by
 intro pins s σ H x v Q I rx h;obtain⟨k,e,q⟩:=h;have hl:=mJ;have hs:sizeLine=16777216:=sizeLine_eq;cases x with
 | non =>
  cases rx;have e':k=false:=e;subst e';exact truthy_none ⟨H,I,q⟩
 | bl b =>
  cases rx;have e':k=b:=e;subst e';exact wpAny_truthy_bool ⟨H,I,q⟩
 | int i =>
  obtain⟨t,rfl⟩:=rx;have e':k=(i != 0):=e;subst e';exact PySem.P.truthy_int ⟨H,I,q⟩
 | str y =>
  obtain⟨t,rfl⟩:=rx;obtain⟨hy,e'⟩:y.length<=sizeLine/\k=((y.length:Int) != 0):=e;subst e';exact PySem.P.truthy_str (by omega) ⟨H,I.tok _,q⟩
 | byt y =>
  obtain⟨t,rfl⟩:=rx;obtain⟨hy,e'⟩:y.size<=sizeLine/\k=((y.size:Int) != 0):=e;subst e';exact PySem.W.truthy_bytes (by omega) ⟨H,I.tok _,q⟩
 | ref p =>
  cases rx;have e':(∃ xs,SqL X.K H p xs/\k=!xs.isEmpty)\/(∃ xs,SqT X.K H p xs/\k=!xs.isEmpty)\/∃ kvs,H p=some (.dK kvs)/\k=!kvs.isEmpty:=e;rcases e' with ⟨xs,hx,e'⟩ | ⟨xs,hx,e'⟩ | ⟨kvs,hx,e'⟩
  ·subst e';obtain⟨its,r,pl,hz⟩:=I.list hx;have hlen:=r.length;exact wpAny_truthy_list pl.isList (by simp only[aBC];omega) ⟨H,I.tok _,by rw[oN r];exact q⟩
  ·subst e';obtain⟨its,r,pl,hz⟩:=I.tuple hx;have hlen:=r.length;exact truthy_tuple pl (by simp only[aBC];omega) ⟨H,I.tok _,by rw[oN r];exact q⟩
  ·subst e';obtain⟨hz,hS,vs,r,m⟩:kvs.length<=sizeLine/\(p == sysModules)=false/\∃ vs,KV kvs vs/\s.heap.DictOf (bJ X.prog X.w) p vs:=I.hok p _ hx;have hlen:kvs.length=vs.length:=Paired.length r;exact wpAny_truthy_dict hS m (by omega) ⟨H,I.tok _,by rw[xE r];exact q⟩
 | _=>exact(show False from e).elim
theorem kY (ha:PE X a ta) (he:∀ whole,isTrue a X.env whole=(do let v <- whole;standAt a.pos;holding [v] (truthy v))) :
 PT X a (fun σ H Q=>ta σ H fun x H'=>∃ k,z5 X.K x H' k/\Q k H'):=by
 intro pins s σ H Q I h;exact isTrue_plain (thn (ha pins s σ H _ I h) fun v s1 ⟨x,H1,I1,r1,q1⟩=>j5 pins s1 σ H1 x v Q I1 r1 q1) (he _)
theorem iA {x:V} {us:List Value} (r:Vals [x] us):∃ u,us=[u]/\RelV x u:=by
 cases r with
 | cons r1 r2=>cases r2;exact⟨_,rfl,r1⟩
theorem L3 {x y:V} {us:List Value} (r:Vals [x,y] us):∃ u w',us=[u,w']/\RelV x u/\RelV y w':=by
 cases r with
 | cons r1 r2 =>
  cases r2 with
  | cons r3 r4=>cases r4;exact⟨_,_,rfl,r1,r3⟩
theorem B8 (hc:X.calm=true):eS X (.builtin "max") (fun xs H Q=>∃ i j,xs=[.int i,.int j]/\Q (.int (if j > i then j else i)) H):=by
 intro pins s σ H xs us Q I r h;obtain⟨i,j,rfl,q⟩:=h;obtain⟨u,w',rfl,⟨t,rfl⟩,⟨t',rfl⟩⟩:=L3 r;refine max_two_ints (I.ok.hd hc) fun h' tk k=>⟨_,H,I.kept k,?_,q⟩
 by_cases hj:j > i
 ·rw[if_pos hj,if_pos hj];exact⟨_,rfl⟩
 ·rw[if_neg hj,if_neg hj];exact⟨_,rfl⟩
theorem jS (hc:X.calm=true):eS X (.builtin "min") (fun xs H Q=>∃ i j,xs=[.int i,.int j]/\Q (.int (if j<i then j else i)) H):=by
 intro pins s σ H xs us Q I r h;obtain⟨i,j,rfl,q⟩:=h;obtain⟨u,w',rfl,⟨t,rfl⟩,⟨t',rfl⟩⟩:=L3 r;refine min_two_ints (I.ok.hd hc) fun h' tk k=>⟨_,H,I.kept k,?_,q⟩
 by_cases hj:j<i
 ·rw[if_pos hj,if_pos hj];exact⟨_,rfl⟩
 ·rw[if_neg hj,if_neg hj];exact⟨_,rfl⟩
theorem rG:eS X (.type "int") (fun xs H Q=>(∃ i,xs=[.int i]/\Q (.int i) H)\/∃ k,xs=[.bl k]/\Q (.int (if k then 1 else 0)) H):=by
 intro pins s σ H xs us Q I r h;rcases h with ⟨i,rfl,q⟩ | ⟨k,rfl,q⟩
 ·obtain⟨u,rfl,t,rfl⟩:=iA r;exact call_int_int ⟨.int i,H,I,⟨_,rfl⟩,q⟩
 ·obtain⟨u,rfl,r1⟩:=iA r;cases r1;exact call_int_bool ⟨.int (if k then 1 else 0),H,I.tok _,⟨_,rfl⟩,q⟩
end
structure ObjM (h:Heap) (x dx C:Addr) (mA:Str->Option Value):Prop where
 obj:h.get? x=some (PySem.W.instObj C dx)
 ns:h.Ns1 dx mA
 ne:dx≠x
theorem B9 {h:Heap} {dx:Addr} {mA:Str->Option Value} (n:h.Ns1 dx mA):∃ od,h.get? dx=some od/\∀ name,PySem.W.lookIn name od=some (mA name):=by
 obtain⟨o,es,ep,ho,hd,hk,_,hm⟩:=n;refine⟨o,ho,fun name=>?_⟩;have e:=hm name;unfold nsFind findBy at e;rw[<- Array.find?_toList]at e;unfold PySem.W.lookIn;rw[hd];dsimp only;split
 ·rename_i y q
  rw[q]at e;exact congrArg some e
 ·rename_i q
  rw[q]at e;have a:es.toList.any (·.refKey)=false:=by
   rw[List.any_eq_false];intro y hy;obtain⟨z,t,hkey⟩:=hk y (Array.mem_toList_iff.mp hy);simp[DictEntry.refKey,hkey]
  have a':¬ es.toList.any (·.refKey)=true:=by rw[a];exact aBH
  rw[if_neg a'];exact congrArg some e
theorem ObjM.look {h:Heap} {x dx C:Addr} {mA:Str->Option Value} (I:ObjM h x dx C mA):∃ od,PySem.W.InstAt h x (PySem.W.instObj C dx) C (some od)/\∀ name,PySem.W.lookIn name od=some (mA name) :=
 let ⟨od,ho,hl⟩:=B9 I.ns
 ⟨od,⟨I.obj,rfl,rfl,ho⟩,hl⟩
section
variable {prog:Program} {w:World} {A:Around} {E:Value->Shared->Prop} {s:Shared} {K:PySem.W.Frag} {x dx C f:Addr} {mA:Str->Option Value} {name:Str} {v:Value}
end
theorem RelO.some_of {v:V} {o:Option Value} (r:RelO (some v) o):∃ u,o=some u/\RelV v u:=by
 cases o with
 | none=>exact(show False from r).elim
 | some u=>exact⟨u,rfl,r⟩
section
variable {P:Program} {w:World} {H H':Hp} {h h':Heap} {a C dx:Addr} {fs fs':List (Str×V)}
theorem V0 (hok:HOk P w H h) (e:H a=some (.ins C dx fs)):∃ mA,ObjM h a dx C mA/\(∀ f,RelO (fs.lookup f) (mA f))/\PySem.Within mA (fs.map (·.1))/\fs.length<=1000/\H dx=some (.own a):=by
 obtain⟨d,z,ne,ob,mA,n,r,q⟩:=(show ObjOk P w H h a (.ins C dx fs) from hok a _ e);exact⟨mA,⟨ob,n,ne⟩,r,q,z,d⟩
end
structure Cls (K:PySem.W.Frag) (C:Addr):Prop where
 pg:PySem.W.plainGet K C Str.empty=true
 hd:PySem.W.hasDictIn K C=true
 po:PySem.W.plainOver K C=true
 sa:PySem.W.findIn K (.ref C) "__setattr__"=some (some (.builtin "object.__setattr__"))
theorem Cls.get {K:PySem.W.Frag} {C:Addr} (c:Cls K C) (f:Str):PySem.W.plainGet K C f=true:=c.pg
section
variable {X:Cx} {pins:List (Addr×Obj)} {σ:St} {H:Hp} {s:Shared} {a C dx:Addr} {fs:List (Str×V)} {f:Str} {v:V} {A:Around} {E:Value->Shared->Prop}
theorem Inv.made (I:Inv X pins σ H s):Inv X pins σ (upd (upd H s.heap.objs.size (.own (s.heap.objs.size+1))) (s.heap.objs.size+1) (.ins C s.heap.objs.size []))
 { s with heap:=(s.heap.push PySem.W.emptyDict).push (PySem.W.instObj C s.heap.objs.size) }:=by
 have e1:(s.heap.push PySem.W.emptyDict).get? s.heap.objs.size=some PySem.W.emptyDict:=aBB s.heap rfl;have e2:((s.heap.push PySem.W.emptyDict).push (PySem.W.instObj C s.heap.objs.size)).get? (s.heap.objs.size+1)=some (PySem.W.instObj C s.heap.objs.size):=by
  have:=aBB (s.heap.push PySem.W.emptyDict) (o:=PySem.W.instObj C s.heap.objs.size) rfl
  rwa [Heap.size_push]at this
 have e3:(s.heap.push PySem.W.emptyDict).Ns s.heap.objs.size (fun _=>none):=⟨PySem.W.emptyDict,#[],_,e1,rfl,(fun e he=>absurd he (by simp)),fun _=>rfl⟩;have I1:=I.laid (a:=s.heap.objs.size) (o:=.own (s.heap.objs.size+1)) (h':=s.heap.push PySem.W.emptyDict) (t':=s.toks) (fun b u q=>aAv _ q) (Nat.le_refl _) ⟨_,e1⟩;refine I1.laid (a:=s.heap.objs.size+1) (o:=.ins C s.heap.objs.size []) (t':=s.toks) (fun b u q=>aAv _ q) (Nat.le_of_eq (Heap.size_push _ _)) ?_;have ne:s.heap.objs.size≠s.heap.objs.size+1:=aBS (Nat.lt_succ_self _);refine⟨by rw[aC ne,aB],Nat.zero_le _,ne,e2,fun _=>none,(Heap.Ns1.of_empty e3).at fun o q=>aAv _ q,fun _=>True.intro,fun y hy=>absurd rfl hy⟩
end
section
variable {X:Cx} {o e value:Expr} {f:Str} {pos pos' tpos:Pos} {ta tv:TE}
end
section
variable {X:Cx} {pins:List (Addr×Obj)} {σ:St} {H:Hp} {s:Shared} {A:Around} {E:Value->Shared->Prop} {Q:Value->Shared->Prop} {c:Value} {b:Bool}
inductive mK (K:PySem.W.Frag) (H:Hp):V->Value->Prop where
 | non:mK K H .non (.type "NoneType")
 | bl (x:Bool):mK K H (.bl x) (.type "bool")
 | int (i:Int):mK K H (.int i) (.type "int")
 | str (x:Str):mK K H (.str x) (.type "str")
 | flt (x:UInt64):mK K H (.flt x) (.type "float")
 | lst {a:Addr} {xs:List V} (e:H a=some (.lst xs)):mK K H (.ref a) (.type "list")
 | frz {a:Addr} {o:Obj} {xs:List V} (e:H a=some (.frz o (.lst xs))):mK K H (.ref a) (.type "list")
 | tup {a:Addr} {xs:List V} (e:H a=some (.tup xs)):mK K H (.ref a) (.type "tuple")
 | dK {a:Addr} {kvs:List (Key×V)} (e:H a=some (.dK kvs)):mK K H (.ref a) (.type "dict")
 | dT {a:Addr} {kvs:List (List Key×V)} (e:H a=some (.dT kvs)):mK K H (.ref a) (.type "dict")
 | ins {a C dx:Addr} {fs:List (Str×V)} (e:H a=some (.ins C dx fs)) (cl:Cls K C) (ha:PySem.W.findIn K (.ref C) "__class__"=some (some (.builtin "object.__class__")))
  (hn:PySem.W.specialIn K (.builtin "object.__class__") "__get__"=some (some (.builtin "getset_descriptor.__get__"))) (htk:PySem.W.takesIn K (.builtin "object.__class__")=some true)
  (hm:PySem.W.mroIn K C (.type "object")=some true):mK K H (.ref a) (.ref C)
theorem C0 {x:V} {u t:Value} (I:Inv X pins σ H s) (rx:RelV x u) (ty:mK X.K H x t) (e:PySem.W.kitOne X.K t c=some b) (h:∀ tk,Q (.bool b) { s with toks:=tk }) :
 wpAny (model X.prog X.w) A (call (.builtin "isinstance") [u,c]) Q E s:=by
 cases ty with
 | non=>cases (show u=Value.none from rx);exact PySem.W.kia_one PySem.W.kitx_none I.kIn True.intro e (fun z=>nomatch z) h
 | bl y=>cases (show u=Value.bool y from rx);exact PySem.W.kia_one PySem.W.kitx_bool I.kIn True.intro e (fun z=>nomatch z) h
 | int i=>obtain⟨t,q⟩:=(show ∃ t,u=Value.int i t from rx);cases q;exact PySem.W.kia_one PySem.W.kitx_int I.kIn True.intro e (fun z=>nomatch z) h
 | str y=>obtain⟨t,q⟩:=(show ∃ t,u=Value.str y t from rx);cases q;exact PySem.W.kia_one PySem.W.kitx_str I.kIn True.intro e (fun z=>nomatch z) h
 | flt y=>obtain⟨t,q⟩:=(show ∃ t,u=Value.float y t from rx);cases q;exact PySem.W.kia_one PySem.W.kitx_float I.kIn True.intro e (fun z=>nomatch z) h
 | @lst a xs ea =>
  cases (show u=Value.ref a from rx);obtain⟨_,_,n,_,h1⟩:=(show ObjOk X.prog X.w H s.heap a (.lst xs) from I.hok a _ ea);exact PySem.W.kia_one PySem.W.kitx_list I.kIn ⟨_,h1,rfl⟩ e (fun z=>nomatch z) h
 | @frz a ob xs ea =>
  cases (show u=Value.ref a from rx);obtain⟨_,_,_,n,_,h1⟩:=(show ObjOk X.prog X.w H s.heap a (.frz ob (.lst xs)) from I.hok a _ ea);exact PySem.W.kia_one PySem.W.kitx_list I.kIn ⟨_,h1,rfl⟩ e (fun z=>nomatch z) h
 | @tup a xs ea =>
  cases (show u=Value.ref a from rx);obtain⟨_,_,_,p⟩:=(show ObjOk X.prog X.w H s.heap a (.tup xs) from I.hok a _ ea);obtain⟨o,h1,h2,_⟩:=p;exact PySem.W.kia_one PySem.W.kitx_tuple I.kIn ⟨o,h1,h2⟩ e (fun z=>nomatch z) h
 | @dK a kvs ea =>
  cases (show u=Value.ref a from rx);obtain⟨_,_,vs,_,p⟩:=(show ObjOk X.prog X.w H s.heap a (.dK kvs) from I.hok a _ ea);obtain⟨o,es,ep,h1,h2,_⟩:=p;exact PySem.W.kia_one PySem.W.kitx_dict I.kIn ⟨o,h1,h2.1⟩ e (fun z=>nomatch z) h
 | @dT a kvs ea =>
  cases (show u=Value.ref a from rx);obtain⟨_,_,xs,_,o,es,ep,h1,h2,_⟩:=(show ObjOk X.prog X.w H s.heap a (.dT kvs) from I.hok a _ ea);exact PySem.W.kia_one PySem.W.kitx_dict I.kIn ⟨o,h1,h2.1⟩ e (fun z=>nomatch z) h
 | @ins a C dx fs ea cl ha hn htk hm =>
  cases (show u=Value.ref a from rx);obtain⟨mA,O,_⟩:=V0 I.hok ea;obtain⟨od,J,_⟩:=O.look;exact PySem.W.kia_one (PySem.W.kitx_own (cl.get _) cl.hd ha hn htk hm) I.kIn J e (fun z=>nomatch z) h
end
structure Room (k:Nat) (A:Around):Prop where
 hd:A.handled=none
 dp:A.depth+3 * k+5<recursionLimit
 un:A.units+16 * k+200<cLine
theorem Room.mono {j k:Nat} {A:Around} (r:Room k A) (h:j<=k):Room j A:=⟨r.hd,by have:=r.dp;omega,by have:=r.un;omega⟩
theorem Room.deeper {k:Nat} {A:Around} (r:Room (k+1) A) (env:Env):Room k (A.deeper env) :=
 ⟨r.hd,by have:=r.dp;show A.depth+1+3 * k+5<_;omega,by have:=r.un;show A.units+3+16 * k+200<_;omega⟩
theorem Room.in1 {k:Nat} {A:Around} (r:Room (k+1) A):Room k A.in1 :=
 ⟨r.hd,by have:=r.dp;show A.depth+3 * k+5<_;omega,by have:=r.un;show A.units+1+16 * k+200<_;omega⟩
theorem Room.depth {k:Nat} {A:Around} (r:Room k A):A.depth<recursionLimit:=by have:=r.dp;omega
theorem Room.units {k:Nat} {A:Around} (r:Room k A):A.units+64<cLine:=by have:=r.un;omega
def z6:TA:=fun _ H Q=>Q [] H
def d3 (ta:TE) (tr:TA):TA:=fun σ H Q=>ta σ H fun x H1=>tr σ H1 fun xs H2=>Q (x :: xs) H2
section
variable {X:Cx} {e:Expr} {es:List Expr} {te:TE} {t:TA} {pos:Pos}
theorem aD:PA X [] z6:=fun _ _ _ _ H Q I h=>Calls.spliced_nil ⟨[],H,I,.nil,h⟩
theorem aA (ha:PE X e te) (hr:PA X es t) (hs:starEach (e :: es) X.env=(false,eval e X.env) :: starEach es X.env:=by rfl):PA X (e :: es) (d3 te t):=by
 intro pos pins s σ H Q I h;rw[hs];show wpAny _ _ (spliced ((false,eval e X.env) :: backTo pos (starEach es X.env))) _ _ s;refine Calls.spliced_cons (thn (ha pins s σ H _ I h) fun u s1 ⟨x,H1,I1,r1,q1⟩=>?_);exact thn (hr pos pins s1 σ H1 _ I1 q1) fun us s2 ⟨xs,H2,I2,r2,q2⟩=>⟨x :: xs,H2,I2,.cons r1 r2,q2⟩
def aAd (t:TA):TE:=fun σ H Q=>t σ H fun xs H1=>xs.length<=sizeLine/\∀ p,H1 p=none->Q (.ref p) (upd H1 p (.tup xs))
def aAe (t:TA):TE:=fun σ H Q=>t σ H fun xs H1=>xs.length<=sizeLine/\∀ p,H1 p=none->Q (.ref p) (upd H1 p (.lst xs))
theorem iJ {x1} (h:PA X es t):PE X (.Tuple es x1 pos) (aAd t):=by
 intro pins s σ H Q I hq;refine wpAny_Tuple_spliced (thn (h pos pins s σ H _ I hq) fun us s1 ⟨xs,H1,I1,r,z,q⟩=>⟨by rw[<- r.length];exact z,?_⟩);have hf:H1 s1.heap.objs.size=none:=I1.hok.fresh (Nat.le_refl _);refine⟨.ref s1.heap.objs.size,upd H1 s1.heap.objs.size (.tup xs),I1.laid (t':=s1.toks) (fun b u e=>aAv _ e) (Nat.le_refl _) ?_,rfl,q _ hf⟩;exact⟨z,us,r,⟨_,aBB _ rfl,rfl,_,rfl⟩⟩
theorem hV (h:PA X es t):PE X (.List es pos) (aAe t):=by
 intro pins s σ H Q I hq;refine wpAny_List_spliced (thn (h pos pins s σ H _ I hq) fun us s1 ⟨xs,H1,I1,r,z,q⟩=>⟨by rw[<- r.length];exact z,?_⟩);have hf:H1 s1.heap.objs.size=none:=I1.hok.fresh (Nat.le_refl _);refine⟨.ref s1.heap.objs.size,upd H1 s1.heap.objs.size (.lst xs),I1.laid (t':=s1.toks) (fun b u e=>aAv _ e) (Nat.le_refl _) ?_,rfl,q _ hf⟩;exact⟨z,us,0,r,aBB _ rfl⟩
end
abbrev Sp:=List V->Hp->VK->XK->Prop
abbrev CXT:=List Env->Hp->Shared->XK->Value->Shared->Prop
structure Env0 (P:Program) (w:World) (K:PySem.W.Frag) (mg:Str->Option Value) (base:Heap) (A:Around) (outer:List Env) (s:Shared) (H:Hp):Prop where
 frames:A.frames=some outer
 mod:Mod K mg base
 bs:∀ b o,base.get? b=some o->s.heap.get? b=some o/\H b=none
 bsz:base.objs.size<=s.heap.objs.size
 funs:s.heap.FunFrames base outer
 frf:∀ b∈frs outer,H b=none
 hok:HOk P w H s.heap
 bare:AllBare s.gens
def CE (outer:List Env) (P:Program) (w:World) (H:Hp) (s:Shared) (Q:VK) (u:Value) (s':Shared):Prop :=
 ∃ v H',s'.os=s.os/\AllBare s'.gens/\Un (frs outer) [] H H' s.heap s'.heap/\HOk P w H' s'.heap/\RelV v u/\Q v H'
def CR (CX:CXT) (outer:List Env) (P:Program) (w:World) (H:Hp) (s:Shared) (Q:VK) (E:XK) (r:Result) (s':Shared):Prop :=
 match r with
 | .ok (.ret u)=>CE outer P w H s Q u s'
 | .ok _=>False
 | .error e=>CX outer H s E e s'
structure FnOk (P:Program) (w:World) (K:PySem.W.Frag) (mg:Str->Option Value) (base:Heap) (CX:CXT) (k:Nat) (f:Addr) (fd:FuncData) (ps:List Str) (sp:Sp):Prop where
 len:∀ vs H Q E,sp vs H Q E->vs.length=ps.length
 run:∀ (A:Around) (outer:List Env) (s:Shared) (H:Hp) (args:Args) (us:List Value) (vs:List V) (Q:VK) (E:XK),Room k A->Env0 P w K mg base A outer s H->BindsTo s fd args (ps.zip us)->Vals vs us->sp vs H Q E ->
  codeAny (model P w) A (.call (.ref f) args) (CR CX outer P w H s Q E) s
theorem FnOk.imp {P:Program} {w:World} {K:PySem.W.Frag} {mg:Str->Option Value} {base:Heap} {CX:CXT} {k:Nat} {f:Addr} {fd:FuncData} {ps:List Str} {sp sp':Sp} (F:FnOk P w K mg base CX k f fd ps sp)
 (h:∀ vs H Q E,sp' vs H Q E->sp vs H Q E):FnOk P w K mg base CX k f fd ps sp' :=
 ⟨fun vs H Q E q=>F.len vs H Q E (h _ _ _ _ q),fun A outer s H args us vs Q E hr he hb hv hs=>F.run A outer s H args us vs Q E hr he hb hv (h _ _ _ _ hs)⟩
theorem Env0.in1 {P:Program} {w:World} {K:PySem.W.Frag} {mg:Str->Option Value} {base:Heap} {A:Around} {outer:List Env} {s:Shared} {H:Hp} (e:Env0 P w K mg base A outer s H) :
 Env0 P w K mg base A.in1 outer s H:=⟨e.frames,e.mod,e.bs,e.bsz,e.funs,e.frf,e.hok,e.bare⟩
section
variable {X:Cx} {pins:List (Addr×Obj)} {σ:St} {H:Hp} {s s':Shared}
theorem Inv.env0 (I:Inv X pins σ H s):Env0 X.prog X.w X.K X.mg X.base X.A X.stack s H :=
 ⟨I.ok.frames,I.ok.mod,I.bs,Nat.le_trans I.ok.bsz I.sz,I.stack,I.stkFree,I.hok,I.bare⟩
theorem Inv.after {Q:VK} {u:Value} (I:Inv X pins σ H s) (h:CE X.stack X.prog X.w H s Q u s'):EP X pins σ Q u s':=by
 obtain⟨v,H',os,bare,un,hok,r,q⟩:=h;obtain⟨hh,g,d,t,os'⟩:=s';obtain rfl:os'=s.os:=os;exact⟨v,H',I.call (h':=hh) (g':=g) (d':=d) (t':=t) (ch:=[]) un hok bare (fun b z=>absurd z (by simp)),r,q⟩
end
def d4 (sp:Sp) (dvs:List V) (E:XK) (t:TA):TE:=fun σ H Q=>t σ H fun vs H1=>sp (vs++dvs) H1 Q E
def Binds (K:PySem.W.Frag) (fd:FuncData) (ps:List Str) (ds:List Value):Prop :=
 ∀ (s:Shared) (us:List Value),K.In s.heap->(us++ds).length=ps.length->BindsTo s fd ⟨us,[]⟩ (ps.zip (us++ds))
theorem Binds.all {K:PySem.W.Frag} {fd:FuncData} {ps:List Str} (h:∀ us:List Value,us.length=ps.length->bindArgs fd ⟨us,[]⟩=pure (ps.zip us)):Binds K fd ps []:=fun s us _ hl=>by
 rw[List.append_nil]at hl ⊢;exact .of_eq (h us hl)
def xF (CX:CXT) (X:Cx) (E:XK):Prop:=∀ (pins:List (Addr×Obj)) (σ:St) (H:Hp) (s:Shared) (e:Value) (s':Shared),Inv X pins σ H s->CX X.stack H s E e s'->X.xe e s'
section
variable {X:Cx} {CX:CXT} {k:Nat} {f C:Addr} {fd:FuncData} {ps:List Str} {sp:Sp} {dvs:List V} {ds:List Value} {E:XK} {x m:Str} {p pos apos:Pos} {e o:Expr} {es:List Expr} {ta:TE} {t:TA}
theorem j6 {pins:List (Addr×Obj)} {σ:St} {H:Hp} {s:Shared} {Q:VK} {us:List Value} {vs:List V} (F:FnOk X.prog X.w X.K X.mg X.base CX k f fd ps sp) (hr:Room k X.A) (hb:Binds X.K fd ps ds) (hd:Vals dvs ds) (hx:xF CX X E)
 (I:Inv X pins σ H s) (r:Vals vs us) (h:sp (vs++dvs) H Q E):wpAny (model X.prog X.w) X.A (call (.ref f) us) (EP X pins σ Q) X.xe s:=by
 have r2:Vals (vs++dvs) (us++ds):=r.append hd;have hl:(us++ds).length=ps.length:=by rw[<- r2.length];exact F.len _ _ _ _ h
 refine wpAny_call (codeAny_mono (F.run X.A X.stack s H ⟨us,[]⟩ (us++ds) (vs++dvs) Q E hr I.env0 (hb s us I.kIn hl) r2 h) fun r s' hq=>?_);cases r with
 | error e=>exact hx pins σ H s e s' I hq
 | ok fl =>
  cases fl with
  | ret u=>exact I.after hq
  | next=>exact False.elim hq
  | brk=>exact False.elim hq
  | cont=>exact False.elim hq
theorem V1 (F:FnOk X.prog X.w X.K X.mg X.base CX k f fd ps sp) (hr:Room k X.A) (hg:Gl X x) (hm:X.mg x=some (.ref f)) (hk:PySem.W.keepIn X.K (.ref f)=true) (hb:Binds X.K fd ps ds) (hd:Vals dvs ds) (hx:xF CX X E)
 (ha:PA X (e :: es) t) (hdb:(x == ("__debug__":Str))=false:=by decide) (he:starEach (e :: es) X.env=(false,eval e X.env) :: starEach es X.env:=by rfl) (hpl:(backTo pos (starEach es X.env)).any (·.1)=false:=by rfl) :
 PE X (.Call (.Name x p) (e :: es) [] pos) (d4 sp dvs E t):=by
 intro pins s σ H Q I h;refine wpAny_Call_Name_kw (zA I hg hm ?_ hdb);refine PySem.W.callWith_K (h₀:=X.base) I.ok.mod.kin hk (thn (ha pos pins s σ H _ I h) fun us s1 ⟨vs,H1,I1,r,q⟩=>⟨I1.kIn,?_⟩) he hpl;exact j6 F hr hb hd hx I1 r q
end
def PK (X:Cx) (kws:List Keyword) (t:TA):Prop :=
 ∀ (pos:Pos) (pins:List (Addr×Obj)) (s:Shared) (σ:St) (H:Hp) (Q:List V->Hp->Prop),Inv X pins σ H s->t σ H Q->wpAny (model X.prog X.w) X.A (evalAll ((backToKw pos (keywordEach kws X.env)).map (·.2))) (AP X pins σ Q) X.xe s
section
variable {X:Cx} {CX:CXT} {k:Nat} {f C:Addr} {fd:FuncData} {ps ks:List Str} {sp:Sp} {E:XK} {x m:Str} {p pos apos kpos:Pos} {e o:Expr} {es:List Expr} {kws:List Keyword} {te ta:TE} {t tk:TA} {nm:Option Str}
theorem L4:PK X [] z6:=fun _ _ _ _ H Q I h=>wpAny_evalAll_nil ⟨[],H,I,.nil,h⟩
theorem zF (ha:PE X e te) (hr:PK X kws t):PK X (⟨nm,e,kpos⟩ :: kws) (d3 te t):=by
 intro pos pins s σ H Q I h;show wpAny _ _ (evalAll ((do let v <- eval e X.env;standAt pos;pure v) :: (backToKw pos (keywordEach kws X.env)).map (·.2))) _ _ s;refine wpAny_evalAll_cons (aAs (thn (ha pins s σ H _ I h) fun u s1 ⟨x,H1,I1,r1,q1⟩=>aAs (wpAny_standAt (aAt ?_))));exact thn (hr pos pins s1 σ H1 _ I1 q1) fun us s2 ⟨xs,H2,I2,r2,q2⟩=>⟨x :: xs,H2,I2,.cons r1 r2,q2⟩
variable {g:List Value->List Value->List Value} {gV:List V->List V->List V}
end
structure aV (N P:List Str) (sc:Scope):Prop where
 kind:sc.kind=.function
 co:sc.isCoroutine=false
 gen:sc.isGenerator=false
 nd:N.Nodup
 pre:N.take P.length=P
 par:∀ x∈P,sc.names.lookup x=some .local\/sc.names.lookup x=some .cell
 nofree:∀ y∈sc.names,y.2≠.free
theorem rH {kindOf:Str->Option NameKind} {x:Str}:∀ {binds:List (Str×Value)} {m:Str->Option Value},(∀ v,(x,v)∉binds)->bindL kindOf binds m x=m x
 | [],_,_=>rfl
 | (n,v) :: r,m,h=>by
  unfold bindL;rw[rH fun w hw=>h w (aAx _ hw)];split
  ·have:x≠n:=by rintro rfl;exact h v aAw
   simp[this]
  ·rfl
theorem rJ {kindOf:Str->Option NameKind} {x:Str}:∀ {binds:List (Str×Value)} {m:Str->Option Value},(∀ v,(x,v)∉binds)->bindC kindOf binds m x=m x
 | [],_,_=>rfl
 | (n,v) :: r,m,h=>by
  unfold bindC;rw[rJ fun w hw=>h w (aAx _ hw)];split
  ·rfl
  ·have:x≠n:=by rintro rfl;exact h v aAw
   simp[this]
theorem rK {kindOf:Str->Option NameKind} {x:Str} {v:Value}:∀ {P:List Str} {vs:List Value} {i:Nat} {m:Str->Option Value},P.Nodup->P[i]?=some x->vs[i]?=some v->kindOf x=some .local ->
 bindL kindOf (P.zip vs) m x=some v
 | [],_,_,_,_,h,_,_=>by simp at h
 | _ :: _,[],_,_,_,_,h,_=>by simp at h
 | p :: P,w :: vs,0,m,nd,h1,h2,hk=>by
  simp at h1 h2;subst h1;subst h2;show bindL kindOf ((p,w) :: P.zip vs) m p=_;unfold bindL;rw[rH fun v hv=>(List.nodup_cons.mp nd).1 (List.of_mem_zip hv).1,if_pos hk];simp
 | p :: P,w :: vs,i+1,m,nd,h1,h2,hk=>by
  show bindL kindOf ((p,w) :: P.zip vs) m x=_;unfold bindL;exact rK (i:=i) (List.nodup_cons.mp nd).2 (by simpa using h1) (by simpa using h2) hk
theorem rL {kindOf:Str->Option NameKind} {x:Str} {v:Value}:∀ {P:List Str} {vs:List Value} {i:Nat} {m:Str->Option Value},P.Nodup->P[i]?=some x->vs[i]?=some v->kindOf x≠some .local ->
 bindC kindOf (P.zip vs) m x=some v
 | [],_,_,_,_,h,_,_=>by simp at h
 | _ :: _,[],_,_,_,_,h,_=>by simp at h
 | p :: P,w :: vs,0,m,nd,h1,h2,hk=>by
  simp at h1 h2;subst h1;subst h2;show bindC kindOf ((p,w) :: P.zip vs) m p=_;unfold bindC;rw[rJ fun v hv=>(List.nodup_cons.mp nd).1 (List.of_mem_zip hv).1,if_neg hk];simp
 | p :: P,w :: vs,i+1,m,nd,h1,h2,hk=>by
  show bindC kindOf ((p,w) :: P.zip vs) m x=_;unfold bindC;exact rL (i:=i) (List.nodup_cons.mp nd).2 (by simpa using h1) (by simpa using h2) hk
def fS (N:List Str) (vs:List V):St:=vs.map some++List.replicate (N.length - vs.length) none
def mL (CX:CXT) (P:Program) (w:World) (K:PySem.W.Frag) (mg:Str->Option Value) (base:Heap) (N:List Str) (qual:Str) (scope:Scope) (f:Addr) (cd:Value) (A:Around) (outer:List Env) (s:Shared) (H:Hp) (E:XK):Cx where
 prog:=P
 w:=w
 K:=K
 mg:=mg
 base:=base
 A:=A.deeper (envOfC qual scope s.heap.objs.size f cd)
 N:=N
 s₀:=s
 H₀:=H
 env:=envOfC qual scope s.heap.objs.size f cd
 outer:=outer
 stack:=envOfC qual scope s.heap.objs.size f cd :: outer
 ex:=[]
 calm:=true
 fn:=fun _=>true
 pn:=[]
 xe:=fun e s'=>wpAny (model P w) (A.deeper (envOfC qual scope s.heap.objs.size f cd)) (leaving (envOfC qual scope s.heap.objs.size f cd) e) (fun _ s''=>CX outer H s E e s'') (fun e' s''=>CX outer H s E e' s'') s'
theorem kZ {sc:Scope} {n:Nat} {x:Str} (h:sc.names.lookup x=some .cell):∃ c,(cellsFrom n sc.names []).lookup x=some c:=by
 have q:=PySem.W.cellsFrom_some sc.names n [] (.inl h);exact Option.isSome_iff_exists.mp q
theorem rM {CX:CXT} {P:Program} {w:World} {K:PySem.W.Frag} {mg:Str->Option Value} {base:Heap} {N ps:List Str} {qual:Str} {scope:Scope} {f:Addr} {cd:Value} {A:Around} {outer:List Env} {s s1:Shared} {H:Hp} {E:XK} {us:List Value} {vs:List V}
 (S:aV N ps scope) (hd:A.handled=none) (e0:Env0 P w K mg base A outer s H) (hl:vs.length=ps.length) (r:Vals vs us)
 (x:InCallC s s.heap.objs.size (bindL (envOfC qual scope s.heap.objs.size f cd).kindOf (ps.zip us) fun _=>none) (cellsFrom (s.heap.objs.size+1) scope.names []) (bindC (envOfC qual scope s.heap.objs.size f cd).kindOf (ps.zip us) fun _=>none) s1) :
 Inv (mL CX P w K mg base N qual scope f cd A outer s H E) [] (fS N vs) H s1:=by
 have hpl:ps.length<=N.length:=by have:=congrArg List.length S.pre;rw[aBK]at this;omega
 obtain⟨h1,tk,rfl,hk⟩:=x.done;have noA:∀ b:Addr,b∉(mL CX P w K mg base N qual scope f cd A outer s H E).ex:=fun b z=>absurd (show b∈([]:List Addr) from z) (by simp);refine⟨⟨e0.mod,S.kind,rfl,rfl,Nat.le_refl _,fun y z c h1 h2=>?_,fun y hy=>?_,fun y c _ h=>?_,fun _=>hd,Around.frames_deeper e0.frames,.inr ⟨rfl,rfl⟩,fun b z=>absurd z (noA b),e0.bs,e0.bsz,fun b _ _=>noA b,fun b z=>absurd z (noA b),e0.funs,e0.frf⟩,
  rfl,e0.bare,Un.kept hk,⟨_,x.toInCall.ns,fun i y v h1 h2 h3=>?_⟩,fun y c h=>⟨_,x.cell y c h⟩,e0.hok.fresh (Nat.le_refl _),fun y c h=>?_,fun p hp=>absurd (show p∈([]:List (Addr×Obj)) from hp) (by simp),e0.hok.kept hk,?_⟩
 ·exact name_of_addr x.apart (PySem.mem_of_lookup h1) (PySem.mem_of_lookup h2)
 ·have hy:scope.names.lookup y=some .cell\/scope.names.lookup y=some .free:=hy;rcases hy with hy | hy
  ·exact kZ hy
  ·exact absurd rfl (S.nofree _ (PySem.mem_of_lookup hy))
 ·exact Nat.le_of_lt (x.above y c (PySem.mem_of_lookup h))
 ·have hi:i<vs.length:=by
   unfold fS at h2
   by_cases hi:i<vs.length
   ·exact hi
   ·rw[List.getElem?_append_right (by simpa using hi)]at h2;rw[List.getElem?_replicate]at h2;split at h2 <;> cases h2
  have ha:vs[i]?=some v:=by
   unfold fS at h2;rw[List.getElem?_append_left (by simpa using hi),aBT]at h2;cases e:vs[i]? with
   | none=>rw[e]at h2;cases h2
   | some a=>rw[e]at h2;cases h2;rfl
  obtain⟨u,hu,rv⟩:=r.get ha;have hp:ps[i]?=some y:=by
   rw[<- S.pre,List.getElem?_take_of_lt (by omega)];exact h1
  have ndP:ps.Nodup:=by rw[<- S.pre];exact S.nd.sublist (List.take_sublist _ _)
  refine⟨u,rv,?_⟩;rcases S.par y (aBF hp)with k | k
  ·exact .inl ⟨k,rK ndP hp hu k⟩
  ·obtain⟨c,e⟩:=kZ (n:=s.heap.objs.size+1) k;refine .inr ⟨.inl k,c,e,?_⟩;have q:=x.cell y c e;rw[rL ndP hp hu (by show scope.names.lookup y≠_;rw[k];decide)]at q;exact q
 ·exact e0.hok.fresh (Nat.le_of_lt (x.above y c (PySem.mem_of_lookup h)))
 ·unfold fS;show _=N.length;rw[aBD,aAu,aBP];omega
theorem L5 {CX:CXT} {P:Program} {w:World} {K:PySem.W.Frag} {mg:Str->Option Value} {base:Heap} {k:Nat} {f:Addr} {name qual:Str} {params:Arguments} {body:List Stmt} {scope:Scope} {dV kV doc pm cdv ct oc:Value} {an od:Option Addr}
 {osl:Array (Option Value)} {N ps:List Str} {sp:Sp} (lk:K.lookup f=some ⟨oc,od,.func (PySem.W.fnOf name qual params body scope dV kV doc pm an cdv ct),osl⟩) (hcd:PySem.W.codeIn K cdv qual=true) (S:aV N ps scope)
 (len:∀ vs H Q E,sp vs H Q E->vs.length=ps.length)
 (hbody:∀ (A:Around) (outer:List Env) (s:Shared) (H:Hp) (vs:List V) (Q:VK) (E:XK),Room k (A.deeper (envOfC qual scope s.heap.objs.size f cdv))->sp vs H Q E ->
  ∃ t,PSs (mL CX P w K mg base N qual scope f cdv A outer s H E) body t/\t { nx:=fun _ H'=>Q .non H',rt:=Q } (fS N vs) H) :
 FnOk P w K mg base CX (k+1) f (PySem.W.fnOf name qual params body scope dV kV doc pm an cdv ct) ps sp:=by
 refine⟨len,fun A outer s H args us vs Q E hr e0 hb r hsp=>?_⟩;have hl:=len _ _ _ _ hsp;have KX:K.In s.heap:=e0.mod.kin.keeps fun b o e=>(e0.bs b o e).1;have lim:s.heap.NoLimit:=e0.mod.nolimit.keeps fun b o e=>(e0.bs b o e).1;have hkind:∀ y∈ps.zip us,scope.names.lookup y.1=some .local\/(scope.names.lookup y.1=some .cell/\((cellsFrom (s.heap.objs.size+1) scope.names []).lookup y.1).isSome=true):=fun⟨n,v⟩ hy=>by
  rcases S.par n (List.of_mem_zip hy).1 with q | q
  ·exact .inl q
  ·exact .inr ⟨q,PySem.W.cellsFrom_some _ _ _ (.inl q)⟩
 refine codeAny_call_function hr.depth (KX _ _ lk) rfl S.co S.gen rfl (PySem.W.codeRec_of KX hcd) (hb _ _ _ _ ?_);refine wpAny_newFunctionEnv_cells S.kind hkind fun env he s1 x=>?_;subst he;refine⟨lim.keeps x.toInCall.keep,codeAny_func ?_⟩;obtain⟨t,ht,hq⟩:=hbody A outer s H vs Q E (hr.deeper _) hsp;have I:Inv (mL CX P w K mg base N qual scope f cdv A outer s H E) [] (fS N vs) H s1:=rM S hr.hd e0 hl r x;refine wpAny_mono (ht [] s1 (fS N vs) H _ I hq) (fun fl s' hs=>?_) fun e s' hs=>hs;have fin:∀ {σ':St} {H':Hp} {v:V} {u:Value},Inv (mL CX P w K mg base N qual scope f cdv A outer s H E) [] σ' H' s'->RelV v u->Q v H'->CE outer P w H s Q u s' :=
  fun {σ' H' v u} J rv q=>⟨v,H',J.os,J.bare,J.base,J.hok,rv,q⟩
 cases fl with
 | ret u =>
  obtain⟨v,σ',H',J,rv,q⟩:=hs;exact fin J rv q
 | next =>
  obtain⟨σ',H',J,q⟩:=hs;exact fin (v:=V.non) (u:=Value.none) J rfl q
 | brk =>
  obtain⟨_,_,_,q⟩:=hs;exact False.elim q
 | cont =>
  obtain⟨_,_,_,q⟩:=hs;exact False.elim q
section
variable {X:Cx} {x:Str} {p pos:Pos} {e:Expr} {es:List Expr} {t:TA} {id T:String} {r:List V->Hp->VK->Prop}
def tCB (r:List V->Hp->VK->Prop) (t:TA):TE:=fun σ H Q=>t σ H fun vs H1=>r vs H1 Q
theorem aJ (hc:eS X (.builtin id) r) (hg:Gl X x) (hm:X.mg x=none) (hv:bootBuiltins x=some (.builtin id)) (ha:PA X (e :: es) t) (hn:x≠"__name__":=by decide) (hdb:(x == ("__debug__":Str))=false:=by decide)
 (he:starEach (e :: es) X.env=(false,eval e X.env) :: starEach es X.env:=by rfl) (hpl:(backTo pos (starEach es X.env)).any (·.1)=false:=by rfl):PE X (.Call (.Name x p) (e :: es) [] pos) (tCB r t):=by
 intro pins s σ H Q I h;refine wpAny_Call_Name_kw (hU I hg hm hv ?_ hn hdb);exact PyProof.Rows.callWith_builtin1 (thn (ha pos pins s σ H _ I h) fun us s1 ⟨vs,H1,I1,r1,q1⟩=>hc pins s1 σ H1 vs us Q I1 r1 q1) he hpl
theorem jT (hc:eS X (.type T) r) (hg:Gl X x) (hm:X.mg x=none) (hv:bootBuiltins x=some (.type T)) (ha:PA X (e :: es) t) (hn:x≠"__name__":=by decide) (hdb:(x == ("__debug__":Str))=false:=by decide)
 (he:starEach (e :: es) X.env=(false,eval e X.env) :: starEach es X.env:=by rfl) (hpl:(backTo pos (starEach es X.env)).any (·.1)=false:=by rfl):PE X (.Call (.Name x p) (e :: es) [] pos) (tCB r t):=by
 intro pins s σ H Q I h;refine wpAny_Call_Name_kw (hU I hg hm hv ?_ hn hdb);exact PyProof.Rows.callWith_type1 (thn (ha pos pins s σ H _ I h) fun us s1 ⟨vs,H1,I1,r1,q1⟩=>hc pins s1 σ H1 vs us Q I1 r1 q1) he hpl
end
end L2
namespace HT
open PySem PyProof.Rows
def lexLt:List Int->List Int->Bool
 | [],[]=>false
 | [],_ :: _=>true
 | _ :: _,[]=>false
 | x :: xs,y :: ys=>if x=y then lexLt xs ys else decide (x<y)
theorem lexLt_cons (x y:Int) (xs ys:List Int):lexLt (x :: xs) (y :: ys)=if x=y then lexLt xs ys else decide (x<y):=rfl
theorem lexLt_nil_nil:lexLt [] []=false:=rfl
theorem oO (y:Int) (ys:List Int):lexLt [] (y :: ys)=true:=rfl
theorem oP (x:Int) (xs:List Int):lexLt (x :: xs) []=false:=rfl
theorem eqAt_int (A:Around) (s:Shared) (a:Int) (t:Tok) (c:Int) (u:Tok):∃ e,SeqAt.EqAt A s (.int a t) (.int c u) e/\(e=true↔a=c) :=
 ⟨(a == c),SeqAt.EqAt.int_int a t c u,by simp⟩
theorem L6 (A:Around) (s:Shared) (a:Int) (t:Tok) (c:Int) (u:Tok) (prog:Program) (w:World) (E:Value->Shared->Prop) (Q:Value->Shared->Prop) (h:Q (.bool (decide (a<c))) s) :
 wpAny (model prog w) A (richCompare .Lt (.int a t) (.int c u)) Q E s :=
 (PyProof.Rows.lt_int h:wpAny (model prog w) A (compareOp .Lt (.int a t) (.int c u)) Q E s)
section
open PySem.SeqAt
open PySem.AutoSeq1 (wpAny_loadPart')
open PySem.MeetsSeq PySem.MeetsSeq2 PySem.MeetsSeq3
theorem qT (l b:Addr) (items items2:Array Value) (n n2:Nat) (dd dd2:Option Addr) (sl sl2:Array (Option Value)) (ns ms:List Int) (hi:IntsAre items.toList ns) (hj:IntsAre items2.toList ms) :
 Meets (Builtin.«tuple.__lt__» ⟨[.ref l,.ref b],[]⟩)
  (fun _ R s=>s.heap.get? l=some { cls:=.type "tuple",dict:=dd,data:=.seq items n,slots:=sl }/\s.heap.get? b=some { cls:=.type "tuple",dict:=dd2,data:=.seq items2 n2,slots:=sl2 } /\
   R (.ok (.ret (.bool (lexLt ns ms)))) s) :=
 .of_wp fun prog w A R s h=>by
  obtain⟨hp,g,d,tk,os⟩:=s;obtain⟨hl,hb,h⟩:=h;have f2:=AutoSeq1.sub_tuple_tuple;have z1:items.size=ns.length:=by rw[<- hi.length];simp
  have z2:items2.size=ms.length:=by rw[<- hj.length];simp
  wp_walk using wpAny_loadPart' hl,wpAny_loadPart' hb,wpAny_forIn_list _ (fun rest b s'=>b.1=none/\s'=⟨hp,g,d,tk,os⟩/\∃ (vs ws:List Value) (ns' ms':List Int),rest=vs.zip ws /\
   IntsAre vs ns'/\IntsAre ws ms'/\ns'.length+items2.size=ms'.length+items.size/\R (.ok (.ret (.bool (lexLt ns' ms')))) ⟨hp,g,d,tk,os⟩) _
  case turn =>
   rintro ⟨y,x⟩ rest b s' ⟨hb',rfl,vs,ws,ns',ms',hz,hvi,hwi,hlen,hR⟩;cases hvi with
   | nil=>rw[List.zip_nil_left]at hz;cases hz
   | cons a t hvi' =>
    cases hwi with
    | nil=>rw[List.zip_nil_right]at hz;cases hz
    | cons c u hwi' =>
     rw[List.zip_cons_cons]at hz
     injection hz with hyx hrest
     injection hyx with hy hx
     subst hy hx;rw[lexLt_cons]at hR;simp only[aBY]at hlen;obtain⟨e,he,hiff⟩:=eqAt_int A.in1 ⟨hp,g,d,tk,os⟩ a t c u;refine aAs (he prog w _ _ ?_);cases e with
     | true =>
      rw[if_pos (hiff.mp rfl)]at hR
      wp_walk
      exact⟨rfl,rfl,_,_,_,_,hrest,hvi',hwi',by omega,hR⟩
     | false =>
      rw[if_neg (fun q=>absurd (hiff.mpr q) aBH)]at hR;have hri:=L6 A.in1 ⟨hp,g,d,tk,os⟩ a t c u prog w
      wp_walk using hri
      exact⟨_,rfl,by simpa using hR⟩
  case fin =>
   rintro ⟨b1,b2⟩ s' ⟨hb',rfl,vs,ws,ns',ms',hz,hvi,hwi,hlen,hR⟩;simp only at hb';subst hb';have hv:lexLt ns' ms'=decide (items.size<items2.size):=by
    cases hvi with
    | nil =>
     cases hwi with
     | nil =>
      simp only[List.length_nil]at hlen;rw[lexLt_nil_nil];exact(aBQ (by omega)).symm
     | cons c u hw =>
      simp only[List.length_nil,aBY]at hlen;rw[oO];exact(aBR (by omega)).symm
    | cons a t hv =>
     cases hwi with
     | nil =>
      simp only[List.length_nil,aBY]at hlen;rw[oP];exact(aBQ (by omega)).symm
     | cons c u hw =>
      rw[List.zip_cons_cons]at hz;cases hz
   rw[hv]at hR
   wp_walk
   exact⟨_,rfl,by simpa[Builtin.Tuple.tupleCompareSizes]using hR⟩
  case h =>
   exact⟨rfl,rfl,items.toList,items2.toList,ns,ms,rfl,hi,hj,by omega,h⟩
end
section
variable {prog:Program} {w:World} {A:Around} {E:Value->Shared->Prop} {s:Shared}
theorem lt_tupInts {l b:Addr} {items items2:Array Value} {ns ms:List Int} {Q:Value->Shared->Prop} (hl:IsTup s.heap l items) (hb:IsTup s.heap b items2) (hi:IntsAre items.toList ns) (hj:IntsAre items2.toList ms)
 (hu:A.units<cLine) (h:Q (.bool (lexLt ns ms)) s):wpAny (model prog w) A (compareOp .Lt (.ref l) (.ref b)) Q E s:=by
 obtain⟨⟨cls,dd,data,sl⟩,ho,hc,n,hd⟩:=id hl;obtain⟨⟨cls2,dd2,data2,sl2⟩,ho2,hc2,n2,hd2⟩:=id hb;simp only at hc hd hc2 hd2;subst hc hd hc2 hd2;exact richCompare_meets_room (op:=.Lt) ⟨_,ho,rfl⟩ ⟨_,ho2,rfl⟩ PySem.F.slot_tuple_lt PySem.F.entry_tuple_lt (PySem.F.args_tuple_lt_2 _ _) (qT l b items items2 n n2 dd dd2 sl sl2 ns ms hi hj)
  ⟨ho,ho2,show Value.bool (lexLt ns ms)≠Value.notImplemented/\Q (.bool (lexLt ns ms)) s from ⟨(fun x=>nomatch x),h⟩⟩ hu
def sIx (n d:Nat):Option Int->Nat
 | none=>d
 | some v=>if v<0 then (v+(n:Int)).toNat else min v.toNat n
theorem sIx_none (n d:Nat):sIx n d none=d:=rfl
theorem sIx_nat (n d k:Nat):sIx n d (some (k:Int))=min k n:=by
 show (if (k:Int)<0 then ((k:Int)+(n:Int)).toNat else min (k:Int).toNat n)=min k n;rw[if_neg (by omega),Int.toNat_natCast]
end
end HT
namespace L2
open PySem PySem.Spec PyProof.Rows
abbrev TO:=St->Hp->(Option Int->Hp->Prop)->Prop
def PO (X:Cx) (e:Option Expr) (t:TO):Prop :=
 ∀ (pins:List (Addr×Obj)) (s:Shared) (σ:St) (H:Hp) (Q:Option Int->Hp->Prop),Inv X pins σ H s->t σ H Q ->
  wpAny (model X.prog X.w) X.A (evalPart e X.env) (fun u s'=>∃ o H',Inv X pins σ H' s'/\IsPart u o/\Q o H') X.xe s
def V2:TO:=fun _ H Q=>Q none H
def z7 (t:TE):TO:=fun σ H Q=>t σ H fun x H1=>∃ i,x=.int i/\Q (some i) H1
theorem xG {ns:List Int}:∀ {us:List Value},Vals (ns.map V.int) us->IntsAre us ns:=by
 induction ns with
 | nil=>intro us r;rw[List.map_nil]at r;cases r;exact .nil
 | cons n ns ih =>
  intro us r;rw[aBU]at r;cases r with
  | cons r1 r2 =>
   obtain⟨t,e⟩:=r1;subst e;exact .cons n t (ih r2)
section
variable {X:Cx} {e:Expr} {te:TE} {lo hi:Option Expr} {tl th:TO} {pos p2:Pos}
theorem sS:PO X none V2:=by
 intro pins s σ H Q I h;rw[evalPart_none];exact aAt ⟨none,H,I,.none,h⟩
theorem sT (h:PE X e te):PO X (some e) (z7 te):=by
 intro pins s σ H Q I hw;rw[evalPart_some];refine thn (h pins s σ H _ I hw) fun u s1 ⟨x,H1,I1,r1,q1⟩=>?_;obtain⟨i,rfl,q⟩:=q1;obtain⟨t,rfl⟩:=r1;exact⟨some i,H1,I1,.int i t,q⟩
def SlR (X:Cx) (r:V->Option Int->Option Int->Hp->VK->Prop):Prop :=
 ∀ (pins:List (Addr×Obj)) (s:Shared) (σ:St) (H:Hp) (x:V) (v vl vu:Value) (lo hi:Option Int) (sl:Addr) (Q:VK),Inv X pins σ H s->RelV x v->s.heap.IsSliceOf sl vl vu .none->IsPart vl lo->IsPart vu hi->r x lo hi H Q ->
  ∃ T id,typeLookup (.type T) "__getitem__"=pure (some (.builtin id))/\s.TypeIs v T/\wpAny (model X.prog X.w) X.A (getItem v (.ref sl)) (EP X pins σ Q) X.xe s
def tSl (r:V->Option Int->Option Int->Hp->VK->Prop) (te:TE) (tl th:TO):TE:=fun σ H Q=>te σ H fun x H1=>tl σ H1 fun l H2=>th σ H2 fun u H3=>r x l u H3 Q
theorem oQ {r:V->Option Int->Option Int->Hp->VK->Prop} (hr:SlR X r) (he:PE X e te) (hl:PO X lo tl) (hu:PO X hi th):PE X (.Subscript e (.Slice lo hi none p2) pos) (tSl r te tl th):=by
 intro pins s σ H Q I h;refine Subscript_ (thn (he pins s σ H _ I h) fun v s1 ⟨x,H1,I1,r1,q1⟩=>?_);refine wpAny_Slice (thn (hl pins s1 σ H1 _ I1 q1) fun vl s2 ⟨l,H2,I2,pl,q2⟩=>thn (hu pins s2 σ H2 _ I2 q2) fun vu s3 ⟨u,H3,I3,pu,q3⟩=>?_);rw[evalPart_none];refine aAt ?_;have I4:Inv X pins σ H3 { s3 with heap:=s3.heap.push { cls:=.type "slice",data:=.fields #[vl,vu,.none] } }:=I3.kept (t':=s3.toks) fun b ob q=>aAv _ q;obtain⟨T,id,hT,ht,hg⟩:=hr pins { s3 with heap:=s3.heap.push { cls:=.type "slice",data:=.fields #[vl,vu,.none] } } σ H3 x v vl vu l u s3.heap.objs.size Q I4 r1 (Heap.IsSliceOf.new ..) pl pu q3;show wpAny (model X.prog X.w) X.A (subscriptTail e (.Slice lo hi none p2) v (.ref s3.heap.objs.size)) (EP X pins σ Q) X.xe { s3 with heap:=s3.heap.push { cls:=.type "slice",data:=.fields #[vl,vu,.none] } };exact tail_any (ops:=[.ref s3.heap.objs.size,v]) ht hT hg (by with_unfolding_all rfl)
def oS (xs:List V) (lo hi:Option Int):List V:=(xs.drop (HT.sIx xs.length 0 lo)).take (HT.sIx xs.length xs.length hi - HT.sIx xs.length 0 lo)
theorem uT (xs:List V) (lo hi:Option Int):(oS xs lo hi).length<=xs.length:=by
 unfold oS;rw[aBK,List.length_drop];omega
end
def ixN (n:Nat) (i:Int):Option Nat:=if 0<=i then (if i<n then some i.toNat else none)else if -(n:Int)<=i then some (i+n).toNat else none
def atI {α:Type} (xs:List α) (i:Int):Option α:=(ixN xs.length i).bind fun j=>xs[j]?
theorem zG {n:Nat} {i:Int} {j:Nat} (h:ixN n i=some j):seqIndex? i n=some j/\j<n/\-(n:Int)<=i/\i<n:=by
 unfold ixN at h
 by_cases h0:0<=i
 ·rw[if_pos h0]at h
  by_cases h1:i<n
  ·rw[if_pos h1]at h;have e:i.toNat=j:=Option.some.inj h;exact⟨by rw[seqIndex_of h0 h1,e],by omega,by omega,h1⟩
  ·rw[if_neg h1]at h;cases h
 ·rw[if_neg h0]at h
  by_cases h1:-(n:Int)<=i
  ·rw[if_pos h1]at h;have e:(i+n).toNat=j:=Option.some.inj h;exact⟨by rw[seqIndex_neg (by omega) h1,e],by omega,h1,by omega⟩
  ·rw[if_neg h1]at h;cases h
theorem sU {α:Type} {xs:List α} {i:Int} {v:α} (h:atI xs i=some v):∃ j,seqIndex? i xs.length=some j/\xs[j]?=some v/\j<xs.length/\-(xs.length:Int)<=i/\i<xs.length:=by
 unfold atI at h;cases e:ixN xs.length i with
 | none=>rw[e]at h;cases h
 | some j =>
  rw[e]at h;obtain⟨h1,h2,h3,h4⟩:=zG e;exact⟨j,h1,h,h2,h3,h4⟩
theorem jU {α:Type} {xs:List α} {j:Nat} {v:α} (h:xs[j]?=some v):atI xs (j:Int)=some v:=by
 have hj:j<xs.length:=(aB7.mp h).1;have e:ixN xs.length (j:Int)=some j:=by
  unfold ixN;rw[if_pos (by omega),if_pos (by omega)];simp
 unfold atI;rw[e];exact h
theorem L7 {α:Type} (xs:List α) (v:α):atI (xs++[v]) (-1)=some v:=by
 have hl:(xs++[v]).length=xs.length+1:=by simp
 have e:ixN (xs++[v]).length (-1)=some xs.length:=by
  unfold ixN;rw[hl,if_neg (by decide),if_pos (by omega)]
  congr 1
  omega
 unfold atI;rw[e];show (xs++[v])[xs.length]?=some v;simp
def V3 (b:Expr):Prop:=∀ o i,subscripted b false o i=operate [o,i] (getItem o i)
def IxR (X:Cx) (r:R2):Prop :=
 ∀ (value slice:Expr) (pins:List (Addr×Obj)) (s:Shared) (σ:St) (H:Hp) (x y:V) (v u:Value) (Q:VK),Inv X pins σ H s->RelV x v->RelV y u->r x y H Q ->
  subscripted slice false v u=operate [v,u] (getItem v u)->wpAny (model X.prog X.w) X.A (subscriptTail value slice v u) (EP X pins σ Q) X.xe s
def MtR (X:Cx) (id:String) (r:V->List V->Hp->VK->Prop):Prop :=
 ∀ (pins:List (Addr×Obj)) (s:Shared) (σ:St) (H:Hp) (x:V) (xs:List V) (v:Value) (us:List Value) (Q:VK),Inv X pins σ H s->RelV x v->Vals xs us->r x xs H Q ->
  wpAny (model X.prog X.w) X.A (call (.builtin id) (v :: us)) (EP X pins σ Q) X.xe s
section
variable {X:Cx} {a b:Expr} {ta tb:TE} {pos:Pos}
theorem IxR.or {r r':R2} (h:IxR X r) (h':IxR X r'):IxR X (fun x y H Q=>r x y H Q\/r' x y H Q):=by
 intro value slice pins s σ H x y v u Q I rx ry q hs;rcases q with q | q
 ·exact h value slice pins s σ H x y v u Q I rx ry q hs
 ·exact h' value slice pins s σ H x y v u Q I rx ry q hs
theorem fI {r:R2} (hr:IxR X r) (ha:PE X a ta) (hb:PE X b tb) (hs:V3 b):PE X (.Subscript a b pos) (tOp r ta tb):=by
 intro pins s σ H Q I h;exact Subscript_ (i9 ha hb I h fun v u s2 x y H2 I2 rx ry q=>hr a b pins s2 σ H2 x y v u Q I2 rx ry q (hs _ _))
def j7 (K:PySem.W.Frag):R2:=fun x y H Q=>∃ p xs i v,x=.ref p/\y=.int i/\SqL K H p xs/\atI xs i=some v/\Q v H
def j8 (K:PySem.W.Frag):R2:=fun x y H Q=>∃ p xs i v,x=.ref p/\y=.int i/\SqT K H p xs/\atI xs i=some v/\Q v H
def z8:R2:=fun x y H Q=>∃ z i c,x=.str z/\y=.int i/\z.length<=sizeLine/\atI z.cps.toList i=some c/\Q (.str ⟨#[c]⟩) H
theorem eE:IxR X (j7 X.K):=by
 intro value slice pins s σ H x y v u Q I rx ry h hs;obtain⟨p,xs,i,z,rfl,rfl,hq,he,q⟩:=h;cases rx;obtain⟨t,rfl⟩:=ry;obtain⟨its,r,pl,hz⟩:=I.list hq;obtain⟨j,h1,h2,h3,h4,h5⟩:=sU he;obtain⟨w,ew,rw'⟩:=r.get h2;have hl:=r.length;have hn:=mJ;have fin:EP X pins σ Q w s:=⟨z,H,I,rw',q⟩
 by_cases h0:0<=i
 ·have hj:i.toNat=j:=by
   rw[seqIndex_of h0 h5]at h1;exact Option.some.inj h1
  exact item_listR pl.isList h0 (by omega) (by rw[hj];simpa using ew) fin hs
 ·have hj:(i+(its.toArray.size:Int)).toNat=j:=by
   rw[seqIndex_neg (by omega) h4]at h1;rw[aBC,<- hl];exact Option.some.inj h1
  exact subscriptTail_builtinR (x:=w) pl.isList.typeIs slot_list_getitem.lookup
   (wpAny_getItem_list_neg (Q:=fun r s'=>r=w/\EP X pins σ Q r s') pl.isList (by omega) (by rw[aBC] <;> omega) (by omega) (by rw[hj];simpa using ew) ⟨rfl,fin⟩) hs
theorem L8:IxR X (j8 X.K):=by
 intro value slice pins s σ H x y v u Q I rx ry h hs;obtain⟨p,xs,i,z,rfl,rfl,hq,he,q⟩:=h;cases rx;obtain⟨t,rfl⟩:=ry;obtain⟨its,r,pl,hz⟩:=I.tuple hq;obtain⟨j,h1,h2,h3,h4,h5⟩:=sU he;obtain⟨w,ew,rw'⟩:=r.get h2;have hl:=r.length;have hn:=mJ;have fin:EP X pins σ Q w s:=⟨z,H,I,rw',q⟩;exact subscriptTail_builtinR (x:=w) pl.typeIs slot_tuple_getitem.lookup
  (getItem_tuple (j:=j) (Q:=fun r s'=>r=w/\EP X pins σ Q r s') pl (by omega) (by omega) (by rw[aBC,<- hl];exact h1) (by simpa using ew) ⟨rfl,fin⟩) hs
theorem j9:IxR X z8:=by
 intro value slice pins s σ H x y v u Q I rx ry h hs;obtain⟨z,i,c,rfl,rfl,hz,he,q⟩:=h;obtain⟨t,rfl⟩:=rx;obtain⟨t',rfl⟩:=ry;obtain⟨j,h1,h2,h3,h4,h5⟩:=sU he;have hl:z.cps.toList.length=z.length:=by simp[Str.length]
 rw[hl]at h1 h4 h5;have hn:=mJ;exact tail_any (typeIs_str s z t) slot_str_getitem.lookup (getItem_str (c:=c) (by
  have e1:decide (i < -(2 ^ 63:Int))=false:=aBQ (by omega);have e2:decide (i≥2 ^ 63)=false:=aBQ (by omega);rw[e1,e2,Bool.or_false]) (by rw[h1];simpa using h2) ⟨.str ⟨#[c]⟩,H,I.tok _,⟨_,rfl⟩,q⟩) hs
def rIx (K:PySem.W.Frag):R2:=fun x y H Q=>j7 K x y H Q\/j8 K x y H Q\/z8 x y H Q
theorem n4:IxR X (rIx X.K):=eE.or (L8.or j9)
theorem xH (its:List Value) (n j:Nat) (u:Value):Obj.mapSeq (·.setIfInBounds j u) { cls:=.type "list",data:=.seq its.toArray n }={ cls:=.type "list",data:=.seq (its.set j u).toArray n }:=by
 simp[Obj.mapSeq]
theorem Inv.lst {pins:List (Addr×Obj)} {σ:St} {H:Hp} {s:Shared} {p:Addr} {xs:List V} (I:Inv X pins σ H s) (h:H p=some (.lst xs)) :
 ∃ (its:List Value) (n:Nat),Vals xs its/\s.heap.get? p=some { cls:=.type "list",data:=.seq its.toArray n }/\xs.length<=sizeLine:=by
 obtain⟨z,its,n,r,e⟩:=I.hok p _ h;exact⟨its,n,r,e,z⟩
theorem Inv.lstUpd {pins:List (Addr×Obj)} {σ:St} {H:Hp} {s:Shared} {p:Addr} {xs ys:List V} {its its':List Value} {n n':Nat} {f:Obj->Obj} (I:Inv X pins σ H s) (h:H p=some (.lst xs))
 (ho:s.heap.get? p=some { cls:=.type "list",data:=.seq its.toArray n }) (hf:f { cls:=.type "list",data:=.seq its.toArray n }={ cls:=.type "list",data:=.seq its'.toArray n' }) (r:Vals ys its') (hz:ys.length<=sizeLine) (t:Nat) :
 Inv X pins σ (upd H p (.lst ys)) { s with heap:=s.heap.update p f,toks:=t }:=by
 have e:(s.heap.update p f).get? p=some { cls:=.type "list",data:=.seq its'.toArray n' }:=by
  rw[aBN f ho (by rw[hf] <;> rfl),hf]
 refine I.write (x:=p) (e:=p) (by rw[h];trivial) (.inl rfl) (fun b u hb q=>(aAz _ _ (Ne.symm hb)).trans q) ⟨_,e⟩ ?_;exact⟨hz,its',n',r,e⟩
def z9:V->V->V->Hp->(Hp->Prop)->Prop:=fun o i v H Q=>∃ p xs k j,o=.ref p/\i=.int k/\H p=some (.lst xs)/\ixN xs.length k=some j/\Q (upd H p (.lst (xs.set j v)))
theorem L9:x8 X z9:=by
 intro pins s σ H o i v ov iv u Q I ro ri rv h;obtain⟨p,xs,k,j,rfl,rfl,hp,hj,q⟩:=h;cases ro;obtain⟨t,rfl⟩:=ri;obtain⟨its,n,r,ho,hz⟩:=I.lst hp;obtain⟨h1,h2,h3,h4⟩:=zG hj;have hl:=r.length;have hn:=mJ;have I':Inv X pins σ (upd H p (.lst (xs.set j v))) { s with heap:=s.heap.update p (Obj.mapSeq (·.setIfInBounds j u)) } :=
  I.lstUpd hp ho (xH its n j u) (r.set rv j) (by rw[List.length_set];exact hz) s.toks
 by_cases h0:0<=k
 ·have hk:k.toNat=j:=by
   rw[seqIndex_of h0 h4]at h1;exact Option.some.inj h1
  exact PySem.W.ki_setAt ho h0 (by omega) (by rw[aBC,<- hl];exact h4) (by rw[hk];exact⟨_,I',q⟩)
 ·have hk:(k+(its.toArray.size:Int)).toNat=j:=by
   rw[seqIndex_neg (by omega) h3]at h1;rw[aBC,<- hl];exact Option.some.inj h1
  exact PySem.W.ki_setBack ho (by omega) (by rw[aBC,<- hl];exact h3) (by omega) (by rw[hk];exact⟨_,I',q⟩)
theorem sV (lo hi:Option Int) (n:Nat):(sliceBounds lo hi none n).1=((HT.sIx n 0 lo:Nat):Int)/\(sliceBounds lo hi none n).2.1=((HT.sIx n n hi:Nat):Int)/\(sliceBounds lo hi none n).2.2=1:=by
 refine⟨?_,?_,rfl⟩
 ·cases lo with
  | none=>simp[sliceBounds,HT.sIx]
  | some i =>
   simp only[sliceBounds,HT.sIx,Option.getD_none,show (1:Int) > 0 by decide,if_true]
   by_cases h:i<0
   ·simp only[h,if_true] <;> omega
   ·simp only[h,if_false] <;> omega
 ·cases hi with
  | none=>simp[sliceBounds,HT.sIx]
  | some i =>
   simp only[sliceBounds,HT.sIx,Option.getD_none,show (1:Int) > 0 by decide,if_true]
   by_cases h:i<0
   ·simp only[h,if_true] <;> omega
   ·simp only[h,if_false] <;> omega
theorem qU (its:List Value) (lo hi:Option Int):slicePick its.toArray lo hi none=((its.drop (HT.sIx its.length 0 lo)).take (HT.sIx its.length its.length hi - HT.sIx its.length 0 lo)).toArray:=by
 obtain⟨h1,h2,h3⟩:=sV lo hi its.toArray.size;unfold slicePick;rw[h1,h2,h3];simp only[sliceRange_one,pick_run,aBC] <;> rfl
def aAf (K:PySem.W.Frag):V->Option Int->Option Int->Hp->VK->Prop:=fun x lo hi H Q=>∃ a xs,x=.ref a/\SqL K H a xs/\∀ p,H p=none->Q (.ref p) (upd H p (.lst (oS xs lo hi)))
theorem sW:SlR X (aAf X.K):=by
 intro pins s σ H x v vl vu lo hi sl Q I rx hs pl pu h;obtain⟨a,xs,rfl,hx,q⟩:=h;cases rx;obtain⟨its,r,ht,hz⟩:=I.list hx;have hlen:=r.length;refine⟨"list",_,slot_list_getitem.lookup,ht.isList.typeIs,?_⟩;refine wpAny_getItem_list_slice ht.isList hs pl pu .none (by simp) ?_ (by rw[aBC] <;> omega);rw[qU,<- hlen];refine⟨.ref s.heap.objs.size,_,I.laid (t':=s.toks) (o:=.lst (oS xs lo hi)) (fun b ob q=>aAv _ q) (Nat.le_refl _) ?_,rfl,q _ (I.hok.fresh (Nat.le_refl _))⟩;exact⟨Nat.le_trans (uT xs lo hi) hz,_,0,(r.drop (HT.sIx xs.length 0 lo)).take (HT.sIx xs.length xs.length hi - HT.sIx xs.length 0 lo),aBB _ rfl⟩
def lA:V->Bool
 | .non=>true
 | .bl _=>true
 | .int _=>true
 | .str _=>true
 | _=>false
def eqV:V->V->Bool
 | .non,.non=>true
 | .bl a,.bl b=>a == b
 | .bl a,.int b=>(if a then 1 else 0) == b
 | .int a,.bl b=>a == (if b then 1 else 0)
 | .int a,.int b=>a == b
 | .str a,.str b=>a == b
 | _,_=>false
theorem n5 {A:Around} {s:Shared} {y x:V} {u v:Value} (ry:RelV y u) (rx:RelV x v) (fy:lA y=true) (fx:lA x=true):SeqAt.EqAt A s u v (eqV y x):=by
 cases y with
 | non =>
  cases ry;cases x with
  | non=>cases rx;exact SeqAt.EqAt.same _
  | bl b=>cases rx;exact SeqAt.EqAt.none_bool b
  | int b=>obtain⟨t,rfl⟩:=rx;exact SeqAt.EqAt.none_int b t
  | str b=>obtain⟨t,rfl⟩:=rx;exact SeqAt.EqAt.none_str b t
  | _=>exact absurd (show false=true from fx) aBH
 | bl a =>
  cases ry;cases x with
  | non=>cases rx;exact SeqAt.EqAt.bool_none a
  | bl b=>cases rx;exact SeqAt.EqAt.bool_bool a b
  | int b=>obtain⟨t,rfl⟩:=rx;exact SeqAt.EqAt.bool_int a b t
  | str b=>obtain⟨t,rfl⟩:=rx;exact SeqAt.EqAt.bool_str a b t
  | _=>exact absurd (show false=true from fx) aBH
 | int a =>
  obtain⟨t',rfl⟩:=ry;cases x with
  | non=>cases rx;exact SeqAt.EqAt.int_none a t'
  | bl b=>cases rx;exact SeqAt.EqAt.int_bool a t' b
  | int b=>obtain⟨t,rfl⟩:=rx;exact SeqAt.EqAt.int_int a t' b t
  | str b=>obtain⟨t,rfl⟩:=rx;exact SeqAt.EqAt.int_str a t' b t
  | _=>exact absurd (show false=true from fx) aBH
 | str a =>
  obtain⟨t',rfl⟩:=ry;cases x with
  | non=>cases rx;exact SeqAt.EqAt.str_none a t'
  | bl b=>cases rx;exact SeqAt.EqAt.str_bool a t' b
  | int b=>obtain⟨t,rfl⟩:=rx;exact SeqAt.EqAt.str_int a t' b t
  | str b=>obtain⟨t,rfl⟩:=rx;exact SeqAt.EqAt.str_str a t' b t
  | _=>exact absurd (show false=true from fx) aBH
 | _=>exact absurd (show false=true from fy) aBH
def eqU (x:V) (u:Value):Bool:=match u with
 | .none=>eqV .non x
 | .bool b=>eqV (.bl b) x
 | .int i _=>eqV (.int i) x
 | .str z _=>eqV (.str z) x
 | _=>false
theorem M0 {x y:V} {u:Value} (r:RelV y u) (f:lA y=true):eqU x u=eqV y x:=by
 cases y with
 | non=>cases r;rfl
 | bl b=>cases r;rfl
 | int i=>obtain⟨t,rfl⟩:=r;rfl
 | str z=>obtain⟨t,rfl⟩:=r;rfl
 | _=>exact absurd (show false=true from f) aBH
theorem sX {x:V}:∀ {xs:List V} {us:List Value},Vals xs us->xs.all lA=true->us.any (eqU x)=xs.any fun y=>eqV y x
 | _,_,.nil,_=>rfl
 | y :: xs,u :: us,.cons r t,f=>by
  rw[List.all_cons,Bool.and_eq_true]at f;rw[List.any_cons,List.any_cons,M0 r f.1,sX t f.2]
theorem oT {A:Around} {s:Shared} {x:V} {v:Value} (rx:RelV x v) (fx:lA x=true):∀ {xs:List V} {us:List Value},Vals xs us->xs.all lA=true->∀ u∈us,SeqAt.EqAt A s u v (eqU x u)
 | _,_,.nil,_=>fun u hu=>by cases hu
 | y :: xs,u :: us,.cons r t,f=>fun u' hu=>by
  rw[List.all_cons,Bool.and_eq_true]at f;rcases aB8.mp hu with rfl | hu
  ·rw[M0 r f.1];exact n5 r rx f.1 fx
  ·exact oT rx fx t f.2 u' hu
def inV (x:V) (xs:List V):Bool:=xs.any fun y=>eqV y x
def rIn (K:PySem.W.Frag) (neg:Bool):R2:=fun x y H Q=>∃ p xs,y=.ref p/\(SqL K H p xs\/SqT K H p xs)/\lA x=true/\xs.all lA=true/\Q (.bl (if neg then !inV x xs else inV x xs)) H
theorem C1:OpR X (compareOp .In) (rIn X.K false):=by
 intro pins s σ H x y v u Q I rx ry h;obtain⟨p,xs,rfl,hq,fx,fs,q⟩:=h;cases ry;rcases hq with hq | hq
 ·obtain⟨its,r,pl,hz⟩:=I.list hq;refine SeqAt.in_listAt (eqU x) pl.isList (fun w hw=>oT rx fx r fs w (by simpa using hw)) ⟨.bl _,H,I,rfl,?_⟩;rw[show its.toArray.any (eqU x)=its.any (eqU x)by simp,sX r fs];exact q
 ·obtain⟨its,r,pl,hz⟩:=I.tuple hq;refine SeqAt.in_tupleAt (eqU x) pl (fun w hw=>oT rx fx r fs w (by simpa using hw)) ⟨.bl _,H,I,rfl,?_⟩;rw[show its.toArray.any (eqU x)=its.any (eqU x)by simp,sX r fs];exact q
theorem bD:eS X (.builtin "len") (fun xs H Q=>∃ p ys,xs=[.ref p]/\(SqL X.K H p ys\/SqT X.K H p ys)/\Q (.int ys.length) H):=by
 intro pins s σ H xs us Q I r h;obtain⟨p,ys,rfl,hq,q⟩:=h;obtain⟨u,rfl,rx⟩:=iA r;cases rx;have hn:=mJ;rcases hq with hq | hq
 ·obtain⟨its,r',pl,hz⟩:=I.list hq;have hlen:=r'.length;exact Calls.call_len_list pl.isList (by simp only[aBC] <;> omega) ⟨.int ys.length,H,I.tok _,⟨s.toks+1,by rw[aBC,hlen]⟩,q⟩
 ·obtain⟨its,r',pl,hz⟩:=I.tuple hq;have hlen:=r'.length;exact len_tuple pl (by simp only[aBC] <;> omega) ⟨.int ys.length,H,I.tok _,⟨s.toks+1,by rw[aBC,hlen]⟩,q⟩
theorem lB:eS X (.type "list") (fun xs H Q=>∃ p ys,xs=[.ref p]/\(SqL X.K H p ys\/SqT X.K H p ys)/\∀ l,H l=none->Q (.ref l) (upd H l (.lst ys))):=by
 intro pins s σ H xs us Q I r h;obtain⟨p,ys,rfl,hq,q⟩:=h;obtain⟨u,rfl,rx⟩:=iA r;cases rx;have fin:∀ (its:List Value),Vals ys its->ys.length<=sizeLine->∀ (h':Heap) (c':Nat),(∀ b o',s.heap.get? b=some o'->h'.get? b=some o') ->
  h'.get? s.heap.objs.size=some { cls:=.type "list",dict:=none,data:=.seq its.toArray c',slots:=#[] }->EP X pins σ Q (.ref s.heap.objs.size) { s with heap:=h' }:=fun its r' hz h' c' kp e =>
  ⟨.ref s.heap.objs.size,_,I.laid (t':=s.toks) kp (Nat.le_refl _) (show ObjOk X.prog X.w _ h' _ (.lst ys) from ⟨hz,its,c',r',e⟩),rfl,q _ (I.hok.fresh (Nat.le_refl _))⟩
 rcases hq with hq | hq
 ·obtain⟨its,r',pl,hz⟩:=I.list hq;have hlen:=r'.length;obtain⟨o,ho,hc,n,hd⟩:=pl.isList;exact call_list_seq p (.inl rfl) ho hc hd (fun h' c' kp e=>fin its r' hz h' c' kp e) (by simp only[aBC] <;> omega)
 ·obtain⟨its,r',pl,hz⟩:=I.tuple hq;have hlen:=r'.length;obtain⟨o,ho,hc,n,hd⟩:=pl;exact call_list_seq p (.inr rfl) ho hc hd (fun h' c' kp e=>fin its r' hz h' c' kp e) (by simp only[aBC] <;> omega)
def tyV (K:PySem.W.Frag) (T:String) (x:V) (H:Hp):Prop:=match x with
 | .str _=>T="str"
 | .int _=>T="int"
 | .ref p=>(T="list"/\∃ xs,SqL K H p xs)\/(T="tuple"/\∃ o,K.lookup p=some o/\o.cls=.type "tuple"/\o.dict=none) \/
  (T="dict"/\((∃ kvs,H p=some (.dK kvs))\/∃ kvs,H p=some (.dT kvs)))\/(T="set"/\∃ S n,H p=some (.set S n))
 | _=>False
theorem M3 {pins:List (Addr×Obj)} {σ:St} {H:Hp} {s:Shared} {T:String} {x:V} {v:Value} (I:Inv X pins σ H s) (r:RelV x v) (ty:tyV X.K T x H) :
 s.TypeIs v T/\∀ a,v=.ref a->∃ ob,s.heap.get? a=some ob/\ob.dict=none:=by
 cases x with
 | str z =>
  obtain⟨t,rfl⟩:=r;cases (show T="str" from ty);exact⟨typeIs_str s z t,fun _ e=>nomatch e⟩
 | int i =>
  obtain⟨t,rfl⟩:=r;cases (show T="int" from ty);exact⟨typeIs_int s i t,fun _ e=>nomatch e⟩
 | ref p =>
  cases r;rcases ty with ⟨rfl,xs,hq⟩ | ⟨rfl,o,hk,hc,hd⟩ | ⟨rfl,hk⟩ | ⟨rfl,S,n,hk⟩
  ·obtain⟨its,_,pl,_⟩:=I.list hq;refine⟨pl.isList.typeIs,fun a e=>?_⟩;cases e;obtain⟨o,n,e,c,hd,_⟩:=pl;exact⟨o,e,hd⟩
  ·refine⟨⟨o,I.kIn p o hk,hc⟩,fun a e=>?_⟩;cases e;exact⟨o,I.kIn _ o hk,hd⟩
  ·have z:∃ o,s.heap.get? p=some o/\o.ExactDict:=by
    rcases hk with ⟨kvs,hk⟩ | ⟨kvs,hk⟩
    ·obtain⟨_,_,_,_,o,_,_,e,ex,_⟩:=I.hok p _ hk;exact⟨o,e,ex⟩
    ·obtain⟨_,_,_,_,o,_,_,e,ex,_⟩:=I.hok p _ hk;exact⟨o,e,ex⟩
   obtain⟨o,e,ex⟩:=z;refine⟨⟨o,e,ex.1⟩,fun a e2=>?_⟩;cases e2;exact⟨o,e,ex.2.1⟩
  ·obtain⟨o,_,_,_,e,ex,_⟩:=I.hok p _ hk;refine⟨⟨o,e,ex.1⟩,fun a e2=>?_⟩;cases e2;exact⟨o,e,ex.2.1⟩
 | _=>exact False.elim ty
def aAg (K:PySem.W.Frag) (T:String) (r:V->List V->Hp->VK->Prop) (to:TE):TE:=fun σ H Q=>to σ H fun x H1=>tyV K T x H1/\r x [] H1 Q
def tBM (K:PySem.W.Frag) (T:String) (r:V->List V->Hp->VK->Prop) (to:TE) (t:TA):TE:=fun σ H Q=>to σ H fun x H1=>tyV K T x H1/\t σ H1 fun xs H2=>r x xs H2 Q
variable {o e:Expr} {es:List Expr} {to:TE} {t:TA} {name:Str} {apos cpos:Pos} {T id:String} {r:V->List V->Hp->VK->Prop}
theorem n6 (pa:PlainAttrs T) (slot:Slot T name id) (hty:typeOf (.builtin id)=pure (.type "method_descriptor")) (hm:MtR X id r) (ho:PE X o to)
 (hbase:attributeBase o name X.env (eval o X.env)=eval o X.env:=by rfl) (hline:(apos.endLine == cpos.line)=true:=by rfl):PE X (.Call (.Attribute o name apos) [] [] cpos) (aAg X.K T r to):=by
 intro pins s σ H Q I h;refine wpAny_Call_method0_late hbase hline (thn (ho pins s σ H _ I h) fun v s1 ⟨x,H1,I1,r1,ty,q1⟩=>?_);obtain⟨h1,h2⟩:=M3 I1 r1 ty;exact⟨T,id,pa,slot,hty,h1,h2,Calls.callWith_builtin rfl (PySem.evalArgs_none (hm pins s1 σ H1 x [] v [] Q I1 r1 .nil q1))⟩
theorem gS (pa:PlainAttrs T) (slot:Slot T name id) (hty:typeOf (.builtin id)=pure (.type "method_descriptor")) (hm:MtR X id r) (ho:PE X o to) (ha:PA X (e :: es) t)
 (hbase:attributeBase o name X.env (eval o X.env)=eval o X.env:=by rfl)
 (hfew:((backTo cpos (starEach (e :: es) X.env)).all (fun x=>!x.1) && (backToKw cpos (keywordEach [] X.env)).all (fun x=>x.1.isSome)
  && decide ((e :: es).length+([]:List Keyword).length+(if ([]:List Keyword).isEmpty then 0 else 1)<30))=true:=by rfl)
 (hline:(apos.endLine == cpos.line)=true:=by rfl) (hs:starEach (e :: es) X.env=(false,eval e X.env) :: starEach es X.env:=by rfl) (hplain:(backTo cpos (starEach es X.env)).any (·.1)=false:=by rfl) :
 PE X (.Call (.Attribute o name apos) (e :: es) [] cpos) (tBM X.K T r to t):=by
 intro pins s σ H Q I h;refine wpAny_Call_method_late hbase hfew hline rfl (thn (ho pins s σ H _ I h) fun v s1 ⟨x,H1,I1,r1,ty,q1⟩=>?_);obtain⟨h1,h2⟩:=M3 I1 r1 ty;refine⟨T,id,pa,slot,hty,h1,h2,?_⟩;have hA:=ha cpos pins s1 σ H1 _ I1 q1;rw[hs]at hA ⊢;refine Calls.callWith_builtin (by show (false || (backTo cpos (starEach es X.env)).any (·.1))=false;rw[hplain] <;> rfl) (Calls.evalArgs_plain ?_);exact thn hA fun us s2 ⟨vs,H2,I2,r2,q2⟩=>hm pins s2 σ H2 x vs v us Q I2 r1 r2 q2
/- xs.append(e),list.index on a module's tuple .. are MtR facts of 06m -/
end
def MtM (X:Cx) (id:String) (r:V->List V->Hp->VK->Prop):Prop :=
 ∀ (pins:List (Addr×Obj)) (s:Shared) (σ:St) (H:Hp) (x:V) (xs:List V) (v:Value) (us:List Value) (Q:VK),Inv X pins σ H s->RelV x v->Vals xs us->r x xs H Q ->
  wpAny (model X.prog X.w) X.A (call (.builtin id) (v :: us)) (EP X pins σ Q) X.xe s
theorem Vals.one:∀ {x:V} {us:List Value},Vals [x] us->∃ u,us=[u]/\RelV x u
 | _,_,.cons r .nil=>⟨_,rfl,r⟩
theorem Vals.two {x y:V} {us:List Value} (h:Vals [x,y] us):∃ u v,us=[u,v]/\RelV x u/\RelV y v:=by
 cases h with
 | cons r h =>
  obtain⟨u,e,q⟩:=Vals.one h;exact⟨_,u,by rw[e],r,q⟩
theorem Vals.zero:∀ {us:List Value},Vals [] us->us=[]
 | _,.nil=>rfl
theorem Vals.dropLast {xs:List V} {us:List Value} (h:Vals xs us):Vals xs.dropLast us.dropLast:=by
 induction h with
 | nil=>exact .nil
 | cons r t ih =>
  cases t with
  | nil=>exact .nil
  | cons q t'=>exact .cons r ih
theorem Vals.eraseIdx:∀ {xs:List V} {us:List Value} (i:Nat),Vals xs us->Vals (xs.eraseIdx i) (us.eraseIdx i)
 | _,_,_,.nil=>.nil
 | _,_,0,.cons _ t=>t
 | _,_,i+1,.cons r t=>.cons r (Vals.eraseIdx i t)
theorem Vals.reverse {xs:List V} {us:List Value} (h:Vals xs us):Vals xs.reverse us.reverse:=by
 induction h with
 | nil=>exact .nil
 | cons r t ih=>rw[List.reverse_cons,List.reverse_cons];exact Vals.append ih (.cons r .nil)
theorem Vals.rep {xs:List V} {us:List Value} (h:Vals xs us):∀ k:Nat,Vals (List.replicate k xs).flatten (List.replicate k us).flatten
 | 0=>.nil
 | k+1=>by
  rw[List.replicate_succ,List.replicate_succ,List.flatten_cons,List.flatten_cons];exact Vals.append h (Vals.rep h k)
theorem xI {α:Type} (l:List α):l.eraseIdx (l.length - 1)=l.dropLast:=by
 induction l with
 | nil=>rfl
 | cons a r ih =>
  cases r with
  | nil=>rfl
  | cons b r =>
   have e:(a :: b :: r).length - 1=((b :: r).length - 1)+1:=by
    have h1:(a :: b :: r).length=r.length+2:=rfl;have h2:(b :: r).length=r.length+1:=rfl;omega
   rw[e,List.eraseIdx_cons_succ,ih]
   all_goals rfl
theorem rN (its:List Value):∀ (k:Nat) (acc:List Value),
 List.foldl (fun x1 x2=>x1++x2) acc.toArray (List.replicate k its.toArray)=(acc++(List.replicate k its).flatten).toArray
 | 0,acc=>by simp
 | k+1,acc=>by
  have e:acc.toArray++its.toArray=(acc++its).toArray:=by simp
  have e2:(acc++its)++(List.replicate k its).flatten=acc++(List.replicate (k+1) its).flatten:=by
   rw[List.replicate_succ,List.flatten_cons,List.append_assoc]
  rw[<- e2,<- rN its k (acc++its),<- e,List.replicate_succ,aBW]
section
variable {X:Cx} {pins:List (Addr×Obj)} {σ:St} {H:Hp} {s:Shared} {l b:Addr} {xs ys zs:List V}
theorem Inv.lset {its its':List Value} {n:Nat} {f:Array Value->Array Value} {t':Nat} (I:Inv X pins σ H s) (hH:H l=some (.lst xs))
 (e:s.heap.get? l=some { cls:=.type "list",data:=.seq its.toArray n }) (hf:f its.toArray=its'.toArray) (hv:Vals ys its') (hz:ys.length<=sizeLine) :
 Inv X pins σ (upd H l (.lst ys)) { s with heap:=s.heap.update l (Obj.mapSeq f),toks:=t' }:=by
 have q:=PySem.IsL.update e f;rw[hf]at q;refine I.write (x:=l) (e:=l) (by rw[hH];exact trivial) (.inl rfl) (fun b' u hb hu=>(aAz s.heap (Obj.mapSeq f) (Ne.symm hb)).trans hu) ⟨_,q⟩ ?_;exact⟨hz,its',_,hv,q⟩
theorem Inv.lnew {its:List Value} {t':Nat} (I:Inv X pins σ H s) (hv:Vals ys its) (hz:ys.length<=sizeLine) :
 Inv X pins σ (upd H s.heap.objs.size (.lst ys)) { s with heap:=s.heap.push { cls:=.type "list",data:=.seq its.toArray },toks:=t' } :=
 I.laid (fun _ _ q=>aAv _ q) (Nat.le_refl _) ⟨hz,its,0,hv,aBB _ rfl⟩
theorem Inv.fresh (I:Inv X pins σ H s):H s.heap.objs.size=none:=I.hok.fresh (Nat.le_refl _)
theorem Inv.lstM (I:Inv X pins σ H s) (hH:H l=some (.lst xs)):xs.length<=sizeLine/\∃ (its:List Value) (n:Nat),Vals xs its/\xs.length=its.length/\s.heap.get? l=some { cls:=.type "list",data:=.seq its.toArray n }:=by
 obtain⟨z,its,n,r,e⟩:=I.hok l _ hH;exact⟨z,its,n,r,r.length,e⟩
theorem uU {n:Nat} (h:n<=sizeLine):Builtin.List.listTooLong n=false:=by
 unfold Builtin.List.listTooLong;exact aBQ (by omega)
end
section
variable {X:Cx}
def V4:V->List V->Hp->VK->Prop:=fun x vs H Q=>∃ l xs y,x=.ref l/\vs=[y]/\H l=some (.lst xs)/\xs.length<sizeLine/\Q .non (upd H l (.lst (xs++[y])))
theorem dF:MtM X "list.append" V4:=by
 intro pins s σ H x vs v us Q I rx rv h;obtain⟨l,xs,y,rfl,rfl,hH,hz,q⟩:=h;cases rx;obtain⟨u,rfl,ru⟩:=rv.one;obtain⟨z,its,n,r,hl,e⟩:=I.lstM hH;refine call_meets F.slot_list_append ⟨_,e,rfl⟩ F.entry_list_append (F.args_list_append_2 _ _) (PySem.list_append l its.toArray n u (by rw[aBC];omega)) ⟨e,?_⟩;refine⟨.non,_,I.lset (its':=its++[u]) hH e (by simp) (r.append (.cons ru .nil)) ?_,rfl,q⟩;rw[aBD,List.length_singleton];omega
def V5:V->List V->Hp->VK->Prop:=fun x vs H Q=>∃ l b xs zs,x=.ref l/\vs=[.ref b]/\H l=some (.lst xs)/\H b=some (.lst zs)/\xs.length+zs.length<=sizeLine/\Q .non (upd H l (.lst (xs++zs)))
theorem C3:MtM X "list.extend" V5:=by
 intro pins s σ H x vs v us Q I rx rv h;obtain⟨l,b,xs,zs,rfl,rfl,hH,hB,hz,q⟩:=h;cases rx;obtain⟨u,rfl,ru⟩:=rv.one;cases ru;obtain⟨z,its,n,r,hl,e⟩:=I.lstM hH;obtain⟨z2,its2,n2,r2,hl2,e2⟩:=I.lstM hB;have hsz:its.toArray.size+its2.toArray.size<=sizeLine:=by rw[aBC,aBC];omega
 have hlong:¬ (!its.toArray.isEmpty && Builtin.List.listTooLong (its.toArray.size+its2.toArray.size))=true:=by
  rw[uU hsz,Bool.and_false];exact aBH
 refine call_meets F.slot_list_extend ⟨_,e,rfl⟩ F.entry_list_extend (F.args_list_extend_2 _ _)
  (AutoSeq1.list_extend_list_list_0 l its.toArray n b its2.toArray n2 hlong (by rw[aBC];omega) (by omega)) ⟨e,e2,?_⟩
 refine⟨.non,_,I.lset (its':=its++its2) hH e (by simp) (r.append r2) ?_,rfl,q⟩;rw[aBD];omega
def aAh:V->List V->Hp->VK->Prop:=fun x vs H Q=>∃ l xs y,x=.ref l/\vs=[]/\H l=some (.lst xs)/\xs[xs.length - 1]?=some y/\Q y (upd H l (.lst xs.dropLast))
theorem n8:MtM X "list.pop" aAh:=by
 intro pins s σ H x vs v us Q I rx rv h;obtain⟨l,xs,y,rfl,rfl,hH,hy,q⟩:=h;cases rx;have hus:=rv.zero;subst hus;obtain⟨z,its,n,r,hl,e⟩:=I.lstM hH;obtain⟨u,hu,ru⟩:=r.get hy;have hy':its.toArray[its.toArray.size - 1]?=some u:=by
  show its.toArray[its.length - 1]?=some u;rw[<- Array.getElem?_toList,<- hl];exact hu
 refine call_meets F.slot_list_pop ⟨_,e,rfl⟩ F.entry_list_pop (F.args_list_pop_1 _) (MeetsSeq.list_pop_last l its.toArray n u hy' (by rw[aBC];omega)) ⟨e,?_⟩;refine⟨y,_,I.lset (its':=its.dropLast) hH e ?_ r.dropLast ?_,ru,q⟩
 ·show its.toArray.eraseIdxIfInBounds (its.toArray.size - 1)=its.dropLast.toArray;rw[aBC,List.eraseIdxIfInBounds_toArray,xI]
 ·rw[List.length_dropLast];omega
def aAi:R2:=fun x y H Q=>∃ l b xs zs,x=.ref l/\y=.ref b/\H l=some (.lst xs)/\H b=some (.lst zs)/\xs.length+zs.length<=sizeLine/\∀ p,H p=none->Q (.ref p) (upd H p (.lst (xs++zs)))
theorem o0:OpR X (binaryOp .Add) aAi:=by
 intro pins s σ H x y v u Q I rx ry h;obtain⟨l,b,xs,zs,rfl,rfl,hH,hB,hz,q⟩:=h;cases rx;cases ry;obtain⟨z,its,n,r,hl,e⟩:=I.lstM hH;obtain⟨z2,its2,n2,r2,hl2,e2⟩:=I.lstM hB;refine PySem.P.add_list e e2 ?_ (by rw[aBC,aBC];omega);have ea:its.toArray++its2.toArray=(its++its2).toArray:=by simp
 rw[ea];exact⟨.ref _,_,I.lnew (t':=s.toks) (r.append r2) (by rw[aBD];omega),rfl,q _ I.fresh⟩
def aAj:R2:=fun x y H Q=>∃ l k xs,x=.ref l/\y=.int k/\H l=some (.lst xs)/\-(2 ^ 63)<=k/\k<2 ^ 63/\xs.length * k.toNat<=sizeLine /\
 ∀ p,H p=none->Q (.ref p) (upd H p (.lst (List.replicate k.toNat xs).flatten))
theorem V6 {α:Type} (xs:List α) (k:Nat):(List.replicate k xs).flatten.length=k * xs.length:=by
 induction k with
 | zero=>simp
 | succ k ih=>rw[List.replicate_succ,List.flatten_cons,aBD,ih,Nat.succ_mul,Nat.add_comm]
theorem o3:OpR X (binaryOp .Mult) aAj:=by
 intro pins s σ H x y v u Q I rx ry h;obtain⟨l,k,xs,rfl,rfl,hH,h1,h2,hz,q⟩:=h;cases rx;obtain⟨t,rfl⟩:=ry;obtain⟨z,its,n,r,hl,e⟩:=I.lstM hH;have hlen:its.toArray.size * k.toNat<=sizeLine:=by rw[aBC,<- hl];exact hz
 have hcap:¬ its.toArray.size * k.toNat > (2 ^ 63 - 1) / 8:=by
  have:(sizeLine:Nat)<=(2 ^ 63 - 1) / 8:=by decide
  omega
 have hfit:¬ (!Builtin.List.listFitsIndex k)=true:=by
  rw[fitsIndex_both h1 h2];exact aBH
 have hlong:¬ Builtin.List.listTooLong (its.toArray.size * k.toNat)=true:=by
  rw[uU hlen];exact aBH
 have hnew:List.foldl (fun x1 x2=>x1++x2) #[] (List.replicate (if its.toArray.isEmpty=true then 0 else k.toNat) its.toArray)=(List.replicate k.toNat its).flatten.toArray:=by
  have f0:∀ m:Nat,List.foldl (fun x1 x2=>x1++x2) #[] (List.replicate m its.toArray)=(List.replicate m its).flatten.toArray:=fun m=>by
   have:=rN its m [];rw[List.nil_append]at this;exact this
  rw[f0];cases its with
  | nil=>simp
  | cons a r'=>rw[if_neg (by simp)]
 refine wpAny_binaryOp_repeat_ref (T:="list") (U:="int") (by decide) ⟨_,e,rfl⟩ (fun s'=>typeIs_int s' k t) noFill_list_mul F.fills_int_mul F.slot_int_rmul repeat_list F.slot_int_index.lookup
  (call_meets F.slot_int_rmul (typeIs_int s k t) F.entry_int_rmul (F.args_int_rmul_2 _ _) (int___rmul___int_list k t l its.toArray n)
   ⟨e,rfl,⟨_,e,rfl⟩,call_meets F.slot_list_mul ⟨_,e,rfl⟩ F.entry_list_mul (F.args_list_mul_2 _ _) (AutoListH.list___mul___list_int_3 l its.toArray n k t hfit hcap hlong) ⟨e,?_⟩⟩)
 rw[hnew];exact⟨.ref _,_,I.lnew (t':=s.toks) (r.rep k.toNat) (by rw[V6,Nat.mul_comm];exact hz),rfl,q _ I.fresh⟩
end
section
variable {prog:Program} {w:World} {A:Around} {E:Value->Shared->Prop} {s:Shared}
end
section
variable {X:Cx}
end
end L2
namespace Att
open PySem PySem.W PySem.Calls PyProof.Rows
theorem nQ {P:Params} {h:Heap}:∀ (ns:List Int) (vs:List Value),WellAll P h vs (ns.map WData.int)->IntsAre vs ns:=by
 intro ns
 induction ns with
 | nil =>
  intro vs w;rw[List.map_nil]at w;cases w;exact .nil
 | cons n ns ih =>
  intro vs w;rw[aBU]at w;cases w with
  | cons a b =>
   cases a;exact .cons _ _ (ih _ b)
theorem C4 {l:OpenLaw} {n:Nat} (hn:l.most=some n) {P:Params} {h:Heap} {args:List WData} {vals:List Value}
 (hpre:l.row.toRowW.claim.pre args=true) (hwl:WellAll P h vals args) :
 ∃ a vs ns,vals=[Value.ref a]/\args=[WData.list (ns.map WData.int)]/\h.get? a=some { cls:=.type "list",data:=.seq vs.toArray }/\IntsAre vs ns/\ns.length<=n:=by
 have hsh:WShape.hasAll [] args [.list .int]=true:=(pre_splitW hpre).1;have hc:l.pre.holds [] { args:=args }=true:=(pre_splitW hpre).2;obtain⟨d,r,rfl,h1,h2⟩:=hasAllW_cons hsh;obtain rfl:=hasAllW_nil h2;obtain⟨xs,rfl,h3⟩:=hasW_list h1;obtain⟨ns,rfl⟩:=items_int h3;have hlen:ns.length<=n:=by
  unfold OpenLaw.pre at hc;have h4:(WTm.not (.lt (.lit (.int (n:Int))) (.len (.arg 0)))).holds [] { args:=[.list (ns.map .int)] }=true:=by
   have h4:=(holds_andW hc).1;rw[hn]at h4;exact h4
  have h5:=condW_of h4 (w_not (w_lt w_lit (w_len_list (w_arg rfl))));rw[aAu]at h5;refine Nat.le_of_not_lt fun q=>?_;have q':(n:Int)<((ns.length:Nat):Int):=by omega
  first
   | (rw[aBR q']at h5;exact absurd h5 (by decide))
   | (simp at h5;omega)
 cases hwl with
 | cons w1 w2 =>
  cases w2;cases w1 with
  | list ho hall=>exact⟨_,_,ns,rfl,rfl,ho,nQ ns _ hall,hlen⟩
theorem C5 (l:OpenLaw) (args:List WData):l.row.toRowW.claim.post args (.bool true) args=true :=
 postW_of (r:=l.row.toRowW) (X:=(true == true))
  (show WShape.has [] (.bool true) .bool=true by first | rfl | decide | simp[WShape.has,WShape.arms,WShape.armsAll])
  (show (WTm.eq .res (.lit (.bool true))).value [] { args:=args,res:=some (.bool true),after:=args }=some (.bool (true == true)) from w_eq_bool (w_res rfl) w_lit) rfl
theorem attach_call {l:OpenLaw} {n:Nat} {q:Program} {loose:List Str} {XP:(Str->Option Value)->Heap->Prop} {YP:World->Heap->Prop} {d:DefRec}
 (hn:l.most=some n) (hdf:d.params.defaults=[])
 (call:∀ (w:World) (s₀ s₁:Shared) (mg mb:Str->Option Value) (fa:Addr) (o:Obj) (pm cd doc:Value) (a:Addr) (vs:List Value) (ns:List Int),
  Ground q loose [] XP w s₀ mg mb s₁.heap->YP w s₁.heap ->
  s₁.heap.get? fa=some o->o.data=.func (docDef d.name d.params d.body d.scope pm cd doc)->s₁.heap.CodeRec cd d.name->mg d.name=some (.ref fa) ->
  s₁.heap.get? a=some { cls:=.type "list",data:=.seq vs.toArray }->IntsAre vs ns->ns.length<=n->s₁.gens=#[] ->
  codeAny (model l.prog w) callerA (.call (.ref fa) ⟨[.ref a],[]⟩) (fun r s'=>r=.ok (.ret (.bool true))/\OldK s₁.heap s'.heap/\s'.os=s₁.os/\AllBare s'.gens) s₁) :
 WalkO q loose XP YP l.row.toRowW d [] (fun f vs=>PySem.call f vs):=by
 intro w s₀ s₁ mg mb G Y fa o pm cd doc dV kV ho hd hcd hD hmg hg args vals as hpre hlay hrd hwl hlo;obtain rfl:dV=.none:=Dflts.none hD hdf;obtain rfl:kV=.none:=Dflts.noKw hD;obtain⟨a,vs,ns,rfl,rfl,hobj,hints,hlen⟩:=C4 hn hpre hwl;refine enter_call (codeAny_mono (call w s₀ s₁ mg mb fa o pm cd doc a vs ns G Y ho (fd_plain hd) hcd hmg hobj hints hlen hg) fun r s' hq=>?_);obtain⟨rfl,h2,h3,h4⟩:=hq;exact⟨.inl ⟨.bool true,.bool true,[],rfl,fun _=>rfl,.bool true,C5 l _,fun _=>⟨List.Pairwise.nil,fun _ hm=>(nomatch hm)⟩⟩,h2,h3,h4⟩
section
variable {prog:Program} {w:World} {A:Around} {E:Value->Shared->Prop} {s:Shared} {K:Frag}
end
end Att
namespace L2
open PySem PySem.Spec PyProof.Rows
theorem iB:∀ {vs:List Value} {ns:List Int},IntsAre vs ns->Vals (ns.map V.int) vs
 | _,_,.nil=>.nil
 | _,_,.cons n t h=>.cons ⟨t,rfl⟩ (iB h)
def aU (s:Stmt):Arguments:=match s with
 | .FunctionDef _ a _ _ _ _ _ _ _ _=>a
 | _=>{ posonlyargs:=[],args:=[],vararg:=none,kwonlyargs:=[],kw_defaults:=[],kwarg:=none,defaults:=[] }
def aR (s:Stmt):List Stmt:=match s with
 | .FunctionDef _ _ b _ _ _ _ _ _ _=>b
 | _=>[]
def aE (s:Stmt):Scope:=match s with
 | .FunctionDef _ _ _ _ _ _ sc _ _ _=>sc
 | _=>{ kind:=.function,names:=[],isGenerator:=false,isCoroutine:=false }
abbrev CX0:CXT:=fun _ _ _ _ _ _=>False
abbrev E0:XK:=fun _ _ _=>False
theorem aAA {X:Cx}:xF CX0 X E0:=fun _ _ _ _ _ _ _ h=>h.elim
structure Fun (K:PySem.W.Frag) (x qual:Str) (st:Stmt) (f:Addr) (fd:FuncData):Prop where
 ex:∃ (oc:Value) (od:Option Addr) (kV doc pm:Value) (an:Option Addr) (cdv ct:Value) (osl:Array (Option Value)),
  fd=PySem.W.fnOf x qual (aU st) (aR st) (aE st) .none kV doc pm an cdv ct/\K.lookup f=some ⟨oc,od,.func fd,osl⟩/\PySem.W.codeIn K cdv qual=true
 kp:PySem.W.keepIn K (.ref f)=true
section
variable {P:Program} {w:World} {K:PySem.W.Frag} {mg:Str->Option Value} {base:Heap}
theorem Fun.ok {x qual:Str} {st:Stmt} {f:Addr} {fd:FuncData} {N ps:List Str} {k:Nat} {sp:Sp} (F:Fun K x qual st f fd) (S:aV N ps (aE st)) (len:∀ vs H Q E,sp vs H Q E->vs.length=ps.length)
 (hbody:∀ (cdv:Value) (A:Around) (outer:List Env) (s:Shared) (H:Hp) (vs:List V) (Q:VK) (E:XK),Room k (A.deeper (envOfC qual (aE st) s.heap.objs.size f cdv))->sp vs H Q E ->
  ∃ t,PSs (mL CX0 P w K mg base N qual (aE st) f cdv A outer s H E).nox (aR st) t/\t { nx:=fun _ H'=>Q .non H',rt:=Q } (fS N vs) H):FnOk P w K mg base CX0 (k+1) f fd ps sp:=by
 obtain⟨oc,od,kV,doc,pm,an,cdv,ct,osl,rfl,lk,hcd⟩:=F.ex;refine L5 lk hcd S len fun A outer s H vs Q E hr hsp=>?_;obtain⟨t,h,q⟩:=hbody cdv A outer s H vs Q E hr hsp;exact⟨t,h.nox,q⟩
theorem Fun.binds {x qual:Str} {st:Stmt} {f:Addr} {fd:FuncData} {ps:List Str} (F:Fun K x qual st f fd)
 (h:∀ (kV doc pm:Value) (an:Option Addr) (cdv ct:Value) (us:List Value),us.length=ps.length->bindArgs (PySem.W.fnOf x qual (aU st) (aR st) (aE st) .none kV doc pm an cdv ct) ⟨us,[]⟩=pure (ps.zip us)):Binds K fd ps []:=by
 obtain⟨oc,od,kV,doc,pm,an,cdv,ct,osl,rfl,lk,hcd⟩:=F.ex;exact .all (h kV doc pm an cdv ct)
theorem bT {x qual:Str} {st:Stmt} {f:Addr} {oc:Value} {od an:Option Addr} {osl:Array (Option Value)} {kV doc pm cdv ct:Value} (l:K.lookup f=some ⟨oc,od,.func (PySem.W.fnOf x qual (aU st) (aR st) (aE st) .none kV doc pm an cdv ct),osl⟩)
 (c:PySem.W.codeIn K cdv qual=true) (k:PySem.W.keepIn K (.ref f)=true):Fun K x qual st f (PySem.W.fnOf x qual (aU st) (aR st) (aE st) .none kV doc pm an cdv ct):=⟨⟨oc,od,kV,doc,pm,an,cdv,ct,osl,rfl,l,c⟩,k⟩
end
theorem uV {A:Around} {k:Nat} (hr:Room k A):A.units+1<cLine:=Nat.lt_of_le_of_lt (Nat.add_le_add_left (by decide:1<=64) _) hr.units
section
variable {X:Cx}
theorem pv (i:Nat) {x:Str} {pos:Pos} (hN:X.N[i]?=some x:=by rfl) (hv:Vis X.env.scope x:=by first | exact Or.inl rfl | exact Or.inr (Or.inl rfl) | exact Or.inr (Or.inr rfl)) (hd:(x == ("__debug__":Str))=false:=by decide)
 (hcd:(x == ("__classdict__":Str))=false:=by decide):PE X (.Name x pos) (x3 i):=i3 hN hv hd hcd
end
def Same (H H':Hp):Prop:=∀ b o,H b=some o->H' b=some o
theorem Same.refl (H:Hp):Same H H:=fun _ _ h=>h
theorem Same.trans {H H1 H2:Hp} (a:Same H H1) (b:Same H1 H2):Same H H2:=fun c o h=>b c o (a c o h)
theorem Same.free {H H':Hp} (e:Same H H') {l:Addr} (h:H' l=Option.none):H l=Option.none:=by
 cases q:H l with
 | none=>rfl
 | some o =>
  rw[e l o q]at h;cases h
theorem Same.seq {K:PySem.W.Frag} {H H':Hp} {a:Addr} {xs:List V} (e:Same H H') (h:SqL K H a xs):SqL K H' a xs:=by
 rcases h with (h | ⟨o,h⟩) | h
 ·exact .inl (.inl (e _ _ h))
 ·exact .inl (.inr ⟨o,e _ _ h⟩)
 ·exact .inr h
def eT (scope:Scope) (env:Env):List (Str×Addr) :=
 scope.names.foldl (fun acc y=>if y.2 == .free then (match env.cells.lookup y.1 with | some c=>(y.1,c) :: acc | none=>acc)else acc) []
theorem nC {env:Env}:∀ (names:List (Str×NameKind)) (acc:List (Str×Addr)),(∀ y∈names,y.2=.free->∃ c,env.cells.lookup y.1=some c) ->
 (forIn names acc fun(y:Str×NameKind) (r:List (Str×Addr))=>(match y with | (name,kind)=>if (kind == NameKind.free)=true then (do let a <- cellOf env name;pure (ForInStep.yield ((name,a) :: r)))else pure (ForInStep.yield r):Sem (ForInStep (List (Str×Addr))))) =
  pure (names.foldl (fun acc y=>if y.2 == .free then (match env.cells.lookup y.1 with | some c=>(y.1,c) :: acc | none=>acc)else acc) acc)
 | [],acc,_=>rfl
 | (n,k) :: r,acc,h=>by
  rw[List.forIn_cons,aBW];have ih:=fun acc=>nC (env:=env) r acc fun y hy=>h y (aAx _ hy)
  by_cases hk:k=.free
  ·subst hk;obtain⟨c,e⟩:=h (n,.free) aAw rfl;have e':env.cells.lookup n=some c:=e;simp only[cellOf,e',beq_self_eq_true,if_true];exact ih _
  ·have hb:(k == NameKind.free)=false:=by simpa using hk
   simp only[hb,Bool.false_eq_true,if_false];exact ih _
theorem oA {scope:Scope} {env:Env} (h:∀ y∈scope.names,y.2=.free->∃ c,env.cells.lookup y.1=some c):closureFor scope env=pure (eT scope env):=by
 have e:=nC (env:=env) scope.names [] h;unfold closureFor eT;rw[<- e]
 first | rfl | simp
theorem rO {env:Env} {x:Str} {c:Addr}:∀ (names:List (Str×NameKind)) (acc:List (Str×Addr)),(∀ z d,acc.lookup z=some d->env.cells.lookup z=some d) ->
 (names.foldl (fun acc y=>if y.2 == .free then (match env.cells.lookup y.1 with | some c=>(y.1,c) :: acc | none=>acc)else acc) acc).lookup x=some c->env.cells.lookup x=some c
 | [],acc,h,e=>h x c e
 | (n,k) :: r,acc,h,e=>by
  rw[aBW]at e;refine rO r _ ?_ e;intro z d q
  by_cases hk:(k == NameKind.free)=true
  ·simp only[hk,if_true]at q;cases el:env.cells.lookup n with
   | none=>simp only[el]at q;exact h z d q
   | some a =>
    simp only[el,List.lookup_cons]at q
    by_cases hz:(z == n)=true
    ·simp only[hz]at q;have:z=n:=by simpa using hz
     subst this;rw[el];exact q
    ·have hz':(z == n)=false:=by simpa using hz
     simp only[hz']at q;exact h z d q
  ·simp only[hk,if_false]at q;exact h z d q
theorem dG {scope:Scope} {env:Env} {x:Str} {c:Addr} (e:(eT scope env).lookup x=some c):env.cells.lookup x=some c:=rO _ _ (fun _ _ q=>by simp at q) e
theorem kH {env:Env} {x:Str}:∀ (names:List (Str×NameKind)) (acc:List (Str×Addr)),(∀ y∈names,y.2=.free->∃ c,env.cells.lookup y.1=some c)->((x,NameKind.free)∈names\/(acc.lookup x).isSome=true) ->
 ((names.foldl (fun acc y=>if y.2 == .free then (match env.cells.lookup y.1 with | some c=>(y.1,c) :: acc | none=>acc)else acc) acc).lookup x).isSome=true
 | [],acc,_,h=>by
  rcases h with h | h
  ·cases h
  ·exact h
 | (n,k) :: r,acc,hc,h=>by
  rw[aBW];refine kH r _ (fun y hy=>hc y (aAx _ hy)) ?_;rcases h with h | h
  ·rcases aB8.mp h with h | h
   ·cases h;obtain⟨c,e⟩:=hc (x,.free) aAw rfl;have e':env.cells.lookup x=some c:=e;right
    simp[e',List.lookup_cons]
   ·exact .inl h
  ·right
   by_cases hk:(k == NameKind.free)=true
   ·simp only[hk,if_true];cases el:env.cells.lookup n with
    | none=>exact h
    | some a =>
     simp only[List.lookup_cons]
     by_cases hz:(x == n)=true
     ·simp[hz]
     ·have hz':(x == n)=false:=by simpa using hz
      simp only[hz'];exact h
   ·simp only[hk];exact h
theorem jV {scope:Scope} {env:Env} {x:Str} (hc:∀ y∈scope.names,y.2=.free->∃ c,env.cells.lookup y.1=some c) (h:(x,NameKind.free)∈scope.names):∃ c,(eT scope env).lookup x=some c :=
 Option.isSome_iff_exists.mp (kH _ _ hc (.inl h))
def cZ (sc inn:Scope) (N:List Str) (js:List Nat) (cs:List Str):Bool :=
 (inn.kind == .function) && inn.names.all (fun y=>y.2 != .cell && (y.2 != .local || inn.names.lookup y.1 == some .local) && (y.2 != .free || (sc.names.lookup y.1 == some .cell || sc.names.lookup y.1 == some .free))) &&
 (js.map fun j=>N[j]?) == cs.map some && cs.all (fun x=>inn.names.lookup x == some .free)
structure CompOk (sc inn:Scope) (N:List Str) (js:List Nat) (cs:List Str):Prop where
 kind:inn.kind=.function
 nocell:∀ y∈inn.names,y.2≠.cell
 names:∀ y∈inn.names,y.2=.local->inn.names.lookup y.1=some .local
 frees:∀ y∈inn.names,y.2=.free->sc.names.lookup y.1=some .cell\/sc.names.lookup y.1=some .free
 slots:(js.map fun j=>N[j]?)=cs.map some
 caps:∀ x∈cs,inn.names.lookup x=some .free
theorem CompOk.of {sc inn:Scope} {N:List Str} {js:List Nat} {cs:List Str} (h:cZ sc inn N js cs=true):CompOk sc inn N js cs:=by
 unfold cZ at h;simp only[Bool.and_eq_true]at h;obtain⟨⟨⟨h1,h2⟩,h3⟩,h4⟩:=h;rw[List.all_eq_true]at h2 h4;refine⟨by simpa using h1,fun y hy=>?_,fun y hy e=>?_,fun y hy e=>?_,by simpa using h3,fun x hx=>by simpa using h4 x hx⟩
 ·have:=h2 y hy;simp only[Bool.and_eq_true]at this;simpa using this.1.1
 ·have:=h2 y hy;simp only[Bool.and_eq_true,e]at this;simpa using this.1.2
 ·have:=h2 y hy;simp only[Bool.and_eq_true,e]at this;simpa using this.2
def sIn (nt:Nat) (js:List Nat) (σ:St):St:=List.replicate nt none++js.map fun j=>(σ[j]?).join
def eU (X:Cx) (inn:Scope) (N':List Str) (s₀:Shared) (H₀:Hp) (ex:List Addr):Cx where
 prog:=X.prog
 w:=X.w
 K:=X.K
 mg:=X.mg
 base:=X.base
 A:=X.A
 N:=N'
 s₀:=s₀
 H₀:=H₀
 env:=compEnvC inn (eT inn X.env) s₀.heap.objs.size X.env
 outer:=X.stack
 stack:=X.stack
 ex:=ex
 fn:=fun _=>false
 calm:=X.calm
 pn:=[]
 xe:=fun _ _=>False
def PIf (X:Cx) (ifs:List Expr) (t:TT):Prop :=
 ∀ (pins:List (Addr×Obj)) (s:Shared) (σ:St) (H:Hp) (Q:Bool->Hp->Prop),Inv X pins σ H s->t σ H Q ->
  wpAny (model X.prog X.w) X.A (forIn ifs true fun c r=>if r=true then do let ok <- isTrue c X.env (eval c X.env);pure (ForInStep.yield ok)else pure (ForInStep.yield r)) (TP X pins σ Q) X.xe s
def aAk:TT:=fun _ H Q=>Q true H
theorem cP {X:Cx}:PIf X [] aAk:=fun _ _ _ H _ I h=>wpAny_tests_nil ⟨H,I,h⟩
theorem sY {X:Cx} {c:Expr} {t:TT} (h:PT X c t):PIf X [c] t:=fun pins s σ H Q I hw=>wpAny_tests_one (h pins s σ H Q I hw)
def oU (J:It) (σ0:St) (g:TG) (tt:TT) (te:TE) (Q:VK) (H1:Hp):Prop:=∃ W:Nat->Nat->List V->Hp->Prop,(∃ m,W 0 m [] H1)/\∀ i m ys H,W i m ys H ->
 ys.length<sizeLine/\((J.stop i H/\∀ D,H D=none->Q (.ref D) (upd H D (.lst ys))) \/
  (J.go i H/\∃ N:List V->Hp->Prop,(∀ ys' H',N ys' H'->∃ m',m'<m/\W (i+1) m' ys' H')/\∀ x H',J.yld i H x H'->g x σ0 H' fun σ2 H2=>tt σ2 H2 fun b H3 =>
   if b=true then te σ2 H3 fun y H4=>N (ys++[y]) H4 else N ys H3))
def M4 (wi:TI) (nt:Nat) (js:List Nat) (g:TG) (tt:TT) (te:TE):TE:=fun σ H Q=>wi σ H fun J H1=>oU J (sIn nt js σ) g tt te Q H1
theorem dN {env:Env}:∀ {names:List (Str×NameKind)} {x:Str},names.lookup x=some .free ->
 (names.map fun(n,k)=>if (k == NameKind.free && env.scope.kind == .function && env.kindOf n == some .cell)then (n,NameKind.cell)else (n,k)).lookup x=some .cell \/
 (names.map fun(n,k)=>if (k == NameKind.free && env.scope.kind == .function && env.kindOf n == some .cell)then (n,NameKind.cell)else (n,k)).lookup x=some .free
 | [],_,h=>by simp at h
 | (n,k) :: r,x,h=>by
  have ih:=@dN env r x;show List.lookup x ((if (k == NameKind.free && env.scope.kind == .function && env.kindOf n == some .cell)=true then (n,NameKind.cell)else (n,k)) :: _)=_\/List.lookup x ((if (k == NameKind.free && env.scope.kind == .function && env.kindOf n == some .cell)=true then (n,NameKind.cell)else (n,k)) :: _)=_;cases hx:x == n with
  | true =>
   simp only[List.lookup_cons,hx]at h;cases h
   by_cases hc:(NameKind.free == NameKind.free && env.scope.kind == .function && env.kindOf n == some .cell)=true
   ·left;rw[if_pos hc];simp[List.lookup_cons,hx]
   ·right;rw[if_neg hc];simp[List.lookup_cons,hx]
  | false =>
   simp only[List.lookup_cons,hx]at h
   by_cases hc:(k == NameKind.free && env.scope.kind == .function && env.kindOf n == some .cell)=true
   ·rw[if_pos hc];simp only[List.lookup_cons,hx];exact ih h
   ·rw[if_neg hc];simp only[List.lookup_cons,hx];exact ih h
theorem iY {env:Env}:∀ {names:List (Str×NameKind)} {x:Str},(∀ y∈names,y.2≠NameKind.cell) ->
 ((names.map fun(n,k)=>if (k == NameKind.free && env.scope.kind == .function && env.kindOf n == some .cell)then (n,NameKind.cell)else (n,k)).lookup x=some .cell \/
 (names.map fun(n,k)=>if (k == NameKind.free && env.scope.kind == .function && env.kindOf n == some .cell)then (n,NameKind.cell)else (n,k)).lookup x=some .free)->(x,NameKind.free)∈names
 | [],_,_,h=>by simp at h
 | (n,k) :: r,x,hn,h=>by
  have ih:=@iY env r x (fun y hy=>hn y (aAx _ hy));have hk:=hn (n,k) aAw;rw[aBU]at h;cases hx:x == n with
  | true =>
   have e:x=n:=by simpa using hx
   subst e
   by_cases hc:(k == NameKind.free && env.scope.kind == .function && env.kindOf x == some .cell)=true
   ·have:k=.free:=by simp only[Bool.and_eq_true]at hc;simpa using hc.1.1
    subst this;exact aAw
   ·simp only[if_neg hc,List.lookup_cons,hx]at h;rcases h with h | h
    ·cases h;exact absurd rfl hk
    ·cases h;exact aAw
  | false =>
   refine aAx _ (ih ?_)
   by_cases hc:(k == NameKind.free && env.scope.kind == .function && env.kindOf n == some .cell)=true
   ·simp only[if_pos hc,List.lookup_cons,hx]at h;exact h
   ·simp only[if_neg hc,List.lookup_cons,hx]at h;exact h
section
variable {X:Cx} {pins:List (Addr×Obj)} {σ:St} {H H':Hp} {s:Shared} {inn:Scope} {js:List Nat} {cs ts:List Str} {nt:Nat}
theorem jW {i:Nat} {v:V} (h:(sIn nt js σ)[i]?=some (some v)):nt<=i/\∃ j,js[i - nt]?=some j/\σ[j]?=some (some v):=by
 unfold sIn at h
 by_cases hi:i<nt
 ·rw[List.getElem?_append_left (by simpa using hi),List.getElem?_replicate]at h;split at h <;> cases h
 ·rw[List.getElem?_append_right (by simpa using hi),aBP,aBT]at h;refine⟨by omega,?_⟩;cases e:js[i - nt]? with
  | none=>rw[e]at h;cases h
  | some j =>
   rw[e]at h;have h':(σ[j]?).join=some v:=Option.some.inj h;refine⟨j,rfl,?_⟩;cases q:σ[j]? with
   | none=>rw[q]at h';cases h'
   | some o =>
    rw[q]at h';have h'':o=some v:=h';rw[h'']
theorem aAB {ex:List Addr} (I:Inv X pins σ H s) (O:CompOk X.env.scope inn X.N js cs) (hex:∀ b∈ex,b<s.heap.objs.size/\b≠X.env.locals/\b∉X.fs/\(∀ x c,X.env.cells.lookup x=some c->c≠b)/\∀ o,X.base.get? b≠some o) :
 (eU X inn (ts++cs) s H ex).Ok where
 mod:=I.ok.mod
 kind:=O.kind
 glob:=I.ok.glob
 blt:=I.ok.blt
 above:=Nat.le_refl _
 inj:=fun x y c h1 h2=>I.ok.inj x y c (dG h1) (dG h2)
 has:=fun x hx=>by
  have hm:(x,NameKind.free)∈inn.names:=iY O.nocell hx;exact jV (fun y hy e=>I.ok.has y.1 (O.frees y hy e)) hm
 cab:=fun _ _ h=>absurd h (by show ¬ (false=true);decide)
 hd:=I.ok.hd
 frames:=I.ok.frames
 stk:=.inl rfl
 exf:=fun b hb=>⟨aBS (hex b hb).1,fun x c e=>(hex b hb).2.2.2.1 x c (dG e)⟩
 bs:=I.bs
 bsz:=Nat.le_trans I.ok.bsz I.sz
 noex:=fun b o e hb=>(hex b hb).2.2.2.2 o e
 exfs:=fun b hb hs=>by
  rcases aB8.mp (I.stkSub b hs)with e | e
  ·exact(hex b hb).2.1 e
  ·exact(hex b hb).2.2.1 e
 funs:=I.stack
 frf:=I.stkFree
theorem M5 {ex:List Addr} {h':Heap} {tk:Nat} (hts:ts.length=nt) (I:Inv X pins σ H s) (O:CompOk X.env.scope inn X.N js cs) (hex:∀ b∈ex,b<s.heap.objs.size/\b≠X.env.locals/\b∉X.fs/\(∀ x c,X.env.cells.lookup x=some c->c≠b)/\∀ o,X.base.get? b≠some o)
 (hn:∃ m,h'.Ns s.heap.objs.size m) (hk:∀ b o,s.heap.get? b=some o->h'.get? b=some o) :
 Inv (eU X inn (ts++cs) s H ex) [] (sIn nt js σ) H { s with heap:=h',toks:=tk }:=by
 have ok:(eU X inn (ts++cs) s H ex).Ok:=aAB I O hex;obtain⟨m,hn⟩:=hn;have cellK:∀ c v,s.heap.IsCell c v->h'.IsCell c v:=fun c v ⟨o,ho,hd⟩=>⟨o,hk c o ho,hd⟩;have hlen:js.length=cs.length:=by have:=congrArg List.length O.slots;simpa using this
 refine⟨ok,rfl,I.bare,Un.kept hk,⟨m,hn,fun i x v e1 e2 e3=>?_⟩,fun x c e=>?_,I.hok.fresh (Nat.le_refl _),fun x c e=>I.freeC x c (dG e),fun p hp=>?_,I.hok.kept hk,?_⟩
 ·obtain⟨hi,j,hj,hv⟩:=jW e2;have e1':(ts++cs)[i]?=some x:=e1;rw[List.getElem?_append_right (by omega),hts]at e1';have hN:X.N[j]?=some x:=by
   have q:(js.map fun j=>X.N[j]?)[i - nt]?=(cs.map some)[i - nt]?:=by rw[O.slots]
   rw[aBT,aBT,hj,e1']at q;exact Option.some.inj q
  have hcap:=O.caps x (aBF e1');have hmem:(x,NameKind.free)∈inn.names:=PySem.mem_of_lookup hcap;have hout:=O.frees _ hmem rfl;obtain⟨mo,hno,hl⟩:=I.loc;obtain⟨u,r,l⟩:=hl j x v hN hv (.inr hout);refine⟨u,r,.inr ?_⟩;rcases l with ⟨l1,_⟩ | ⟨k,c,ec,z⟩
  ·have l1':X.env.scope.names.lookup x=some .local:=l1;rcases hout with q | q <;> (rw[q]at l1';cases l1')
  ·refine⟨?_,?_⟩
   ·exact dN (env:=X.env) hcap
   ·obtain⟨c',ec'⟩:=jV (env:=X.env) (fun y hy e=>I.ok.has y.1 (O.frees y hy e)) hmem;have:=dG ec';rw[ec]at this;cases this;exact⟨c,ec',cellK _ _ z⟩
 ·obtain⟨v,z⟩:=I.cell x c (dG e);exact⟨v,cellK _ _ z⟩
 ·exact absurd (show p∈([]:List (Addr×Obj)) from hp) (by simp)
 ·show (sIn nt js σ).length=(ts++cs).length;unfold sIn;simp[hts,hlen]
theorem Inv.track {a:Addr} {o:HO} (I:Inv X pins σ H s) (hn:H a=none) (h0:X.s₀.heap.objs.size<=a) (hL:a≠X.env.locals) (hc:∀ x c,X.env.cells.lookup x=some c->c≠a) (hp:∀ p∈X.pn++pins,p.1≠a)
 (new:ObjOk X.prog X.w (upd H a o) s.heap a o):Inv X pins σ (upd H a o) s:=by
 have ne0:∀ b ob,X.s₀.heap.get? b=some ob->b≠a:=fun b ob e=>aBS (aBL (aBA e) h0);have neT:∀ b u,H b=some u->b≠a:=fun b u e=>aN e hn;refine⟨I.ok,I.os,I.bare,⟨I.base.keep,I.base.slot,fun b ob e n hx=>?_,I.base.there,fun b xs e=>?_,fun b ob u e=>?_,fun b ps e=>?_⟩,I.loc,I.cell,?_,fun x c e=>?_,fun p hp'=>?_,fun b u e=>?_,I.len⟩
 ·rw[aC (ne0 b ob e)];exact I.base.free b ob e n hx
 ·have q:=I.base.tups b xs e;rw[aC (neT b _ q)];exact q
 ·have q:=I.base.frzs b ob u e;rw[aC (neT b _ q)];exact q
 ·obtain⟨more,q⟩:=I.base.tbls b ps e;exact⟨more,by rw[aC (neT b _ q)];exact q⟩
 ·rw[aC (Ne.symm hL)];exact I.free
 ·rw[aC (hc x c e)];exact I.freeC x c e
 ·obtain⟨q1,q2,q3,q4,q5⟩:=I.pin p hp';exact⟨q1,by rw[aC (hp p hp')];exact q2,q3,q4,q5⟩
 ·by_cases hb:b=a
  ·subst hb;rw[aB]at e;cases e;exact new
  ·rw[aC hb]at e;exact(I.hok b u e).stay (fun _ _ _ q=>q) (fun c q=>by rw[aC (neT c _ q)];exact q) fun c xs q=>by rw[aC (neT c _ q)];exact q
end
def GK (nt:Nat) (g:TG):Prop:=∀ v σ H Q,g v σ H Q->g v σ H fun σ' H'=>((∀ i,nt<=i->σ'[i]?=σ[i]?)/\σ'.length=σ.length)/\Q σ' H'
def GKs (nt:Nat) (g:TGs):Prop:=∀ vs σ H Q,g vs σ H Q->g vs σ H fun σ' H'=>((∀ i,nt<=i->σ'[i]?=σ[i]?)/\σ'.length=σ.length)/\Q σ' H'
theorem fT {nt i:Nat} (h:i<nt):GK nt (nB i):=fun v σ H Q q=>⟨⟨fun j hj=>by rw[List.getElem?_set_ne (by omega)],by simp⟩,q⟩
theorem gT {nt:Nat}:GKs nt x9:=fun vs σ H Q ⟨e,q⟩=>⟨e,⟨fun _ _=>rfl,rfl⟩,q⟩
theorem bZ {nt i:Nat} {u:TGs} (h:i<nt) (hu:GKs nt u):GKs nt (Z9 (nB i) u):=fun vs σ H Q q=>by
 obtain⟨v,r,e,q⟩:=q;refine⟨v,r,e,?_⟩;have q':u r (σ.set i (some v)) H Q:=q;have w:=hu r (σ.set i (some v)) H Q q';have e1:∀ j,nt<=j->(σ.set i (some v))[j]?=σ[j]?:=fun j hj=>by rw[List.getElem?_set_ne (by omega)]
 have:(fun(σ':St) (H':Hp)=>((∀ j,nt<=j->σ'[j]?=(σ.set i (some v))[j]?)/\σ'.length=(σ.set i (some v)).length)/\Q σ' H')=fun σ' H'=>((∀ j,nt<=j->σ'[j]?=σ[j]?)/\σ'.length=σ.length)/\Q σ' H':=by
  funext σ' H'
  apply propext
  constructor
  ·rintro ⟨⟨a,b⟩,c⟩;exact⟨⟨fun j hj=>(a j hj).trans (e1 j hj),by simpa using b⟩,c⟩
  ·rintro ⟨⟨a,b⟩,c⟩;exact⟨⟨fun j hj=>(a j hj).trans (e1 j hj).symm,by simpa using b⟩,c⟩
 rw[this]at w;exact w
theorem iZ {K:PySem.W.Frag} {nt n:Nat} {t:TGs} (h:GKs nt t):GK nt (i6 K n t):=fun v σ H Q ⟨a,xs,e,hq,hl,q⟩=>⟨a,xs,e,hq,hl,h xs σ H Q q⟩
section
variable {X:Cx} {pins:List (Addr×Obj)} {σ:St} {inn:Scope} {js:List Nat} {cs ts:List Str} {nt:Nat} {elt tg iter:Expr} {ifs:List Expr} {pos:Pos} {g:TG} {tt:TT} {te:TE}
theorem rP {J:It} {fp:List Addr} {it:Addr} {tn:Nat->Heap->Prop} {H2:Hp} {s2:Shared} {E:Value->Shared->Prop} {Q:VK} {RR:Value->Addr->Result->Shared->Prop}
 (hcalm:X.calm=true) (O:CompOk X.env.scope inn X.N js cs) (hts:ts.length=nt)
 (hg:∀ s₀ H₀ ex,PG (eU X inn (ts++cs) s₀ H₀ ex) tg g) (hk:GK nt g) (ht:∀ s₀ H₀ ex,PIf (eU X inn (ts++cs) s₀ H₀ ex) ifs tt) (he:∀ s₀ H₀ ex,PE (eU X inn (ts++cs) s₀ H₀ ex) elt te)
 (I2:Inv X pins σ H2 s2) (T:qS X.prog X.w X.K tg J fp it tn) (st2:tn 0 s2.heap) (f2:∀ b∈fp,gR X pins H2 b)
 (R:oU J (sIn nt js σ) g tt te Q H2)
 (hRR:∀ D C s' H',Inv X pins σ H' s'->(∃ m,s'.heap.Ns C m)->H' C=none->C≠X.env.locals->X.s₀.heap.objs.size<=C->(∀ x c,X.env.cells.lookup x=some c->c≠C)->(∀ p∈X.pn++pins,p.1≠C)->Q (.ref D) H'->RR (.ref D) C (.ok .next) s') :
 wpAny (model X.prog X.w) X.A (newList []) (fun acc s₃=>wpAny (model X.prog X.w) X.A (newFunctionEnv inn X.env.globals (eT inn X.env) [] X.env.qual none .none (some X.env)) (fun cenv s₄ =>
  codeAny (model X.prog X.w) X.A (.compStart (.ListComp elt [⟨tg,iter,ifs,0⟩] inn pos) 0 (.ref it) acc { cenv with scope:=relabel inn X.env }) (RR acc cenv.locals) s₄) E s₃) E s2:=by
 refine wpAny_newObj_type (wpAny_newFunctionEnv O.nocell (by intro y hy;simp at hy) (fun h₁ hns₁ hsb₁=>?_) O.kind);dsimp only at hns₁ hsb₁ ⊢;generalize hD:s2.heap.objs.size=D;have I3:Inv X pins σ H2 { s2 with heap:=s2.heap.push { cls:=.type "list",dict:=none,data:=.seq ([]:List Value).toArray } }:=I2.kept (t':=s2.toks) fun b o e=>aAv _ e;generalize hs3:({ s2 with heap:=s2.heap.push { cls:=.type "list",dict:=none,data:=.seq ([]:List Value).toArray } }:Shared)=s3 at I3;have e3:s3.heap=s2.heap.push { cls:=.type "list",dict:=none,data:=.seq ([]:List Value).toArray }:=by rw[<- hs3]
 have hD3:s3.heap.get? D=some { cls:=.type "list",dict:=none,data:=.seq ([]:List Value).toArray }:=by rw[e3,<- hD];exact aBB _ rfl
 have hsz3:s3.heap.objs.size=D+1:=by rw[e3,Heap.size_push,hD]
 have e3':(s2.heap.push { cls:=.type "list",dict:=none,data:=.seq ([]:List Value).toArray })=s3.heap:=e3.symm;rw[e3']at hns₁ hsb₁ ⊢;have fH2D:H2 D=none:=I2.hok.fresh (by rw[hD];exact Nat.le_refl _);have up:∀ b o,s3.heap.get? b=some o->h₁.get? b=some o:=fun b o e=>hsb₁.extBut b o (aBS (aBA e)) (aAv _ e);have fpo:∀ b∈fp,b<s3.heap.objs.size/\b≠D:=fun b hb=>by
  obtain⟨o,eo,_⟩:=T.obj 0 _ st2 b hb;have h1:=aBA eo;rw[hD]at h1;exact⟨by rw[hsz3];exact Nat.lt_succ_of_lt h1,aBS h1⟩
 have nb:∀ b,X.s₀.heap.objs.size<=b->∀ o,X.base.get? b≠some o:=fun b hb o e=>absurd (aBL (aBA e) (Nat.le_trans I2.ok.bsz hb)) (Nat.lt_irrefl _);have dge:s2.heap.objs.size<=D:=by rw[hD];exact Nat.le_refl _
 have fD:gR X pins H2 D:=I2.fpOk dge fH2D;have hex:∀ b∈D :: fp,b<s3.heap.objs.size/\b≠X.env.locals/\b∉X.fs/\(∀ x c,X.env.cells.lookup x=some c->c≠b)/\∀ o,X.base.get? b≠some o:=fun b hb=>by
  rcases aB8.mp hb with rfl | hb
  ·exact⟨by rw[hsz3];exact Nat.lt_succ_self _,fD.2.1,fD.2.2.1,fD.2.2.2.2.1,nb _ (Nat.le_trans I2.sz dge)⟩
  ·obtain⟨f0,f1,f2',f3,f4,f5⟩:=f2 b hb;refine⟨(fpo b hb).1,f1,f2',f4,fun o e=>?_⟩;rcases f3 with z | z
   ·exact I2.ok.noex b o e z
   ·exact nb b z o e
 have hC:s3.heap.objs.size=s3.heap.objs.size:=rfl;generalize hXi:eU X inn (ts++cs) s3 H2 (D :: fp)=Xi;have I4:Inv Xi [] (sIn nt js σ) H2 { s3 with heap:=h₁,toks:=s3.toks }:=by
  rw[<- hXi];exact M5 hts I3 O hex ⟨_,hns₁⟩ up
 have xp:Xi.prog=X.prog:=by rw[<- hXi];rfl
 have xw:Xi.w=X.w:=by rw[<- hXi];rfl
 have xK:Xi.K=X.K:=by rw[<- hXi];rfl
 have xA:Xi.A=X.A:=by rw[<- hXi];rfl
 have xc:Xi.calm=true:=by rw[<- hXi];exact hcalm
 have xe:Xi.env=compEnvC inn (eT inn X.env) s3.heap.objs.size X.env:=by rw[<- hXi];rfl
 have xx:Xi.xe=fun _ _=>False:=by rw[<- hXi];rfl
 have xex:Xi.ex=D :: fp:=by rw[<- hXi];rfl
 have xpn:Xi.pn=[]:=by rw[<- hXi];rfl
 have xs0:Xi.s₀=s3:=by rw[<- hXi];rfl
 have xH0:Xi.H₀=H2:=by rw[<- hXi];rfl
 have xfs:Xi.fs=frs X.stack:=by rw[<- hXi];rfl
 have hgX:PG Xi tg g:=by rw[<- hXi];exact hg _ _ _
 have htX:PIf Xi ifs tt:=by rw[<- hXi];exact ht _ _ _
 have heX:PE Xi elt te:=by rw[<- hXi];exact he _ _ _
 have okX:=I4.ok;have xl:Xi.env.locals=s3.heap.objs.size:=by rw[xe];rfl
 have Dl:D≠Xi.env.locals:=by rw[xl,hsz3];exact aBS (Nat.lt_succ_self _)
 have stat:∀ {H':Hp} {pl:List (Addr×Obj)},(∀ b∈fp,H' b=none)->(∀ p∈pl,p.1=D)->∀ b∈fp,gR Xi pl H' b:=fun {H' pl} hn hpl b hb=>by
  have hbx:b∈Xi.ex:=by rw[xex];exact aAx _ hb
  refine⟨hn b hb,(okX.exf b hbx).1,fun z=>okX.exfs b hbx z,.inl hbx,(okX.exf b hbx).2,fun p hp=>?_⟩;rw[xpn,List.nil_append]at hp;rw[hpl p hp];exact Ne.symm (fpo b hb).2
 have DX:D∈Xi.ex:=by rw[xex];exact aAw
 obtain⟨W,⟨m0,w0⟩,turn⟩:=R;have loop:codeAny (model X.prog X.w) X.A (.compLoop (.ListComp elt [⟨tg,iter,ifs,0⟩] inn pos) 0 (.ref it) (.ref D) Xi.env) (RR (.ref D) s3.heap.objs.size) { s3 with heap:=h₁,toks:=s3.toks }:=by
  refine codeAny_loop rfl (fun n s'=>∃ i ys H',Inv Xi [] (sIn nt js σ) H' s'/\tn i s'.heap/\(∀ b∈fp,H' b=none)/\H' D=none/\(∃ (its:List Value) (c:Nat),Vals ys its/\s'.heap.get? D=some { cls:=.type "list",data:=.seq its.toArray c })/\W i n ys H') ?_ m0
   ⟨0,[],H2,I4,?_,fun b hb=>(f2 b hb).1,fH2D,⟨[],0,.nil,up D _ hD3⟩,w0⟩
  ·rintro n s5 ⟨i,ys,H5,I5,st5,fr5,fD5,⟨its,c,rv,eD⟩,w5⟩;show wpAny _ X.A ((compTurn (.ListComp elt [⟨tg,iter,ifs,0⟩] inn pos) 0 (.ref it) (.ref D) Xi.env).onRaise (fun x=>do noteFrame x Xi.env;theTreesLotGoes x)) _ _ s5;refine wpAny_noted ?_;rw[compTurn_list];refine aAs (wpAny_standAt (aAs ?_));have pinD:Inv Xi (bR [D] s5.heap) (sIn nt js σ) H5 s5:=by
    have q:=I5.pinned (fp:=[D]) (fun b hb=>?_) (fun b hb=>?_)
    ·simpa using q
    ·have e:b=D:=by simpa using hb
     subst e;refine⟨fD5,Dl,fun z=>okX.exfs b DX z,.inl DX,(okX.exf b DX).2,fun p hp=>?_⟩;rw[xpn,List.nil_append]at hp;cases hp
    ·have e:b=D:=by simpa using hb
     subst e;exact⟨_,eD,fun v z=>by cases z⟩
   have plD:∀ p∈bR [D] s5.heap,p.1=D:=fun p hp=>by simpa using (fY hp).1
   have memD:(D,({ cls:=.type "list",data:=.seq its.toArray c }:Obj))∈bR [D] s5.heap:=bH (by simp) eD;obtain⟨hz,tn5⟩:=turn i n ys H5 w5;rcases tn5 with ⟨stop,fin⟩ | ⟨go,N,hN,step⟩
   ·have q:=T.done Xi xp xw xK xc i _ s5 _ H5 (notedBy (model X.prog X.w) X.A Xi.env fun e s'=>RR (.ref D) s3.heap.objs.size (.error e) s') pinD (stat fr5 plD) st5 stop;rw[xA]at q;refine wpAny_mono q (fun r s6 ⟨hr,I6⟩=>?_) fun _ _ z=>z;subst hr;refine aAt ?_;have eD6:=(I6.pin (D,_) (aAy _ memD)).1;have un:Un (frs X.stack) (D :: fp) H2 H5 s3.heap s6.heap:=by
     have z:=I6.base;rw[xfs,xex,xH0,xs0]at z;exact z
    have os6:s6.os=s3.os:=by have z:=I6.os;rw[xs0]at z;exact z
    have hok6:HOk X.prog X.w H5 s6.heap:=by have z:=I6.hok;rw[xp,xw]at z;exact z
    have I7:Inv X pins σ H5 s6:=I3.call' os6 un hok6 I6.bare fun b hb=>by
     rcases aB8.mp hb with e | hb
     ·rw[e];exact⟨.inr (Nat.le_trans I2.sz dge),fD.2.1,fD.2.2.2.2.1,fD.2.2.2.2.2⟩
     ·obtain⟨f0,f1,f2',f3,f4,f5⟩:=f2 b hb;exact⟨f3,f1,f4,f5⟩
    have I8:Inv X pins σ (upd H5 D (.lst ys)) s6:=I7.track fD5 (Nat.le_trans I2.sz dge) fD.2.1 fD.2.2.2.2.1 fD.2.2.2.2.2 ⟨Nat.le_of_lt hz,its,c,rv,eD6⟩;have Cge:s3.heap.objs.size<=s3.heap.objs.size:=Nat.le_refl _;have fC:gR X pins (upd H5 D (.lst ys)) s3.heap.objs.size:=I3.fpOk Cge (by
     rw[aC (by rw[<- xl];exact Ne.symm Dl)];have z:=I6.free;rw[xl]at z;exact z)
    obtain⟨mm,hmm,_⟩:=I6.loc;rw[xl]at hmm;exact hRR D _ s6 _ I8 ⟨mm,hmm⟩ fC.1 fC.2.1 (Nat.le_trans I3.sz Cge) fC.2.2.2.2.1 fC.2.2.2.2.2 (fin D fD5)
   ·have q:=T.item Xi xp xw xK xc i _ s5 _ H5 (notedBy (model X.prog X.w) X.A Xi.env fun e s'=>RR (.ref D) s3.heap.objs.size (.error e) s') pinD (stat fr5 plD) st5 go;rw[xA]at q;refine wpAny_mono q (fun r s6 ⟨u,hr,h6⟩=>?_) fun _ _ z=>z;subst hr;refine aAs (wpAny_mono h6 (fun _ s7 ⟨x,H7,I7,r7,y7,st7,fr7⟩=>?_) fun _ _ z=>z);have I7':=I7.pinned (fp:=fp) (fun b hb=>stat fr7 plD b hb) (T.obj _ _ st7);have q8:=hgX _ s7 _ H7 x u _ I7' r7 (hk x _ H7 _ (step x H7 y7));rw[xp,xw,xA,xx]at q8;refine aAs (wpAny_mono q8 (fun _ s8 ⟨σ8,H8,I8,⟨k8,l8⟩,q8⟩=>?_) fun _ _ z=>z.elim);have q9:=htX _ s8 σ8 H8 _ I8 q8;rw[xp,xw,xA,xx]at q9;refine aAs (wpAny_mono q9 (fun ok s9 ⟨H9,I9,q9⟩=>?_) fun _ _ z=>z.elim);have keepσ:∀ (j:Nat) v,(sIn nt js σ)[j]?=some (some v)->σ8[j]?=some (some v):=fun j v e=>by
     have hj:=(jW e).1;rw[k8 j hj];exact e
    have ends:∀ {H9:Hp} {s9:Shared} {ys':List V},Inv Xi (bR [D] s5.heap++bR fp s7.heap) σ8 H9 s9->∀ {h':Heap} {its':List Value} {c':Nat},(∀ b o,b≠D->s9.heap.get? b=some o->h'.get? b=some o)->Vals ys' its'->h'.get? D=some { cls:=.type "list",data:=.seq its'.toArray c' }->N ys' H9 ->
     ∀ tk,∃ m,m<n/\∃ i ys H',Inv Xi [] (sIn nt js σ) H' { s9 with heap:=h',toks:=tk }/\tn i h'/\(∀ b∈fp,H' b=none)/\H' D=none/\(∃ (its:List Value) (c:Nat),Vals ys its/\h'.get? D=some { cls:=.type "list",data:=.seq its.toArray c })/\W i m ys H':=fun {H9 s9 ys'} I9 {h' its' c'} kp rv' eD' n9 tk=>by
     obtain⟨m',hm,w9⟩:=hN ys' H9 n9;have fD9:H9 D=none:=(I9.pin (D,_) (aAy _ (aBO _ memD))).2.1;have fr9:∀ b∈fp,H9 b=none:=fun b hb=>by
      obtain⟨o,e,d⟩:=T.obj _ _ st7 b hb;exact(I9.pin (b,o) (aAy _ (aAy _ (bH hb e)))).2.1
     have I10:Inv Xi [] σ8 H9 s9:=I9.pins_of fun p hp=>by cases hp
     have I11:Inv Xi [] σ8 H9 { s9 with heap:=h',toks:=tk }:=I10.turned (it:=D) kp fD9 Dl (.inl DX) (okX.exf D DX).2 (fun p hp=>by rw[xpn]at hp;cases hp);refine⟨m',hm,i+1,ys',H9,I11.weak l8.symm keepσ,T.keep _ _ _ st7 fun b hb o e=>kp b o (fpo b hb).2 (I9.pin (b,o) (aAy _ (aAy _ (bH hb e)))).1,fr9,fD9,⟨its',c',rv',eD'⟩,w9⟩
    cases ok with
    | false =>
     rw[if_neg aBH]at q9;have eD9:=(I9.pin (D,_) (aAy _ (aBO _ memD))).1;exact aAt ⟨rfl,ends I9 (h':=s9.heap) (fun _ _ _ e=>e) rv eD9 q9 s9.toks⟩
    | true =>
     rw[if_pos rfl]at q9;have q10:=heX _ s9 σ8 H9 _ I9 q9;rw[xp,xw,xA,xx]at q10;refine aAs (aAs (wpAny_mono q10 (fun v s10 ⟨y,H10,I10,r10,q10⟩=>?_) fun _ _ z=>z.elim));have eD10:=(I10.pin (D,_) (aAy _ (aBO _ memD))).1;have hlen:=rv.length;refine aAs (wpAny_list_append_plain (items:=its.toArray) ⟨c,eD10⟩ (fun h' hl hs=>aAt (aAt ⟨rfl,?_⟩)) (by rw[aBC];omega));obtain⟨c',e'⟩:=hl;have e'':h'.get? D=some { cls:=.type "list",data:=.seq (its++[v]).toArray c' }:=by rw[e'];simp
     exact ends I10 (h':=h') (fun b o hb e=>hs.extBut b o hb e) (rv.append (.cons r10 .nil)) e'' q10 s10.toks
  ·exact T.keep 0 _ _ st2 fun b hb o e=>up b o (by rw[e3];exact aAv _ e)
 have e4:({ s2 with heap:=h₁,toks:=s2.toks+([]:List (Str×Value)).length }:Shared)={ s3 with heap:=h₁,toks:=s3.toks }:=by rw[<- hs3];rfl
 rw[e4];show codeAny _ _ (.compStart (.ListComp elt [⟨tg,iter,ifs,0⟩] inn pos) 0 (.ref it) (.ref D) (compEnvC inn (eT inn X.env) s3.heap.objs.size X.env)) (RR (.ref D) s3.heap.objs.size) _;rw[<- xe];refine codeAny_compStart_list loop ?_;refine T.self X.A 0 _ _ _ ?_ loop;exact T.keep 0 _ _ st2 fun b hb o e=>up b o (by rw[e3];exact aAv _ e)
end
section
variable {X:Cx} {inn:Scope} {js:List Nat} {cs ts:List Str} {nt:Nat} {elt tg iter:Expr} {ifs:List Expr} {pos:Pos} {g:TG} {tt:TT} {te:TE} {wi:TI}
theorem fE (ts cs:List Str) (js:List Nat) (hcalm:X.calm=true) (O:CompOk X.env.scope inn X.N js cs) (hi:PI X tg iter wi)
 (hg:∀ s₀ H₀ ex,PG (eU X inn (ts++cs) s₀ H₀ ex) tg g) (hk:GK ts.length g) (ht:∀ s₀ H₀ ex,PIf (eU X inn (ts++cs) s₀ H₀ ex) ifs tt) (he:∀ s₀ H₀ ex,PE (eU X inn (ts++cs) s₀ H₀ ex) elt te)
 (hs:∀ x,foldedSetIterable iter X.env x=pure x:=by intro _;rfl):PE X (.ListComp elt [⟨tg,iter,ifs,0⟩] inn pos) (M4 wi ts.length js g tt te):=by
 intro pins s σ H Q I h;rw[eval_ListComp];refine wpAny_comprehension_free (use:=none) rfl hs (oA fun y hy e=>I.ok.has y.1 (O.frees y hy e)) O.kind O.names (thn (hi pins s σ H _ I h) fun xv s1 h1=>thn h1 fun itv s2 h2=>?_);obtain⟨it,fp,tn,J,H2,e,I2,T,st2,f2,R⟩:=h2;subst e;refine rP (Q:=Q) (RR:=fun acc C=>compPost (model X.prog X.w) X.A X.xe none (EP X pins σ Q) acc C) hcalm O rfl hg hk ht he I2 T st2 f2 R ?_;intro D C s' H' I' ⟨m,hm⟩ c1 c2 c3 c4 c5 q;refine⟨m,hm,fun h' hsb=>?_⟩;exact⟨.ref D,H',I'.turned (it:=C) (t':=s'.toks) (fun b o hb e=>hsb.extBut b o hb e) c1 c2 (.inr c3) c4 c5,rfl,q⟩
theorem lC {i:Nat} {x:Str} {pos' spos:Pos} (ts cs:List Str) (js:List Nat) (hcalm:X.calm=true) (hN:X.N.Nodup) (hi':X.N[i]?=some x) (hx:X.env.scope.names.lookup x=some .local) (O:CompOk X.env.scope inn X.N js cs) (hi:PI X tg iter wi)
 (hg:∀ s₀ H₀ ex,PG (eU X inn (ts++cs) s₀ H₀ ex) tg g) (hk:GK ts.length g) (ht:∀ s₀ H₀ ex,PIf (eU X inn (ts++cs) s₀ H₀ ex) ifs tt) (he:∀ s₀ H₀ ex,PE (eU X inn (ts++cs) s₀ H₀ ex) elt te)
 (hsw:swapsWith (.ListComp elt [⟨tg,iter,ifs,0⟩] inn pos) (some (.Name x pos')) spos.line X.env=pure true) (hs:∀ x,foldedSetIterable iter X.env x=pure x:=by intro _;rfl) :
 PS X (.Assign [.Name x pos'] (.ListComp elt [⟨tg,iter,ifs,0⟩] inn pos) spos) (i8 (M4 wi ts.length js g tt te) (nB i)):=by
 intro pins s σ H D I h;rw[exec_Assign_Name_used _ _ _ _ hsw];refine aAs (wpAny_standAt (aAs ?_));show wpAny _ X.A (do let _ <- comprehension (.ListComp elt [⟨tg,iter,ifs,0⟩] inn pos) inn X.env _ (newList []) false (eval iter X.env) (some (assign (.Name x pos') X.env))) _ _ s;refine aAs (wpAny_mono (wpAny_comprehension_free (use:=some (assign (.Name x pos') X.env)) (Q:=fun _ s'=>SP X pins D .next s') rfl hs (oA fun y hy e=>I.ok.has y.1 (O.frees y hy e)) O.kind O.names
  (thn (hi pins s σ H _ I h) fun xv s1 h1=>thn h1 fun itv s2 h2=>?_)) (fun _ s' hq=>aAt (aAt hq)) fun _ _ e=>e)
 obtain⟨it,fp,tn,J,H2,e,I2,T,st2,f2,R⟩:=h2;subst e;refine rP (Q:=fun v H'=>D.nx (σ.set i (some v)) H') (RR:=fun acc C=>compPost (model X.prog X.w) X.A X.xe (some (assign (.Name x pos') X.env)) (fun _ s'=>SP X pins D .next s') acc C) hcalm O rfl hg hk ht he I2 T st2 f2 R ?_;intro D' C s' H' I' ⟨m,hm⟩ c1 c2 c3 c4 c5 q;show wpAny _ X.A (assign (.Name x pos') X.env (.ref D')) _ _ _;refine wpAny_assign_Name (rE (v:=.ref D') I' hN hi' (.inl hx) rfl (fun s2 I2 ⟨a,hsb,ha⟩=>?_) (.inr hx));have hCa:C≠a:=by
  rcases ha with e | e
  ·rw[e];exact c2
  ·exact fun z=>c4 _ _ e z.symm
 refine⟨m,hm.sameBut hsb hCa,fun h' hsb'=>?_⟩;exact⟨_,H',I2.turned (it:=C) (t':=s2.toks) (fun b o hb e=>hsb'.extBut b o hb e) c1 c2 (.inr c3) c4 c5,q⟩
end
theorem cU {K:PySem.W.Frag} {a:Addr} {xs:List V} {σ0:St} {g:TG} {tt:TT} {te:TE} {H:Hp} {Q:VK} (Pv:Nat->List V->Hp->Prop) (h0:Pv 0 [] H) (hl:∀ i ys H,i<=xs.length->Pv i ys H->SqL K H a xs/\ys.length<sizeLine)
 (hs:∀ i x ys H,xs[i]?=some x->Pv i ys H->g x σ0 H fun σ2 H2=>tt σ2 H2 fun b H3=>if b=true then te σ2 H3 fun y H4=>Pv (i+1) (ys++[y]) H4 else Pv (i+1) ys H3) (hd:∀ ys H,Pv xs.length ys H->∀ D,H D=none->Q (.ref D) (upd H D (.lst ys))) :
 oU (Itl K a) σ0 g tt te Q H:=by
 refine⟨fun i m ys H=>m=xs.length - i/\i<=xs.length/\Pv i ys H,⟨xs.length,by simp,Nat.zero_le _,h0⟩,?_⟩;rintro i m ys H ⟨rfl,hi,p⟩;obtain⟨q,hz⟩:=hl i ys H hi p;refine⟨hz,?_⟩
 by_cases hlt:i<xs.length
 ·refine .inr ⟨⟨xs,xs[i],q,by simp[hlt]⟩,Pv (i+1),fun ys' H' p'=>⟨xs.length - (i+1),by omega,rfl,hlt,p'⟩,fun x H' y=>?_⟩;obtain⟨e,y⟩:=y;subst e;exact hs i x ys _ (y xs q) p
 ·have e:i=xs.length:=by omega
  subst e;exact .inl ⟨⟨xs,q,Nat.le_refl _⟩,hd ys H p⟩
theorem kN {lo:Int} {n:Nat} {σ0:St} {g:TG} {tt:TT} {te:TE} {H:Hp} {Q:VK} (Pv:Nat->List V->Hp->Prop) (h0:Pv 0 [] H) (hl:∀ i ys H,i<=n->Pv i ys H->ys.length<sizeLine)
 (hs:∀ i ys H,i<n->Pv i ys H->g (.int (lo+i)) σ0 H fun σ2 H2=>tt σ2 H2 fun b H3=>if b=true then te σ2 H3 fun y H4=>Pv (i+1) (ys++[y]) H4 else Pv (i+1) ys H3) (hd:∀ ys H,Pv n ys H->∀ D,H D=none->Q (.ref D) (upd H D (.lst ys))) :
 oU (Itr lo n) σ0 g tt te Q H:=by
 refine⟨fun i m ys H=>m=n - i/\i<=n/\Pv i ys H,⟨n,by simp,Nat.zero_le _,h0⟩,?_⟩;rintro i m ys H ⟨rfl,hi,p⟩;refine⟨hl i ys H hi p,?_⟩
 by_cases hlt:i<n
 ·refine .inr ⟨hlt,Pv (i+1),fun ys' H' p'=>⟨n - (i+1),by omega,rfl,hlt,p'⟩,fun x H' y=>?_⟩;obtain⟨e,y⟩:=y;subst e y;exact hs i ys _ hlt p
 ·have e:i=n:=by omega
  subst e;exact .inl ⟨Nat.le_refl _,hd ys H p⟩
mutual
inductive Den (H:Hp):V->PyData->Prop
 | non:Den H .non .none
 | bl (b:Bool):Den H (.bl b) (.bool b)
 | int (i:Int):Den H (.int i) (.int i)
 | str (x:Str):Den H (.str x) (.str x)
 | lst {a:Addr} {vs:List V} {ds:List PyData}:H a=some (.lst vs)->Dens H vs ds->Den H (.ref a) (.list ds)
 | tup {a:Addr} {vs:List V} {ds:List PyData}:H a=some (.tup vs)->Dens H vs ds->Den H (.ref a) (.tuple ds)
inductive Dens (H:Hp):List V->List PyData->Prop
 | nil:Dens H [] []
 | cons {v:V} {d:PyData} {vs:List V} {ds:List PyData}:Den H v d->Dens H vs ds->Dens H (v :: vs) (d :: ds)
end
theorem Dens.length:∀ {H:Hp} {vs:List V} {ds:List PyData},Dens H vs ds->vs.length=ds.length
 | _,_,_,.nil=>rfl
 | _,_,_,.cons _ t=>congrArg Nat.succ (Dens.length t)
theorem Dens.get:∀ {H:Hp} {vs:List V} {ds:List PyData} {i:Nat} {d:PyData},Dens H vs ds->ds[i]?=some d->∃ v,vs[i]?=some v/\Den H v d
 | _,_,_,_,_,.nil,e=>by simp at e
 | _,_,_,0,_,.cons r _,e=>by simp at e;subst e;exact⟨_,rfl,r⟩
 | _,_,_,i+1,d,.cons _ t,e=>by
  obtain⟨v,h1,h2⟩:=Dens.get (i:=i) (d:=d) t (by simpa using e);exact⟨v,by simpa using h1,h2⟩
theorem Dens.append:∀ {H:Hp} {vs us:List V} {ds es:List PyData},Dens H vs ds->Dens H us es->Dens H (vs++us) (ds++es)
 | _,_,_,_,_,.nil,s=>s
 | _,_,_,_,_,.cons r t,s=>.cons r (Dens.append t s)
mutual
theorem Den.mono {H H':Hp} (e:Same H H'):∀ {v:V} {d:PyData},Den H v d->Den H' v d
 | _,_,.non=>.non
 | _,_,.bl b=>.bl b
 | _,_,.int i=>.int i
 | _,_,.str x=>.str x
 | _,_,.lst h t=>.lst (e _ _ h) (Dens.mono e t)
 | _,_,.tup h t=>.tup (e _ _ h) (Dens.mono e t)
theorem Dens.mono {H H':Hp} (e:Same H H'):∀ {vs:List V} {ds:List PyData},Dens H vs ds->Dens H' vs ds
 | _,_,.nil=>.nil
 | _,_,.cons r t=>.cons (Den.mono e r) (Dens.mono e t)
end
theorem Same.upd {H:Hp} {a:Addr} {o:HO} (h:H a=none):Same H (upd H a o):=fun b u e=>by rw[aC (aN e h)];exact e
theorem Same.upd' {H H0:Hp} {a:Addr} {o:HO} (h:H0 a=none) (s:Same H0 H):Same H0 (L2.upd H a o):=fun b u e=>by rw[aC (aN e h)];exact s b u e
section
variable {P:Program} {w:World} {H:Hp} {h:Heap}
mutual
theorem Den.reads (ok:HOk P w H h):∀ {v:V} {d:PyData} {u:Value},Den H v d->RelV v u->∃ as,Reads h u d as
 | _,_,_,.non,r=>by cases r;exact⟨_,.none⟩
 | _,_,_,.bl b,r=>by cases r;exact⟨_,.bool b⟩
 | _,_,_,.int i,r=>by obtain⟨t,rfl⟩:=r;exact⟨_,.int i t⟩
 | _,_,_,.str x,r=>by obtain⟨t,rfl⟩:=r;exact⟨_,.str x t⟩
 | _,_,_,.lst (a:=a) e t,r=>by
  cases r;obtain⟨_,its,n,rv,ho⟩:=ok a _ e;obtain⟨as,q⟩:=Dens.reads ok t rv;exact⟨_,.list ho rfl rfl (by simpa using q)⟩
 | _,_,_,.tup (a:=a) e t,r=>by
  cases r;obtain⟨_,its,rv,o,ho,hc,n,hd⟩:=ok a _ e;obtain⟨as,q⟩:=Dens.reads ok t rv;exact⟨_,.tuple ho hc hd (by simpa using q)⟩
theorem Dens.reads (ok:HOk P w H h):∀ {vs:List V} {ds:List PyData} {us:List Value},Dens H vs ds->Vals vs us->∃ as,ReadsAll h us ds as
 | _,_,_,.nil,.nil=>⟨_,.nil⟩
 | _,_,_,.cons r t,.cons q s=>by
  obtain⟨a,x⟩:=Den.reads ok r q;obtain⟨b,y⟩:=Dens.reads ok t s;exact⟨_,.cons x y⟩
end
end
def aAl:R2:=fun x y H Q=>∃ d e,Den H x d/\Den H y e/\SeqAt.shaped d=true/\SeqAt.shaped e=true/\Q (.bl (PyData.eqv d e)) H
section
variable {X:Cx}
theorem M6 (hu:X.A.units+64<cLine):OpR X (compareOp .Eq) aAl:=by
 intro pins s σ H x y v u Q I rx ry h;obtain⟨d,e,hd,he,sd,se,q⟩:=h;obtain⟨as,r1⟩:=hd.reads I.hok rx;obtain⟨bs,r2⟩:=he.reads I.hok ry;exact eq_dataH r1 r2 sd se hu ⟨.bl _,H,I,rfl,q⟩
def tyD:PyData->String
 | .none=>"NoneType" | .bool _=>"bool" | .int _=>"int" | .str _=>"str" | .list _=>"list" | .tuple _=>"tuple" | .dict _=>"dict"
theorem Den.ty {K:PySem.W.Frag} {H:Hp} {v:V} {d:PyData} (h:Den H v d):mK K H v (.type (tyD d)):=by
 cases h with
 | non=>exact .non
 | bl b=>exact .bl b
 | int i=>exact .int i
 | str x=>exact .str x
 | lst e _=>exact .lst e
 | tup e _=>exact .tup e
theorem dP:eS X (.builtin "isinstance") (fun xs H Q=>∃ x T d b,xs=[x,.ty T]/\Den H x d/\PySem.W.kitOne X.K (.type (tyD d)) (.type T)=some b/\Q (.bl b) H):=by
 intro pins s σ H xs us Q I r h;obtain⟨x,T,d,b,rfl,hd,e,q⟩:=h;obtain⟨u,v,rfl,r1,r2⟩:=r.two;cases r2;exact C0 I r1 (hd.ty (K:=X.K)) e fun tk=>⟨.bl b,H,I.tok tk,rfl,q⟩
theorem o4 {P:Program} {w:World} {H:Hp} {s:Shared} {K:PySem.W.Frag} {x:V} {u:Value} {d:PyData} {A:Around} {E:Value->Shared->Prop} {tp:Addr} {its:List Value} {n:Nat} {b:Bool} {Q:Value->Shared->Prop} (ok:HOk P w H s.heap) (kin:K.In s.heap) (rx:RelV x u) (hd:Den H x d)
 (htp:∃ o,s.heap.get? tp=some o/\o.cls=.type "tuple"/\o.data=.seq its.toArray n) (e:PySem.W.kitAny K (.type (tyD d)) its=some b) (h:∀ tk,Q (.bool b) { s with toks:=tk }):wpAny (model P w) A (call (.builtin "isinstance") [u,.ref tp]) Q E s:=by
 obtain⟨⟨cls,dd,data,sl⟩,ho,hc,hda⟩:=htp;simp only at hc hda;subst hc hda;cases hd with
 | non=>cases rx;exact PySem.W.kia_tup PySem.W.kitx_none kin True.intro ho e (fun z=>nomatch z) h
 | bl y=>cases rx;exact PySem.W.kia_tup PySem.W.kitx_bool kin True.intro ho e (fun z=>nomatch z) h
 | int i=>obtain⟨t,rfl⟩:=rx;exact PySem.W.kia_tup PySem.W.kitx_int kin True.intro ho e (fun z=>nomatch z) h
 | str y=>obtain⟨t,rfl⟩:=rx;exact PySem.W.kia_tup PySem.W.kitx_str kin True.intro ho e (fun z=>nomatch z) h
 | @lst a vs ds ea _ =>
  cases rx;obtain⟨_,_,n,_,h1⟩:=(show ObjOk P w H s.heap a (.lst vs) from ok a _ ea);exact PySem.W.kia_tup PySem.W.kitx_list kin ⟨_,h1,rfl⟩ ho e (fun z=>nomatch z) h
 | @tup a vs ds ea _ =>
  cases rx;obtain⟨_,_,_,p⟩:=(show ObjOk P w H s.heap a (.tup vs) from ok a _ ea);obtain⟨o,h1,h2,_⟩:=p;exact PySem.W.kia_tup PySem.W.kitx_tuple kin ⟨o,h1,h2⟩ ho e (fun z=>nomatch z) h
theorem zH:∀ {Ts:List String} {us:List Value},Vals (Ts.map V.ty) us->us=Ts.map Value.type
 | [],_,.nil=>rfl
 | T :: r,_,.cons q t=>by
  have e:_=Value.type T:=q;rw[aBU,e,zH t]
theorem C7:eS X (.builtin "isinstance") (fun xs H Q=>∃ (x:V) (tp:Addr) (Ts:List String) (d:PyData) (b:Bool),xs=[x,.ref tp]/\H tp=some (.tup (Ts.map V.ty))/\Den H x d/\PySem.W.kitAny X.K (.type (tyD d)) (Ts.map Value.type)=some b/\Q (.bl b) H):=by
 intro pins s σ H xs us Q I r h;obtain⟨x,tp,Ts,d,b,rfl,ht,hd,e,q⟩:=h;obtain⟨u,v,rfl,r1,r2⟩:=r.two;cases r2;obtain⟨_,its,rv,o,ho,hc,n,hda⟩:=(show ObjOk X.prog X.w H s.heap tp (.tup (Ts.map V.ty)) from I.hok tp _ ht);have e2:=zH rv;subst e2;exact o4 I.hok I.kIn r1 hd ⟨o,ho,hc,hda⟩ e fun tk=>⟨.bl b,H,I.tok tk,rfl,q⟩
theorem uW (hc:X.calm=true):eS X (.builtin "all") (fun xs H Q=>∃ (p:Addr) (bs:List Bool),xs=[.ref p]/\H p=some (.lst (bs.map V.bl))/\Q (.bl (bs.all id)) H):=by
 intro pins s σ H xs us Q I r h;obtain⟨p,bs,rfl,hp,q⟩:=h;obtain⟨u,rfl,rx⟩:=iA r;cases rx;obtain⟨its,rv,pl,hz⟩:=I.list (SqL.of hp);have hl:=pl.isList;have hlt:p<s.heap.objs.size:=by obtain⟨_,e,_⟩:=hl;exact aBA e
 have hlen:bs.length=its.length:=by have:=rv.length;simpa using this
 refine call_all_walk (wpAny_pyIter_list hl ?_);refine⟨s.heap.objs.size,[s.heap.objs.size,p],[s.heap.objs.size],its.toArray.size,_,_,fun i=>(bs[i]?).getD true,rfl,Walks.list (A:=X.A.in1) (I.ok.hd hc) _ p (aBS hlt) its.toArray,
  ⟨⟨_,aBB _ rfl,rfl,rfl⟩,hl.push _⟩,fun i v s' Q' E' hP hQ=>?_,fun h' tk hk=>?_⟩
 ·have hv:its[i]?=some v:=by simpa using hP
  have hi:i<its.length:=(aB7.mp hv).1;have hb:(bs.map V.bl)[i]?=some (V.bl (bs[i]'(by omega))):=by simp[hlen,hi]
  obtain⟨u,eu,ru⟩:=rv.get hb;rw[hv]at eu;cases eu;cases ru;have e:(bs[i]?).getD true=bs[i]'(by omega):=by simp[show i<bs.length by omega]
  have hQ':Q' ((bs[i]?).getD true) s':=hQ;rw[e]at hQ';exact wpAny_truthy_bool hQ'
 ·have e:((List.range its.toArray.size).all fun i=>(bs[i]?).getD true)=bs.all id:=by
   rw[aBC,<- hlen];exact LSm.range_all bs
  rw[e];have kp:∀ b x,s.heap.get? b=some x->h'.get? b=some x:=LSm.kept_iter hk;exact⟨.bl _,H,I.kept kp,rfl,q⟩
end
theorem iC:bootBuiltins "list"=some (.type "list"):=by decide +kernel
theorem kO:bootBuiltins "tuple"=some (.type "tuple"):=by decide +kernel
theorem rQ:bootBuiltins "bool"=some (.type "bool"):=by decide +kernel
theorem uX:bootBuiltins "str"=some (.type "str"):=by decide +kernel
theorem lD:bootBuiltins "int"=some (.type "int"):=by decide +kernel
theorem bA:bootBuiltins "isinstance"=some (.builtin "isinstance"):=by decide +kernel
theorem uY:bootBuiltins "all"=some (.builtin "all"):=by decide +kernel
theorem cH:bootBuiltins "sorted"=some (.builtin "sorted"):=by decide +kernel
theorem oV:bootBuiltins "max"=some (.builtin "max"):=by decide +kernel
theorem lE:bootBuiltins "min"=some (.builtin "min"):=by decide +kernel
theorem uZ:bootBuiltins "set"=some (.type "set"):=by decide +kernel
structure Bt (mg:Str->Option Value):Prop where
 len:mg "len"=none
 range:mg "range"=none
 list:mg "list"=none
 tuple:mg "tuple"=none
 bool:mg "bool"=none
 str:mg "str"=none
 int:mg "int"=none
 isinstance:mg "isinstance"=none
 all:mg "all"=none
 sorted:mg "sorted"=none
 max:mg "max"=none
 min:mg "min"=none
 set:mg "set"=none
 reversed:mg "reversed"=none
 sum:mg "sum"=none
 enumerate:mg "enumerate"=none
 zip:mg "zip"=none
 any:mg "any"=none
 abs:mg "abs"=none
def bG (P:Program) (w:World) (K:PySem.W.Frag) (mg:Str->Option Value) (base:Heap) (x:Str) (k:Nat) (ps:List Str) (sp:Sp):Prop :=
 ∃ f fd,FnOk P w K mg base CX0 k f fd ps sp/\mg x=some (.ref f)/\PySem.W.keepIn K (.ref f)=true/\Binds K fd ps []
section
variable {X:Cx} {x:Str} {j k:Nat} {ps:List Str} {sp:Sp} {t:TA} {e:Expr} {es:List Expr} {p pos:Pos}
theorem bM (F:bG X.prog X.w X.K X.mg X.base x j ps sp) (hr:Room k X.A) (hg:Gl X x) (ha:PA X (e :: es) t) (hj:j<=k:=by decide) (hdb:(x == ("__debug__":Str))=false:=by decide)
 (he:starEach (e :: es) X.env=(false,eval e X.env) :: starEach es X.env:=by rfl) (hpl:(backTo pos (starEach es X.env)).any (·.1)=false:=by rfl) :
 PE X (.Call (.Name x p) (e :: es) [] pos) (d4 sp [] E0 t):=by
 obtain⟨f,fd,G,hm,hk,hb⟩:=F;exact V1 (hdb:=hdb) (he:=he) (hpl:=hpl) G (hr.mono hj) hg hm hk hb .nil aAA ha
theorem oW:OpR X (compareOp .Eq) (rI0 fun i j=>.bl (decide (i=j))):=K7 fun i j _ _ _ _ _ q=>eq_int (by
 have e:(i == j)=decide (i=j):=by rw[Bool.eq_iff_iff];simp
 rw[e];exact q)
end
def aAm (t u:TS):TS:=fun D σ H=>∃ M:St->Hp->Prop,t { D with nx:=M } σ H/\∀ σ' H',M σ' H'->u D σ' H'
theorem sZ {X:Cx} {st:Stmt} {rest:List Stmt} {t u:TS} (h1:PS X st t) (h2:PSs X rest u):PSs X (st :: rest) (aAm t u):=by
 intro pins s σ H D I h;obtain⟨M,h,hM⟩:=h;refine wpAny_execs_cons (thn (h1 pins s σ H { D with nx:=M } I h) fun f s1 q=>?_);cases f with
 | next =>
  obtain⟨σ',H',I',q⟩:=q;exact h2 pins s1 σ' H' D I' (hM σ' H' q)
 | ret v=>exact q
 | brk=>exact q
 | cont=>exact q
def aAC (t:TE):TE:=fun σ H Q=>∃ R:VK,t σ H R/\∀ v H',R v H'->Q v H'
theorem o5 {X:Cx} {e:Expr} {t:TE} (h:PE X e t):PE X e (aAC t):=by
 intro pins s σ H Q I hw;obtain⟨R,hw,hR⟩:=hw;exact thn (h pins s σ H R I hw) fun u s1 ⟨v,H1,I1,r1,q1⟩=>⟨v,H1,I1,r1,hR v H1 q1⟩
theorem lF {c:Prop} [Decidable c] {A B:Prop} (h1:c->A) (h2:¬ c->B):if decide c=true then A else B:=by
 by_cases h:c
 ·rw[aBR h,if_pos rfl];exact h1 h
 ·rw[aBQ h,if_neg aBH];exact h2 h
theorem vA {c:Prop} [Decidable c] {A B:Prop} (hc:c) (h1:A):if decide c=true then A else B:=by
 rw[aBR hc,if_pos rfl];exact h1
theorem eF {c:Prop} [Decidable c] {A B:Prop} (hc:¬ c) (h1:B):if decide c=true then A else B:=by
 rw[aBQ hc,if_neg aBH];exact h1
section
variable {X:Cx} (K:PySem.W.Frag)
theorem jA (h:X.K=K):IxR X (j7 K):=h ▸ eE
theorem V7 (h:X.K=K):IxR X (j8 K):=h ▸ L8
theorem zI (h:X.K=K):IxR X (rIx K):=h ▸ n4
theorem kI (h:X.K=K):eS X (.builtin "len") (fun xs H Q=>∃ p ys,xs=[.ref p]/\(SqL K H p ys\/SqT K H p ys)/\Q (.int ys.length) H):=h ▸ bD
theorem gU {es:List Expr} {k:Nat} {t:TGs} {n:Nat} {pos:Pos} (h:X.K=K) (hc:X.calm=true) (hs:PGs X es t) (hn:(assignEach es X.env).length=n:=by rfl) (hst:(assignEach es X.env).findIdx? (·.1)=none:=by rfl):PG X (.Tuple es k pos) (i6 K n t):=h ▸ gD hc hs hn hst
end
end L2
namespace CW
def goM (c:Int):List Int->Nat->Int->List Int
 | [],h,n=>(List.range h).map (fun(k:Nat)=>n+(k:Int))
 | p :: r,h,n=>(List.range (min h (p - n).toNat)).map (fun(k:Nat)=>n+(k:Int)) ++
  (if ((h - min h (p - n).toNat:Nat):Int)<c then goM c r (h - min h (p - n).toNat+1) (p+1)else p :: goM c r (h - min h (p - n).toNat) (p+1))
def lG (row:List Int) (c:Int):List Int:=goM c row 0 0
theorem gE (k:Nat) (n:Int):(List.range (k+1)).map (fun(j:Nat)=>n+(j:Int))=n :: (List.range k).map (fun(j:Nat)=>(n+1)+(j:Int)):=by
 rw[List.range_succ_eq_map,aBU,aBZ]
 congr 1
 ·simp
 ·apply List.map_congr_left
  intro j _;simp only[Function.comp];omega
theorem tB {c:Int} {p:Int} {r:List Int} {h:Nat} {n:Int} (hh:h=0\/p<=n):goM c (p :: r) h n=if (h:Int)<c then goM c r (h+1) (p+1)else p :: goM c r h (p+1):=by
 have e:min h (p - n).toNat=0:=by omega
 simp only[goM,e,List.range_zero,List.map_nil,List.nil_append,Nat.sub_zero]
theorem V8 {c:Int} {p:Int} {r:List Int} {h:Nat} {n:Int} (hp:n<p):goM c (p :: r) (h+1) n=n :: goM c (p :: r) h (n+1):=by
 have e:min (h+1) (p - n).toNat=min h (p - (n+1)).toNat+1:=by omega
 have e2:h+1 - (min h (p - (n+1)).toNat+1)=h - min h (p - (n+1)).toNat:=by omega
 rw[goM,goM,e,e2,gE];simp
theorem tD (c:Int) (h:Nat) (n:Int):goM c [] (h+1) n=n :: goM c [] h (n+1):=by
 simp only[goM];exact gE h n
theorem oX {c:Int} {row:List Int} {n m:Int}:goM c row 0 n=goM c row 0 m:=by
 cases row with
 | nil=>rfl
 | cons p r=>rw[tB (.inl rfl),tB (.inl rfl)]
def V9 (r:List Int):Prop:=r.Pairwise (·<·)
def stp (c:Int) (l:Nat) (x:Bool):Nat×Bool :=
 if x then (if (l:Int)<c then (l+1,false)else (l,true))else (if 0<l then (l - 1,true)else (0,false))
def run (c:Int):Nat->List Bool->Nat×List Bool
 | l,[]=>(l,[])
 | l,x :: xs=>((run c (stp c l x).1 xs).1,(stp c l x).2 :: (run c (stp c l x).1 xs).2)
end CW
namespace CW
open PySem L2
theorem hW {ns:List Int} {i:Int} (h0:0<=i) (h1:i<ns.length):∃ n,n∈ns/\ns[i.toNat]?=some n/\atI (ns.map V.int) i=some (.int n):=by
 have hj:i.toNat<ns.length:=by omega
 refine⟨ns[i.toNat],List.getElem_mem hj,by simp[hj],?_⟩;have q:atI (ns.map V.int) ((i.toNat:Nat):Int)=some (.int ns[i.toNat]):=jU (by simp[hj]);rw[Int.toNat_of_nonneg h0]at q;exact q
theorem bC {n:Nat} (h:n<=10000):n<sizeLine:=Nat.lt_of_le_of_lt h (by decide)
def M7 (ns:List Int):Prop:=∀ n∈ns,0<=n/\n<9967
theorem C8 (ns:List Int) (lo hi:Option Int):∃ ms:List Int,oS (ns.map V.int) lo hi=ms.map V.int/\ms.length<=ns.length/\∀ n∈ms,n∈ns:=by
 refine⟨(ns.drop (HT.sIx ns.length 0 lo)).take (HT.sIx ns.length ns.length hi - HT.sIx ns.length 0 lo),?_,?_,?_⟩
 ·unfold oS;simp only[aAu,List.map_take,List.map_drop]
 ·simp only[aBK,List.length_drop];omega
 ·intro n hn;exact List.mem_of_mem_drop (List.mem_of_mem_take hn)
theorem o6 (ns:List Int) (k:Nat) (h:k<=ns.length):oS (ns.map V.int) none (some (k:Int))=(ns.take k).map V.int:=by
 unfold oS;rw[HT.sIx_none,HT.sIx_nat,aAu,List.drop_zero,Nat.sub_zero,Nat.min_eq_left h,List.map_take]
def sd1 (seed z:Int):Int:=(seed * 40014+z % 999983+29) % 2147483563
def sd2 (seed:Int) (ys:List Int):Int:=(seed * seed+52774 * seed+13 * ((List.map V.int ys).length:Int)+7) % 2147483629
def rs1 (z:Int):Int:=z - 10 ^ (18:Int).toNat
inductive jX (K:PySem.W.Frag) (vs:List V) (H:Hp) (Q:VK) (E_:XK):Prop
 | mk (a:Addr) (script:List Int) (m:Nat) (h0_:vs=[.ref a,.int m]) (h1_:SqL K H a (script.map V.int)) (h2_:script.length<=63) (h3_:m<=1000) (h4_:∀ (l:Addr) (ns:List Int) (H':Hp),ns.length=m->M7 ns->H l=none->Same H H'->H' l=some (.lst (ns.map V.int))->Q (.ref l) H'):jX K vs H Q E_
def Row (r:List Int):Prop:=r.Pairwise (·<·)
theorem Row.lt {r:List Int} (h:Row r) {i j:Nat} {x y:Int} (hij:i<j) (hx:r[i]?=some x) (hy:r[j]?=some y):x<y:=by
 obtain⟨h1,rfl⟩:=aB7.mp hx;obtain⟨h2,rfl⟩:=aB7.mp hy;exact List.pairwise_iff_getElem.mp h i j h1 h2 hij
def o7 (H:Hp) (Q:VK) (ns:List Int):Prop:=∀ (l:Addr) (H':Hp),H l=none->Same H H'->H' l=some (.lst (ns.map V.int))->Q (.ref l) H'
inductive oY (vs:List V) (H:Hp) (Q:VK) (E_:XK):Prop
 | mk (a:Addr) (row:List Int) (h0_:vs=[.ref a]) (h1_:H a=some (.lst (row.map V.int))) (h2_:Row row) (h3_:row.length<=60) (h4_:Q .non H):oY vs H Q E_
structure Cn (mg:Str->Option Value) (tC:Tok):Prop where
 MOST_STONES:mg "MOST_STONES"=some (.int 60 tC)
theorem vB {l:List Int} {i:Nat} {z:Int} (f:Int->Int) (h:l[i]?=some z):((l.take i).map f).map V.int++[V.int (f z)]=((l.take (i+1)).map f).map V.int:=by
 rw[aB0,h];simp
theorem int_at {l:List Int} {i:Nat} {x:V} (h:(l.map V.int)[i]?=some x):∃ z,x=.int z/\l[i]?=some z:=by
 rw[aBT]at h;cases e:l[i]? with
 | none=>rw[e]at h;cases h
 | some z=>rw[e]at h;exact⟨z,(Option.some.inj h).symm,rfl⟩
theorem vC {α:Type} (l:List α) (i:Nat) (h:i<=60) (f:α->Int):((((l.take i).map f).map V.int)).length<sizeLine:=by
 simp only[aAu,aBK];exact bC (by omega)
def o8 (H:Hp) (v:V) (p:Int×Int):Prop:=∃ t,v=.ref t/\H t=some (.tup [.int p.1,.int p.2])
abbrev Prs (H:Hp):List V->List (Int×Int)->Prop:=Paired (o8 H)
def TupS (H H':Hp):Prop:=∀ t xs,H t=some (.tup xs)->H' t=some (.tup xs)
theorem Prs.mono {H H':Hp} (h:TupS H H') {vs:List V} {ps:List (Int×Int)} (r:Prs H vs ps):Prs H' vs ps:=Paired.mapP r fun _ _ ⟨t,e,q⟩=>⟨t,e,h _ _ q⟩
theorem TupS.new {H:Hp} {a:Addr} {o:HO} (h:H a=none):TupS H (upd H a o):=fun t xs e=>by rw[aC (aN e h)];exact e
theorem TupS.lst {H:Hp} {a:Addr} {xs ys:List V} (h:H a=some (.lst xs)):TupS H (upd H a (.lst ys)):=fun t zs e=>by rw[aC (fH e h (by intro z;cases z))];exact e
theorem TupS.same {H H':Hp} (h:Same H H'):TupS H H':=fun t xs e=>h _ _ e
theorem TupS.trans {H H1 H2:Hp} (a:TupS H H1) (b:TupS H1 H2):TupS H H2:=fun t xs e=>b _ _ (a _ _ e)
def pD (p:Int×Int):PyData:=.tuple [.int p.1,.int p.2]
theorem Prs.dens {H:Hp}:∀ {vs:List V} {ps:List (Int×Int)},Prs H vs ps->Dens H vs (ps.map pD)
 | _,_,.nil=>.nil
 | _,_,.cons ⟨t,e,q⟩ r=>by subst e;exact .cons (.tup q (.cons (.int _) (.cons (.int _) .nil))) (Prs.dens r)
theorem Paired.append' {α β:Type} {F:α->β->Prop}:∀ {l₁ m₁:List α} {l₂ m₂:List β},Paired F l₁ l₂->Paired F m₁ m₂->Paired F (l₁++m₁) (l₂++m₂)
 | _,_,_,_,.nil,s=>s
 | _,_,_,_,.cons r t,s=>.cons r (Paired.append' t s)
def aAD (ps:List (Int×Int)) (x:Int):List (Int×Int) :=
 match ps.getLast? with
 | some p=>if p.2=x - 1 then ps.dropLast++[(p.1,x)]else ps++[(x,x)]
 | none=>[(x,x)]
def d5 (row:List Int):List (Int×Int):=row.foldl aAD []
def aAE (H:Hp) (Q:VK) (ps:List (Int×Int)):Prop:=∀ (l:Addr) (vs:List V) (H':Hp),H l=none->Same H H'->H' l=some (.lst vs)->Prs H' vs ps->Q (.ref l) H'
theorem W0 (vs:List V) (v:V):ixN (vs++[v]).length (-1)=some vs.length:=by
 unfold ixN;rw[if_neg (by decide),if_pos (by simp;omega)]
 congr 1
 simp;omega
theorem M8 {α:Type} (vs:List α) (v u:α):(vs++[v]).set vs.length u=vs++[u]:=by
 rw[List.set_append_right _ _ (Nat.le_refl _)];simp
theorem lH (ps:List (Int×Int)):PyData.canLayAll0 (ps.map pD)=true:=by
 induction ps with
 | nil=>rfl
 | cons p r ih=>simp[PyData.canLayAll0,pD,PyData.canLay0,ih]
theorem nD (ps:List (Int×Int)):PyData.depthAll (ps.map pD)<=1:=by
 induction ps with
 | nil=>simp[PyData.depthAll]
 | cons p r ih=>simp[PyData.depthAll,pD,PyData.depth];omega
theorem shaped_pairs (ps:List (Int×Int)):SeqAt.shaped (.list (ps.map pD))=true:=by
 have:=nD ps;simp[SeqAt.shaped,PyData.canLay0,lH,PyData.depth];omega
theorem M9 {r:List Int} {x:Int} (h:Row r) (hx:∀ y∈r,y<x):Row (r++[x]):=by
 unfold Row;rw[List.pairwise_append];exact⟨h,List.pairwise_singleton _ _,fun a ha b hb=>by rw[aB1.mp hb];exact hx a ha⟩
mutual
def sml:PyData->Bool
 | .list xs=>decide (xs.length<=5000) && oZ xs
 | .tuple xs=>decide (xs.length<=5000) && oZ xs
 | .dict _=>false
 | .none=>true
 | .bool _=>true
 | .int _=>true
 | .str _=>true
def oZ:List PyData->Bool
 | []=>true
 | x :: xs=>sml x && oZ xs
end
theorem zJ {ds:List PyData} {d:PyData} (h:d∈ds) (hc:oZ ds=true):sml d=true:=by
 induction ds with
 | nil=>cases h
 | cons x r ih =>
  simp only[oZ,Bool.and_eq_true]at hc;rcases aB8.mp h with rfl | h
  ·exact hc.1
  ·exact ih h hc.2
inductive mM (n:Nat) (vs:List V) (H:Hp) (Q:VK) (E_:XK):Prop
 | mk (x y:V) (d:PyData) (h0_:vs=[x,y]) (h1_:Den H x d) (h2_:Den H y d) (h3_:d.depth<=n) (h4_:SeqAt.shaped d=true) (h5_:sml d=true) (h6_:∀ H',Same H H'->Q (.bl true) H'):mM n vs H Q E_
theorem rR {ds:List PyData} {d:PyData} (h:d∈ds):d.depth<=PyData.depthAll ds:=by
 induction ds with
 | nil=>cases h
 | cons x r ih =>
  simp only[PyData.depthAll];rcases aB8.mp h with rfl | h
  ·omega
  ·have:=ih h;omega
theorem pA {ds:List PyData} {d:PyData} (h:d∈ds) (hc:PyData.canLayAll0 ds=true):d.canLay0=true:=by
 induction ds with
 | nil=>cases h
 | cons x r ih =>
  simp only[PyData.canLayAll0,Bool.and_eq_true]at hc;rcases aB8.mp h with rfl | h
  ·exact hc.1
  ·exact ih h hc.2
theorem eqv_self {d:PyData} (h:SeqAt.shaped d=true):PyData.eqv d d=true:=SeqAt.eqv_refl d (SeqAt.canLay_of_shaped h)
end CW
namespace CW
end CW
namespace CW
open PySem L2
theorem paired_get {α β:Type} {F:α->β->Prop}:∀ {l₁:List α} {l₂:List β} {i:Nat} {x:α},Paired F l₁ l₂->l₁[i]?=some x->∃ y,l₂[i]?=some y/\F x y
 | _,_,_,_,.nil,e=>by simp at e
 | _,_,0,_,.cons r _,e=>by simp at e;subst e;exact⟨_,rfl,r⟩
 | _,_,i+1,x,.cons _ t,e=>by
  obtain⟨y,h1,h2⟩:=paired_get (i:=i) (x:=x) t (by simpa using e);exact⟨y,by simpa using h1,h2⟩
end CW
namespace L2
open PySem PySem.Spec PyProof.Rows
abbrev two (b:Int) (t:Tok) (c:Nat):Obj:={ cls:=.type "list",dict:=none,data:=.seq #[.int b t,.int b t] c,slots:=#[] }
theorem vD:∀ {its:List Value} {ns:List Int} {i:Nat} {n:Int},IntsAre its ns->ns[i]?=some n->∃ t,its[i]?=some (.int n t)
 | _,_,_,_,.nil,e=>by simp at e
 | _,_,0,_,.cons n t _,e=>by simp at e;subst e;exact⟨t,rfl⟩
 | _,_,i+1,n,.cons _ _ r,e=>by
  obtain⟨t,h⟩:=vD (i:=i) (n:=n) r (by simpa using e);exact⟨t,by simpa using h⟩
section
variable {prog:Program} {w:World} {A:Around} {R:Result->Shared->Prop} {l it S:Addr} {its:List Value} {ns:List Int} {d:Value}
theorem W1 (hh:A.handled=none) (hI:IntsAre its ns) (hlt:l≠it) (hiS:it≠S) (hlS:l≠S) :
 ∀ (k i:Nat) (s:Shared) (b:Int) (t:Tok) (c:Nat),ns.length - i=k->i<=ns.length->s.heap.IsListIter it l i->s.heap.IsList l its.toArray->s.heap.get? S=some (two b t c) ->
  (∀ h' tk t',(∀ x o,x≠it->x≠S->s.heap.get? x=some o->h'.get? x=some o)->R (.ok (.ret (.int ((ns.drop i).foldl max b) t'))) { s with heap:=h',toks:=tk }) ->
  codeAny (model prog w) A (.builtin "max.loop" ⟨[.ref it,.none,.ref S],[(Str.ofString "default",d)]⟩) R s:=by
 have nm:(toString "max"++toString ".loop":String)="max.loop":=by decide
 intro k
 induction k with
 | zero =>
  intro i s b t c hk hi st hl hS hR;have e:i=ns.length:=by omega
  refine codeAny_builtin PySem.F.entry_max_loop (by
   rw[aBG PySem.F.plain_max_loop _];show wpAny _ A.in1 (seqItems? (Value.ref S) >>= _) _ _ s;refine aAs (wpAny_seqItems hS rfl ?_);show wpAny _ A.in1 (tryCatch (pyNext (Value.ref it)) _ >>= _) _ _ s;refine aAs (wpAny_tryCatch (wpAny_pyNext_list_end hh st hl (by have:=hI.length;simp;omega) fun h' eb=>?_));have hS':=eb S _ (Ne.symm hiS) hS;show wpAny _ A.in1 (updateSeq S (fun _=>#[]) >>= _) _ _ { s with heap:=h' };refine aAs (wpAny_updateSeq hS' rfl (aAs (wpAny_letGo (aAt ?_))));have q:=hR (h'.update S (Obj.mapSeq fun _=>#[])) s.toks t (fun x o h1 h2 e=>(aAz _ _ (Ne.symm h2)).trans (eb x o h1 e));rw[e,List.drop_length]at q;exact q)
 | succ k ih =>
  intro i s b t c hk hi st hl hS hR;have hi':i<ns.length:=by omega
  obtain⟨u,hu⟩:=vD (i:=i) (n:=ns[i]) hI (by simp[hi']);have hdr:ns.drop i=ns[i] :: ns.drop (i+1):=List.drop_eq_getElem_cons hi';refine codeAny_builtin PySem.F.entry_max_loop (by
   rw[aBG PySem.F.plain_max_loop _];show wpAny _ A.in1 (seqItems? (Value.ref S) >>= _) _ _ s;refine aAs (wpAny_seqItems hS rfl ?_);show wpAny _ A.in1 (tryCatch (pyNext (Value.ref it)) _ >>= _) _ _ s;refine aAs (wpAny_tryCatch (wpAny_pyNext_list_item st hl (x:=.int ns[i] u) (by simpa using hu) fun h' st' sb=>?_));have hS':=sb.extBut S _ (Ne.symm hiS) hS;have hl':=hl.extBut sb.extBut hlt;show wpAny _ A.in1 (tryCatch (holding [.int ns[i] u,.int ns[i] u] (richCompare .Gt (.int ns[i] u) (.int b t) >>= _)) _ >>= _) _ _ { s with heap:=h' };refine aAs (wpAny_tryCatch (wpAny_holding (aAs (gt_int (s:={ s with heap:=h' }) ?_))));refine aAs (wpAny_holding (wpAny_truthy_bool (aAs (wpAny_letGo (aAt ?_)))))
   by_cases hb:b<ns[i]
   ·have hd:decide (b<ns[i])=true:=aBR hb;simp only[hd,if_true];refine aAs (wpAny_updateSeq hS' rfl (aAs (wpAny_letGo ?_)));rw[nm];obtain⟨c',e1⟩:∃ c',(h'.update S (Obj.mapSeq fun _=>#[Value.int ns[i] u,Value.int ns[i] u])).get? S=some (two ns[i] u c'):=⟨_,aBN _ hS' rfl⟩;refine aAt ⟨plainId_quiet PySem.F.plain_max_loop _,ih (i+1) { s with heap:=h'.update S (Obj.mapSeq fun _=>#[Value.int ns[i] u,Value.int ns[i] u]) } ns[i] u _ (by omega) hi' (st'.at fun o e=>(aAz _ _ (Ne.symm hiS)).trans e) (hl'.at fun o e=>(aAz _ _ (Ne.symm hlS)).trans e) e1 fun h'' tk t' kp=>?_⟩;have q:=hR h'' tk t' (fun x o h1 h2 e=>kp x o h1 h2 ((aAz _ _ (Ne.symm h2)).trans (sb.extBut x o h1 e)));rw[hdr,aBW,show max b ns[i]=ns[i]by omega]at q;exact q
   ·have hd:decide (b<ns[i])=false:=aBQ hb;simp only[hd,Bool.false_eq_true,if_false];refine aAs (wpAny_letGo ?_);rw[nm];refine aAt ⟨plainId_quiet PySem.F.plain_max_loop _,ih (i+1) { s with heap:=h' } b t c (by omega) hi' st' hl' hS' fun h'' tk t' kp=>?_⟩;have q:=hR h'' tk t' (fun x o h1 h2 e=>kp x o h1 h2 (sb.extBut x o h1 e));rw[hdr,aBW,show max b ns[i]=b by omega]at q;exact q)
theorem N0 (hh:A.handled=none) (hI:IntsAre its ns) (hlt:l≠it) (hiS:it≠S) (hlS:l≠S) {s:Shared} {c:Nat} (st:s.heap.IsListIter it l 0) (hl:s.heap.IsList l its.toArray)
 (hS:s.heap.get? S=some { cls:=.type "list",dict:=none,data:=.seq #[] c,slots:=#[] }) (x0:V) (rx:RelV x0 d)
 (hR:∀ h' tk v u,(∀ x o,x≠it->x≠S->s.heap.get? x=some o->h'.get? x=some o)->RelV v u->(v=match ns with | []=>x0 | n :: r=>.int (r.foldl max n))->R (.ok (.ret u)) { s with heap:=h',toks:=tk }) :
 codeAny (model prog w) A (.builtin "max.loop" ⟨[.ref it,.none,.ref S],[(Str.ofString "default",d)]⟩) R s:=by
 have nm:(toString "max"++toString ".loop":String)="max.loop":=by decide
 cases hI with
 | nil =>
  refine codeAny_builtin PySem.F.entry_max_loop (by
   rw[aBG PySem.F.plain_max_loop _];show wpAny _ A.in1 (seqItems? (Value.ref S) >>= _) _ _ s;refine aAs (wpAny_seqItems hS rfl ?_);show wpAny _ A.in1 (tryCatch (pyNext (Value.ref it)) _ >>= _) _ _ s;refine aAs (wpAny_tryCatch (wpAny_pyNext_list_end hh st hl (by simp) fun h' eb=>?_));refine aAs (wpAny_rule (aAt ?_));exact hR h' s.toks x0 d (fun x o h1 _ e=>eb x o h1 e) rx rfl)
 | @cons n t its' ns' r =>
  refine codeAny_builtin PySem.F.entry_max_loop (by
   rw[aBG PySem.F.plain_max_loop _];show wpAny _ A.in1 (seqItems? (Value.ref S) >>= _) _ _ s;refine aAs (wpAny_seqItems hS rfl ?_);show wpAny _ A.in1 (tryCatch (pyNext (Value.ref it)) _ >>= _) _ _ s;refine aAs (wpAny_tryCatch (wpAny_pyNext_list_item st hl (x:=.int n t) (by simp) fun h' st' sb=>?_));have hS':=sb.extBut S _ (Ne.symm hiS) hS;have hl':=hl.extBut sb.extBut hlt;show wpAny _ A.in1 (updateSeq S (fun _=>#[Value.int n t,Value.int n t]) >>= _) _ _ { s with heap:=h' };refine aAs (wpAny_updateSeq hS' rfl ?_);rw[nm];obtain⟨c',e1⟩:∃ c',(h'.update S (Obj.mapSeq fun _=>#[Value.int n t,Value.int n t])).get? S=some (two n t c'):=⟨_,aBN _ hS' rfl⟩;refine aAt ⟨plainId_quiet PySem.F.plain_max_loop _,W1 hh (.cons n t r) hlt hiS hlS _ 1 { s with heap:=h'.update S (Obj.mapSeq fun _=>#[Value.int n t,Value.int n t]) } n t _ rfl (by simp) (st'.at fun o e=>(aAz _ _ (Ne.symm hiS)).trans e) (hl'.at fun o e=>(aAz _ _ (Ne.symm hlS)).trans e) e1 fun h'' tk t' kp=>?_⟩;exact hR h'' tk (.int (ns'.foldl max n)) _ (fun x o h1 h2 e=>kp x o h1 h2 ((aAz _ _ (Ne.symm h2)).trans (sb.extBut x o h1 e))) ⟨t',rfl⟩ rfl)
def mxD (ns:List Int) (x0:V):V:=match ns with | []=>x0 | n :: r=>.int (r.foldl max n)
theorem C9 (a d:Value):argsOk "max" ⟨[a],[(Str.ofString "default",d)]⟩:=by unfold argsOk;kernel_rfl
theorem D0 {E:Value->Shared->Prop} {s:Shared} {x0:V} {Q:Value->Shared->Prop} (hh:A.handled=none) (hI:IntsAre its ns) (hl:s.heap.IsList l its.toArray) (rx:RelV x0 d)
 (h:∀ h' tk u,(∀ x o,s.heap.get? x=some o->h'.get? x=some o)->RelV (mxD ns x0) u->Q u { s with heap:=h',toks:=tk }):wpAny (model prog w) A (call (.builtin "max") [.ref l] [(Str.ofString "default",d)]) Q E s:=by
 have nm:(toString "max"++toString ".loop":String)="max.loop":=by decide
 refine kmk_tree PySem.F.kind_max PySem.F.plain_max PySem.F.entry_max (C9 _ _) (by
  show wpAny _ A.in1 (Builtin.Builtins.bindParams "max" ["key","default"] 0 ⟨[],[(Str.ofString "default",d)]⟩ >>= _) _ _ s;refine aAs (wpAny_of_eq (show Builtin.Builtins.bindParams "max" ["key","default"] 0 ⟨[],[(Str.ofString "default",d)]⟩=pure [none,some d] from rfl) (aAs (aAt ?_)));refine aAs (wpAny_pyIter_list hl ?_);refine aAs (wpAny_newObj_type ?_);rw[nm];have hlt:l<s.heap.objs.size:=by obtain⟨_,e,_⟩:=hl;exact aBA e
  refine aAt ⟨plainId_quiet PySem.F.plain_max_loop _,N0 (l:=l) (it:=s.heap.objs.size) (its:=its) hh hI (aBS hlt) (by rw[Heap.size_push];exact aBS (Nat.lt_succ_self _)) (by rw[Heap.size_push];exact aBS (Nat.lt_succ_of_lt hlt)) ⟨_,aAv _ (aBB _ rfl),rfl,rfl⟩ ((hl.push _).push _) (aBB _ rfl) x0 rx fun h' tk v u kp rv ev=>?_⟩;subst ev;refine h h' tk u (fun x o e=>?_) rv;have hx:=aBA e;exact kp x o (aBS hx) (by rw[Heap.size_push];exact aBS (Nat.lt_succ_of_lt hx)) (aAv _ (aAv _ e)))
end
section
variable {X:Cx} {e f:Expr} {te tf:TE} {p pos kp:Pos}
def aAn (K:PySem.W.Frag) (te tf:TE):TE:=fun σ H Q=>te σ H fun x H1=>tf σ H1 fun y H2=>∃ a ns,x=.ref a/\SqL K H2 a (ns.map V.int)/\Q (mxD ns y) H2
theorem rS (hc:X.calm=true) (hg:Gl X "max") (hm:X.mg "max"=none) (he:PE X e te) (hf:PE X f tf)
 (hs:starEach [e] X.env=(false,eval e X.env) :: starEach [] X.env:=by rfl) (he1:backTo pos (starEach [e] X.env)=(false,eval e X.env) :: backTo pos (starEach [] X.env):=by rfl) (hp1:(backTo pos (starEach [e] X.env)).any (·.1)=false:=by rfl)
 (ha1:(backToKw pos (keywordEach [⟨some "default",f,kp⟩] X.env)).all (·.1.isSome)=true:=by rfl) (hk1:(backToKw pos (keywordEach [⟨some "default",f,kp⟩] X.env)).any (·.1.isNone)=false:=by rfl) (hks:(backToKw pos (keywordEach [⟨some "default",f,kp⟩] X.env)).filterMap (·.1)=([Str.ofString "default"]:List Str):=by rfl) :
 PE X (.Call (.Name "max" p) [e] [⟨some "default",f,kp⟩] pos) (aAn X.K te tf):=by
 intro pins s σ H Q I h;refine wpAny_Call_Name_kw (hU I hg hm oV ?_);refine callWith_kw ?_ he1 hp1 ha1 hk1;refine thn ((aA he aD hs) pos pins s σ H (fun vs H1=>match vs with | [x]=>tf σ H1 fun y H2=>∃ a ns,x=.ref a/\SqL X.K H2 a (ns.map V.int)/\Q (mxD ns y) H2 | _=>False) I h) fun us s1 ⟨vs,H1,I1,r1,q1⟩=>?_;obtain⟨x,rfl⟩:∃ x,vs=[x]:=by
  rcases vs with _ | ⟨x,_ | ⟨_,_⟩⟩
  ·exact q1.elim
  ·exact⟨x,rfl⟩
  ·exact q1.elim
 refine thn ((zF hf L4) pos pins s1 σ H1 (fun ks H2=>match ks with | [y]=>∃ a ns,x=.ref a/\SqL X.K H2 a (ns.map V.int)/\Q (mxD ns y) H2 | _=>False) I1 q1) fun ws s2 ⟨zs,H2,I2,r2,q2⟩=>?_;obtain⟨y,rfl⟩:∃ y,zs=[y]:=by
  rcases zs with _ | ⟨x,_ | ⟨_,_⟩⟩
  ·exact q2.elim
  ·exact⟨x,rfl⟩
  ·exact q2.elim
 obtain⟨a,ns,rfl,hq,q2⟩:=q2;obtain⟨u,rfl,ru⟩:=r1.one;obtain⟨v,rfl,rv⟩:=r2.one;cases ru;rw[hks];obtain⟨its,rl,pl,hz⟩:=I2.list hq;exact D0 (I.ok.hd hc) (xG rl) pl.isList rv fun h' tk u kp ru=>⟨_,H2,I2.kept kp,ru,q2⟩
end
section
variable {X:Cx}
end
end L2
namespace CW
open PySem L2
theorem D1 (ns:List Int):(ns.map V.int).all lA=true:=by
 rw[List.all_eq_true];intro x hx;obtain⟨z,_,rfl⟩:=aBa.mp hx;rfl
theorem N1 (z:Int) (ns:List Int):inV (.int z) (ns.map V.int)=decide (z∈ns):=by
 unfold inV
 induction ns with
 | nil=>rfl
 | cons n r ih =>
  rw[aBU,List.any_cons,ih];have e:eqV (.int n) (.int z)=decide (n=z):=by
   show (n == z)=_;rw[Bool.eq_iff_iff];simp
  rw[e,Bool.eq_iff_iff];simp only[Bool.or_eq_true,decide_eq_true_eq,aB8]
  constructor
  ·rintro (h | h)
   ·exact .inl h.symm
   ·exact .inr h
  ·rintro (h | h)
   ·exact .inl h.symm
   ·exact .inr h
end CW
namespace L2
open PySem PySem.Spec PyProof.Rows
theorem eG:bootBuiltins "sum"=some (.builtin "sum"):=by decide +kernel
theorem pB:bootBuiltins "enumerate"=some (.type "enumerate"):=by decide +kernel
theorem jB:∀ {ns:List Int} {us:List Value},Vals (ns.map V.int) us->IntsAre us ns
 | [],_,.nil=>.nil
 | _ :: _,_,.cons ⟨_,e⟩ t=>by subst e;exact .cons _ _ (jB t)
section
variable {X:Cx}
theorem eI (hc:X.calm=true):eS X (.builtin "sum") (fun xs H Q=>∃ (p:Addr) (ns:List Int),xs=[.ref p]/\H p=some (.lst (ns.map V.int))/\Q (.int ns.sum) H):=by
 intro pins s σ H xs us Q I r h;obtain⟨p,ns,rfl,hp,q⟩:=h;obtain⟨u,rfl,rx⟩:=iA r;cases rx;obtain⟨its,rv,pl,hz⟩:=I.list (SqL.of hp);have hl:=pl.isList;have hi:=jB rv;obtain⟨xs,hx⟩:=hi.allInts.items;have hl':s.heap.IsList p (intItems xs):=hx ▸ hl;refine sum_intListG (I.ok.hd hc) hl' fun h' tk t' hk=>?_;have e1:ns=xs.toList.map (·.1):=by
  rw[<- nums_intItems,<- hx];exact(show numsOf its.toArray.toList=ns from hi.numsOf).symm
 have e2:preSum (numAt xs) xs.size=ns.sum:=by
  rw[preSum_eq,List.take_of_length_le (by simp),e1]
 rw[e2];exact⟨.int _,H,I.kept hk,⟨_,rfl⟩,q⟩
theorem Inv.turnedF {h':Heap} {pins:List (Addr×Obj)} {σ:St} {H:Hp} {s:Shared} {t':Nat} {fp:List Addr} (I:Inv X pins σ H s) (k:∀ b o,b∉fp->s.heap.get? b=some o->h'.get? b=some o) (hf:∀ b∈fp,gR X pins H b):Inv X pins σ H { s with heap:=h',toks:=t' }:=by
 have nit:∀ b u,H b=some u->b∉fp:=fun b u e z=>by rw[(hf b z).1]at e;cases e
 refine I.step (g':=s.gens) (d':=s.drawn) (ch:=fp) (fun b hb=>?_) (fun b o _ _ hc e _=>k b o hc e) (fun b o _ _ hc e _=>⟨o.slots,k b o hc e⟩) (fun _ _ _ _ n=>n)
  (fun b o hc e=>⟨o,k b o hc e⟩) (fun _ _ e=>e) (fun _ _ _ e=>e) (fun b ps e=>⟨#[],by rw[e];simp⟩) (fun m hm=>?_) (fun b u e=>?_) I.bare
 ·obtain⟨_,h1,_,h3,h4,h5⟩:=hf b hb;exact⟨h3,h1,h4,h5⟩
 ·obtain⟨o,es,ep,ho,r⟩:=hm;exact⟨o,es,ep,k _ o (fun z=>(hf _ z).2.1 rfl) ho,r⟩
 ·refine(I.hok b u e).stay (fun c v hc q=>k c v ?_ q) (fun _ q=>q) fun _ _ q=>q;rcases hc with z | z
  ·rw[z];exact nit b u e
  ·exact nit c _ z
theorem Inv.turnLaid {h':Heap} {pins:List (Addr×Obj)} {σ:St} {H:Hp} {s:Shared} {t':Nat} {fp:List Addr} {a:Addr} {o:HO} (I:Inv X pins σ H s) (k:∀ b o,b∉fp->s.heap.get? b=some o->h'.get? b=some o) (hf:∀ b∈fp,gR X pins H b) (hp:s.heap.objs.size<=a) (new:ObjOk X.prog X.w (upd H a o) h' a o) :
 Inv X pins σ (upd H a o) { s with heap:=h',toks:=t' }:=by
 have hn:H a=none:=I.hok.fresh hp;have nit:∀ b u,H b=some u->b∉fp:=fun b u e z=>by rw[(hf b z).1]at e;cases e
 have ne:∀ b u,H b=some u->b≠a:=fun b u e=>aN e hn;refine I.step (g':=s.gens) (d':=s.drawn) (ch:=fp) (fun b hb=>?_) (fun b o _ _ hc e _=>k b o hc e) (fun b o _ _ hc e _=>⟨o.slots,k b o hc e⟩) (fun b ob _ e n=>?_)
  (fun b o hc e=>⟨o,k b o hc e⟩) (fun b _ e=>by rw[aC (ne b _ e)];exact e) (fun b _ _ e=>by rw[aC (ne b _ e)];exact e) (fun b ps e=>⟨#[],by rw[aC (ne b _ e),e];simp⟩) (fun m hm=>?_) (fun b u e=>?_) I.bare
 ·obtain⟨_,h1,_,h3,h4,h5⟩:=hf b hb;exact⟨h3,h1,h4,h5⟩
 ·have:b≠a:=aBS (aBL (aBA e) hp);rw[aC this];exact n
 ·obtain⟨o,es,ep,ho,r⟩:=hm;exact⟨o,es,ep,k _ o (fun z=>(hf _ z).2.1 rfl) ho,r⟩
 ·by_cases hb:b=a
  ·subst hb;rw[aB]at e;cases e;exact new
  ·rw[aC hb]at e;refine(I.hok b u e).stay (fun c v hc q=>k c v ?_ q) (fun c q=>by rw[aC (ne c _ q)];exact q) fun c _ q=>by rw[aC (ne c _ q)];exact q
   rcases hc with z | z
   ·rw[z];exact nit b u e
   ·exact nit c _ z
end
def Ite (K:PySem.W.Frag) (a:Addr):It :=
 ⟨fun i H=>∃ xs x,SqL K H a xs/\xs[i]?=some x,fun i H v H'=>∃ t x,v=.ref t/\H t=none/\(∀ xs,SqL K H a xs->xs[i]?=some x)/\H'=upd H t (.tup [.int i,x]),fun i H=>∃ xs,SqL K H a xs/\xs.length<=i⟩
theorem D2 {P:Program} {w:World} {K:PySem.W.Frag} {elts:List Expr} {x1} {pos:Pos} (a e it:Addr) (hne:e≠it):qS P w K (.Tuple elts x1 pos) (Ite K a) [e,it] e (fun i h=>(∃ old,IsEnum h e it (i:Nat) old)/\h.IsListIter it a i) where
 mem:=by simp
 obj:=fun i h st b hb=>by
  obtain⟨⟨old,he⟩,o,ho,c,d⟩:=st;rcases aB8.mp hb with z | z
  ·subst z;exact⟨_,he,fun v z=>by have z':Data.fields _=Data.cell v:=z;cases z'⟩
  ·have z:b=it:=by simpa using z
   subst z;exact⟨o,ho,fun v z=>by rw[d]at z;cases z⟩
 keep:=fun i h h' st k=>⟨let ⟨old,he⟩:=st.1;⟨old,k e (by simp) _ he⟩,st.2.at fun o e=>k it (by simp) o e⟩
 item:=by
  intro X hP hw hK hc i pins s σ H E I hf st hg;subst hP hw hK;obtain⟨xs,x,hq,hx⟩:=hg;obtain⟨its,rv,p,hz⟩:=I.list hq;obtain⟨u,hu,ru⟩:=rv.get hx;obtain⟨⟨old,he⟩,hit⟩:=st;have le:e<s.heap.objs.size:=aBA he;have li:it<s.heap.objs.size:=by obtain⟨_,z,_⟩:=hit;exact aBA z
  refine wpAny_pyNext_enum_item he hit p.isList (x:=u) (by simpa using hu) hne fun h' e1 e2 e3 e4 kp=>?_;refine⟨_,rfl,?_⟩;have hn:H s.heap.objs.size=none:=I.hok.fresh (Nat.le_refl _);have k1:∀ b o,b∉[e,it]->s.heap.get? b=some o->h'.get? b=some o:=fun b o hb q=>kp b o (fun z=>hb (by simp[z])) (fun z=>hb (by simp[z])) q;have tupOk:∀ h2:Heap,h2.get? s.heap.objs.size=some { cls:=.type "tuple",data:=.seq #[.int i s.toks,u] }->ObjOk X.prog X.w (upd H s.heap.objs.size (.tup [.int i,x])) h2 s.heap.objs.size (.tup [.int i,x]):=fun h2 q =>
   ⟨by show 2<=sizeLine;decide,[.int i s.toks,u],.cons ⟨_,rfl⟩ (.cons ru .nil),_,q,rfl,_,rfl⟩
  refine wpAny_letOwnedTupleGo_enum (i:=((i:Nat):Int)+1) e1 fun h2 f1 sb=>?_;have k2:∀ b o,b∉[e,it]->s.heap.get? b=some o->h2.get? b=some o:=fun b o hb q=>sb.extBut b o (fun z=>hb (by simp[z])) (k1 b o hb q);have n1:s.heap.objs.size≠e:=aBV le;refine⟨.ref s.heap.objs.size,_,I.turnLaid (t':=s.toks+1) (h':=h2) (o:=.tup [.int i,x]) k2 hf (Nat.le_refl _) (tupOk _ (sb.extBut _ _ n1 e3)),rfl,⟨_,x,rfl,hn,fun ys hy=>by rw[I.list_inj hy hq];exact hx,rfl⟩,⟨⟨u,?_⟩,?_⟩,fun b hb=>?_⟩
  ·have:(((i+1:Nat):Int))=(i:Int)+1:=by omega
   rw[this];exact f1
  ·exact e2.extBut sb.extBut (Ne.symm hne)
  ·have hb':b≠s.heap.objs.size:=by
    rcases aB8.mp hb with z | z
    ·subst z;exact aBS le
    ·have z:b=it:=by simpa using z
     subst z;exact aBS li
   rw[aC hb'];exact(hf b hb).1
 done:=by
  intro X hP hw hK hc i pins s σ H E I hf st hg;subst hP hw hK;obtain⟨xs,hq,hx⟩:=hg;obtain⟨its,rv,p,hz⟩:=I.list hq;have hl:=rv.length;obtain⟨⟨old,he⟩,hit⟩:=st;exact wpAny_pyNext_enum_end (I.ok.hd hc) he hit p.isList (by simp;omega) fun h' eb=>⟨rfl,I.turnedF (fp:=[e,it]) (t':=s.toks) (fun b o hb e=>eb b o (fun z=>hb (by simp[z])) e) hf⟩
 self:=fun _ _ _ _ _ st h=>let ⟨_,he⟩:=st.1;wpAny_pyIter_enum he h
def aAF (K:PySem.W.Frag) (ta:TA):TI:=fun σ H R=>ta σ H fun vs H1=>∃ a xs,vs=[.ref a]/\SqL K H1 a xs/\R (Ite K a) H1
theorem tE {X:Cx} {elts:List Expr} {x1} {tpos:Pos} {a:Expr} {ta:TA} {p pos:Pos} (hg:Gl X "enumerate") (hm:X.mg "enumerate"=none) (ha:PA X [a] ta) (hs:starEach [a] X.env=[(false,eval a X.env)]:=by rfl):PI X (.Tuple elts x1 tpos) (.Call (.Name "enumerate" p) [a] [] pos) (aAF X.K ta):=by
 intro pins s σ H R I h;refine Call_ (hU I hg hm pB (PyProof.Rows.callWith_type1 (thn (ha pos pins s σ H _ I h) fun us s1 ⟨vs,H1,I1,r1,q1⟩=>?_) hs rfl));obtain⟨a,xs,e,hq,q⟩:=q1;subst e;obtain⟨u,rfl,rx⟩:=iA r1;cases rx;obtain⟨its,rv,pl,hz⟩:=I1.list hq;refine call_enumerate_list pl.isList fun h' g1 g2 g3 kp=>?_;have I2:Inv X pins σ H1 { s1 with heap:=h' }:=I1.kept (t':=s1.toks) kp;refine wpAny_pyIter_enum g1 ?_;refine⟨s1.heap.objs.size+1,[s1.heap.objs.size+1,s1.heap.objs.size],_,_,H1,rfl,I2,D2 a _ _ (aBV (Nat.lt_succ_self _)),⟨⟨_,g1⟩,g2⟩,fun b hb=>?_,q⟩;have e:s1.heap.objs.size<=b:=by
  rcases aB8.mp hb with z | z
  ·rw[z];exact Nat.le_succ _
  ·have z:b=s1.heap.objs.size:=by simpa using z
   rw[z];exact Nat.le_refl _
 exact I1.fpOk e (I1.hok.fresh e)
theorem pC {K:PySem.W.Frag} {a:Addr} {xs:List V} {g:TG} {tb:TS} {D:qR} {σ:St} {H:Hp} (Pv:Nat->St->Hp->Prop) (h0:Pv 0 σ H) (hl:∀ i σ H,i<=xs.length->Pv i σ H->SqL K H a xs)
 (hs:∀ i x σ H t,xs[i]?=some x->Pv i σ H->H t=none->g (.ref t) σ (upd H t (.tup [.int i,x])) fun σ2 H2=>tb { D with nx:=Pv (i+1),ct:=Pv (i+1),bk:=D.nx } σ2 H2) (hd:∀ σ H,Pv xs.length σ H->D.nx σ H) :
 ∃ W:Nat->Nat->St->Hp->Prop,(∃ m,W 0 m σ H)/\∀ i m σ H,W i m σ H ->
  ((Ite K a).stop i H/\D.nx σ H)\/((Ite K a).go i H/\∃ N:St->Hp->Prop,(∀ σ' H',N σ' H'->∃ m',m'<m/\W (i+1) m' σ' H')/\∀ x H',(Ite K a).yld i H x H'->g x σ H' fun σ2 H2=>tb { D with nx:=N,ct:=N,bk:=D.nx } σ2 H2):=by
 refine⟨fun i m σ H=>m=xs.length - i/\i<=xs.length/\Pv i σ H,⟨xs.length,by simp,Nat.zero_le _,h0⟩,?_⟩;rintro i m σ H ⟨rfl,hi,p⟩;have q:=hl i σ H hi p
 by_cases hlt:i<xs.length
 ·refine .inr ⟨⟨xs,xs[i],q,by simp[hlt]⟩,Pv (i+1),fun σ' H' p'=>⟨xs.length - (i+1),by omega,rfl,hlt,p'⟩,fun x H' y=>?_⟩;obtain⟨t,x,rfl,hn,y,rfl⟩:=y;exact hs i x σ _ t (y xs q) p hn
 ·have e:i=xs.length:=by omega
  subst e;exact .inl ⟨⟨xs,q,Nat.le_refl _⟩,hd σ H p⟩
end L2
namespace CW
open PySem L2
def LP (H:Hp) (a:Addr) (ps:List (Int×Int)):Prop:=∃ us,H a=some (.lst us)/\Prs H us ps
theorem LP.mono {H H':Hp} (h:Same H H') {a:Addr} {ps:List (Int×Int)} (r:LP H a ps):LP H' a ps:=let ⟨us,e,p⟩:=r;⟨us,h _ _ e,p.mono (TupS.same h)⟩
theorem Prs.len {H:Hp} {us:List V} {ps:List (Int×Int)} (h:Prs H us ps):us.length=ps.length:=Paired.length h
def szs (ps:List (Int×Int)):List Int:=ps.map (·.1)
def W2 (j:Int) (p:Int×Int):Int:=if p.1<j then p.1 else j
def N2 (ps:List (Int×Int)) (j:Int):Int:=(ps.map (W2 j)).sum
structure Trn (ps:List (Int×Int)):Prop where
 pos:∀ p∈ps,1<=p.1
 few:(szs ps).sum<=60
theorem dA:∀ {ps:List (Int×Int)},(∀ p∈ps,1<=p.1)->(ps.length:Int)<=(szs ps).sum
 | [],_=>by simp[szs]
 | p :: r,h=>by
  have h1:=h p (aAw);have h2:=dA (ps:=r) fun q hq=>h q (aAx _ hq);simp only[szs,aBU,aBX,aBY]at h2 ⊢;omega
theorem Trn.len {ps:List (Int×Int)} (h:Trn ps):ps.length<=60:=by
 have h1:=dA h.pos;have:=h.few;omega
inductive oB (vs:List V) (H:Hp) (Q:VK) (E_:XK):Prop
 | mk (a:Addr) (ps:List (Int×Int)) (h0_:vs=[.ref a]) (h1_:LP H a ps) (h2_:Trn ps) (h3_:∀ H',Same H H'->Q .non H'):oB vs H Q E_
inductive lI (vs:List V) (H:Hp) (Q:VK) (E_:XK):Prop
 | mk (a:Addr) (ps:List (Int×Int)) (j:Int) (h0_:vs=[.ref a,.int j]) (h1_:LP H a ps) (h2_:ps.length<=200) (h3_:∀ H',Same H H'->Q (.int (N2 ps j)) H'):lI vs H Q E_
theorem cM {H:Hp} {us:List V} {ps:List (Int×Int)} (h:Prs H us ps) {i:Nat} {x:V} (e:us[i]?=some x):∃ p t,ps[i]?=some p/\x=.ref t/\H t=some (.tup [.int p.1,.int p.2]):=by
 obtain⟨p,hp,t,e1,e2⟩:=paired_get h e;exact⟨p,t,hp,e1,e2⟩
theorem kP {ps:List (Int×Int)} {i:Nat} {p:Int×Int} (f:Int×Int->Int) (h:ps[i]?=some p):((ps.take i).map f).map V.int++[V.int (f p)]=((ps.take (i+1)).map f).map V.int:=by
 rw[aB0,h];simp
end CW
namespace L2
open PySem PySem.Spec PyProof.Rows
section
variable {X:Cx} {tg:Expr}
end
open PySem.W
section
variable {O:KeyOrd} {key:Nat->O.α} {n:Nat} {cmp:Nat->Nat->(Bool->Shared->Prop)->Shared->Prop} {s:Shared}
def Ans (O:KeyOrd) (key:Nat->O.α) (n:Nat) (cmp:Nat->Nat->(Bool->Shared->Prop)->Shared->Prop) (s:Shared):Prop:=∀ i j C,i<n->j<n->C (O.blt (key i) (key j)) s->cmp i j C s
def KP (O:KeyOrd) (key:Nat->O.α) (p:Array Nat) (i:Nat):O.α:=key (p.getD i 0)
structure InR (n:Nat) (p:Array Nat):Prop where
 pos:0<n
 size:p.size=n
 mem:∀ x∈p,x<n
theorem InR.at {p:Array Nat} (h:InR n p) (i:Nat):p.getD i 0<n:=by
 unfold Array.getD;split
 ·exact h.mem _ (Array.getElem_mem _)
 ·exact h.pos
theorem InR.perm {p q:Array Nat} (h:InR n p) (e:q.Perm p):InR n q:=⟨h.pos,e.size_eq.trans h.size,fun x hx=>h.mem x (e.mem_iff.mp hx)⟩
theorem lJ {p q:Array Nat} {i j:Nat} (h:p[i]?=q[j]?):p.getD i 0=q.getD j 0:=by
 rw[Array.getD_eq_getD_getElem?,Array.getD_eq_getD_getElem?,h]
theorem xJ {p:Array Nat} {i j:Nat} (hj:j<=p.size) (k:Nat):KP O key (kas_rev p i j) k=if i<=k/\k<j then KP O key p (i+j - 1 - k)else KP O key p k:=by
 have e:=getElem?_mirror_all (i:=i) hj k;unfold KP kas_rev
 by_cases h:i<=k/\k<j
 ·rw[if_pos h]at e ⊢;exact congrArg key (lJ e)
 ·rw[if_neg h]at e ⊢;exact congrArg key (lJ e)
theorem o9 {p:Array Nat} {k d:Nat} (hk:k<p.size) (hd:d<=k) (x:Nat):KP O key (bubble p k d) x=if x=k - d then KP O key p k else if k - d<x/\x<=k then KP O key p (x - 1)else KP O key p x:=by
 have e:=getElem?_bubble hk d hd x;unfold KP
 by_cases h1:x=k - d
 ·rw[if_pos h1]at e ⊢;exact congrArg key (lJ e)
 ·rw[if_neg h1]at e ⊢
  by_cases h2:k - d<x/\x<=k
  ·rw[if_pos h2]at e ⊢;exact congrArg key (lJ e)
  ·rw[if_neg h2]at e ⊢;exact congrArg key (lJ e)
def Up (O:KeyOrd) (key:Nat->O.α) (p:Array Nat) (m:Nat):Prop:=∀ i j,i<=j->j<m->O.kle (KP O key p i) (KP O key p j)
def Dn (O:KeyOrd) (key:Nat->O.α) (p:Array Nat) (m:Nat):Prop:=∀ i j,i<=j->j<m->O.kle (KP O key p j) (KP O key p i)
theorem Up.more {p:Array Nat} {m:Nat} (h:Up O key p m) (hm:1<=m) (hl:O.kle (KP O key p (m - 1)) (KP O key p m)):Up O key p (m+1):=fun i j hij hj=>by
 by_cases q:j<m
 ·exact h i j hij q
 ·have:j=m:=by omega
  subst this
  by_cases r:i=j
  ·subst r;exact KeyOrd.kle_refl _
  ·exact KeyOrd.kle_trans (h i (j - 1) (by omega) (by omega)) hl
theorem Dn.more {p:Array Nat} {m:Nat} (h:Dn O key p m) (hm:1<=m) (hl:O.kle (KP O key p m) (KP O key p (m - 1))):Dn O key p (m+1):=fun i j hij hj=>by
 by_cases q:j<m
 ·exact h i j hij q
 ·have:j=m:=by omega
  subst this
  by_cases r:i=j
  ·subst r;exact KeyOrd.kle_refl _
  ·exact KeyOrd.kle_trans hl (h i (j - 1) (by omega) (by omega))
theorem xL (A:Ans O key n cmp s) {p:Array Nat} (hp:InR n p):∀ (f m:Nat) (Q:Nat->Shared->Prop),1<=m->Up O key p m ->
 (∀ m',m<=m'->m'<=m+f->Up O key p m'->(m'<m+f->O.klt (KP O key p m') (KP O key p (m' - 1)))->Q m' s)->(kas_asc p f m).kasWp cmp Q s
 | 0,m,Q,hm,hu,hQ=>hQ m (Nat.le_refl _) (Nat.le_refl _) hu fun z=>absurd z (Nat.lt_irrefl _)
 | f+1,m,Q,hm,hu,hQ=>by
  show cmp _ _ _ s;refine A _ _ _ (hp.at _) (hp.at _) ?_;cases hb:O.blt (key (p.getD m 0)) (key (p.getD (m - 1) 0))with
  | true =>
   show KasT.kasWp cmp (if true=true then _ else _) Q s;rw[if_pos rfl];exact hQ m (Nat.le_refl _) (Nat.le_add_right _ _) hu fun _=>hb
  | false =>
   show KasT.kasWp cmp (if false=true then _ else _) Q s;rw[if_neg aBH];exact xL A hp f (m+1) Q (by omega) (hu.more hm hb) fun m' h1 h2 h3 h4=>hQ m' (by omega) (by omega) h3 fun z=>h4 (by omega)
def N3 (O:KeyOrd) (key:Nat->O.α) (p:Array Nat) (m q:Nat):Prop:=∀ k,m - (q+1)<=k->k<m->KP O key p k=KP O key p (m - 1)
theorem pE {p:Array Nat} {i j:Nat} (hj:j<=p.size) (h:∀ k,i<=k->k<j->KP O key p k=KP O key p (j - 1)) (k:Nat):KP O key (kas_rev p i j) k=KP O key p k:=by
 rw[xJ hj]
 by_cases q:i<=k/\k<j
 ·rw[if_pos q,h _ (by omega) (by omega),h k q.1 q.2]
 ·rw[if_neg q]
theorem Dn.same {p q:Array Nat} {m:Nat} (h:Dn O key p m) (e:∀ k,KP O key q k=KP O key p k):Dn O key q m:=fun i j h1 h2=>by rw[e,e];exact h i j h1 h2
theorem fJ (p:Array Nat) (i j:Nat):(kas_rev p i j).Perm p:=mirror_perm _ _ _ _
theorem oC (A:Ans O key n cmp s):∀ (f:Nat) (p:Array Nat) (m q:Nat) (Q:Array Nat×Nat×Nat->Shared->Prop),InR n p->m+f<=n->1<=m->q+1<=m->Dn O key p m->N3 O key p m q ->
 (∀ p' m' q',p'.Perm p->m<=m'->m'<=n->q'+1<=m'->Dn O key p' m'->N3 O key p' m' q'->Q (p',m',q') s)->(kas_desc f p m q).kasWp cmp Q s
 | 0,p,m,q,Q,hp,hf,hm,hq,hd,he,hQ=>hQ p m q (Array.Perm.refl _) (Nat.le_refl _) (by omega) hq hd he
 | f+1,p,m,q,Q,hp,hf,hm,hq,hd,he,hQ=>by
  show cmp _ _ _ s;refine A _ _ _ (hp.at _) (hp.at _) ?_;have one:∀ p:Array Nat,N3 O key p (m+1) 0:=fun p k h1 h2=>by rw[show k=m+1 - 1 by omega]
  cases hb:O.blt (key (p.getD m 0)) (key (p.getD (m - 1) 0))with
  | true =>
   show KasT.kasWp cmp (if true=true then _ else _) Q s;rw[if_pos rfl];have hl:O.kle (KP O key p m) (KP O key p (m - 1)):=KeyOrd.kle_of_klt hb
   by_cases q0:q > 0
   ·rw[if_pos q0];have sm:=pE (O:=O) (key:=key) (p:=p) (i:=m - (q+1)) (j:=m) (by rw[hp.size];omega) he;refine oC A f _ (m+1) 0 Q (hp.perm (fJ ..)) (by omega) (by omega) (by omega) (Dn.same (hd.more hm hl) sm) (one _) fun p' m' q' e h1 h2 h3 h4 h5=>hQ p' m' q' (e.trans (fJ ..)) (by omega) h2 h3 h4 h5
   ·rw[if_neg q0];exact oC A f p (m+1) 0 Q hp (by omega) (by omega) (by omega) (hd.more hm hl) (one _) fun p' m' q' e h1 h2 h3 h4 h5=>hQ p' m' q' e (by omega) h2 h3 h4 h5
  | false =>
   show KasT.kasWp cmp (if false=true then _ else _) Q s;rw[if_neg aBH];show cmp _ _ _ s;refine A _ _ _ (hp.at _) (hp.at _) ?_;cases hc:O.blt (key (p.getD (m - 1) 0)) (key (p.getD m 0))with
   | true =>
    show KasT.kasWp cmp (if true=true then _ else _) Q s;rw[if_pos rfl];exact hQ p m q (Array.Perm.refl _) (Nat.le_refl _) (by omega) hq hd he
   | false =>
    show KasT.kasWp cmp (if false=true then _ else _) Q s;rw[if_neg aBH];have eq:KP O key p m=KP O key p (m - 1):=O.total _ _ hb hc;refine oC A f p (m+1) (q+1) Q hp (by omega) (by omega) (by omega) (hd.more hm hc) (fun k h1 h2=>?_) fun p' m' q' e h1 h2 h3 h4 h5=>hQ p' m' q' e (by omega) h2 h3 h4 h5;show KP O key p k=KP O key p m
    by_cases z:k=m
    ·rw[z]
    ·rw[eq];exact he k (by omega) (by omega)
theorem zK (A:Ans O key n cmp s) {p:Array Nat} {m:Nat} {Q:Nat×Array Nat->Shared->Prop} (hp:InR n p) (hm:1<=m) (hn:m<=n) (hd:Dn O key p m)
 (hQ:∀ m' p',p'.Perm p->1<=m'->m'<=n->Up O key p' m'->Q (m',p') s):(kas_tail3 m n p).kasWp cmp Q s:=by
 unfold kas_tail3;rw[KasT.kasWp_bind];have up:Up O key (kas_rev p 0 m) m:=fun i j h1 h2=>by
  rw[xJ (by rw[hp.size];exact hn),xJ (by rw[hp.size];exact hn),if_pos (by omega),if_pos (by omega)];exact hd _ _ (by omega) (by omega)
 exact xL A (hp.perm (fJ ..)) _ _ _ hm up fun m' h1 h2 h3 _=>hQ m' _ (fJ ..) (by omega) (by omega) h3
theorem zL (A:Ans O key n cmp s) {p:Array Nat} {m:Nat} {Q:Nat×Array Nat->Shared->Prop} (hp:InR n p) (hn:m+1<=n) (hd:Dn O key p (m+1))
 (hQ:∀ m' p',p'.Perm p->1<=m'->m'<=n->Up O key p' m'->Q (m',p') s):(kas_descPart m n p).kasWp cmp Q s:=by
 unfold kas_descPart;rw[KasT.kasWp_bind];refine oC A _ p (m+1) 0 _ hp (by omega) (by omega) (by omega) hd (fun k h1 h2=>by rw[show k=m+1 - 1 by omega]) fun p' m' q' e h1 h2 h3 h4 h5=>?_;show KasT.kasWp cmp (if q' > 0 then _ else _) Q s
 by_cases q0:q' > 0
 ·rw[if_pos q0];have hp':=hp.perm e;have sm:=pE (O:=O) (key:=key) (p:=p') (i:=m' - (q'+1)) (j:=m') (by rw[hp'.size];exact h2) h5;exact zK A (hp'.perm (fJ ..)) (show 1<=m' by omega) h2 (Dn.same h4 sm) fun m2 p2 e2 a b c=>hQ m2 p2 ((e2.trans (fJ ..)).trans e) a b c
 ·rw[if_neg q0];exact zK A (hp.perm e) (show 1<=m' by omega) h2 h4 fun m2 p2 e2 a b c=>hQ m2 p2 (e2.trans e) a b c
theorem N4 (A:Ans O key n cmp s) {p:Array Nat} {Q:Nat×Array Nat->Shared->Prop} (hp:InR n p)
 (hQ:∀ m' p',p'.Perm p->1<=m'->m'<=n->Up O key p' m'->Q (m',p') s):(kas_count n p).kasWp cmp Q s:=by
 have h1n:=hp.pos;unfold kas_count;rw[KasT.kasWp_bind];refine xL A hp _ 1 _ (Nat.le_refl _) (fun i j h1 h2=>by rw[show i=j by omega];exact KeyOrd.kle_refl _) fun m h1 h2 hu hl=>?_;show KasT.kasWp cmp (if (m == n)=true then _ else _) Q s
 by_cases e:m=n
 ·rw[if_pos (by simpa using e)];exact hQ m p (Array.Perm.refl _) h1 (by omega) hu
 ·rw[if_neg (by simpa using e)];have hl:=hl (by omega)
  by_cases g:m > 1
  ·rw[if_pos g];show cmp _ _ _ s;refine A _ _ _ (hp.at _) (hp.at _) ?_;cases hb:O.blt (key (p.getD 0 0)) (key (p.getD (m - 1) 0))with
   | true =>
    show KasT.kasWp cmp (if true=true then _ else _) Q s;rw[if_pos rfl];exact hQ m p (Array.Perm.refl _) h1 (by omega) hu
   | false =>
    show KasT.kasWp cmp (if false=true then _ else _) Q s;rw[if_neg aBH];have all:∀ k,0<=k->k<m->KP O key p k=KP O key p (m - 1):=fun k _ hk =>
     KeyOrd.kle_antisymm (hu k (m - 1) (by omega) (by omega)) (KeyOrd.kle_trans (show O.kle (KP O key p (m - 1)) (KP O key p 0) from hb) (hu 0 k (by omega) hk))
    have sm:=pE (O:=O) (key:=key) (p:=p) (i:=0) (j:=m) (by rw[hp.size];omega) all;refine zL A (hp.perm (fJ ..)) (by omega) (Dn.same (Dn.more (fun i j h1 h2=>?_) h1 (KeyOrd.kle_of_klt hl)) sm) fun m2 p2 e2 a b c=>hQ m2 p2 (e2.trans (fJ ..)) a b c;rw[all i (by omega) (by omega),all j (by omega) h2];exact KeyOrd.kle_refl _
  ·rw[if_neg g];refine zL A hp (by omega) (Dn.more (fun i j h1 h2=>?_) h1 (KeyOrd.kle_of_klt hl)) hQ;rw[show i=j by omega];exact KeyOrd.kle_refl _
theorem pF (A:Ans O key n cmp s) {p:Array Nat} (hp:InR n p) {k:Nat}:∀ (f l r:Nat) (Q:Nat->Shared->Prop),Up O key p k->l<=r->r<=k->r - l<=f->(∀ i,i<l->O.kle (KP O key p i) (KP O key p k))->(∀ i,r<=i->i<k->O.kle (KP O key p k) (KP O key p i)) ->
 (∀ l',l'<=k->(∀ i,i<l'->O.kle (KP O key p i) (KP O key p k))->(∀ i,l'<=i->i<k->O.kle (KP O key p k) (KP O key p i))->Q l' s)->(kas_place p k f l r).kasWp cmp Q s
 | 0,l,r,Q,hu,h1,h2,h3,h4,h5,hQ=>hQ l (by omega) h4 fun i a b=>h5 i (by omega) b
 | f+1,l,r,Q,hu,h1,h2,h3,h4,h5,hQ=>by
  unfold kas_place
  by_cases e:l≥r
  ·rw[if_pos e];exact hQ l (by omega) h4 fun i a b=>h5 i (by omega) b
  ·rw[if_neg e];show cmp _ _ _ s;refine A _ _ _ (hp.at _) (hp.at _) ?_;have m1:l<=(l+r) / 2:=by omega
   have m2:(l+r) / 2<r:=by omega
   cases hb:O.blt (key (p.getD k 0)) (key (p.getD ((l+r) / 2) 0))with
   | true =>
    show KasT.kasWp cmp (if true=true then _ else _) Q s;rw[if_pos rfl];refine pF A hp f l ((l+r) / 2) Q hu m1 (by omega) (by omega) h4 (fun i a b=>?_) hQ;exact KeyOrd.kle_trans (KeyOrd.kle_of_klt (show O.klt (KP O key p k) (KP O key p ((l+r) / 2)) from hb)) (hu _ i a b)
   | false =>
    show KasT.kasWp cmp (if false=true then _ else _) Q s;rw[if_neg aBH];refine pF A hp f ((l+r) / 2+1) r Q hu (by omega) h2 (by omega) (fun i a=>?_) h5 hQ;exact KeyOrd.kle_trans (hu i ((l+r) / 2) (by omega) (by omega)) (show O.kle (KP O key p ((l+r) / 2)) (KP O key p k) from hb)
theorem N5 (A:Ans O key n cmp s):∀ (f:Nat) (p:Array Nat) (k:Nat) (Q:Array Nat->Shared->Prop),InR n p->1<=k->k+f=n->Up O key p k->(∀ p',p'.Perm p->Up O key p' n->Q p' s)->(kas_bin f p k).kasWp cmp Q s
 | 0,p,k,Q,hp,hk,hf,hu,hQ=>hQ p (Array.Perm.refl _) (by rw[<- hf];exact hu)
 | f+1,p,k,Q,hp,hk,hf,hu,hQ=>by
  unfold kas_bin;rw[KasT.kasWp_bind];refine pF A hp k 0 k _ hu (Nat.zero_le _) (Nat.le_refl _) (by omega) (fun i a=>absurd a (Nat.not_lt_zero _)) (fun i a b=>by omega) fun l hl h1 h2=>?_;have bp:(bubble p k (k - l)).Perm p:=bubble_perm _ _ _;refine N5 A f _ (k+1) Q (hp.perm bp) (by omega) (by omega) (fun i j hij hj=>?_) fun p' e u=>hQ p' (e.trans bp) u;have kb:=fun x=>o9 (O:=O) (key:=key) (p:=p) (k:=k) (d:=k - l) (by rw[hp.size];omega) (by omega) x;rw[kb i,kb j,show k - (k - l)=l by omega]
  by_cases i1:i=l
  ·rw[if_pos i1]
   by_cases j1:j=l
   ·rw[if_pos j1];exact KeyOrd.kle_refl _
   ·rw[if_neg j1,if_pos (by omega)];exact h2 (j - 1) (by omega) (by omega)
  ·rw[if_neg i1]
   by_cases i2:l<i/\i<=k
   ·rw[if_pos i2,if_neg (show ¬ j=l by omega),if_pos (by omega)];exact hu (i - 1) (j - 1) (by omega) (by omega)
   ·rw[if_neg i2]
    by_cases j1:j=l
    ·rw[if_pos j1];exact h1 i (by omega)
    ·rw[if_neg j1]
     by_cases j2:l<j/\j<=k
     ·rw[if_pos j2];exact hu i (j - 1) (by omega) (by omega)
     ·rw[if_neg j2];exact hu i j hij (by omega)
theorem tF (A:Ans O key n cmp s) (hn:0<n) {Q:Array Nat->Shared->Prop} (hQ:∀ p,p.Perm (List.range n).toArray->Up O key p n->Q p s):(kas_sort n).kasWp cmp Q s:=by
 unfold kas_sort;rw[KasT.kasWp_bind];have hp:InR n (List.range n).toArray:=⟨hn,by simp,fun x hx=>by simpa using hx⟩;refine N4 A hp fun m p e h1 h2 hu=>?_;show KasT.kasWp cmp (if m<n then _ else _) Q s
 by_cases q:m<n
 ·rw[if_pos q];have em:max m 1=m:=by omega
  show KasT.kasWp cmp (kas_bin (n - max m 1) p (max m 1)) Q s;rw[em];exact N5 A _ p m Q (hp.perm e) h1 (by omega) hu fun p' e' u=>hQ p' (e'.trans e) u
 ·rw[if_neg q];have:m=n:=by omega
  subst this;exact hQ p e hu
end
end L2
namespace CW
open PySem L2
def rkP (p q:Int×Int):Prop:=p.2 - p.1<=q.2 - q.1/\p.2 - p.1+1<=q.1 - p.2 - 1
def Rnk (ps:List (Int×Int)):Prop:=∀ (j:Nat) (p q:Int×Int),ps[j]?=some p->ps[j+1]?=some q->rkP p q
theorem D3 (us:List V) (k:Nat):oS us (some (k:Int)) none=us.drop k:=by
 unfold oS;rw[HT.sIx_none,HT.sIx_nat]
 by_cases h:k<=us.length
 ·rw[Nat.min_eq_left h,List.take_of_length_le (by simp)]
 ·rw[Nat.min_eq_right (by omega),Nat.sub_self,List.take_zero,List.drop_eq_nil_of_le (by omega)]
theorem Rnk.nil:Rnk (d5 []):=fun j p q h=>by simp[d5]at h
theorem Rnk.snoc {ps:List (Int×Int)} {q:Int×Int} (h:Rnk ps) (hl:∀ p,ps.getLast?=some p->rkP p q):Rnk (ps++[q]):=by
 intro j a b ha hb;have hj:j+1<(ps++[q]).length:=(aB7.mp hb).1;simp only[aBD,List.length_singleton]at hj
 by_cases hlt:j+1<ps.length
 ·rw[List.getElem?_append_left (by omega)]at ha;rw[List.getElem?_append_left hlt]at hb;exact h j a b ha hb
 ·have e:j+1=ps.length:=by omega
  rw[List.getElem?_append_left (by omega)]at ha;rw[List.getElem?_append_right (by omega),e,Nat.sub_self]at hb;have eb:q=b:=by simpa using hb
  subst eb;refine hl a ?_;rw[List.getLast?_eq_getElem?,show ps.length - 1=j by omega];exact ha
def RowAt (H:Hp) (u:V):Prop:=∃ l row,u=.ref l/\H l=some (.lst (row.map V.int))/\Row row/\row.length<=60
def RowsOk (H:Hp) (lr:Addr) (us:List V):Prop:=H lr=some (.lst us)/\(∃ x r,us=.ref x :: r)/\∀ u∈us,RowAt H u
theorem W3 {row:List Int} {x:Addr} {r:List V}:HO.lst (row.map V.int)≠HO.lst (.ref x :: r):=by
 intro z;cases row with
 | nil=>cases z
 | cons a b=>cases z
theorem RowAt.set {H:Hp} {lr x:Addr} {r vs:List V} (h:H lr=some (.lst (.ref x :: r))) {u:V} (q:RowAt H u):RowAt (upd H lr (.lst vs)) u:=by
 obtain⟨l,row,e,q,z⟩:=q;exact⟨l,row,e,by rw[aC (fH q h W3)];exact q,z⟩
theorem RowsOk.snoc {H:Hp} {lr:Addr} {us:List V} {u:V} (h:RowsOk H lr us) (hu:RowAt H u):RowsOk (upd H lr (.lst (us++[u]))) lr (us++[u]):=by
 obtain⟨e,⟨x,r,rfl⟩,q⟩:=h;refine⟨aB,⟨x,r++[u],rfl⟩,fun v hv=>?_⟩;rcases aB9.mp hv with z | z
 ·exact(q v z).set e
 ·rw[aB1.mp z];exact hu.set e
def tG (row:List Int) (c:Int):Nat:=((lG row c).filter fun x=>decide (x∉row)).length
end CW
namespace L2
open PySem PySem.W PySem.Spec PyProof.Rows
def plt (a b:Int×Int):Bool:=decide (a.1<b.1) || (decide (a.1=b.1) && decide (a.2<b.2))
theorem dH {a b:Int×Int}:plt a b=true↔a.1<b.1\/(a.1=b.1/\a.2<b.2):=by simp[plt]
theorem eJ {a b:Int×Int}:plt a b=false↔¬ (a.1<b.1\/(a.1=b.1/\a.2<b.2)):=by rw[<- dH];simp
def jC:KeyOrd where
 α:=Int×Int
 blt:=plt
 irrefl a:=by rw[eJ];omega
 trans a b c h1 h2:=by rw[dH]at *;omega
 negTrans a b c h:=by rw[dH]at *;rw[dH];omega
 total a b h1 h2:=by
  rw[eJ]at h1 h2;exact Prod.ext (by omega) (by omega)
def PairV (h:Heap) (v:Value) (p:Int×Int):Prop:=∃ t o n k1 k2,v=.ref t/\h.get? t=some o/\o.cls=.type "tuple"/\o.data=.seq #[.int p.1 k1,.int p.2 k2] n
theorem aW {α β:Type} {F:α->β->Prop} {x:α} {y:β}:∀ {l:List α} {m:List β} {i:Nat},Paired F l m->i<l.length->F (l.getD i x) (m.getD i y)
 | _,_,0,.cons r _,_=>r
 | _,_,i+1,.cons _ t,h=>by
  simp only[List.getD_cons_succ];exact aW t (by simpa using h)
 | _,_,_,.nil,h=>absurd h (Nat.not_lt_zero _)
section
variable {prog:Program} {w:World} {A:Around} {E:Value->Shared->Prop} {s:Shared}
theorem N6 {x y:Value} {p q:Int×Int} {Q:Bool->Shared->Prop} (hx:PairV s.heap x p) (hy:PairV s.heap y q) (h:Q (plt p q) s):wpAny (model prog w) A (keyLt' (tuples' true) x y) Q E s:=by
 obtain⟨t,o,n,k1,k2,rfl,e1,c1,d1⟩:=hx;obtain⟨t',o',n',k1',k2',rfl,e2,c2,d2⟩:=hy;refine kat_lt e1 d1 e2 d2 ?_;refine kat_cons (wpAny_eqBool_int ?_)
 by_cases g1:p.1=q.1
 ·rw[show (p.1 == q.1)=true by simpa using g1];refine kat_yes (kat_cons (wpAny_eqBool_int ?_))
  by_cases g2:p.2=q.2
  ·rw[show (p.2 == q.2)=true by simpa using g2];refine kat_yes (kat_nil ?_);have e:plt p q=false:=by rw[eJ];omega
   rw[e]at h;exact h
  ·rw[show (p.2 == q.2)=false by simpa using g2];refine kat_no (kat_one _ _ (lt_int ?_));have e:plt p q=decide (p.2<q.2):=by
    rw[Bool.eq_iff_iff,dH];simp;omega
   rw[e]at h;exact h
 ·rw[show (p.1 == q.1)=false by simpa using g1];refine kat_no (oneLt_int ?_);have e:plt p q=decide (p.1<q.1):=by
   rw[Bool.eq_iff_iff,dH];simp;omega
  rw[e]at h;exact h
theorem rV {h:Heap}:∀ {vs:List Value} {ps:List (Int×Int)},Paired (PairV h) vs ps->∃ fs:List Value,KatTups h vs fs/\fs.length=vs.length/\∀ v∈fs,∃ i t,v=Value.int i t
 | _,_,.nil=>⟨[],.nil,rfl,fun v hv=>(by cases hv)⟩
 | _,_,.cons ⟨t,o,n,k1,k2,e,ho,hc,hd⟩ r=>by
  subst e;obtain⟨fs,a,b,c⟩:=rV r;refine⟨.int _ k1 :: fs,.cons ho hc hd rfl a,by simp[b],fun v hv=>?_⟩;rcases aB8.mp hv with z | z
  ·exact⟨_,_,z⟩
  ·exact c v z
abbrev fQ (vs:List Value) (p:Array Nat):List Value:=p.toList.map fun i=>vs.getD i Value.none
theorem mN {vs:List Value} (hl:vs.length<2):fQ vs (List.range vs.length).toArray=vs:=by
 cases vs with
 | nil=>rfl
 | cons v t =>
  cases t with
  | nil=>rfl
  | cons w r=>exact absurd hl (by show ¬ r.length+1+1<2;omega)
theorem xM {a:Addr} {vs:List Value} {ps:List (Int×Int)} {n:Nat} {P:Fin->Shared->Prop} (ho:s.heap.get? a=some (seqObj "list" vs.toArray n)) (hv:Paired (PairV s.heap) vs ps) (h64:vs.length<64)
 (h:∀ p:Array Nat,p.Perm (List.range vs.length).toArray->Up jC (fun i=>ps.getD i (0,0)) p vs.length->P (.done (.ret .none)) { s with heap:=sortedHeap s.heap a vs (fQ vs p).toArray }) :
 wpAny (model prog w) A (Builtin.«list.sort» ⟨[.ref a],[]⟩) P E s:=by
 have ha:a<s.heap.objs.size:=aBA ho;have hbig:vs.length<=sizeLine:=Nat.le_trans (Nat.le_of_lt h64) (by decide);rw[list_sort_plain];refine aAs (listItems_at ho rfl (aAs (listUpdate_at ho rfl ?_ (by rw[aBC];omega) (Nat.zero_le _))));obtain⟨e1,ho1⟩:∃ e1,(s.heap.update a (Obj.mapSeq fun _=>(#[]:Array Value))).get? a=some (seqObj "list" #[] e1):=⟨_,get?_update_seq ho _⟩;refine aAs (seqEpoch_at ho1 rfl (aAs (wpAny_newTuple (aAs (wpAny_newList (wpAny_holding ?_) (Nat.zero_le _))) (by show vs.length<=_;exact hbig))));have k6:∀ b o,b≠a->s.heap.get? b=some o->(((s.heap.update a (Obj.mapSeq fun _=>(#[]:Array Value))).push (seqObj "tuple" vs.toArray 0)).push (seqObj "list" #[] 0)).get? b=some o:=fun b o hb q =>
  aAv _ (aAv _ ((Heap.get?_update_ne _ _ _ _ hb).trans q))
 have ho6:(((s.heap.update a (Obj.mapSeq fun _=>(#[]:Array Value))).push (seqObj "tuple" vs.toArray 0)).push (seqObj "list" #[] 0)).get? a=some (seqObj "list" #[] e1):=aAv _ (aAv _ ho1);have hv6:Paired (PairV (((s.heap.update a (Obj.mapSeq fun _=>(#[]:Array Value))).push (seqObj "tuple" vs.toArray 0)).push (seqObj "list" #[] 0))) vs ps:=Paired.mapP hv fun v p ⟨t,o,n,k1,k2,e,q,c,d⟩ =>
  ⟨t,o,n,k1,k2,e,k6 t o (fun z=>by subst z;rw[ho]at q;cases q;exact absurd c (by simp[seqObj])) q,c,d⟩
 show wpAny (model prog w) A _ P E { s with heap:=((s.heap.update a (Obj.mapSeq fun _=>(#[]:Array Value))).push (seqObj "tuple" vs.toArray 0)).push (seqObj "list" #[] 0) };have fin:∀ p:Array Nat,p.Perm (List.range vs.length).toArray->Up jC (fun i=>ps.getD i (0,0)) p vs.length->P (.done (.ret .none)) { s with heap:=sortedHeap s.heap a vs (fQ vs p).toArray }:=h;clear h;unfold sortedHeap at fin;generalize ((s.heap.update a (Obj.mapSeq fun _=>(#[]:Array Value))).push (seqObj "tuple" vs.toArray 0)).push (seqObj "list" #[] 0)=h6 at ho6 hv6 fin;dsimp only
 by_cases h2:vs.toArray.size<2
 ·rw[if_pos h2,if_pos h2];refine aAs (aAt ?_);rw[StateT.run_pure];refine aAs (aAt ?_);dsimp only;have eo:fQ vs (List.range vs.length).toArray=vs:=mN (by simpa using h2);have ea:(arrOf (SortSt.mk' general' (vs.toArray.zip vs.toArray) #[] 7 none)).map (·.2)=vs.toArray:=by
   show (vs.toArray.zip vs.toArray).map (·.2)=vs.toArray;apply Array.toList_inj.mp
   simp;exact List.map_snd_zip (Nat.le_refl _)
  rw[ea];refine aAs (seqEpoch_at ho6 rfl (aAs (listUpdate_at ho6 rfl ?_ (Nat.zero_le _) (by rw[aBC];omega))));simp only[bne_self_eq_false,Bool.false_eq_true,if_false];have f:=fin (List.range vs.length).toArray (Array.Perm.refl _) fun i j hij hj=>by
   have:i=j:=by simp at h2;omega
   subst this;exact KeyOrd.kle_refl _
  rw[eo]at f;exact aAt f
 ·rw[if_neg h2,if_neg h2];have hl2:2<=vs.length:=by simp at h2;omega
  obtain⟨fs,t6,lf,hf⟩:=rV hv6;refine aAs (kat_kind (s:={ s with heap:=h6 }) (T:=.type "int") t6 (by omega) (fun v hv=>?_) rfl ?_)
  ·obtain⟨i,t,rfl⟩:=hf v hv;exact Looks.now
  have A2:Ans jC (fun i=>ps.getD i (0,0)) vs.length (kas_ask prog w A (tuples' true) vs) { s with heap:=h6 }:=fun i j C hi hj hC=>by
   unfold kas_ask;exact N6 (s:={ s with heap:=h6 }) (aW hv6 hi) (aW hv6 hj) hC
  refine aAs (wpAny_mono (kat_run (s:={ s with heap:=h6 }) (κ:=tuples' true) (ks:=vs) (vs:=vs) (Q:=fun st' s'=>s'={ s with heap:=h6 }/\failedOf st'=none/\∃ p:Array Nat,p.Perm (List.range vs.length).toArray/\Up jC (fun i=>ps.getD i (0,0)) p vs.length/\(arrOf st').map (·.2)=(fQ vs p).toArray)
   (G:=fun p s'=>s'={ s with heap:=h6 }/\p.Perm (List.range vs.length).toArray/\Up jC (fun i=>ps.getD i (0,0)) p vs.length) rfl hl2 h64 (fun p st' s' g1 g2 g3 ⟨g4,g5,g6⟩=>⟨g4,g3,p,g5,g6,kat_snds rfl g2⟩) (tF A2 (by omega) fun p e u=>⟨rfl,e,u⟩)) ?_ fun _ _ e=>e)
  rintro ⟨⟨⟩,st'⟩ s' ⟨rfl,hf',p,e,u,ea⟩;dsimp only;rw[ea,hf'];have hsz:(fQ vs p).toArray.size<=sizeLine:=by
   have:=e.size_eq;simp only[aBC,List.length_range]at this;rw[aBC,aAu,Array.length_toList,this];exact hbig
  refine aAs (seqEpoch_at ho6 rfl (aAs (listUpdate_at ho6 rfl ?_ (Nat.zero_le _) (by omega))));simp only[bne_self_eq_false,Bool.false_eq_true,if_false];exact aAt (fin p e u)
theorem W4 {l:Addr} {vs:List Value} {ps:List (Int×Int)} {Q:Value->Shared->Prop} (hl:s.heap.IsList l vs.toArray) (hv:Paired (PairV s.heap) vs ps) (h64:vs.length<64)
 (h:∀ p:Array Nat,p.Perm (List.range vs.length).toArray->Up jC (fun i=>ps.getD i (0,0)) p vs.length->Q (.ref (s.heap.objs.size+1)) { s with heap:=sortedAll s.heap vs (fQ vs p).toArray }) :
 wpAny (model prog w) A (call (.builtin "sorted") [.ref l]) Q E s:=by
 have hbig:vs.length<=sizeLine:=Nat.le_trans (Nat.le_of_lt h64) (by decide);refine Calls.call_function_entry kind_sorted plain_sorted entry_sorted (args_sorted1 _) ?_;unfold Builtin.«sorted»;refine aAs (m:=checkCount "sorted" 1 1 _) (aAt (aAs (collect_list hl (aAs (wpAny_newList ?_ hbig)) hbig)));unfold sortedAll at h;have z1:((s.heap.push (seqObj "list" #[] 0)).update s.heap.objs.size (Obj.mapSeq (·++vs.toArray))).objs.size=s.heap.objs.size+1:=by rw[Heap.size_update,size_push']
 have oL:(((s.heap.push (seqObj "list" #[] 0)).update s.heap.objs.size (Obj.mapSeq (·++vs.toArray))).push (seqObj "list" vs.toArray 0)).get? (s.heap.objs.size+1)=some (seqObj "list" vs.toArray 0):=z1 ▸ aBB _ rfl;have kp:∀ b o,s.heap.get? b=some o->(((s.heap.push (seqObj "list" #[] 0)).update s.heap.objs.size (Obj.mapSeq (·++vs.toArray))).push (seqObj "list" vs.toArray 0)).get? b=some o:=fun b o q =>
  aAv _ ((Heap.get?_update_ne _ _ _ _ (aBS (aBA q))).trans (aAv _ q))
 show wpAny _ _ _ _ _ { s with heap:=((s.heap.push (seqObj "list" #[] 0)).update s.heap.objs.size (Obj.mapSeq (·++vs.toArray))).push (seqObj "list" vs.toArray 0) };rw[z1];generalize ((s.heap.push (seqObj "list" #[] 0)).update s.heap.objs.size (Obj.mapSeq (·++vs.toArray))).push (seqObj "list" vs.toArray 0)=h2 at oL kp h;have hv2:Paired (PairV h2) vs ps:=Paired.mapP hv fun v p ⟨t,o,n,k1,k2,e,q,c,d⟩=>⟨t,o,n,k1,k2,e,kp t o q,c,d⟩;refine aAs (wpAny_holding (wpAny_call_entry slot_list_sort ⟨_,oL,rfl⟩ entry_list_sort (xM (s:={ s with heap:=h2 }) oL hv2 h64 fun p e u=>⟨_,rfl,?_⟩) (args_list_sort _)));exact aAt ⟨_,rfl,h p e u⟩
end
def ple (a b:Int×Int):Prop:=a.1<b.1\/(a.1=b.1/\a.2<=b.2)
theorem qV {α:Type} (d:α) (l:List α) {p:List Nat} (h:p.Perm (List.range l.length)):(p.map fun i=>l.getD i d).Perm l:=by
 have e:(List.range l.length).map (fun i=>l.getD i d)=l:=by
  apply List.ext_getElem
  ·simp
  ·intro i h1 h2;simp[h2]
 have:=h.map fun i=>l.getD i d
 rwa [e]at this
section
variable {X:Cx}
theorem lK:eS X (.builtin "sorted") (fun xs H Q=>∃ (a:Addr) (us:List V) (ps:List (Int×Int)),xs=[.ref a]/\H a=some (.lst us)/\CW.Prs H us ps/\ps.length<64 /\
 ∀ (l:Addr) (us':List V) (qs:List (Int×Int)),H l=none->CW.Prs H us' qs->qs.Perm ps->qs.Pairwise ple->Q (.ref l) (upd H l (.lst us'))):=by
 intro pins s σ H xs us Q I r h;obtain⟨a,us0,ps,rfl,ha,pr,h64,q⟩:=h;obtain⟨u,rfl,rx⟩:=iA r;cases rx;obtain⟨its,rv,pl,hz⟩:=I.list (SqL.of ha);have l1:us0.length=ps.length:=Paired.length pr;have l2:us0.length=its.length:=rv.length;have hv:Paired (PairV s.heap) its ps:=by
  have go:∀ (us0:List V) (its:List Value) (ps:List (Int×Int)),Vals us0 its->CW.Prs H us0 ps->Paired (PairV s.heap) its ps:=by
   intro us0
   induction us0 with
   | nil=>intro its ps r p;cases r;cases p;exact .nil
   | cons x xs ih =>
    intro its ps r p;cases r with
    | cons r1 r2 =>
     cases p with
     | cons p1 p2 =>
      refine .cons ?_ (ih _ _ r2 p2);obtain⟨t,e,et⟩:=p1;subst e;cases r1;obtain⟨_,its',rv',o,ho,hc,n,hd⟩:=(show ObjOk X.prog X.w H s.heap t (.tup [.int _,.int _]) from I.hok t _ et);obtain⟨u1,u2,rfl,⟨k1,rfl⟩,⟨k2,rfl⟩⟩:=rv'.two;exact⟨t,o,n,k1,k2,rfl,ho,hc,hd⟩
  exact go us0 its ps rv pr
 refine W4 pl.isList hv (by omega) fun p e u=>?_;have pl':p.toList.Perm (List.range its.length):=by
  have:=e.toList;simpa using this
 have pmem:∀ i∈p.toList,i<its.length:=fun i hi=>by
  have:=pl'.mem_iff.mp hi;simpa using this
 have psz:p.toList.length=its.length:=by rw[pl'.length_eq,List.length_range]
 have key:∀ (q:List Nat),(∀ i∈q,i<its.length)->Vals (q.map fun i=>us0.getD i V.non) (q.map fun i=>its.getD i Value.none)/\CW.Prs H (q.map fun i=>us0.getD i V.non) (q.map fun i=>ps.getD i (0,0)):=by
  intro q
  induction q with
  | nil=>intro _;exact⟨.nil,.nil⟩
  | cons i q ih =>
   intro hq;have hi:=hq i aAw;obtain⟨a1,a2⟩:=ih fun j hj=>hq j (aAx _ hj);exact⟨.cons (aW rv (by omega)) a1,.cons (aW pr (by omega)) a2⟩
 obtain⟨k1,k2⟩:=key p.toList pmem;obtain⟨e0,at0⟩:=sortedAll_at s.heap its (fQ its p).toArray;have hn:H (s.heap.objs.size+1)=none:=I.hok.fresh (Nat.le_succ _);refine⟨.ref (s.heap.objs.size+1),_,I.laid (t':=s.toks) (o:=.lst (p.toList.map fun i=>us0.getD i V.non)) (fun b o e=>sortedAll_old e) (Nat.le_succ _) ⟨?_,fQ its p,e0,k1,at0⟩,rfl,q _ _ (p.toList.map fun i=>ps.getD i (0,0)) hn k2 ?_ ?_⟩
 ·rw[aAu,psz];exact Nat.le_trans (show its.length<=64 by omega) (by decide)
 ·exact qV (0,0) ps (by rw[<- l1,l2];exact pl')
 ·rw[List.pairwise_iff_getElem];intro i j hi hj hij;simp only[aAu]at hi hj;have z:=u i j (Nat.le_of_lt hij) (by omega);have gd:∀ (k:Nat) (hk:k<p.toList.length),(p.toList.map fun i=>ps.getD i (0,0))[k]'(by simpa using hk)=KP jC (fun i=>ps.getD i (0,0)) p k:=fun k hk=>by
   unfold KP;rw[List.getElem_map]
   congr 1
   rw[Array.getElem_toList,Array.getD,dif_pos (by simpa using hk)];rfl
  rw[gd i hi,gd j hj];have z':plt (KP jC (fun i=>ps.getD i (0,0)) p j) (KP jC (fun i=>ps.getD i (0,0)) p i)=false:=z;generalize KP jC (fun i=>ps.getD i (0,0)) p j=x at z';generalize KP jC (fun i=>ps.getD i (0,0)) p i=y at z';have z2:=eJ.mp z';show (y:Int×Int).1<(x:Int×Int).1\/((y:Int×Int).1=(x:Int×Int).1/\(y:Int×Int).2<=(x:Int×Int).2);have z3:¬ ((x:Int×Int).1<(y:Int×Int).1\/((x:Int×Int).1=(y:Int×Int).1/\(x:Int×Int).2<(y:Int×Int).2)):=z2;omega
theorem tH:eS X (.builtin "sorted") (fun xs H Q=>∃ (a:Addr) (ns:List Int),xs=[.ref a]/\H a=some (.lst (ns.map V.int))/\ns.length<64 /\
 ∀ (l:Addr) (ms:List Int),H l=none->ms.Perm ns->ms.Pairwise (·<=·)->Q (.ref l) (upd H l (.lst (ms.map V.int)))):=by
 intro pins s σ H xs us Q I r h;obtain⟨a,ns,rfl,ha,h64,q⟩:=h;obtain⟨u,rfl,rx⟩:=iA r;cases rx;obtain⟨its,rv,pl,hz⟩:=I.list (SqL.of ha);have hl:=rv.length;rw[aAu]at hl;refine sorted_ints pl.isList (jB rv) (by omega) fun out ns' hI hp hs=>?_;obtain⟨e0,at0⟩:=sortedAll_at s.heap its out;have hn:H (s.heap.objs.size+1)=none:=I.hok.fresh (Nat.le_succ _);refine⟨.ref (s.heap.objs.size+1),_,I.laid (t':=s.toks) (o:=.lst (ns'.map V.int)) (fun b o e=>sortedAll_old e) (Nat.le_succ _) ⟨?_,out.toList,e0,iB hI,at0⟩,rfl,q _ ns' hn hp hs⟩;rw[aAu,hp.length_eq];exact Nat.le_trans (show ns.length<=64 by omega) (by decide)
end
end L2
namespace L2
open PySem PySem.Spec PyProof.Rows
section
variable {κ:Type} [DecidableEq κ]
def dI (kvs:List (κ×V)) (k:κ):Option V:=(kvs.find? fun kv=>decide (kv.1=k)).map (·.2)
def iV (kvs:List (κ×V)) (k:κ) (v:V):List (κ×V) :=
 if (kvs.any fun kv=>decide (kv.1=k))=true then kvs.map (fun kv=>if kv.1=k then (kv.1,v)else kv)else kvs++[(k,v)]
def nE (kvs:List (κ×V)) (k:κ):List (κ×V):=kvs.filter fun kv=>decide (kv.1≠k)
theorem cR {p:κ×V} {r:List (κ×V)} {k:κ} (e:p.1=k):dI (p :: r) k=some p.2:=by simp[dI,List.find?_cons,e]
theorem cT {p:κ×V} {r:List (κ×V)} {k:κ} (e:¬ p.1=k):dI (p :: r) k=dI r k:=by simp[dI,List.find?_cons,e]
theorem jD (k:κ):∀ kvs:List (κ×V),(kvs.any fun kv=>decide (kv.1=k))=(dI kvs k).isSome
 | []=>rfl
 | p :: r=>by
  rw[List.any_cons]
  by_cases e:p.1=k
  ·simp only[cR e,aBR e,Bool.true_or,Option.isSome_some]
  ·rw[cT e,aBQ e,Bool.false_or];exact jD k r
theorem vE (k j:κ) (y:V):∀ kvs:List (κ×V),dI (kvs.map fun kv=>if kv.1=k then (kv.1,y)else kv) j=(dI kvs j).map fun x=>if j=k then y else x
 | []=>rfl
 | p :: r=>by
  have ih:=vE k j y r;rw[aBU]
  by_cases h:p.1=k
  ·rw[if_pos h]
   by_cases e:p.1=j
   ·rw[cR (p:=(p.1,y)) e,cR e,Option.map_some,if_pos (e.symm.trans h)]
   ·rw[cT (p:=(p.1,y)) e,cT e,ih]
  ·rw[if_neg h]
   by_cases e:p.1=j
   ·rw[cR (p:=p) e,cR e,Option.map_some,if_neg (fun z=>h (e.trans z))]
   ·rw[cT (p:=p) e,cT e,ih]
theorem rX (k j:κ) (y:V):∀ kvs:List (κ×V),dI kvs k=none->dI (kvs++[(k,y)]) j=if j=k then some y else dI kvs j
 | [],_=>by
  by_cases e:k=j
  ·rw[if_pos e.symm];exact cR (p:=(k,y)) e
  ·rw[if_neg (fun z=>e z.symm)];exact cT (p:=(k,y)) e
 | p :: r,hn=>by
  rw[List.cons_append];have hk:¬ p.1=k:=fun z=>by rw[cR z]at hn;cases hn
  rw[cT hk]at hn;have ih:=rX k j y r hn
  by_cases e:p.1=j
  ·rw[cR e,cR e,if_neg (fun z=>hk (e.trans z))]
  ·rw[cT e,cT e,ih]
theorem N7 (kvs:List (κ×V)) (k j:κ) (y:V):dI (iV kvs k y) j=if j=k then some y else dI kvs j:=by
 unfold iV
 by_cases a:(kvs.any fun kv=>decide (kv.1=k))=true
 ·rw[if_pos a,vE];rw[jD]at a
  by_cases e:j=k
  ·obtain⟨x,hx⟩:=Option.isSome_iff_exists.mp a;rw[if_pos e,e,hx,Option.map_some,if_pos rfl]
  ·rw[if_neg e];cases dI kvs j with
   | none=>rfl
   | some x=>rw[Option.map_some,if_neg e]
 ·rw[if_neg a];refine rX k j y kvs ?_;rw[jD]at a;cases q:dI kvs k with
  | none=>rfl
  | some x=>rw[q]at a;exact(a rfl).elim
theorem gW (kvs:List (κ×V)) (k:κ) (v:V):(iV kvs k v).length<=kvs.length+1:=by
 unfold iV;split
 ·rw[aAu];omega
 ·rw[aBD,aBY,List.length_nil];omega
theorem vF {kvs:List (κ×V)} {k:κ} (v:V) (h:dI kvs k=none):iV kvs k v=kvs++[(k,v)]:=by
 unfold iV;rw[jD,h];exact if_neg (by decide)
theorem RelO.isSome_eq {o:Option V} {u:Option Value} (r:RelO o u):o.isSome=u.isSome:=by
 cases o with
 | none=>cases u with
  | none=>rfl
  | some _=>exact(show False from r).elim
 | some _=>cases u with
  | none=>exact(show False from r).elim
  | some _=>rfl
theorem RelO.getD {o:Option V} {u:Option Value} {d:V} {d':Value} (r:RelO o u) (rd:RelV d d'):RelV (o.getD d) (u.getD d'):=by
 cases o with
 | none=>cases u with
  | none=>exact rd
  | some _=>exact(show False from r).elim
 | some _=>cases u with
  | none=>exact(show False from r).elim
  | some _=>exact r
theorem KV.val {kvs:List (κ×V)} {vs:List (κ×Value)} (r:KV kvs vs) (k:κ):RelO (dI kvs k) (valueAt vs k):=by
 unfold KV at r
 induction r with
 | nil=>exact True.intro
 | @cons p q ps qs h t ih =>
  obtain⟨h1,h2⟩:=h
  by_cases e:p.1=k
  ·have e':q.1=k:=h1.symm.trans e;have b:valueAt (q :: qs) k=some q.2:=by simp[valueAt,List.find?_cons,e']
   rw[cR e,b];exact h2
  ·have e':¬ q.1=k:=fun z=>e (h1.trans z);have b:valueAt (q :: qs) k=valueAt qs k:=by simp[valueAt,List.find?_cons,e']
   rw[cT e,b];exact ih
theorem KV.any {kvs:List (κ×V)} {vs:List (κ×Value)} (r:KV kvs vs) (k:κ):(kvs.any fun kv=>decide (kv.1=k))=vs.any fun kv=>decide (kv.1=k):=by
 unfold KV at r
 induction r with
 | nil=>rfl
 | cons h t ih=>rw[List.any_cons,List.any_cons,ih,h.1]
theorem KV.repl {kvs:List (κ×V)} {vs:List (κ×Value)} (r:KV kvs vs) (k:κ) {y:V} {u:Value} (ry:RelV y u) :
 KV (kvs.map fun kv=>if kv.1=k then (kv.1,y)else kv) (vs.map fun kv=>if kv.1=k then (kv.1,u)else kv):=by
 unfold KV at r ⊢
 induction r with
 | nil=>exact .nil
 | @cons p q ps qs h t ih =>
  rw[aBU,aBU];refine .cons ?_ ih;obtain⟨h1,h2⟩:=h
  by_cases e:p.1=k
  ·rw[if_pos e,if_pos (h1.symm.trans e)];exact⟨h1,ry⟩
  ·rw[if_neg e,if_neg (fun z=>e (h1.trans z))];exact⟨h1,h2⟩
theorem KV.put {kvs:List (κ×V)} {vs:List (κ×Value)} (r:KV kvs vs) (k:κ) {y:V} {u:Value} (ry:RelV y u):KV (iV kvs k y) (stored vs k u):=by
 unfold iV stored;rw[r.any k]
 by_cases e:(vs.any fun kv=>decide (kv.1=k))=true
 ·rw[if_pos e,if_pos e];exact r.repl k ry
 ·rw[if_neg e,if_neg e];exact Paired.snoc r ⟨rfl,ry⟩
theorem KV.drop {kvs:List (κ×V)} {vs:List (κ×Value)} (r:KV kvs vs) (k:κ):KV (nE kvs k) (without vs k):=by
 unfold KV at r ⊢;unfold nE without
 induction r with
 | nil=>exact .nil
 | @cons p q ps qs h t ih =>
  obtain⟨h1,h2⟩:=h;rw[List.filter_cons,List.filter_cons]
  by_cases e:p.1=k
  ·have a:¬ decide (p.1≠k)=true:=by simp[e]
   have b:¬ decide (q.1≠k)=true:=by simp[h1.symm.trans e]
   rw[if_neg a,if_neg b];exact ih
  ·have e':¬ q.1=k:=fun z=>e (h1.trans z);have a:decide (p.1≠k)=true:=by simp[e]
   have b:decide (q.1≠k)=true:=by simp[e']
   rw[if_pos a,if_pos b];exact .cons ⟨h1,h2⟩ ih
theorem KV.length {kvs:List (κ×V)} {vs:List (κ×Value)} (r:KV kvs vs):kvs.length=vs.length:=Paired.length r
theorem N8 (kvs:List (κ×V)) (k:κ):(nE kvs k).length<=kvs.length:=List.length_filter_le _ _
end
theorem vG {P:Program} {w:World} {k:Key} {u:Value} (r:RelV (kV k) u):(bJ P w).is k u=true:=by
 cases k with
 | inl i=>obtain⟨t,e⟩:=(show ∃ t,u=Value.int i t from r);subst e;exact uO P w i t
 | inr x=>obtain⟨t,e⟩:=(show ∃ t,u=Value.str x t from r);subst e;exact uP P w x t
theorem rY {P:Program} {w:World}:∀ {ks:List Key} {us:List Value},Vals (ks.map kV) us->ItemsAre (bJ P w) ks us
 | [],_,r=>by rw[List.map_nil]at r;cases r;exact .nil
 | k :: ks,_,r=>by
  rw[aBU]at r;cases r with
  | cons h t=>exact .cons (vG h) (rY t)
abbrev KT (H:Hp):List (List Key×V)->List (List Key×Addr×Value)->Prop:=Paired fun p q=>p.1=q.1/\H q.2.1=some (.tup (p.1.map kV))/\RelV p.2 q.2.2
theorem KT.val {H:Hp} {kvs:List (List Key×V)} {xs:List (List Key×Addr×Value)} (r:KT H kvs xs) (k:List Key):RelO (dI kvs k) ((atKey xs k).map (·.2)):=by
 induction r with
 | nil=>exact True.intro
 | @cons p q ps qs h t ih =>
  obtain⟨h1,_,h2⟩:=h
  by_cases e:p.1=k
  ·have e':q.1=k:=h1.symm.trans e;have b:atKey (q :: qs) k=some q.2:=by simp[atKey,List.find?_cons,e']
   rw[cR e,b];exact h2
  ·have e':¬ q.1=k:=fun z=>e (h1.trans z);have b:atKey (q :: qs) k=atKey qs k:=by simp[atKey,List.find?_cons,e']
   rw[cT e,b];exact ih
theorem KT.repl {H:Hp} {kvs:List (List Key×V)} {xs:List (List Key×Addr×Value)} (r:KT H kvs xs) (k:List Key) {y:V} {u:Value} (ry:RelV y u) :
 KT H (kvs.map fun kv=>if kv.1=k then (kv.1,y)else kv) (xs.map (putAt k u)):=by
 induction r with
 | nil=>exact .nil
 | @cons p q ps qs h t ih =>
  rw[aBU,aBU];refine .cons ?_ ih;obtain⟨h1,h2,h3⟩:=h;unfold putAt
  by_cases e:p.1=k
  ·rw[if_pos e,if_pos (h1.symm.trans e)];exact⟨h1,h2,ry⟩
  ·rw[if_neg e,if_neg (fun z=>e (h1.trans z))];exact⟨h1,h2,h3⟩
theorem KT.put {H:Hp} {kvs:List (List Key×V)} {xs:List (List Key×Addr×Value)} (r:KT H kvs xs) (k:List Key) {b:Addr} {y:V} {u:Value} (hb:H b=some (.tup (k.map kV))) (ry:RelV y u) :
 KT H (iV kvs k y) (storedH xs k b u):=by
 have e:(kvs.any fun kv=>decide (kv.1=k))=(atKey xs k).isSome:=by
  rw[jD,(r.val k).isSome_eq,Option.isSome_map]
 unfold iV storedH;rw[e]
 by_cases q:(atKey xs k).isSome=true
 ·rw[if_pos q,if_pos q];exact r.repl k ry
 ·rw[if_neg q,if_neg q];exact Paired.snoc r ⟨rfl,hb,ry⟩
theorem KT.keeps {H H':Hp} {kvs:List (List Key×V)} {xs:List (List Key×Addr×Value)} (r:KT H kvs xs) (ht:∀ b ys,H b=some (.tup ys)->H' b=some (.tup ys)):KT H' kvs xs :=
 Paired.mapP r fun _ _ z=>⟨z.1,ht _ _ z.2.1,z.2.2⟩
section
variable {P:Program} {w:World} {H:Hp} {h:Heap} {a:Addr}
theorem d6 {u:HO} (ok:HOk P w H h) (e:Rd H a u):ObjOk P w H h a u:=e.ok ok
theorem vH {kvs:List (Key×V)} (ok:HOk P w H h) (e:Rd H a (.dK kvs)):kvs.length<=sizeLine/\(a == sysModules)=false/\∃ vs,KV kvs vs/\h.DictOf (bJ P w) a vs :=
 show ObjOk P w H h a (.dK kvs) from d6 ok e
theorem pG {kvs:List (Key×V)} (ok:HOk P w H h) (e:H a=some (.dK kvs)):kvs.length<=sizeLine/\(a == sysModules)=false/\∃ vs,KV kvs vs/\h.DictOf (bJ P w) a vs:=vH ok (.inl e)
theorem xN {ks:List Key} (ok:HOk P w H h) (e:H a=some (.tup (ks.map kV))):(tupleKind (bJ P w)).is h ks a:=by
 obtain⟨_,its,r,o,h1,h2,n,h3⟩:=(show ObjOk P w H h a (.tup (ks.map kV)) from ok a _ e);exact⟨o,its.toArray,n,h1,h2,h3,by simpa using rY r⟩
theorem zM {kvs:List (List Key×V)} (ok:HOk P w H h) (e:Rd H a (.dT kvs)):kvs.length<=sizeLine/\(a == sysModules)=false /\
 ∃ xs,KT H kvs xs/\h.DictOfH (tupleKind (bJ P w)) a xs:=by
 obtain⟨z,y,xs,r,o,es,ep,h1,h2,h3,h4,h5⟩:=(show ObjOk P w H h a (.dT kvs) from d6 ok e);refine⟨z,y,xs,r,o,es,ep,h1,h2,h3,h4,fun x hx=>?_,h5⟩;have all:∀ {l:List (List Key×V)} {m:List (List Key×Addr×Value)},KT H l m->∀ x∈m,(tupleKind (bJ P w)).is h x.1 x.2.1:=by
  intro l m q
  induction q with
  | nil=>intro x hx;exact nomatch hx
  | @cons p q ps qs hq t ih =>
   intro x hx;rcases aB8.mp hx with e | hx
   ·subst e;exact xN ok (by rw[<- hq.1];exact hq.2.1)
   ·exact ih x hx
 exact all r x hx
theorem aAG {kvs:List (List Key×V)} (ok:HOk P w H h) (e:H a=some (.dT kvs)):kvs.length<=sizeLine/\(a == sysModules)=false /\
 ∃ xs,KT H kvs xs/\h.DictOfH (tupleKind (bJ P w)) a xs:=zM ok (.inl e)
end
def DGet (H:Hp) (a:Addr) (y:V) (r:Option V):Prop :=
 (∃ kvs k,Rd H a (.dK kvs)/\y=kV k/\r=dI kvs k)\/∃ kvs k b,Rd H a (.dT kvs)/\y=.ref b/\H b=some (.tup (k.map kV))/\r=dI kvs k
def DPut (H:Hp) (a:Addr) (y v:V) (H':Hp):Prop :=
 (∃ kvs k,H a=some (.dK kvs)/\y=kV k/\kvs.length<sizeLine/\H'=upd H a (.dK (iV kvs k v))) \/
 ∃ kvs k b,H a=some (.dT kvs)/\y=.ref b/\H b=some (.tup (k.map kV))/\kvs.length<sizeLine/\H'=upd H a (.dT (iV kvs k v))
theorem DGet.k {H:Hp} {a:Addr} {kvs:List (Key×V)} {k:Key} (e:H a=some (.dK kvs)):DGet H a (kV k) (dI kvs k):=.inl ⟨kvs,k,.inl e,rfl,rfl⟩
theorem DPut.k {H:Hp} {a:Addr} {kvs:List (Key×V)} {k:Key} {v:V} (e:H a=some (.dK kvs)) (hl:kvs.length<sizeLine):DPut H a (kV k) v (upd H a (.dK (iV kvs k v))):=.inl ⟨kvs,k,e,rfl,hl,rfl⟩
section
variable {X:Cx} {pins:List (Addr×Obj)} {σ:St} {H:Hp} {s:Shared} {a:Addr} {y v:V} {u r:Value} {o:Option V} {A:Around} {E:Value->Shared->Prop}
theorem Inv.big (I:Inv X pins σ H s):sysModules<s.heap.objs.size:=by
 have h:mainGlobals<s.heap.objs.size:=(I.mod.glob.keeps I.bk).lt;exact Nat.lt_trans (by decide) h
theorem D4 {Q:Value->Shared->Prop} (hu:A.units+1<cLine) (I:Inv X pins σ H s) (g:DGet H a y (some v)) (ry:RelV y u) (h:∀ w' s',Inv X pins σ H s'->RelV v w'->Q w' s') :
 wpAny (model X.prog X.w) A (getItem (.ref a) u) Q E s:=by
 rcases g with ⟨kvs,k,e,ey,l⟩ | ⟨kvs,k,b,e,ey,eb,l⟩
 ·subst ey;obtain⟨z,hd,vs,rel,dd⟩:=vH I.hok e;obtain⟨w',hw,rw'⟩:=RelO.some_of (v:=v) (o:=valueAt vs k) (by rw[l];exact rel.val k);exact wpAny_getItem_of (vG ry) dd.mapOf hw (h w' _ (I.tok _) rw')
 ·subst ey;cases (show u=Value.ref b from ry);obtain⟨z,hd,xs,rel,dd⟩:=zM I.hok e;obtain⟨w',hw,rw'⟩:=RelO.some_of (v:=v) (o:=(atKey xs k).map (·.2)) (by rw[l];exact rel.val k);obtain⟨p,hp,hp2⟩:=aB6.mp hw;refine wpAny_getItem_heap (tupleKind_room_in1 hu) (xN I.hok eb) dd hp ?_;rw[hp2];exact h w' _ (I.tok _) rw'
theorem oD {h':Heap} {t':Nat} {ob:HO} (I:Inv X pins σ H s) (mu:Mut (H a)) (hs:Heap.SameBut a s.heap h') (he:∃ q,h'.get? a=some q) (new:ObjOk X.prog X.w (upd H a ob) h' a ob) :
 Inv X pins σ (upd H a ob) { s with heap:=h',toks:=t' } :=
 I.write (x:=a) (e:=a) mu (.inl rfl) (fun b q hb z=>(hs.2 b hb).trans z) he new
theorem xO {P:Program} {w:World} {H':Hp} {h':Heap} {kvs:List (Key×V)} {vs:List (Key×Value)} (z:kvs.length<=sizeLine) (hd:(a == sysModules)=false) (rel:KV kvs vs) (dd:h'.DictOf (bJ P w) a vs) :
 ObjOk P w H' h' a (.dK kvs):=⟨z,hd,vs,rel,dd⟩
theorem D5 {H':Hp} {Q:Unit->Shared->Prop} (hu:A.units+1<cLine) (I:Inv X pins σ H s) (g:DPut H a y v H') (ry:RelV y u) (rv:RelV v r) (h:∀ s',Inv X pins σ H' s'->Q () s') :
 wpAny (model X.prog X.w) A (setItem (.ref a) u r) Q E s:=by
 rcases g with ⟨kvs,k,e,ey,l,eH⟩ | ⟨kvs,k,b,e,ey,eb,l,eH⟩
 ·subst ey eH;obtain⟨z,hd,vs,rel,dd⟩:=pG I.hok e;have hz:vs.length<=sizeLine:=by rw[<- rel.length];exact z
  have hl:(iV kvs k v).length<=sizeLine:=by have:=gW kvs k v;omega
  refine wpAny_setItem_pairs (hsz:=hz) (vG ry) dd fun h' dd' hs=>h _ ?_;have he:∃ q,h'.get? a=some q:=let ⟨q,_,_,hq,_⟩:=dd';⟨q,hq⟩;exact oD I (by rw[e];exact True.intro) hs he (xO hl hd (rel.put k rv) dd')
 ·subst ey eH;cases (show u=Value.ref b from ry);obtain⟨z,hd,xs,rel,dd⟩:=aAG I.hok e;have hz:xs.length<=sizeLine:=by rw[<- Paired.length rel];exact z
  have hl:(iV kvs k v).length<=sizeLine:=by have:=gW kvs k v;omega
  refine wpAny_setItem_heap (hsz:=hz) (tupleKind_room_in1 hu) (xN I.hok eb) dd fun h' dd' hs=>h _ ?_;obtain⟨q,es,ep,hq,h2,h3,h4,_,h5⟩:=dd';refine oD I (by rw[e];exact True.intro) hs ⟨q,hq⟩ ⟨hl,hd,_,(rel.put k eb rv).keeps fun c ys ec=>?_,q,es,ep,hq,h2,h3,h4,h5⟩;rw[aC (fH ec e (fun z=>nomatch z))];exact ec
end
section
variable {X:Cx} {pins:List (Addr×Obj)} {σ:St} {H:Hp} {s:Shared} {a:Addr} {kvs:List (Key×V)} {k:Key} {u:Value} {A:Around} {E:Value->Shared->Prop}
theorem D6 {Q:Unit->Shared->Prop} (I:Inv X pins σ H s) (e:H a=some (.dK kvs)) (ry:RelV (kV k) u) (l:(dI kvs k).isSome=true) (h:∀ s',Inv X pins σ (upd H a (.dK (nE kvs k))) s'->Q () s') :
 wpAny (model X.prog X.w) A (delItem (.ref a) u) Q E s:=by
 obtain⟨z,hd,vs,rel,dd⟩:=pG I.hok e;refine wpAny_delItem_slot dd.typeIs (by decide) PySem.F.slot_dict_delitem
  (call_meetsIn PySem.F.slot_dict_delitem dd.typeIs PySem.F.entry_dict_delitem (PySem.F.args_dict_delitem_2 _ _) (meets_dict_delitem_pairs (bJ X.prog X.w) a (vG ry)) ⟨vs,dd,by rw[<- rel.length];exact z,by rw[<- (rel.val k).isSome_eq];exact l,fun h' dd' hs=>h _ ?_⟩)
 have he:∃ q,h'.get? a=some q:=let ⟨q,_,_,hq,_⟩:=dd';⟨q,hq⟩;exact oD I (by rw[e];exact True.intro) hs he (xO (Nat.le_trans (N8 kvs k) z) hd (rel.drop k) dd')
theorem W5 {Q:Bool->Shared->Prop} (I:Inv X pins σ H s) (e:Rd H a (.dK kvs)) (h:∀ s',Inv X pins σ H s'->Q (!kvs.isEmpty) s'):wpAny (model X.prog X.w) A (truthy (.ref a)) Q E s:=by
 obtain⟨z,hd,vs,rel,dd⟩:=vH I.hok e;refine wpAny_truthy_dict hd dd (by rw[<- rel.length];rw[sizeLine_eq]at z;omega) ?_;have q:kvs.isEmpty=vs.isEmpty:=by cases rel <;> rfl
 rw[<- q];exact h _ (I.tok _)
end
def aAH (i:Expr):Prop:=∀ ov iv,subscripted i false ov iv=operate [ov,iv] (getItem ov iv)
theorem W6 {prog:Program} {w:World} {A:Around} {E:Value->Shared->Prop} {s:Shared} {env:Env} {value slice:Expr} {pos:Pos} {T id:String} {Q:Value->Shared->Prop}
 (hl:typeLookup (.type T) "__getitem__"=pure (some (.builtin id))) (hs:aAH slice)
 (h:wpAny (model prog w) A (eval value env) (fun o s₁=>wpAny (model prog w) A (eval slice env) (fun i s₂=>s₂.TypeIs o T/\wpAny (model prog w) A (getItem o i) Q E s₂) E s₁) E s) :
 wpAny (model prog w) A (eval (.Subscript value slice pos) env) Q E s:=by
 refine Subscript_ (wpAny_mono h (fun o s₁ h₁=>wpAny_mono h₁ (fun i s₂ h₂=>?_) fun _ _ x=>x) fun _ _ x=>x);obtain⟨hT,h₂⟩:=h₂;unfold subscriptTail;refine aAs ?_;rw[getitemInPython_of_ne hT.not_modules];refine aAs (wpAny_specialOf hT hl ?_);have fin:wpAny (model prog w) A (subscripted slice false o i) (fun r s₃=>wpAny (model prog w) A (letTemporaryGo value o r >>= fun _=>pure r) Q E s₃) E s₂:=by
  rw[hs o i];exact wpAny_operating (wpAny_mono h₂ (fun r s₃ h₃=>aAs (wpAny_letTemporaryGo (aAt h₃))) fun _ _ x=>x)
 first
  | exact aAt (aAs fin)
  | exact aAs (aAt (aAs fin))
  | exact aAs fin
theorem vI {X:Cx} {pins:List (Addr×Obj)} {σ:St} {H:Hp} {s:Shared} {a:Addr} {y:V} {o:Option V} (I:Inv X pins σ H s) (g:DGet H a y o):s.TypeIs (.ref a) "dict":=by
 rcases g with ⟨kvs,k,e,_,_⟩ | ⟨kvs,k,b,e,_,_,_⟩
 ·obtain⟨_,_,vs,_,dd⟩:=vH I.hok e;exact dd.typeIs
 ·obtain⟨_,_,xs,_,dd⟩:=zM I.hok e;exact dd.typeIs
def aAI (td ty:TE):TE:=fun σ H Q=>td σ H fun x H1=>ty σ H1 fun y H2=>∃ a v,x=.ref a/\DGet H2 a y (some v)/\Q v H2
def aAJ (td ty tv:TE):TS:=fun D σ H=>tv σ H fun v H1=>td σ H1 fun x H2=>ty σ H2 fun y H3=>∃ a H4,x=.ref a/\DPut H3 a y v H4/\D.nx σ H4
def aAK (td ty:TE):TS:=fun D σ H=>td σ H fun x H1=>ty σ H1 fun y H2=>∃ a kvs k,x=.ref a/\H2 a=some (.dK kvs)/\y=kV k/\(dI kvs k).isSome=true/\D.nx σ (upd H2 a (.dK (nE kvs k)))
section
variable {X:Cx} {o i e value:Expr} {pos pos' tpos:Pos} {td ty tv:TE}
theorem jY (hu:X.A.units+1<cLine) (ho:PE X o td) (hi:PE X i ty) (hs:aAH i):PE X (.Subscript o i pos) (aAI td ty):=by
 intro pins s σ H Q I h;refine W6 PySem.F.slot_dict_getitem.lookup hs (thn (ho pins s σ H _ I h) fun u s1 ⟨x,H1,I1,rx,q1⟩=>thn (hi pins s1 σ H1 _ I1 q1) fun iv s2 ⟨y,H2,I2,ry,a,v,ex,g,q2⟩=>?_);subst ex;obtain rfl:u=Value.ref a:=rx;exact⟨vI I2 g,D4 hu I2 g ry fun w' s3 I3 rw'=>⟨v,H2,I3,rw',q2⟩⟩
theorem W7 (hu:X.A.units+1<cLine) (ho:PE X o td) (hi:PE X i ty) (hv:PE X value tv) (hs:swapsWith value (some (.Subscript o i pos')) pos.line X.env=pure false) :
 PS X (.Assign [.Subscript o i pos'] value pos) (aAJ td ty tv):=by
 intro pins s σ H D I h;refine wpAny_Assign_Subscript (thn (hv pins s σ H _ I h) fun r s1 ⟨v,H1,I1,rv,q1⟩=>thn (ho pins s1 σ H1 _ I1 q1) fun u s2 ⟨x,H2,I2,rx,q2⟩=>thn (hi pins s2 σ H2 _ I2 q2) fun iv s3 ⟨y,H3,I3,ry,a,H4,ex,g,q3⟩=>?_) hs;subst ex;obtain rfl:u=Value.ref a:=rx;exact D5 hu I3 g ry rv fun s4 I4=>⟨σ,H4,I4,q3⟩
theorem W8 (ho:PE X o td) (hi:PE X i ty):PS X (.Delete [.Subscript o i tpos] pos) (aAK td ty):=by
 intro pins s σ H D I h;refine wpAny_Delete (wpAny_deleteEach_cons (wpAny_delete_Subscript (thn (ho pins s σ H _ I h) fun u s1 ⟨x,H1,I1,rx,q1⟩=>thn (hi pins s1 σ H1 _ I1 q1) fun iv s2 ⟨y,H2,I2,ry,a,kvs,k,ex,e,ey,l,q2⟩=>?_)));subst ex ey;obtain rfl:u=Value.ref a:=rx;exact D6 I2 e ry l fun s3 I3=>wpAny_deleteEach_nil ⟨σ,_,I3,q2⟩
end
theorem N9 {P:Program} {w:World} {H:Hp} (h:Heap) (hb:sysModules<h.objs.size):ObjOk P w H (h.push { cls:=.type "dict",data:=.dict #[] }) h.objs.size (.dK []) :=
 ⟨Nat.zero_le _,beq_eq_false_iff_ne.mpr (Ne.symm (aBS hb)),[],.nil,Heap.DictOf.new h⟩
def p0:TE:=fun _ H Q=>∀ p,H p=none->Q (.ref p) (upd H p (.dK []))
section
variable {X:Cx} {pos:Pos}
theorem pH:PE X (.Dict [] [] pos) p0:=fun pins s σ H Q I h =>
 wpAny_Dict_empty ⟨.ref s.heap.objs.size,_,I.laid (a:=s.heap.objs.size) (o:=.dK []) (t':=s.toks) (fun _ _ q=>aAv _ q) (Nat.le_refl _) (N9 s.heap I.big),rfl,h _ (I.hok.fresh (Nat.le_refl _))⟩
end
structure M1 (X:Cx) (o:Expr) (m:Str) (apos:Pos) (e:Expr) (cpos:Pos):Prop where
 base:attributeBase o m X.env (eval o X.env)=eval o X.env
 few:((backTo cpos (starEach [e] X.env)).all (fun x=>!x.1) && (backToKw cpos (keywordEach [] X.env)).all (fun x=>x.1.isSome)
  && decide (([e]:List Expr).length+([]:List Keyword).length+(if ([]:List Keyword).isEmpty then 0 else 1)<30))=true
 line:(apos.endLine == cpos.line)=true
 trees:backTo cpos (starEach [e] X.env)=[(false,eval e X.env)]
structure M2 (X:Cx) (o:Expr) (m:Str) (apos:Pos) (e f:Expr) (cpos:Pos):Prop where
 base:attributeBase o m X.env (eval o X.env)=eval o X.env
 few:((backTo cpos (starEach [e,f] X.env)).all (fun x=>!x.1) && (backToKw cpos (keywordEach [] X.env)).all (fun x=>x.1.isSome)
  && decide (([e,f]:List Expr).length+([]:List Keyword).length+(if ([]:List Keyword).isEmpty then 0 else 1)<30))=true
 line:(apos.endLine == cpos.line)=true
 trees:backTo cpos (starEach [e,f] X.env)=[(false,eval e X.env),(false,eval f X.env)]
def IsD (H:Hp) (a:Addr):Prop:=(∃ kvs,Rd H a (.dK kvs))\/∃ kvs,Rd H a (.dT kvs)
theorem xP {X:Cx} {pins:List (Addr×Obj)} {σ:St} {H:Hp} {s:Shared} {a:Addr} (I:Inv X pins σ H s) (d:IsD H a) :
 s.TypeIs (.ref a) "dict"/\(∀ b,Value.ref a=.ref b->∃ ob,s.heap.get? b=some ob/\ob.dict=none)/\(a == sysModules)=false:=by
 rcases d with ⟨kvs,e⟩ | ⟨kvs,e⟩
 ·obtain⟨_,hd,vs,_,dd⟩:=vH I.hok e;refine⟨dd.typeIs,fun b q=>?_,hd⟩;cases q;obtain⟨ob,_,_,h1,h2,_⟩:=dd;exact⟨ob,h1,h2.2.1⟩
 ·obtain⟨_,hd,xs,_,dd⟩:=zM I.hok e;refine⟨dd.typeIs,fun b q=>?_,hd⟩;cases q;obtain⟨ob,_,_,h1,h2,_⟩:=dd;exact⟨ob,h1,h2.2.1⟩
section
variable {X:Cx} {pins:List (Addr×Obj)} {σ:St} {H:Hp} {s:Shared} {a:Addr} {y d:V} {u r:Value} {o:Option V} {A:Around} {E:Value->Shared->Prop}
end
section
variable {X:Cx} {o e f:Expr} {apos cpos:Pos} {td ty tx:TE}
end
section
variable {X:Cx} {pins:List (Addr×Obj)} {σ:St} {H:Hp} {s:Shared} {a:Addr} {kvs:List (Key×V)} {A:Around} {E:Value->Shared->Prop}
end
section
variable {X:Cx} {pins:List (Addr×Obj)} {σ:St} {H:Hp} {s:Shared} {a:Addr} {y:V} {u:Value} {A:Around} {E:Value->Shared->Prop}
end
section
variable {X:Cx} {pins:List (Addr×Obj)} {σ:St} {H:Hp} {s:Shared} {d:Addr} {kvs:List (Key×V)}
theorem Inv.freezeD (I:Inv X pins σ H s) (e:H d=some (.dK kvs)):∃ od,s.heap.get? d=some od/\Inv X pins σ (upd H d (.frz od (.dK kvs))) s:=by
 obtain⟨z,hd,vs,rel,dd⟩:=pG I.hok e;obtain⟨ep,hat⟩:=dd.dictAt;obtain⟨od,es,ho,_⟩:=id hat;refine⟨od,ho,?_⟩;have ne:∀ b u,H b=some u->(∀ ks,u≠.dK ks)->b≠d:=fun b u q n z=>by rw[z,e]at q;cases q;exact n _ rfl
 have nb:∀ b,H b=none->b≠d:=fun b q z=>by rw[z,e]at q;cases q
 have up:∀ b u,H b=some u->(∀ ks,u≠.dK ks)->upd H d (.frz od (.dK kvs)) b=some u:=fun b u q n=>by rw[aC (ne b u q n)];exact q
 have un:Un X.fs [] H (upd H d (.frz od (.dK kvs))) s.heap s.heap:=⟨fun _ _ q _ _ _=>q,fun _ o q _ _ _=>⟨o.slots,q⟩,fun b _ _ n _=>by rw[aC (nb b n)];exact n,fun _ o q _=>⟨o,q⟩,
  fun b xs q=>up b _ q (fun _ z=>by cases z),fun b o u q=>up b _ q (fun _ z=>by cases z),fun b ps q=>⟨#[],by rw[up b _ q (fun _ z=>by cases z)];simp⟩⟩
 exact I.un (t':=s.toks) un fun b u q=>by
  by_cases hb:b=d
  ·subst hb;rw[aB]at q;cases q;exact⟨ho,z,hd,vs,rel,dd⟩
  ·rw[aC hb]at q;exact(I.hok b u q).stay (fun _ _ _ z=>z) (fun c z=>up c _ z fun _ z=>by cases z) fun c xs z=>up c _ z fun _ z=>by cases z
end
def Itd (d:Addr) (od:Obj) (kvs:List (Key×V)):It :=
 ⟨fun i H=>H d=some (.frz od (.dK kvs))/\i<kvs.length,fun i H v H'=>∃ t k x,v=.ref t/\H t=none/\kvs[i]?=some (k,x)/\H'=upd H t (.tup [kV k,x]),fun i H=>H d=some (.frz od (.dK kvs))/\kvs.length<=i⟩
theorem O0 {kvs:List (Key×V)} {vs:List (Key×Value)} (r:KV kvs vs) {i:Nat} {k:Key} {x:V} (e:kvs[i]?=some (k,x)):∃ u,vs[i]?=some (k,u)/\RelV x u:=by
 induction r generalizing i with
 | nil=>simp at e
 | cons h _ ih =>
  cases i with
  | zero =>
   rename_i p q _ _ _
   obtain⟨p1,p2⟩:=p;obtain⟨q1,q2⟩:=q;simp only[List.getElem?_cons_zero,Option.some.injEq,Prod.mk.injEq]at e;obtain⟨rfl,rfl⟩:=e;obtain⟨h1,h2⟩:=h;simp only at h1 h2;subst h1;exact⟨_,rfl,h2⟩
  | succ i=>exact ih e
theorem p7 {P:Program} {w:World} {k:Key} {u:Value} (h:(bJ P w).is k u=true):RelV (kV k) u:=by
 rw[oI]at h;rcases bV h with ⟨i,t,rfl,rfl⟩ | ⟨x,t,rfl,rfl⟩
 ·exact⟨_,rfl⟩
 ·exact⟨_,rfl⟩
theorem xQ {P:Program} {w:World} {K:PySem.W.Frag} {elts:List Expr} {x1} {pos:Pos} (d it:Addr) (od:Obj) (kvs:List (Key×V)) (vs:List (Key×Value)) (ep:Nat) (rel:KV kvs vs) (hat:∀ h:Heap,h.get? d=some od->h.DictAt (bJ P w) d vs ep) (hne:d≠it) :
 qS P w K (.Tuple elts x1 pos) (Itd d od kvs) [it] it (fun i h=>∃ ok ov,IsItemIter h it d i vs.length ep ok ov) where
 mem:=by simp
 obj:=fun i h st b hb=>by
  obtain⟨ok,ov,he⟩:=st;have z:b=it:=by simpa using hb
  subst z;exact⟨_,he,fun v z=>by have z':Data.fields _=Data.cell v:=z;cases z'⟩
 keep:=fun i h h' st k=>let ⟨ok,ov,he⟩:=st;⟨ok,ov,k it (by simp) _ he⟩
 item:=by
  intro X hP hw hK hc i pins s σ H E I hf st hg;subst hP hw hK;obtain⟨hd,hi⟩:=hg;obtain⟨⟨k,x⟩,hx⟩:∃ p,kvs[i]?=some p:=⟨kvs[i],by simp[hi]⟩;obtain⟨u,hu,ru⟩:=O0 rel hx;obtain⟨ok,ov,he⟩:=st;have hod:s.heap.get? d=some od:=(I.hok d _ hd).1;have li:it<s.heap.objs.size:=aBA he;refine wpAny_pyNext_items_item he (hat _ hod) hu fun key h' hkey ho hT hsz kp=>?_;refine⟨_,rfl,?_⟩;have hn:H s.heap.objs.size=none:=I.hok.fresh (Nat.le_refl _);have tupOk:∀ h2:Heap,h2.get? s.heap.objs.size=some { cls:=.type "tuple",data:=.seq #[key,u] }->ObjOk X.prog X.w (upd H s.heap.objs.size (.tup [kV k,x])) h2 s.heap.objs.size (.tup [kV k,x]):=fun h2 q =>
   ⟨by show 2<=sizeLine;decide,[key,u],.cons (p7 hkey) (.cons ru .nil),_,q,rfl,_,rfl⟩
  refine wpAny_letOwnedTupleGo_items ho fun h2 f1 sb=>?_;have k2:∀ b o,b∉[it]->s.heap.get? b=some o->h2.get? b=some o:=fun b o hb q=>sb.extBut b o (fun z=>hb (by simp[z])) (kp b o (fun z=>hb (by simp[z])) q);have n1:s.heap.objs.size≠it:=aBV li;refine⟨.ref s.heap.objs.size,_,I.turnLaid (t':=s.toks) (h':=h2) (o:=.tup [kV k,x]) k2 hf (Nat.le_refl _) (tupOk _ (sb.extBut _ _ n1 hT)),rfl,⟨_,k,x,rfl,hn,hx,rfl⟩,⟨_,_,f1⟩,fun b hb=>?_⟩;have hb':b≠s.heap.objs.size:=by
   have z:b=it:=by simpa using hb
   subst z;exact aBS li
  rw[aC hb'];exact(hf b hb).1
 done:=by
  intro X hP hw hK hc i pins s σ H E I hf st hg;subst hP hw hK;obtain⟨hd,hi⟩:=hg;obtain⟨ok,ov,he⟩:=st;have hod:s.heap.get? d=some od:=(I.hok d _ hd).1;have hl:=rel.length;exact wpAny_pyNext_items_end (I.ok.hd hc) he (hat _ hod) (by simp;omega) fun h' eb=>⟨rfl,I.turnedF (fp:=[it]) (t':=s.toks) (fun b o hb e=>eb b o (fun z=>hb (by simp[z])) e) hf⟩
 self:=fun _ _ _ _ _ st h=>let ⟨_,_,he⟩:=st;PySem.W.kcp_self he h
def p8 (td:TE):TI:=fun σ H R=>td σ H fun x H1=>∃ d kvs,x=.ref d/\H1 d=some (.dK kvs)/\∀ od,R (Itd d od kvs) (upd H1 d (.frz od (.dK kvs)))
theorem pI {X:Cx} {elts:List Expr} {x1} {tpos:Pos} {o:Expr} {td:TE} {apos pos:Pos} (ho:PE X o td) (hbase:attributeBase o "items" X.env (eval o X.env)=eval o X.env:=by rfl) (hline:(apos.endLine == pos.line)=true:=by rfl) :
 PI X (.Tuple elts x1 tpos) (.Call (.Attribute o "items" apos) [] [] pos) (p8 td):=by
 intro pins s σ H R I h;refine wpAny_Call_method0_late hbase hline (thn (ho pins s σ H _ I h) fun u s1 ⟨x,H1,I1,rx,d,kvs,ex,hd,q⟩=>?_);subst ex;obtain rfl:u=Value.ref d:=rx;obtain⟨z,hsys,vs,rel,dd⟩:=pG I1.hok hd;obtain⟨ep,hat⟩:=id dd.dictAt;obtain⟨od,hod,I2⟩:=I1.freezeD hd;obtain⟨t1,t2,_⟩:=xP I1 (.inl ⟨kvs,.inl hd⟩);refine⟨"dict","dict.items",PySem.F.plainAttrs_dict,PySem.F.slot_dict_items,PySem.F.type_dict_items,t1,t2,Calls.callWith_builtin rfl (PySem.evalArgs_none ?_)⟩;refine call_meetsIn PySem.F.slot_dict_items dd.typeIs PySem.F.entry_dict_items (PySem.F.args_dict_items_1 _) (meets_dict_items (bJ X.prog X.w) d hsys) ⟨⟨vs,dd⟩,?_⟩;have hv:(s1.heap.push { cls:=.type "dict_items",data:=.fields #[.ref d] }).IsItemsView s1.heap.objs.size d:=⟨_,aBB _ rfl,rfl,rfl⟩;have h1:(s1.heap.push { cls:=.type "dict_items",data:=.fields #[.ref d] }).get? d=some od:=aAv _ hod;have hat':∀ h:Heap,h.get? d=some od->h.DictAt (bJ X.prog X.w) d vs ep:=fun h e=>hat.at fun o q=>by rw[hod]at q;cases q;exact e
 refine wpAny_pyIter_items hv (hat' _ h1) ?_;generalize hob:({ cls:=.type "dict_itemiterator",data:=.fields #[.none,.bool false,.ref d,.int 0 0,.int vs.length 0,.int ep 0,.none,.none] }:Obj)=ob;have kp:∀ b o,s1.heap.get? b=some o->((s1.heap.push { cls:=.type "dict_items",data:=.fields #[.ref d] }).push ob).get? b=some o:=fun b o e=>aAv _ (aAv _ e);have hsz:(s1.heap.push { cls:=.type "dict_items",data:=.fields #[.ref d] }).objs.size=s1.heap.objs.size+1:=Heap.size_push ..;have I3:=I2.kept (t':=s1.toks) kp;have hge:s1.heap.objs.size<=(s1.heap.push { cls:=.type "dict_items",data:=.fields #[.ref d] }).objs.size:=by rw[hsz];exact Nat.le_succ _
 have hne:d≠(s1.heap.push { cls:=.type "dict_items",data:=.fields #[.ref d] }).objs.size:=fun z=>by
  have:=aBA hod;rw[z]at this;exact absurd this (Nat.not_lt.mpr hge)
 refine⟨_,[_],_,_,_,rfl,I3,xQ d _ od kvs vs ep rel hat' hne,⟨.none,.none,?_⟩,fun b hb=>?_,q od⟩
 ·rw[<- hob];exact aBB _ rfl
 ·have z:b=(s1.heap.push { cls:=.type "dict_items",data:=.fields #[.ref d] }).objs.size:=by simpa using hb
  rw[z];exact I2.fpOk hge (I2.hok.fresh hge)
theorem kQ {d:Addr} {od:Obj} {kvs:List (Key×V)} {σ0:St} {g:TG} {tt:TT} {te:TE} {H:Hp} {Q:VK} (Pv:Nat->List V->Hp->Prop) (h0:Pv 0 [] H) (hl:∀ i ys H,i<=kvs.length->Pv i ys H->H d=some (.frz od (.dK kvs))/\ys.length<sizeLine)
 (hs:∀ i k x ys H t,kvs[i]?=some (k,x)->Pv i ys H->H t=none->g (.ref t) σ0 (upd H t (.tup [kV k,x])) fun σ2 H2=>tt σ2 H2 fun b H3=>if b=true then te σ2 H3 fun y H4=>Pv (i+1) (ys++[y]) H4 else Pv (i+1) ys H3) (hd:∀ ys H,Pv kvs.length ys H->∀ D,H D=none->Q (.ref D) (upd H D (.lst ys))) :
 oU (Itd d od kvs) σ0 g tt te Q H:=by
 refine⟨fun i m ys H=>m=kvs.length - i/\i<=kvs.length/\Pv i ys H,⟨kvs.length,by simp,Nat.zero_le _,h0⟩,?_⟩;rintro i m ys H ⟨rfl,hi,p⟩;obtain⟨q,hz⟩:=hl i ys H hi p;refine⟨hz,?_⟩
 by_cases hlt:i<kvs.length
 ·refine .inr ⟨⟨q,hlt⟩,Pv (i+1),fun ys' H' p'=>⟨kvs.length - (i+1),by omega,rfl,hlt,p'⟩,fun x H' y=>?_⟩;obtain⟨t,k,v,rfl,hn,hx,rfl⟩:=y;exact hs i k v ys _ t hx p hn
 ·have e:i=kvs.length:=by omega
  subst e;exact .inl ⟨⟨q,Nat.le_refl _⟩,hd ys H p⟩
def aAL (td ty tx:TE):TE:=fun σ H Q=>td σ H fun x H1=>∃ a,x=.ref a/\IsD H1 a/\ty σ H1 fun y H2=>tx σ H2 fun z H3=>∃ kvs k,H3 a=some (.dK kvs)/\y=kV k/\kvs.length<sizeLine /\
 (∀ v,dI kvs k=some v->Q v H3)/\(dI kvs k=none->Q z (upd H3 a (.dK (iV kvs k z))))
section
variable {X:Cx} {o e f:Expr} {apos cpos:Pos} {td ty tx:TE}
theorem zN (ho:PE X o td) (he:PE X e ty) (hf:PE X f tx) (m:M2 X o "setdefault" apos e f cpos):PE X (.Call (.Attribute o "setdefault" apos) [e,f] [] cpos) (aAL td ty tx):=by
 intro pins s σ H Q I h;refine wpAny_Call_method m.base m.few m.line PySem.F.plainAttrs_dict PySem.F.slot_dict_setdefault PySem.F.type_dict_setdefault (thn (ho pins s σ H _ I h) fun u s1 ⟨x,H1,I1,rx,a,ex,d,q1⟩=>?_);subst ex;obtain rfl:u=Value.ref a:=rx;obtain⟨t1,t2,_⟩:=xP I1 d;refine⟨t1,t2,?_⟩;rw[m.trees];refine Calls.callWith_builtin rfl (Calls.evalArgs_plain (Calls.spliced_cons (thn (he pins s1 σ H1 _ I1 q1) fun iv s2 ⟨y,H2,I2,ry,q2⟩ =>
  Calls.spliced_cons (thn (hf pins s2 σ H2 _ I2 q2) fun fv s3 ⟨z,H3,I3,rz,kvs,k,ea,ey,hl,q3,q4⟩=>Calls.spliced_nil ?_))))
 subst ey;obtain⟨hz,hsys,vs,rel,dd⟩:=pG I3.hok ea;refine call_meetsIn PySem.F.slot_dict_setdefault dd.typeIs PySem.F.entry_dict_setdefault (PySem.F.args_dict_setdefault_3 _ _ _) (kt_meets_setdefault (bJ X.prog X.w) a (vG ry) hsys fv) ⟨vs,dd,by rw[<- rel.length];exact hz,fun v hv=>?_,fun hn h' hd' hs=>?_⟩
 ·have r:=rel.val k;rw[hv]at r;cases hq:dI kvs k with
  | none=>rw[hq]at r;exact r.elim
  | some v'=>rw[hq]at r;exact⟨v',H3,I3.tok _,r,q3 v' hq⟩
 ·have r:=rel.val k;rw[hn]at r;have hq:dI kvs k=none:=by
   cases hq:dI kvs k with
   | none=>rfl
   | some v'=>rw[hq]at r;exact r.elim
  refine⟨z,_,oD (t':=_) I3 (by rw[ea];exact True.intro) hs ?_ (xO ?_ hsys (rel.put k rz) hd'),rz,q4 hq⟩
  ·obtain⟨_,hat⟩:=hd'.dictAt;obtain⟨o,es,ho,_⟩:=id hat;exact⟨o,ho⟩
  ·have:=gW kvs k z;omega
end
end L2
namespace CW
open PySem L2
theorem cB {α β:Type} {f:α->β}:∀ {l:List α},(l.map f).Nodup->∀ {x y:α},x∈l->y∈l->f x=f y->x=y
 | [],_,_,_,hx,_,_=>by cases hx
 | z :: r,h,x,y,hx,hy,e=>by
  rw[aBU,List.nodup_cons]at h;rcases aB8.mp hx with ex | hx'
  ·rcases aB8.mp hy with ey | hy'
   ·rw[ex,ey]
   ·exact absurd (aBa.mpr ⟨y,hy',by rw[<- e,ex]⟩) h.1
  ·rcases aB8.mp hy with ey | hy'
   ·exact absurd (aBa.mpr ⟨x,hx',by rw[e,ey]⟩) h.1
   ·exact cB h.2 hx' hy' e
abbrev Grp:=Int×Addr×List Int
def kvG (gs:List Grp):List (Key×V):=gs.map fun g=>((Sum.inl g.1:Key),V.ref g.2.1)
structure DG (H:Hp) (d:Addr) (gs:List Grp):Prop where
 at_:H d=some (.dK (kvG gs))
 lst:∀ g∈gs,H g.2.1=some (.lst (g.2.2.map V.int))
 adr:(gs.map (·.2.1)).Nodup
 key:(gs.map (·.1)).Nodup
def SameD (d:Addr) (H H':Hp):Prop:=∀ b o,b≠d->H b=some o->H' b=some o
theorem SameD.trans {d:Addr} {H H1 H2:Hp} (a:SameD d H H1) (b:SameD d H1 H2):SameD d H H2:=fun c o n h=>b c o n (a c o n h)
def wgt (f:Int->Int) (gs:List Grp):Int:=(gs.map fun g=>f g.1 * (g.2.2.length:Int)).sum
def tot (f:Int->Int) (ps:List (Int×Int)):Int:=(ps.map fun p=>f p.1).sum
theorem eK (k:Int):∀ gs:List Grp,dI (kvG gs) (Sum.inl k:Key)=(gs.find? fun g=>decide (g.1=k)).map fun g=>V.ref g.2.1
 | []=>rfl
 | g :: r=>by
  by_cases h:g.1=k
  ·have:dI (kvG (g :: r)) (Sum.inl k:Key)=some (V.ref g.2.1):=cR (p:=((Sum.inl g.1:Key),V.ref g.2.1)) (by rw[h]);rw[this,List.find?_cons,aBR h];rfl
  ·have:dI (kvG (g :: r)) (Sum.inl k:Key)=dI (kvG r) (Sum.inl k:Key):=cT (p:=((Sum.inl g.1:Key),V.ref g.2.1)) (fun z=>h (Sum.inl.inj z));rw[this,List.find?_cons,aBQ h];exact eK k r
def dZ (k o:Int) (gs:List Grp):List Grp:=gs.map fun g=>if g.1=k then (g.1,g.2.1,g.2.2++[o])else g
theorem vJ (k o:Int) (gs:List Grp):kvG (dZ k o gs)=kvG gs:=by
 unfold kvG dZ;rw[aBZ];refine List.map_congr_left fun g _=>?_;simp only[Function.comp];split <;> rfl
theorem vK (k o:Int) (gs:List Grp):(dZ k o gs).map (·.2.1)=gs.map (·.2.1):=by
 unfold dZ;rw[aBZ];refine List.map_congr_left fun g _=>?_;simp only[Function.comp];split <;> rfl
theorem vL (k o:Int) (gs:List Grp):(dZ k o gs).map (·.1)=gs.map (·.1):=by
 unfold dZ;rw[aBZ];refine List.map_congr_left fun g _=>?_;simp only[Function.comp];split <;> rfl
theorem O1 (k o:Int) (gs:List Grp):(dZ k o gs).length=gs.length:=by simp[dZ]
theorem mO {k o:Int}:∀ {gs:List Grp},(∀ g∈gs,g.1≠k)->dZ k o gs=gs
 | [],_=>rfl
 | g :: r,h=>by
  have h1:=h g aAw;unfold dZ;rw[aBU,if_neg h1]
  congr 1
  exact mO fun x hx=>h x (aAx _ hx)
theorem vM (f:Int->Int) {k o:Int}:∀ {gs:List Grp},(gs.map (·.1)).Nodup->(∃ g∈gs,g.1=k)->wgt f (dZ k o gs)=wgt f gs+f k
 | [],_,⟨g,h,_⟩=>by cases h
 | g :: r,hn,hex=>by
  have hn':=List.nodup_cons.mp hn
  by_cases h:g.1=k
  ·have hr:dZ k o r=r:=mO fun x hx e=>hn'.1 (aBa.mpr ⟨x,hx,e.trans h.symm⟩);have:dZ k o (g :: r)=(g.1,g.2.1,g.2.2++[o]) :: r:=by
    show (if g.1=k then (g.1,g.2.1,g.2.2++[o])else g) :: dZ k o r=_;rw[if_pos h,hr]
   rw[this];simp only[wgt,aBU,aBX,aBD,List.length_singleton];rw[<- h];have:f g.1 * ((g.2.2.length+1:Nat):Int)=f g.1 * (g.2.2.length:Int)+f g.1:=by
    rw[show ((g.2.2.length+1:Nat):Int)=(g.2.2.length:Int)+1 by omega,Int.mul_add,Int.mul_one]
   rw[this];omega
  ·have hex':∃ g∈r,g.1=k:=by
    obtain⟨x,hx,e⟩:=hex;rcases aB8.mp hx with rfl | hx
    ·exact absurd e h
    ·exact⟨x,hx,e⟩
   have ih:=vM f (o:=o) hn'.2 hex';have:dZ k o (g :: r)=g :: dZ k o r:=by
    show (if g.1=k then (g.1,g.2.1,g.2.2++[o])else g) :: dZ k o r=_;rw[if_neg h]
   rw[this];simp only[wgt,aBU,aBX]at ih ⊢;omega
def fU (j k:Int):Int:=if k<j then k else j
section
variable {P:Program} {w:World} {K:PySem.W.Frag} {mg:Str->Option Value} {base:Heap}
end
end CW
namespace L2
open PySem PySem.Spec PyProof.Rows
theorem Inv.thaw {X:Cx} {pins:List (Addr×Obj)} {σ:St} {H:Hp} {s:Shared} {d:Addr} {od:Obj} {kvs:List (Key×V)} (I:Inv X pins σ H s) (e:H d=some (.frz od (.dK kvs))) (h0:∀ o u,X.H₀ d≠some (.frz o u)):Inv X pins σ (upd H d (.dK kvs)) s:=by
 obtain⟨ho,hok⟩:=I.hok d _ e;have ne:∀ b u,H b=some u->(∀ o v,u≠.frz o v)->b≠d:=fun b u q n z=>by rw[z,e]at q;cases q;exact n _ _ rfl
 have nb:∀ b,H b=none->b≠d:=fun b q z=>by rw[z,e]at q;cases q
 have up:∀ b u,H b=some u->(∀ o v,u≠.frz o v)->upd H d (.dK kvs) b=some u:=fun b u q n=>by rw[aC (ne b u q n)];exact q
 refine⟨I.ok,I.os,I.bare,⟨I.base.keep,I.base.slot,fun b o q n x=>?_,I.base.there,fun b xs q=>up b _ (I.base.tups b xs q) (fun _ _ z=>by cases z),fun b o u q=>?_,fun b ps q=>?_⟩,I.loc,I.cell,?_,fun x c q=>?_,fun p q=>?_,fun b u q=>?_,I.len⟩
 ·rw[aC (nb b (I.base.free b o q n x))];exact I.base.free b o q n x
 ·have hb:b≠d:=fun z=>by rw[z]at q;exact h0 _ _ q
  rw[aC hb];exact I.base.frzs b o u q
 ·obtain⟨more,e'⟩:=I.base.tbls b ps q;exact⟨more,up b _ e' (fun _ _ z=>by cases z)⟩
 ·rw[aC (nb _ I.free)];exact I.free
 ·rw[aC (nb _ (I.freeC x c q))];exact I.freeC x c q
 ·obtain⟨e',n,ne',nf,dd⟩:=I.pin p q;exact⟨e',by rw[aC (nb _ n)];exact n,ne',nf,dd⟩
 ·by_cases hb:b=d
  ·subst hb;rw[aB]at q;cases q;exact hok
  ·rw[aC hb]at q;exact(I.hok b u q).stay (fun _ _ _ z=>z) (fun c z=>up c _ z fun _ _ z=>by cases z) fun c xs z=>up c _ z fun _ _ z=>by cases z
def aAM (t:TE):TE:=fun σ H Q=>∃ d kvs,H d=some (.dK kvs)/\t σ H fun v H'=>∃ od,H' d=some (.frz od (.dK kvs))/\Q v (upd H' d (.dK kvs))
theorem tI {X:Cx} {e:Expr} {t:TE} (h:PE X e t):PE X e (aAM t):=by
 intro pins s σ H Q I q;obtain⟨d,kvs,hd,q⟩:=q;have h0:∀ o u,X.H₀ d≠some (.frz o u):=fun o u z=>by
  have:=I.base.frzs d o u z;rw[hd]at this;cases this
 exact thn (h pins s σ H _ I q) fun u s1 ⟨v,H1,I1,rv,od,hf,q1⟩=>⟨v,_,I1.thaw hf h0,rv,q1⟩
open PySem.W
theorem tJ {P:Program} {w:World} {ks:List Int} {vs:List Value} (hl:vs.length=ks.length) (h:∀ (j:Nat) (v:Value),vs[j]?=some v->∃ k,ks[j]?=some k/\(bJ P w).is (Sum.inl k) v=true):IntsAre vs ks:=by
 induction vs generalizing ks with
 | nil=>cases ks with
  | nil=>exact .nil
  | cons _ _=>cases hl
 | cons v r ih=>cases ks with
  | nil=>cases hl
  | cons k ks =>
   obtain⟨k',h1,h2⟩:=h 0 v rfl;cases h1;rw[oI]at h2;rcases bV h2 with ⟨i,t,e1,e2⟩ | ⟨x,t,e1,e2⟩
   ·cases e1;subst e2;exact .cons _ _ (ih (by simpa using hl) fun j v e=>h (j+1) v e)
   ·cases e1
def vN (kvs:List (Key×V)) (ks:List Int):Prop:=kvs.map Prod.fst=ks.map Sum.inl
section
variable {X:Cx}
theorem lL (hc:X.calm=true):eS X (.builtin "sorted") (fun xs H Q=>∃ (a:Addr) (kvs:List (Key×V)) (ks:List Int),xs=[.ref a]/\H a=some (.dK kvs)/\vN kvs ks/\ks.length<64 /\
 ∀ (l:Addr) (ms:List Int),H l=none->ms.Perm ks->ms.Pairwise (·<=·)->Q (.ref l) (upd H l (.lst (ms.map V.int)))):=by
 intro pins s σ H xs us Q I r h;obtain⟨a,kvs,ks,rfl,ha,hk,h64,q⟩:=h;obtain⟨u,rfl,rx⟩:=iA r;cases rx;obtain⟨z,hsys,vs,rel,dd⟩:=pG I.hok ha;obtain⟨ep,hat⟩:=id dd.dictAt;have hlen:vs.length=ks.length:=by
  have e1:=rel.length;have e2:=congrArg List.length hk;simp at e2;omega
 have hbig:vs.length<=sizeLine:=Nat.le_trans (show vs.length<=64 by omega) (by decide);refine Calls.call_function_entry kind_sorted plain_sorted entry_sorted (args_sorted1 _) ?_;unfold Builtin.«sorted»;refine aAs (m:=checkCount "sorted" 1 1 _) (aAt ?_);refine aAs (kdu_collect (A:=X.A.in1) (kdl_dict (knd:=bJ X.prog X.w) (kvs:=vs) (ep:=ep) hsys) (I.ok.hd hc) hat hbig fun h' tk acc hk' hacc=>?_);have hl:acc.toList.length=vs.length:=by rw[Array.length_toList];exact hacc.1
 have hI:IntsAre acc.toList ks:=tJ (P:=X.prog) (w:=X.w) (by omega) fun j v e=>by
  obtain⟨k,x,h1,h2⟩:=hacc.2 j v (by rw[<- Array.getElem?_toList];exact e);have hj:j<vs.length:=(aB7.mp h1).1;have h3:(kvs.map Prod.fst)[j]?=some k:=by
   have hj':j<kvs.length:=by rw[rel.length];exact hj
   obtain⟨u,e1,e2⟩:=O0 rel (i:=j) (k:=(kvs[j]).1) (x:=(kvs[j]).2) (aBE hj');rw[h1]at e1;cases e1;simp[hj']
  rw[hk,aBT]at h3;obtain⟨n,h4,h5⟩:=aB6.mp h3;subst h5;exact⟨n,h4,h2⟩
 refine aAs (wpAny_newList ?_ (by omega));have e0:(h'.push (seqObj "list" acc.toList.toArray 0)).get? h'.objs.size=some (seqObj "list" acc.toList.toArray 0):=aBB _ rfl;have kp:∀ b o,h'.get? b=some o->(h'.push (seqObj "list" acc.toList.toArray 0)).get? b=some o:=fun b o e=>aAv _ e;have I':=I.kept (t':=tk) hk';have hlt2:h'.objs.size<(h'.push (seqObj "list" acc.toList.toArray 0)).objs.size:=by rw[size_push'];exact Nat.lt_succ_self _
 have hsz2:(h'.push (seqObj "list" acc.toList.toArray 0)).objs.size=h'.objs.size+1:=size_push' ..;show wpAny _ _ _ _ _ { s with heap:=h'.push (seqObj "list" acc.toList.toArray 0),toks:=tk };generalize h'.push (seqObj "list" acc.toList.toArray 0)=h2 at e0 kp hlt2 hsz2;refine aAs (wpAny_holding (wpAny_call_entry slot_list_sort ⟨_,e0,rfl⟩ entry_list_sort (list_sort_tree (s:={ s with heap:=h2,toks:=tk }) e0 hI (by omega) fun out ns' hI' hp hs=>⟨_,rfl,?_⟩) (args_list_sort _)));obtain⟨n0,at0⟩:=sortedHeap_at (out:=out) e0;have hn:H h'.objs.size=none:=I'.hok.fresh (Nat.le_refl _);refine aAt ⟨_,rfl,.ref h'.objs.size,_,I'.laid (t':=tk) (o:=.lst (ns'.map V.int)) (fun b o e=>?_) (Nat.le_refl _) ⟨?_,out.toList,n0,iB hI',at0⟩,rfl,q _ ns' hn hp hs⟩
 ·have hb:=aBA e;have hb':b<h'.objs.size:=hb;exact(sortedHeap_old (aBS hb') (by show b<h2.objs.size;rw[hsz2];exact Nat.lt_succ_of_lt hb')).trans (kp b o e)
 ·rw[aAu,hp.length_eq];exact Nat.le_trans (show ks.length<=64 by omega) (by decide)
end
end L2
namespace L2
open PySem PySem.Spec PyProof.Rows
def Itw (d:Addr) (od:Obj) (kvs:List (Key×V)):It :=
 ⟨fun i H=>H d=some (.frz od (.dK kvs))/\i<kvs.length,fun i H v H'=>H'=H/\∃ k,kvs[i]?=some (k,v),fun i H=>H d=some (.frz od (.dK kvs))/\kvs.length<=i⟩
theorem vO {P:Program} {w:World} {K:PySem.W.Frag} {tg:Expr} (d it:Addr) (od:Obj) (kvs:List (Key×V)) (vs:List (Key×Value)) (ep:Nat) (rel:KV kvs vs) (hat:∀ h:Heap,h.get? d=some od->h.DictAt (bJ P w) d vs ep) (hne:d≠it) :
 qS P w K tg (Itw d od kvs) [it] it (fun i h=>h.IsValIter it d i vs.length ep) where
 mem:=by simp
 obj:=fun i h st b hb=>by
  obtain⟨o,he,hc,hd⟩:=st;have z:b=it:=by simpa using hb
  subst z;exact⟨o,he,fun v z=>by rw[hd]at z;cases z⟩
 keep:=fun i h h' st k=>let ⟨o,he,r⟩:=st;⟨o,k it (by simp) _ he,r⟩
 item:=by
  intro X hP hw hK hc i pins s σ H E I hf st hg;subst hP hw hK;obtain⟨hd,hi⟩:=hg;obtain⟨⟨k,x⟩,hx⟩:∃ p,kvs[i]?=some p:=⟨kvs[i],by simp[hi]⟩;obtain⟨u,hu,ru⟩:=O0 rel hx;have hod:s.heap.get? d=some od:=(I.hok d _ hd).1;refine wpAny_pyNext_values_item st (hat _ hod) hu fun h' st' sb=>?_;obtain⟨o,e,c,dd⟩:=id st';exact⟨u,rfl,K6 (s:={ s with heap:=h' }) e c dd (by decide) ⟨x,H,I.turnedF (fp:=[it]) (t':=s.toks) (fun b o hb e=>sb.extBut b o (fun z=>hb (by simp[z])) e) hf,ru,⟨rfl,k,hx⟩,st',fun b hb=>(hf b hb).1⟩⟩
 done:=by
  intro X hP hw hK hc i pins s σ H E I hf st hg;subst hP hw hK;obtain⟨hd,hi⟩:=hg;have hod:s.heap.get? d=some od:=(I.hok d _ hd).1;have hl:=rel.length;exact wpAny_pyNext_values_end (I.ok.hd hc) st (hat _ hod) (by simp;omega) fun h' eb=>⟨rfl,I.turnedF (fp:=[it]) (t':=s.toks) (fun b o hb e=>eb b o (fun z=>hb (by simp[z])) e) hf⟩
 self:=fun _ _ _ _ _ st h=>wpAny_pyIter_valiter st h
def W9 (td:TE):TI:=fun σ H R=>td σ H fun x H1=>∃ d kvs,x=.ref d/\H1 d=some (.dK kvs)/\∀ od,R (Itw d od kvs) (upd H1 d (.frz od (.dK kvs)))
theorem D8 {X:Cx} {tg:Expr} {o:Expr} {td:TE} {apos pos:Pos} (ho:PE X o td) (hbase:attributeBase o "values" X.env (eval o X.env)=eval o X.env:=by rfl) (hline:(apos.endLine == pos.line)=true:=by rfl) :
 PI X tg (.Call (.Attribute o "values" apos) [] [] pos) (W9 td):=by
 intro pins s σ H R I h;refine wpAny_Call_method0_late hbase hline (thn (ho pins s σ H _ I h) fun u s1 ⟨x,H1,I1,rx,d,kvs,ex,hd,q⟩=>?_);subst ex;obtain rfl:u=Value.ref d:=rx;obtain⟨z,hsys,vs,rel,dd⟩:=pG I1.hok hd;obtain⟨ep,hat⟩:=id dd.dictAt;obtain⟨od,hod,I2⟩:=I1.freezeD hd;obtain⟨t1,t2,_⟩:=xP I1 (.inl ⟨kvs,.inl hd⟩);refine⟨"dict","dict.values",PySem.F.plainAttrs_dict,PySem.F.slot_dict_values,PySem.F.type_dict_values,t1,t2,Calls.callWith_builtin rfl (PySem.evalArgs_none ?_)⟩;refine call_meetsIn PySem.F.slot_dict_values dd.typeIs PySem.F.entry_dict_values (PySem.F.args_dict_values_1 _) (meets_dict_values (bJ X.prog X.w) d hsys) ⟨⟨vs,dd⟩,?_⟩;have hv:(s1.heap.push { cls:=.type "dict_values",data:=.fields #[.ref d] }).IsValuesView s1.heap.objs.size d:=⟨_,aBB _ rfl,rfl,rfl⟩;have h1:(s1.heap.push { cls:=.type "dict_values",data:=.fields #[.ref d] }).get? d=some od:=aAv _ hod;have hat':∀ h:Heap,h.get? d=some od->h.DictAt (bJ X.prog X.w) d vs ep:=fun h e=>hat.at fun o q=>by rw[hod]at q;cases q;exact e
 refine wpAny_pyIter_values hv (hat' _ h1) ?_;generalize hob:({ cls:=.type "dict_valueiterator",data:=.fields #[.ref d,.int 0 0,.int vs.length 0,.int ep 0] }:Obj)=ob;have kp:∀ b o,s1.heap.get? b=some o->((s1.heap.push { cls:=.type "dict_values",data:=.fields #[.ref d] }).push ob).get? b=some o:=fun b o e=>aAv _ (aAv _ e);have hsz:(s1.heap.push { cls:=.type "dict_values",data:=.fields #[.ref d] }).objs.size=s1.heap.objs.size+1:=Heap.size_push ..;have I3:=I2.kept (t':=s1.toks) kp;have hge:s1.heap.objs.size<=(s1.heap.push { cls:=.type "dict_values",data:=.fields #[.ref d] }).objs.size:=by rw[hsz];exact Nat.le_succ _
 have hne:d≠(s1.heap.push { cls:=.type "dict_values",data:=.fields #[.ref d] }).objs.size:=fun z=>by
  have:=aBA hod;rw[z]at this;exact absurd this (Nat.not_lt.mpr hge)
 refine⟨_,[_],_,_,_,rfl,I3,vO d _ od kvs vs ep rel hat' hne,?_,fun b hb=>?_,q od⟩
 ·rw[<- hob];exact⟨_,aBB _ rfl,rfl,rfl⟩
 ·have z:b=(s1.heap.push { cls:=.type "dict_values",data:=.fields #[.ref d] }).objs.size:=by simpa using hb
  rw[z];exact I2.fpOk hge (I2.hok.fresh hge)
theorem vP {d:Addr} {od:Obj} {kvs:List (Key×V)} {σ0:St} {g:TG} {tt:TT} {te:TE} {H:Hp} {Q:VK} (Pv:Nat->List V->Hp->Prop) (h0:Pv 0 [] H) (hl:∀ i ys H,i<=kvs.length->Pv i ys H->H d=some (.frz od (.dK kvs))/\ys.length<sizeLine)
 (hs:∀ i k x ys H,kvs[i]?=some (k,x)->Pv i ys H->g x σ0 H fun σ2 H2=>tt σ2 H2 fun b H3=>if b=true then te σ2 H3 fun y H4=>Pv (i+1) (ys++[y]) H4 else Pv (i+1) ys H3) (hd:∀ ys H,Pv kvs.length ys H->∀ D,H D=none->Q (.ref D) (upd H D (.lst ys))) :
 oU (Itw d od kvs) σ0 g tt te Q H:=by
 refine⟨fun i m ys H=>m=kvs.length - i/\i<=kvs.length/\Pv i ys H,⟨kvs.length,by simp,Nat.zero_le _,h0⟩,?_⟩;rintro i m ys H ⟨rfl,hi,p⟩;obtain⟨q,hz⟩:=hl i ys H hi p;refine⟨hz,?_⟩
 by_cases hlt:i<kvs.length
 ·refine .inr ⟨⟨q,hlt⟩,Pv (i+1),fun ys' H' p'=>⟨kvs.length - (i+1),by omega,rfl,hlt,p'⟩,fun x H' y=>?_⟩;obtain⟨rfl,k,hx⟩:=y;exact hs i k x ys _ hx p
 ·have e:i=kvs.length:=by omega
  subst e;exact .inl ⟨⟨q,Nat.le_refl _⟩,hd ys H p⟩
theorem vQ (A:Around) (s:Shared) (a:Int) (t:Tok) (c:Int) (u:Tok) (prog:Program) (w:World) (E:Value->Shared->Prop) (Q:Value->Shared->Prop) (h:Q (.bool (decide (c<a))) s) :
 wpAny (model prog w) A (richCompare .Gt (.int a t) (.int c u)) Q E s :=
 (PyProof.Rows.gt_int h:wpAny (model prog w) A (compareOp .Gt (.int a t) (.int c u)) Q E s)
section
open PySem.SeqAt
open PySem.AutoSeq1 (wpAny_loadPart')
open PySem.MeetsSeq PySem.MeetsSeq2 PySem.MeetsSeq3
theorem X0 (l b:Addr) (p q:Int×Int) (k1 k2 m1 m2:Tok) (n n2:Nat) (dd dd2:Option Addr) (sl sl2:Array (Option Value)) :
 Meets (Builtin.«tuple.__gt__» ⟨[.ref l,.ref b],[]⟩)
  (fun _ R s=>s.heap.get? l=some { cls:=.type "tuple",dict:=dd,data:=.seq #[.int p.1 k1,.int p.2 k2] n,slots:=sl }/\s.heap.get? b=some { cls:=.type "tuple",dict:=dd2,data:=.seq #[.int q.1 m1,.int q.2 m2] n2,slots:=sl2 } /\
   R (.ok (.ret (.bool (plt q p)))) s) :=
 .of_wp fun prog w A R s h=>by
  obtain⟨hp,g,d,tk,os⟩:=s;obtain⟨hl,hb,h⟩:=h;have f2:=AutoSeq1.sub_tuple_tuple
  wp_walk using wpAny_loadPart' hl,wpAny_loadPart' hb,wpAny_forIn_list _ (fun rest b s'=>b.1=none/\s'=⟨hp,g,d,tk,os⟩/\(rest=[(Value.int p.1 k1,Value.int q.1 m1),(Value.int p.2 k2,Value.int q.2 m2)] \/
   (p.1=q.1/\rest=[(Value.int p.2 k2,Value.int q.2 m2)])\/(p.1=q.1/\p.2=q.2/\rest=[]))) _
  case turn =>
   rintro ⟨y,x⟩ rest b s' ⟨hb',rfl,hc⟩;rcases hc with hz | ⟨e1,hz⟩ | ⟨_,_,hz⟩
   ·injection hz with hyx hrest
    injection hyx with hy hx
    subst hy hx;obtain⟨e,he,hiff⟩:=HT.eqAt_int A.in1 ⟨hp,g,d,tk,os⟩ p.1 k1 q.1 m1;refine aAs (he prog w _ _ ?_);cases e with
    | true =>
     wp_walk
     exact⟨rfl,rfl,.inr (.inl ⟨hiff.mp rfl,hrest⟩)⟩
    | false =>
     have hne:p.1≠q.1:=fun z=>absurd (hiff.mpr z) aBH;have hri:=vQ A.in1 ⟨hp,g,d,tk,os⟩ p.1 k1 q.1 m1 prog w;have ev:plt q p=decide (q.1<p.1):=by rw[Bool.eq_iff_iff,dH];simp;omega
     rw[ev]at h
     wp_walk using hri
     exact⟨_,rfl,by simpa using h⟩
   ·injection hz with hyx hrest
    injection hyx with hy hx
    subst hy hx;obtain⟨e,he,hiff⟩:=HT.eqAt_int A.in1 ⟨hp,g,d,tk,os⟩ p.2 k2 q.2 m2;refine aAs (he prog w _ _ ?_);cases e with
    | true =>
     wp_walk
     exact⟨rfl,rfl,.inr (.inr ⟨e1,hiff.mp rfl,hrest⟩)⟩
    | false =>
     have hne:p.2≠q.2:=fun z=>absurd (hiff.mpr z) aBH;have hri:=vQ A.in1 ⟨hp,g,d,tk,os⟩ p.2 k2 q.2 m2 prog w;have ev:plt q p=decide (q.2<p.2):=by rw[Bool.eq_iff_iff,dH];simp;omega
     rw[ev]at h
     wp_walk using hri
     exact⟨_,rfl,by simpa using h⟩
   ·cases hz
  case fin =>
   rintro ⟨b1,b2⟩ s' ⟨hb',rfl,hc⟩;simp only at hb';subst hb';rcases hc with hz | ⟨_,hz⟩ | ⟨e1,e2,_⟩
   ·cases hz
   ·cases hz
   have ev:plt q p=false:=by rw[eJ];omega
   rw[ev]at h
   wp_walk
   exact⟨_,rfl,by simpa[Builtin.Tuple.tupleCompareSizes]using h⟩
  case h=>exact⟨rfl,rfl,.inl rfl⟩
end
section
variable {prog:Program} {w:World} {A:Around} {E:Value->Shared->Prop} {s:Shared}
theorem O2 {x y:Value} {p q:Int×Int} {Q:Value->Shared->Prop} (hx:PairV s.heap x p) (hy:PairV s.heap y q) (hu:A.units<cLine) (h:Q (.bool (plt q p)) s):wpAny (model prog w) A (richCompare .Gt x y) Q E s:=by
 obtain⟨t,⟨cls,dd,data,sl⟩,n,k1,k2,rfl,ho,hc,hd⟩:=hx;obtain⟨t',⟨cls2,dd2,data2,sl2⟩,n2,m1,m2,rfl,ho2,hc2,hd2⟩:=hy;simp only at hc hd hc2 hd2;subst hc hd hc2 hd2;exact richCompare_meets_room (op:=.Gt) ⟨_,ho,rfl⟩ ⟨_,ho2,rfl⟩ PySem.F.slot_tuple_gt PySem.F.entry_tuple_gt (PySem.F.args_tuple_gt_2 _ _) (X0 t t' p q k1 k2 m1 m2 n n2 dd dd2 sl sl2)
  ⟨ho,ho2,show Value.bool (plt q p)≠Value.notImplemented/\Q (.bool (plt q p)) s from ⟨(fun x=>nomatch x),h⟩⟩ hu
end
def Top (ps:List (Int×Int)) (i:Nat) (j:Nat):Prop:=j<i/\∀ k,k<i->plt (ps.getD j (0,0)) (ps.getD k (0,0))=false
theorem Top.keep {ps:List (Int×Int)} {i j:Nat} (h:Top ps i j) (g:plt (ps.getD j (0,0)) (ps.getD i (0,0))=false):Top ps (i+1) j:=⟨Nat.lt_succ_of_lt h.1,fun k hk=>by
 by_cases e:k=i
 ·rw[e];exact g
 ·exact h.2 k (by omega)⟩
theorem Top.take {ps:List (Int×Int)} {i j:Nat} (h:Top ps i j) (g:plt (ps.getD j (0,0)) (ps.getD i (0,0))=true):Top ps (i+1) i:=⟨Nat.lt_succ_self i,fun k hk=>by
 by_cases e:k=i
 ·rw[e,eJ];omega
 ·have h1:=h.2 k (by omega);rw[eJ]at h1 ⊢;rw[dH]at g;omega⟩
abbrev p9 (v:Value) (c:Nat):Obj:={ cls:=.type "list",dict:=none,data:=.seq #[v,v] c,slots:=#[] }
section
variable {prog:Program} {w:World} {A:Around} {R:Result->Shared->Prop} {l it S:Addr} {its:List Value} {ps:List (Int×Int)}
theorem PairV.at {h h':Heap} {v:Value} {p:Int×Int} (x:PairV h v p) (k:∀ t o,v=.ref t->h.get? t=some o->o.cls=.type "tuple"->h'.get? t=some o):PairV h' v p:=by
 obtain⟨t,o,n,k1,k2,e,ho,hc,hd⟩:=x;exact⟨t,o,n,k1,k2,e,k t o e ho hc,hc,hd⟩
theorem X1 (hh:A.handled=none) (hu:A.in1.units<cLine) (hlt:l≠it) (hiS:it≠S) (hlS:l≠S) :
 ∀ (k i:Nat) (s:Shared) (j:Nat) (c:Nat),its.length - i=k->i<=its.length->Top ps i j->s.heap.IsListIter it l i->s.heap.IsList l its.toArray->s.heap.get? S=some (p9 (its.getD j .none) c)->Paired (PairV s.heap) its ps ->
  (∀ h' tk j',(∀ x o,x≠it->x≠S->s.heap.get? x=some o->h'.get? x=some o)->Top ps its.length j'->R (.ok (.ret (its.getD j' .none))) { s with heap:=h',toks:=tk }) ->
  codeAny (model prog w) A (.builtin "max.loop" ⟨[.ref it,.none,.ref S],[]⟩) R s:=by
 have nm:(toString "max"++toString ".loop":String)="max.loop":=by decide
 intro k
 induction k with
 | zero =>
  intro i s j c hk hi ht st hl hS hP hR;have e:i=its.length:=by omega
  refine codeAny_builtin PySem.F.entry_max_loop (by
   rw[aBG PySem.F.plain_max_loop _];show wpAny _ A.in1 (seqItems? (Value.ref S) >>= _) _ _ s;refine aAs (wpAny_seqItems hS rfl ?_);show wpAny _ A.in1 (tryCatch (pyNext (Value.ref it)) _ >>= _) _ _ s;refine aAs (wpAny_tryCatch (wpAny_pyNext_list_end hh st hl (by simp;omega) fun h' eb=>?_));have hS':=eb S _ (Ne.symm hiS) hS;show wpAny _ A.in1 (updateSeq S (fun _=>#[]) >>= _) _ _ { s with heap:=h' };refine aAs (wpAny_updateSeq hS' rfl (aAs (wpAny_letGo (aAt ?_))));exact hR (h'.update S (Obj.mapSeq fun _=>#[])) s.toks j (fun x o h1 h2 e=>(aAz _ _ (Ne.symm h2)).trans (eb x o h1 e)) (e ▸ ht))
 | succ k ih =>
  intro i s j c hk hi ht st hl hS hP hR;have hi':i<its.length:=by omega
  have hj':j<its.length:=Nat.lt_trans ht.1 hi';have hx:its[i]?=some (its.getD i .none):=by simp[List.getD_eq_getElem?_getD,hi']
  refine codeAny_builtin PySem.F.entry_max_loop (by
   rw[aBG PySem.F.plain_max_loop _];show wpAny _ A.in1 (seqItems? (Value.ref S) >>= _) _ _ s;refine aAs (wpAny_seqItems hS rfl ?_);show wpAny _ A.in1 (tryCatch (pyNext (Value.ref it)) _ >>= _) _ _ s;refine aAs (wpAny_tryCatch (wpAny_pyNext_list_item st hl (x:=its.getD i .none) (by simpa using hx) fun h' st' sb=>?_));have hS':=sb.extBut S _ (Ne.symm hiS) hS;have hl':=hl.extBut sb.extBut hlt;have hit:∀ t o,s.heap.get? t=some o->o.cls=.type "tuple"->t≠it:=fun t o e c z=>by
    obtain⟨o',e',c',_⟩:=st;rw[z,e']at e;cases e;rw[c']at c;exact absurd c (by simp)
   have hnS:∀ t o,s.heap.get? t=some o->o.cls=.type "tuple"->t≠S:=fun t o e c z=>by
    rw[z,hS]at e;cases e;exact absurd c (by simp)
   have hP':Paired (PairV h') its ps:=Paired.mapP hP fun v p x=>x.at fun t o _ e c=>sb.extBut t o (hit t o e c) e;have pi:PairV h' (its.getD i .none) (ps.getD i (0,0)):=aW hP' hi';have pj:PairV h' (its.getD j .none) (ps.getD j (0,0)):=aW hP' hj';show wpAny _ A.in1 (tryCatch (holding [its.getD i .none,its.getD i .none] (richCompare .Gt (its.getD i .none) (its.getD j .none) >>= _)) _ >>= _) _ _ { s with heap:=h' };refine aAs (wpAny_tryCatch (wpAny_holding (aAs (O2 (s:={ s with heap:=h' }) pi pj hu ?_))));refine aAs (wpAny_holding (wpAny_truthy_bool (aAs (wpAny_letGo (aAt ?_)))));cases hb:plt (ps.getD j (0,0)) (ps.getD i (0,0))with
   | true =>
    simp only[if_true];refine aAs (wpAny_updateSeq hS' rfl (aAs (wpAny_letGo ?_)));rw[nm];obtain⟨c',e1⟩:∃ c',(h'.update S (Obj.mapSeq fun _=>#[its.getD i .none,its.getD i .none])).get? S=some (p9 (its.getD i .none) c'):=⟨_,aBN _ hS' rfl⟩;refine aAt ⟨plainId_quiet PySem.F.plain_max_loop _,ih (i+1) { s with heap:=h'.update S (Obj.mapSeq fun _=>#[its.getD i .none,its.getD i .none]) } i _ (by omega) hi' (ht.take hb) (st'.at fun o e=>(aAz _ _ (Ne.symm hiS)).trans e) (hl'.at fun o e=>(aAz _ _ (Ne.symm hlS)).trans e) e1 (Paired.mapP hP fun v p x=>x.at fun t o _ e c=>(aAz _ _ (Ne.symm (hnS t o e c))).trans (sb.extBut t o (hit t o e c) e)) fun h'' tk t' kp=>?_⟩;exact hR h'' tk t' (fun x o h1 h2 e=>kp x o h1 h2 ((aAz _ _ (Ne.symm h2)).trans (sb.extBut x o h1 e)))
   | false =>
    simp only[Bool.false_eq_true,if_false];refine aAs (wpAny_letGo ?_);rw[nm];refine aAt ⟨plainId_quiet PySem.F.plain_max_loop _,ih (i+1) { s with heap:=h' } j c (by omega) hi' (ht.keep hb) st' hl' hS' hP' fun h'' tk t' kp=>?_⟩;exact hR h'' tk t' (fun x o h1 h2 e=>kp x o h1 h2 (sb.extBut x o h1 e)))
theorem O3 (hh:A.handled=none) (hu:A.in1.units<cLine) (hlt:l≠it) (hiS:it≠S) (hlS:l≠S) {s:Shared} {c:Nat} (h0:0<its.length) (st:s.heap.IsListIter it l 0) (hl:s.heap.IsList l its.toArray)
 (hS:s.heap.get? S=some { cls:=.type "list",dict:=none,data:=.seq #[] c,slots:=#[] }) (hP:Paired (PairV s.heap) its ps)
 (hR:∀ h' tk j',(∀ x o,x≠it->x≠S->s.heap.get? x=some o->h'.get? x=some o)->Top ps its.length j'->R (.ok (.ret (its.getD j' .none))) { s with heap:=h',toks:=tk }) :
 codeAny (model prog w) A (.builtin "max.loop" ⟨[.ref it,.none,.ref S],[]⟩) R s:=by
 have nm:(toString "max"++toString ".loop":String)="max.loop":=by decide
 have hx:its[0]?=some (its.getD 0 .none):=by simp[List.getD_eq_getElem?_getD,h0]
 refine codeAny_builtin PySem.F.entry_max_loop (by
  rw[aBG PySem.F.plain_max_loop _];show wpAny _ A.in1 (seqItems? (Value.ref S) >>= _) _ _ s;refine aAs (wpAny_seqItems hS rfl ?_);show wpAny _ A.in1 (tryCatch (pyNext (Value.ref it)) _ >>= _) _ _ s;refine aAs (wpAny_tryCatch (wpAny_pyNext_list_item st hl (x:=its.getD 0 .none) (by simpa using hx) fun h' st' sb=>?_));have hS':=sb.extBut S _ (Ne.symm hiS) hS;have hl':=hl.extBut sb.extBut hlt;have hit:∀ t o,s.heap.get? t=some o->o.cls=.type "tuple"->t≠it:=fun t o e c z=>by
   obtain⟨o',e',c',_⟩:=st;rw[z,e']at e;cases e;rw[c']at c;exact absurd c (by simp)
  have hnS:∀ t o,s.heap.get? t=some o->o.cls=.type "tuple"->t≠S:=fun t o e c z=>by
   rw[z,hS]at e;cases e;exact absurd c (by simp)
  show wpAny _ A.in1 (updateSeq S (fun _=>#[its.getD 0 .none,its.getD 0 .none]) >>= _) _ _ { s with heap:=h' };refine aAs (wpAny_updateSeq hS' rfl ?_);rw[nm];obtain⟨c',e1⟩:∃ c',(h'.update S (Obj.mapSeq fun _=>#[its.getD 0 .none,its.getD 0 .none])).get? S=some (p9 (its.getD 0 .none) c'):=⟨_,aBN _ hS' rfl⟩;have t1:Top ps 1 0:=⟨by decide,fun k hk=>by
   have e:k=0:=by omega
   rw[e,eJ];omega⟩
  refine aAt ⟨plainId_quiet PySem.F.plain_max_loop _,X1 (ps:=ps) (its:=its) hh hu hlt hiS hlS _ 1 { s with heap:=h'.update S (Obj.mapSeq fun _=>#[its.getD 0 .none,its.getD 0 .none]) } 0 _ rfl h0 t1 (st'.at fun o e=>(aAz _ _ (Ne.symm hiS)).trans e) (hl'.at fun o e=>(aAz _ _ (Ne.symm hlS)).trans e) e1 (Paired.mapP hP fun v p x=>x.at fun t o _ e c=>(aAz _ _ (Ne.symm (hnS t o e c))).trans (sb.extBut t o (hit t o e c) e)) fun h'' tk t' kp=>?_⟩;exact hR h'' tk t' (fun x o h1 h2 e=>kp x o h1 h2 ((aAz _ _ (Ne.symm h2)).trans (sb.extBut x o h1 e))))
theorem D9 (a:Value):argsOk "max" ⟨[a],[]⟩:=by unfold argsOk;kernel_rfl
theorem xR {E:Value->Shared->Prop} {s:Shared} {Q:Value->Shared->Prop} (hh:A.handled=none) (hu:A.in1.in1.units<cLine) (hl:s.heap.IsList l its.toArray) (h0:0<its.length) (hP:Paired (PairV s.heap) its ps)
 (h:∀ h' tk j,(∀ x o,s.heap.get? x=some o->h'.get? x=some o)->Top ps its.length j->Q (its.getD j .none) { s with heap:=h',toks:=tk }):wpAny (model prog w) A (call (.builtin "max") [.ref l]) Q E s:=by
 have nm:(toString "max"++toString ".loop":String)="max.loop":=by decide
 refine kmk_tree PySem.F.kind_max PySem.F.plain_max PySem.F.entry_max (D9 _) (by
  show wpAny _ A.in1 (Builtin.Builtins.bindParams "max" ["key","default"] 0 ⟨[],[]⟩ >>= _) _ _ s;refine aAs (wpAny_of_eq (show Builtin.Builtins.bindParams "max" ["key","default"] 0 ⟨[],[]⟩=pure [none,none] from rfl) (aAs (aAt ?_)));refine aAs (wpAny_pyIter_list hl ?_);refine aAs (wpAny_newObj_type ?_);rw[nm];have hlt:l<s.heap.objs.size:=by obtain⟨_,e,_⟩:=hl;exact aBA e
  refine aAt ⟨plainId_quiet PySem.F.plain_max_loop _,O3 (l:=l) (it:=s.heap.objs.size) (its:=its) (ps:=ps) hh (by first | exact hu | (simp at hu ⊢;omega)) (aBS hlt) (by rw[Heap.size_push];exact aBS (Nat.lt_succ_self _)) (by rw[Heap.size_push];exact aBS (Nat.lt_succ_of_lt hlt)) h0 ⟨_,aAv _ (aBB _ rfl),rfl,rfl⟩ ((hl.push _).push _) (aBB _ rfl) (Paired.mapP hP fun v p x=>x.at fun t o _ e _=>aAv _ (aAv _ e)) fun h' tk j kp ht=>?_⟩;refine h h' tk j (fun x o e=>?_) ht;have hx:=aBA e;exact kp x o (aBS hx) (by rw[Heap.size_push];exact aBS (Nat.lt_succ_of_lt hx)) (aAv _ (aAv _ e)))
end
section
variable {X:Cx} {pins:List (Addr×Obj)} {σ:St} {H:Hp} {s:Shared}
theorem jE (I:Inv X pins σ H s):∀ {us0:List V} {its:List Value} {ps:List (Int×Int)},Vals us0 its->CW.Prs H us0 ps->Paired (PairV s.heap) its ps:=by
 intro us0
 induction us0 with
 | nil=>intro its ps r p;cases r;cases p;exact .nil
 | cons x xs ih =>
  intro its ps r p;cases r with
  | cons r1 r2 =>
   cases p with
   | cons p1 p2 =>
    refine .cons ?_ (ih r2 p2);obtain⟨t,e,et⟩:=p1;subst e;cases r1;obtain⟨_,its',rv',o,ho,hc,n,hd⟩:=(show ObjOk X.prog X.w H s.heap t (.tup [.int _,.int _]) from I.hok t _ et);obtain⟨u1,u2,rfl,⟨k1,rfl⟩,⟨k2,rfl⟩⟩:=rv'.two;exact⟨t,o,n,k1,k2,rfl,ho,hc,hd⟩
theorem E1 (hc:X.calm=true) (hu:X.A.units+64<cLine):eS X (.builtin "max") (fun xs H Q=>∃ (a:Addr) (us:List V) (ps:List (Int×Int)),xs=[.ref a]/\H a=some (.lst us)/\CW.Prs H us ps/\us≠[] /\
 ∀ j x,Top ps ps.length j->us[j]?=some x->Q x H):=by
 intro pins s σ H xs us Q I r h;obtain⟨a,us0,ps,rfl,ha,pr,hne,q⟩:=h;obtain⟨u,rfl,rx⟩:=iA r;cases rx;obtain⟨its,rv,pl,hz⟩:=I.list (SqL.of ha);have l1:us0.length=ps.length:=Paired.length pr;have l2:us0.length=its.length:=rv.length;have h0:0<its.length:=by rw[<- l2];exact List.length_pos_iff.mpr hne
 refine xR (I.ok.hd hc) (by simp only[Around.in1_units];omega) pl.isList h0 (jE I rv pr) fun h' tk j kp ht=>?_;have hj:j<us0.length:=by rw[l2];exact ht.1
 have hx:us0[j]?=some us0[j]:=aBE hj;obtain⟨v,hv,rv'⟩:=rv.get hx;refine⟨us0[j],H,I.kept kp,?_,q j us0[j] (by rw[<- l1,l2];exact ht) hx⟩;rw[List.getD_eq_getElem?_getD,hv];exact rv'
end
theorem E2 {X:Cx} {a:Expr} {ta:TE} (ha:PE X a ta) (he:∀ whole,isTrue a X.env whole=(do let v <- whole;standAt a.pos;holding [v] (truthy v))) :
 PT X a (fun σ H Q=>ta σ H fun x H'=>∃ d kvs,x=.ref d/\H' d=some (.dK kvs)/\Q (!kvs.isEmpty) H'):=by
 intro pins s σ H Q I h;refine isTrue_plain (thn (ha pins s σ H _ I h) fun v s1 ⟨x,H1,I1,r1,d,kvs,ex,hd,q1⟩=>?_) (he _);subst ex;obtain rfl:v=Value.ref d:=r1;exact W5 I1 (.inl hd) fun s' I'=>⟨H1,I',q1⟩
end L2
namespace CW
open PySem L2
def StayG (d:Addr) (gs:List Grp) (H H':Hp):Prop:=∀ b o,b≠d->(∀ g∈gs,b≠g.2.1)->H b=some o->H' b=some o
def pops (k:Int) (gs:List Grp):List Grp:=gs.map fun g=>if g.1=k then (g.1,g.2.1,g.2.2.dropLast)else g
def outs (k:Int) (gs:List Grp):List Grp:=gs.filter fun g=>decide (g.1≠k)
theorem O4 (k:Int) (gs:List Grp):kvG (pops k gs)=kvG gs:=by
 unfold kvG pops;rw[aBZ];refine List.map_congr_left fun g _=>?_;simp only[Function.comp];split <;> rfl
theorem O5 (k:Int) (gs:List Grp):(pops k gs).map (·.2.1)=gs.map (·.2.1):=by
 unfold pops;rw[aBZ];refine List.map_congr_left fun g _=>?_;simp only[Function.comp];split <;> rfl
theorem jF (k:Int) (gs:List Grp):(pops k gs).map (·.1)=gs.map (·.1):=by
 unfold pops;rw[aBZ];refine List.map_congr_left fun g _=>?_;simp only[Function.comp];split <;> rfl
theorem lM {k:Int} {gs:List Grp} {g':Grp} (h:g'∈pops k gs):∃ g∈gs,g'.2.1=g.2.1/\g'.1=g.1/\g'.2.2=if g.1=k then g.2.2.dropLast else g.2.2:=by
 obtain⟨g,hg,rfl⟩:=aBa.mp h;refine⟨g,hg,?_⟩
 by_cases hk:g.1=k
 ·rw[if_pos hk,if_pos hk];exact⟨rfl,rfl,rfl⟩
 ·rw[if_neg hk,if_neg hk];exact⟨rfl,rfl,rfl⟩
theorem DG.pops {H:Hp} {d:Addr} {gs:List Grp} (dg:DG H d gs) {g:Grp} (hg:g∈gs):DG (upd H g.2.1 (.lst (g.2.2.dropLast.map V.int))) d (pops g.1 gs):=by
 have hnd:d≠g.2.1:=fH dg.at_ (dg.lst g hg) (by intro z;cases z);refine⟨by rw[O4,aC hnd];exact dg.at_,fun g' hg'=>?_,by rw[O5];exact dg.adr,by rw[jF];exact dg.key⟩;obtain⟨g0,h0,e1,e2,e3⟩:=lM hg';rw[e1,e3]
 by_cases ha:g0.2.1=g.2.1
 ·have:g0=g:=cB (f:=fun g:Grp=>g.2.1) dg.adr h0 hg ha;subst this;rw[aB,if_pos rfl]
 ·have hk:g0.1≠g.1:=fun e=>ha (by rw[cB (f:=fun g:Grp=>g.1) dg.key h0 hg e]);rw[aC ha,if_neg hk];exact dg.lst g0 h0
theorem O6 (k:Int):∀ gs:List Grp,nE (kvG gs) (Sum.inl k:Key)=kvG (outs k gs):=by
 intro gs;unfold nE kvG outs;rw[List.filter_map]
 congr 1
 refine List.filter_congr fun g _=>?_;simp only[Function.comp,ne_eq,Sum.inl.injEq]
theorem DG.outs {H:Hp} {d:Addr} {gs:List Grp} (dg:DG H d gs) (k:Int):DG (upd H d (.dK (nE (kvG gs) (Sum.inl k:Key)))) d (outs k gs):=by
 refine⟨by rw[aB,O6],fun g hg=>?_,?_,?_⟩
 ·have hm:=(aBb.mp hg).1;rw[aC (fH (dg.lst g hm) dg.at_ (by intro z;cases z))];exact dg.lst g hm
 ·exact dg.adr.sublist (List.filter_sublist.map _)
 ·exact dg.key.sublist (List.filter_sublist.map _)
theorem lN {gs:List Grp} {g:Grp} (hk:(gs.map (·.1)).Nodup) (hg:g∈gs):gs.find? (fun x=>decide (x.1=g.1))=some g:=by
 cases h:gs.find? (fun x=>decide (x.1=g.1))with
 | none=>exact absurd (List.find?_eq_none.mp h g hg) (by simp)
 | some x =>
  have h1:=List.mem_of_find?_eq_some h;have h2:x.1=g.1:=by simpa using List.find?_some h
  rw[cB (f:=fun g:Grp=>g.1) hk h1 hg h2]
theorem DG.get {H:Hp} {d:Addr} {gs:List Grp} (dg:DG H d gs) {g:Grp} (hg:g∈gs):DGet H d (.int g.1) (some (.ref g.2.1)):=by
 have h:=DGet.k (k:=(Sum.inl g.1:Key)) dg.at_;rw[eK,lN dg.key hg]at h;exact h
def shr (k:Int) (gs:List Grp):List Grp:=if (pops k gs).any (fun g=>decide (g.1=k) && g.2.2.isEmpty)then outs k (pops k gs)else pops k gs
section
variable {P:Program} {w:World} {K:PySem.W.Frag} {mg:Str->Option Value} {base:Heap}
inductive lO (vs:List V) (H:Hp) (Q:VK) (E_:XK):Prop
 | mk (d:Addr) (gs:List Grp) (j:Int) (h0_:vs=[.ref d,.int j]) (h1_:DG H d gs) (h2_:gs.length<=60) (h3_:(∀ g∈gs,g.2.2.length<=60)) (h4_:∀ H',Same H H'->Q (.int (2 * wgt (fU j) gs)) H'):lO vs H Q E_
inductive gF (vs:List V) (H:Hp) (Q:VK) (E_:XK):Prop
 | mk (d:Addr) (gs:List Grp) (g:Grp) (h0_:vs=[.ref d,.int g.1]) (h1_:DG H d gs) (h2_:g∈gs) (h3_:g.2.2≠[]) (h4_:∀ H',StayG d gs H H'->DG H' d (shr g.1 gs)->Q .non H'):gF vs H Q E_
end
def GoodG (gs:List Grp):Prop:=∀ g∈gs,1<=g.1/\g.2.2≠[]
def sto (gs:List Grp):Int:=wgt (fun k=>k) gs
theorem cA (f:Int->Int) (g:Grp) (r:List Grp):wgt f (g :: r)=f g.1 * (g.2.2.length:Int)+wgt f r:=by simp[wgt]
theorem GoodG.tail {g:Grp} {r:List Grp} (h:GoodG (g :: r)):GoodG r:=fun x hx=>h x (aAx _ hx)
theorem GoodG.one {g:Grp} {r:List Grp} (h:GoodG (g :: r)):(g.2.2.length:Int)<=g.1 * (g.2.2.length:Int)/\1<=(g.2.2.length:Int):=by
 obtain⟨h1,h2⟩:=h g aAw;have h3:0<g.2.2.length:=List.length_pos_iff.mpr h2;refine⟨?_,by omega⟩;have:=Int.mul_le_mul_of_nonneg_right h1 (show (0:Int)<=(g.2.2.length:Int)by omega);omega
theorem GoodG.bound:∀ {gs:List Grp},GoodG gs->(gs.length:Int)<=sto gs/\∀ g∈gs,(g.2.2.length:Int)<=sto gs
 | [],_=>⟨Int.le_refl _,fun g hg=>(nomatch hg)⟩
 | g :: r,h=>by
  obtain⟨a,b⟩:=GoodG.bound h.tail;obtain⟨c,d⟩:=h.one;unfold sto at a b ⊢;rw[cA];refine⟨by simp only[aBY];omega,fun x hx=>?_⟩;rcases aB8.mp hx with e | hx
  ·rw[e];omega
  ·have:=b x hx;omega
theorem mP {k:Int}:∀ {gs:List Grp},(∀ g∈gs,g.1≠k)->pops k gs=gs
 | [],_=>rfl
 | g :: r,h=>by
  have h1:=h g aAw;show (if g.1=k then (g.1,g.2.1,g.2.2.dropLast)else g) :: pops k r=g :: r;rw[if_neg h1,mP fun x hx=>h x (aAx _ hx)]
theorem pJ (f:Int->Int):∀ {gs:List Grp},(gs.map (·.1)).Nodup->∀ {g:Grp},g∈gs->g.2.2≠[]->wgt f (pops g.1 gs)=wgt f gs - f g.1
 | [],_,g,hg,_=>by cases hg
 | x :: r,hn,g,hg,hne=>by
  have hn':=List.nodup_cons.mp hn;have e0:pops g.1 (x :: r)=(if x.1=g.1 then (x.1,x.2.1,x.2.2.dropLast)else x) :: pops g.1 r:=rfl;rw[e0]
  by_cases h:x.1=g.1
  ·have hx:x=g:=cB (f:=fun g:Grp=>g.1) hn aAw hg h;subst hx;rw[if_pos rfl,mP fun y hy e=>hn'.1 (aBa.mpr ⟨y,hy,e⟩),cA,cA];have h3:0<x.2.2.length:=List.length_pos_iff.mpr hne;have h4:((x.2.2.dropLast.length:Nat):Int)=(x.2.2.length:Int) - 1:=by rw[List.length_dropLast];omega
   simp only[h4,Int.mul_sub,Int.mul_one];omega
  ·have hg':g∈r:=by
    rcases aB8.mp hg with e | e
    ·exact absurd (by rw[e]) h
    ·exact e
   rw[if_neg h,cA,cA,pJ f hn'.2 hg' hne];omega
theorem vR (f:Int->Int) {k:Int}:∀ {gs:List Grp},(∀ g∈gs,g.1=k->g.2.2=[])->wgt f (outs k gs)=wgt f gs
 | [],_=>rfl
 | g :: r,h=>by
  have ih:=vR f (k:=k) (gs:=r) fun x hx=>h x (aAx _ hx);unfold outs at ih ⊢;rw[List.filter_cons,cA]
  by_cases e:g.1=k
  ·have:=h g aAw e;rw[if_neg (by simp[e]),ih,this];simp
  ·rw[if_pos (by simp[e]),cA,ih]
theorem zO (f:Int->Int) {gs:List Grp} (hn:(gs.map (·.1)).Nodup) {g:Grp} (hg:g∈gs) (hne:g.2.2≠[]):wgt f (shr g.1 gs)=wgt f gs - f g.1:=by
 unfold shr;split
 ·next h =>
  obtain⟨x,hx,hp⟩:=List.any_eq_true.mp h;simp only[Bool.and_eq_true,decide_eq_true_eq,List.isEmpty_iff]at hp;rw[vR f fun y hy e=>?_,pJ f hn hg hne];have:y=x:=cB (f:=fun g:Grp=>g.1) (by rw[jF];exact hn) hy hx (e.trans hp.1.symm);rw[this];exact hp.2
 ·exact pJ f hn hg hne
theorem GoodG.shr {gs:List Grp} (h:GoodG gs) (k:Int):GoodG (shr k gs):=by
 have hp:∀ x∈pops k gs,1<=x.1/\(x.1≠k->x.2.2≠[]):=fun x hx=>by
  obtain⟨g,hg,e1,e2,e3⟩:=lM hx;obtain⟨h1,h2⟩:=h g hg;refine⟨by rw[e2];exact h1,fun n=>?_⟩;rw[e3,if_neg (by rw[<- e2];exact n)];exact h2
 intro x hx;unfold CW.shr at hx;split at hx
 ·obtain⟨h1,h2⟩:=aBb.mp hx;exact⟨(hp x h1).1,(hp x h1).2 (by simpa using h2)⟩
 ·next hn =>
  refine⟨(hp x hx).1,fun e=>?_⟩
  by_cases hk:x.1=k
  ·exact hn (List.any_eq_true.mpr ⟨x,hx,by simp[hk,e]⟩)
  ·exact(hp x hx).2 hk e
theorem zP {gs:List Grp} {k:Int} {x:Grp} (hx:x∈shr k gs):∃ g∈gs,x.2.1=g.2.1:=by
 unfold shr at hx;have hp:x∈pops k gs:=by
  split at hx
  ·exact(aBb.mp hx).1
  ·exact hx
 obtain⟨g,hg,e1,_⟩:=lM hp;exact⟨g,hg,e1⟩
def pK (H:Hp) (k o:Int) (gs gs':List Grp):Prop:=(∃ g∈gs,g.1=k)/\gs'=dZ k o gs\/(∀ g∈gs,g.1≠k)/\∃ z,H z=none/\gs'=gs++[(k,z,[o])]
theorem O7 (f:Int->Int) {H:Hp} {k o:Int} {gs gs':List Grp} (hn:(gs.map (·.1)).Nodup) (h:pK H k o gs gs'):wgt f gs'=wgt f gs+f k:=by
 rcases h with ⟨hg,rfl⟩ | ⟨_,z,_,rfl⟩
 ·exact vM f hn hg
 ·simp[wgt]
theorem GoodG.puts {H:Hp} {k o:Int} {gs gs':List Grp} (g:GoodG gs) (hk:1<=k) (h:pK H k o gs gs'):GoodG gs':=by
 rcases h with ⟨hg,rfl⟩ | ⟨_,z,_,rfl⟩
 ·intro x hx;obtain⟨g0,h0,rfl⟩:=aBa.mp hx;obtain⟨h1,h2⟩:=g g0 h0
  by_cases e:g0.1=k
  ·rw[if_pos e];exact⟨h1,by simp⟩
  ·rw[if_neg e];exact⟨h1,h2⟩
 ·intro x hx;rcases aB9.mp hx with hx | hx
  ·exact g x hx
  ·rw[aB1.mp hx];exact⟨hk,by simp⟩
theorem vS {H:Hp} {k o:Int} {gs gs':List Grp} (h:pK H k o gs gs') {x:Grp} (hx:x∈gs'):(∃ g∈gs,x.2.1=g.2.1)\/H x.2.1=none:=by
 rcases h with ⟨hg,rfl⟩ | ⟨_,z,hz,rfl⟩
 ·obtain⟨g0,h0,rfl⟩:=aBa.mp hx;refine .inl ⟨g0,h0,?_⟩;split <;> rfl
 ·rcases aB9.mp hx with hx | hx
  ·exact .inl ⟨x,hx,rfl⟩
  ·rw[aB1.mp hx];exact .inr hz
section
variable {P:Program} {w:World} {K:PySem.W.Frag} {mg:Str->Option Value} {base:Heap}
end
theorem StayG.same {H H1 H2:Hp} {d r:Addr} {gs:List Grp} (st:StayG d gs H1 H2) (sm:Same H H1) (hd:H d=none) (hfr:∀ g∈gs,H g.2.1=none/\g.2.1≠r):Same H H2:=fun b o e =>
 st b o (fun z=>by rw[z,hd]at e;cases e) (fun g hg z=>by rw[z,(hfr g hg).1]at e;cases e) (sm b o e)
end CW
namespace CW
abbrev Trs:=List (Int×Int)
def les (ps:Trs) (j:Int):Int:=(ps.map fun q=>min j q.1).sum
theorem X2 (j:Int):les [] j=0:=rfl
theorem aO (q:Int×Int) (ps:Trs) (j:Int):les (q :: ps) j=min j q.1+les ps j:=by simp[les]
theorem xS (ps qs:Trs) (j:Int):les (ps++qs) j=les ps j+les qs j:=by simp[les]
theorem aM {ps qs:Trs} (h:ps.Perm qs) (j:Int):les ps j=les qs j:=by
 unfold les
 induction h with
 | nil=>rfl
 | cons x _ ih=>simp only[aBU,aBX];omega
 | swap x y l=>simp only[aBU,aBX];omega
 | trans _ _ h1 h2=>exact h1.trans h2
def Bd (ps:Trs) (n:Int):Prop:=∀ q∈ps,1<=q.1/\q.2+2 * les ps q.1<=n
theorem Bd.perm {ps qs:Trs} {n:Int} (h:Bd ps n) (e:ps.Perm qs):Bd qs n:=fun q hq=>by
 have:=h q (e.mem_iff.mpr hq);rw[aM e]at this;exact this
theorem Bd.mono {ps:Trs} {n m:Int} (h:Bd ps n) (e:n<=m):Bd ps m:=fun q hq=>⟨(h q hq).1,Int.le_trans (h q hq).2 e⟩
def Add (ps:Trs) (p:Int) (qs:Trs):Prop:=∃ (s:Int) (rest:Trs),0<=s/\(s=0/\ps.Perm rest\/1<=s/\ps.Perm ((s,p - 1 - 2 * les ps s) :: rest))/\(∀ q∈ps,s<q.1->q.2+2 * les ps q.1≠p - 1)/\qs.Perm ((s+1,p - 2 * les rest (s+1) - 2 * (s+1)) :: rest)
theorem Add.perm {ps ps' qs qs':Trs} {p:Int} (h:Add ps p qs) (e:ps.Perm ps') (f:qs.Perm qs'):Add ps' p qs':=by
 obtain⟨s,rest,h0,h1,h2,h3⟩:=h;refine⟨s,rest,h0,?_,fun q hq hs=>?_,f.symm.trans h3⟩
 ·rcases h1 with ⟨a,b⟩ | ⟨a,b⟩
  ·exact .inl ⟨a,e.symm.trans b⟩
  ·refine .inr ⟨a,?_⟩;rw[<- aM e];exact e.symm.trans b
 ·rw[<- aM e];exact h2 q (e.mem_iff.mpr hq) hs
theorem Add.uniq {ps qs qs':Trs} {p:Int} (h:Add ps p qs) (h':Add ps p qs'):qs.Perm qs':=by
 obtain⟨s,rest,h0,h1,h2,h3⟩:=h;obtain⟨s',rest',h0',h1',h2',h3'⟩:=h';have hs:s=s':=by
  rcases h1 with ⟨a,b⟩ | ⟨a,b⟩ <;> rcases h1' with ⟨a',b'⟩ | ⟨a',b'⟩
  ·omega
  ·exact absurd (show (p - 1 - 2 * les ps s')+2 * les ps s'=p - 1 by omega) (h2 _ (b'.mem_iff.mpr aAw) (show s<s' by omega))
  ·exact absurd (show (p - 1 - 2 * les ps s)+2 * les ps s=p - 1 by omega) (h2' _ (b.mem_iff.mpr aAw) (show s'<s by omega))
  ·rcases Int.lt_trichotomy s s' with l | l | l
   ·exact absurd (show (p - 1 - 2 * les ps s')+2 * les ps s'=p - 1 by omega) (h2 _ (b'.mem_iff.mpr aAw) l)
   ·exact l
   ·exact absurd (show (p - 1 - 2 * les ps s)+2 * les ps s=p - 1 by omega) (h2' _ (b.mem_iff.mpr aAw) l)
 subst hs;have hr:rest.Perm rest':=by
  rcases h1 with ⟨a,b⟩ | ⟨a,b⟩ <;> rcases h1' with ⟨a',b'⟩ | ⟨a',b'⟩
  ·exact b.symm.trans b'
  ·omega
  ·omega
  ·exact List.Perm.cons_inv (b.symm.trans b')
 refine h3.trans (List.Perm.trans ?_ h3'.symm);rw[aM hr];exact hr.cons _
theorem Add.bd {ps qs:Trs} {p:Int} (h:Add ps p qs) (b:Bd ps (p - 1)):Bd qs p:=by
 obtain⟨s,rest,h0,h1,h2,h3⟩:=h;have hl:∀ j,1<=j->les qs j=les ps j+if s<j then 1 else 0:=fun j hj=>by
  rw[aM h3,aO];rcases h1 with ⟨a,b⟩ | ⟨a,b⟩
  ·rw[aM b];simp only;split <;> omega
  ·rw[aM b,aO];simp only;split <;> omega
 intro q hq;rcases aB8.mp (h3.mem_iff.mp hq)with rfl | hq
 ·refine⟨show 1<=s+1 by omega,?_⟩;have:les qs (s+1)=s+1+les rest (s+1):=by
   rw[aM h3,aO];simp only;omega
  show (p - 2 * les rest (s+1) - 2 * (s+1))+2 * les qs (s+1)<=p;omega
 ·have hm:q∈ps:=by
   rcases h1 with ⟨_,e⟩ | ⟨_,e⟩
   ·exact e.mem_iff.mpr hq
   ·exact e.mem_iff.mpr (aAx _ hq)
  obtain⟨b1,b2⟩:=b q hm;refine⟨b1,?_⟩;have:=h2 q hm;rw[hl q.1 b1];split <;> omega
def Tak (ps:Trs) (p:Int) (qs:Trs):Prop:=∃ (s:Int) (rest:Trs),1<=s/\ps.Perm ((s,p - 2 * les ps s) :: rest)/\(∀ q∈ps,q.2+2 * les ps q.1<=p)/\(∀ q∈ps,q.1<s->q.2+2 * les ps q.1<p) /\
 (s=1/\qs.Perm rest\/2<=s/\qs.Perm ((s - 1,p - 1 - 2 * les rest (s - 1) - 2 * (s - 1)) :: rest))
theorem Tak.add {ps qs:Trs} {p:Int} (h:Tak ps p qs) (hp:∀ q∈ps,1<=q.1):Bd qs (p - 1)/\Add qs p ps:=by
 obtain⟨s,rest,h0,h1,h2,h3,h4⟩:=h;have hl:∀ j,0<=j->les ps j=les qs j+if s<=j then 1 else 0:=fun j hj=>by
  rw[aM h1,aO];rcases h4 with ⟨a,b⟩ | ⟨a,b⟩
  ·rw[aM b];simp only;split <;> omega
  ·rw[aM b,aO];simp only;split <;> omega
 have hold:∀ q∈rest,1<=q.1/\q.2+2 * les qs q.1<=p - 1/\(s<=q.1->q.2+2 * les qs q.1<=p - 2):=fun q hq=>by
  have hm:q∈ps:=h1.mem_iff.mpr (aAx _ hq);have a1:=hp q hm;have a2:=h2 q hm;have a3:=h3 q hm;have a4:=hl q.1 (by omega);refine⟨a1,?_,fun hs=>?_⟩
  ·by_cases hs:s<=q.1
   ·rw[if_pos hs]at a4;omega
   ·rw[if_neg hs]at a4;have:=a3 (by omega);omega
  ·rw[if_pos hs]at a4;omega
 have hnew:2<=s->les qs (s - 1)=(s - 1)+les rest (s - 1):=fun h=>by
  rcases h4 with ⟨a,b⟩ | ⟨a,b⟩
  ·omega
  ·rw[aM b,aO];simp only;omega
 refine⟨fun q hq=>?_,s - 1,rest,by omega,?_,fun q hq hs=>?_,?_⟩
 ·rcases h4 with ⟨a,b⟩ | ⟨a,b⟩
  ·have:=hold q (b.mem_iff.mp hq);exact⟨this.1,this.2.1⟩
  ·rcases aB8.mp (b.mem_iff.mp hq)with rfl | hq
   ·refine⟨show 1<=s - 1 by omega,?_⟩;have:=hnew a;show (p - 1 - 2 * les rest (s - 1) - 2 * (s - 1))+2 * les qs (s - 1)<=p - 1;omega
   ·have:=hold q hq;exact⟨this.1,this.2.1⟩
 ·rcases h4 with ⟨a,b⟩ | ⟨a,b⟩
  ·exact .inl ⟨by omega,b⟩
  ·refine .inr ⟨by omega,?_⟩;have e:p - 1 - 2 * les qs (s - 1)=p - 1 - 2 * les rest (s - 1) - 2 * (s - 1):=by have:=hnew a;omega
   rw[e];exact b
 ·have hq':q∈rest:=by
   rcases h4 with ⟨a,b⟩ | ⟨a,b⟩
   ·exact b.mem_iff.mp hq
   ·rcases aB8.mp (b.mem_iff.mp hq)with rfl | hq
    ·exact absurd hs (by show ¬ (s - 1<s - 1);omega)
    ·exact hq
  have:=(hold q hq').2.2 (by omega);omega
 ·have e:s - 1+1=s:=by omega
  rw[e];have e2:p - 2 * les rest s - 2 * s=p - 2 * les ps s:=by rw[aM h1,aO];simp only;omega
  rw[e2];exact h1
theorem Add.tak {ps qs:Trs} {p:Int} (h:Add ps p qs) (b:Bd ps (p - 1)):Tak qs p ps:=by
 have hb:=h.bd b;obtain⟨s,rest,h0,h1,h2,h3⟩:=h;have hl:∀ j,0<=j->les qs j=les ps j+if s<j then 1 else 0:=fun j hj=>by
  rw[aM h3,aO];rcases h1 with ⟨a,b⟩ | ⟨a,b⟩
  ·rw[aM b];simp only;split <;> omega
  ·rw[aM b,aO];simp only;split <;> omega
 have e2:p - 2 * les qs (s+1)=p - 2 * les rest (s+1) - 2 * (s+1):=by rw[aM h3,aO];simp only;omega
 refine⟨s+1,rest,by omega,by rw[e2];exact h3,fun q hq=>(hb q hq).2,fun q hq hs=>?_,?_⟩
 ·rcases aB8.mp (h3.mem_iff.mp hq)with rfl | hq
  ·exact absurd hs (by show ¬ (s+1<s+1);omega)
  ·have hm:q∈ps:=by
    rcases h1 with ⟨_,e⟩ | ⟨_,e⟩
    ·exact e.mem_iff.mpr hq
    ·exact e.mem_iff.mpr (aAx _ hq)
   obtain⟨b1,b2⟩:=b q hm;have:=hl q.1 (by omega);rw[if_neg (by omega)]at this;omega
 ·rcases h1 with ⟨a,e⟩ | ⟨a,e⟩
  ·exact .inl ⟨by omega,e⟩
  ·refine .inr ⟨by omega,?_⟩;have e3:s+1 - 1=s:=by omega
   rw[e3];have e4:p - 1 - 2 * les rest s - 2 * s=p - 1 - 2 * les ps s:=by rw[aM e,aO];simp only;omega
   rw[e4];exact e
theorem Tak.uniq {ps ps' qs qs':Trs} {p p':Int} (h:Tak ps p qs) (h':Tak ps' p' qs') (e:ps.Perm ps'):p=p'/\qs.Perm qs':=by
 obtain⟨s,rest,h0,h1,h2,h3,h4⟩:=h;obtain⟨s',rest',h0',h1',h2',h3',h4'⟩:=h';have m1:(s,p - 2 * les ps s)∈ps:=h1.mem_iff.mpr aAw;have m2:(s',p' - 2 * les ps' s')∈ps':=h1'.mem_iff.mpr aAw;have a1:=h2' _ (e.mem_iff.mp m1);have a2:=h2 _ (e.mem_iff.mpr m2);have l1:=aM e s;have l2:=aM e s';simp only at a1 a2;have hp:p=p':=by omega
 subst hp;have b1:=h3' _ (e.mem_iff.mp m1);have b2:=h3 _ (e.mem_iff.mpr m2);simp only at b1 b2;have hs:s=s':=by
  rcases Int.lt_trichotomy s s' with l | l | l
  ·have:=b1 l;omega
  ·exact l
  ·have:=b2 l;omega
 subst hs;rw[<- l1]at h1';have hr:rest.Perm rest':=List.Perm.cons_inv ((h1.symm.trans e).trans h1');refine⟨rfl,?_⟩;rcases h4 with ⟨a,b⟩ | ⟨a,b⟩ <;> rcases h4' with ⟨a',b'⟩ | ⟨a',b'⟩
 ·exact b.trans (hr.trans b'.symm)
 ·omega
 ·omega
 ·refine b.trans (List.Perm.trans ?_ b'.symm);rw[aM hr];exact hr.cons _
inductive Lst:List Int->Trs->Prop
 | nil:Lst [] []
 | snoc {r:List Int} {ps:Trs} {p:Int} {qs:Trs}:Lst r ps->(∀ x∈r,x<p)->Add ps p qs->Lst (r++[p]) qs
theorem Add.ne {ps qs:Trs} {p:Int} (h:Add ps p qs):qs≠[]:=by
 obtain⟨s,rest,_,_,_,h3⟩:=h;intro e;rw[e]at h3;exact absurd h3.symm.eq_nil (by simp)
theorem Lst.perm {r:List Int} {ps qs:Trs} (h:Lst r ps) (e:ps.Perm qs):Lst r qs:=by
 cases h with
 | nil=>rw[e.symm.eq_nil];exact .nil
 | snoc a b c=>exact .snoc a b (c.perm (.refl _) e)
theorem Lst.inv {r:List Int} {p:Int} {qs:Trs} (h:Lst (r++[p]) qs):∃ ps,Lst r ps/\(∀ x∈r,x<p)/\Add ps p qs:=by
 generalize e:r++[p]=t at h;cases h with
 | nil=>simp at e
 | snoc a b c =>
  obtain⟨rfl,e2⟩:=List.append_inj' e rfl;obtain rfl:p=_:=by simpa using e2
  exact⟨_,a,b,c⟩
theorem Lst.nilr {qs:Trs} (h:Lst [] qs):qs=[]:=by
 generalize e:([]:List Int)=t at h;cases h with
 | nil=>rfl
 | snoc a b c=>simp at e
theorem Lst.bd {r:List Int} {ps:Trs} (h:Lst r ps) {n:Int}:(∀ x∈r,x<=n)->Bd ps n:=by
 induction h generalizing n with
 | nil=>intro _ q hq;cases hq
 | snoc a b c ih =>
  intro hn
  rename_i r ps p qs
  have hp:p<=n:=hn p (by simp);have:=ih (n:=p - 1) fun x hx=>by have:=b x hx;omega
  exact(c.bd this).mono hp
theorem Lst.uniq {r:List Int} {ps qs:Trs} (h:Lst r ps) (h':Lst r qs):ps.Perm qs:=by
 induction h generalizing qs with
 | nil=>rw[h'.nilr]
 | snoc a b c ih =>
  obtain⟨ps',a',b',c'⟩:=h'.inv;exact(c.perm (ih a') (.refl _)).uniq c'
theorem Lst.row {r:List Int} {ps:Trs} (h:Lst r ps) {r':List Int} {qs:Trs} (h':Lst r' qs) (e:ps.Perm qs):r=r':=by
 induction h generalizing r' qs with
 | nil =>
  cases h' with
  | nil=>rfl
  | snoc a b c=>exact absurd e.symm.eq_nil c.ne
 | snoc a b c ih =>
  cases h' with
  | nil=>exact absurd e.eq_nil c.ne
  | snoc a' b' c' =>
   rename_i r ps p qs r' ps' p'
   have bd:=a.bd (n:=p - 1) fun x hx=>by have:=b x hx;omega
   have bd':=a'.bd (n:=p' - 1) fun x hx=>by have:=b' x hx;omega
   obtain⟨rfl,e2⟩:=(c.tak bd).uniq (c'.tak bd') e;rw[ih a' e2]
theorem Lst.tak {r:List Int} {ps qs:Trs} {p:Int} (h:Lst r qs) (t:Tak ps p qs) (hp:∀ q∈ps,1<=q.1) (hr:∀ x∈r,x<p):Lst (r++[p]) ps:=.snoc h hr (t.add hp).2
def siz (ps:Trs):Int:=(ps.map (·.1)).sum
theorem iD {ps qs:Trs} (h:ps.Perm qs):siz ps=siz qs:=by
 unfold siz
 induction h with
 | nil=>rfl
 | cons x _ ih=>simp only[aBU,aBX];omega
 | swap x y l=>simp only[aBU,aBX];omega
 | trans _ _ h1 h2=>exact h1.trans h2
theorem gG (q:Int×Int) (ps:Trs):siz (q :: ps)=q.1+siz ps:=by simp[siz]
theorem Add.sizx {ps qs:Trs} {p:Int} (h:Add ps p qs):siz qs=siz ps+1:=by
 obtain⟨s,rest,h0,h1,h2,h3⟩:=h;rw[iD h3,gG];rcases h1 with ⟨a,b⟩ | ⟨a,b⟩
 ·rw[iD b];simp only;omega
 ·rw[iD b,gG];simp only;omega
theorem Lst.sizx {r:List Int} {ps:Trs} (h:Lst r ps):siz ps=(r.length:Int):=by
 induction h with
 | nil=>rfl
 | snoc a b c ih=>rw[c.sizx,ih];simp
theorem Lst.pos {r:List Int} {ps:Trs} (h:Lst r ps):∀ q∈ps,1<=q.1:=by
 obtain⟨n,hn⟩:∃ n:Int,∀ x∈r,x<=n:=by
  clear h
  induction r with
  | nil=>exact⟨0,fun x hx=>(nomatch hx)⟩
  | cons a r ih =>
   obtain⟨n,hn⟩:=ih;refine⟨max a n,fun x hx=>?_⟩;rcases aB8.mp hx with rfl | hx
   ·omega
   ·have:=hn x hx;omega
 exact fun q hq=>(h.bd hn q hq).1
end CW
namespace CW
open PySem L2
def bB (gs:List Grp):Trs:=gs.flatMap fun g=>g.2.2.map fun o=>(g.1,o)
theorem cG (g:Grp) (r:List Grp):bB (g :: r)=g.2.2.map (fun o=>(g.1,o))++bB r:=rfl
theorem vT (a b:List Grp):bB (a++b)=bB a++bB b:=by simp[bB]
theorem fK {gs:List Grp} {q:Int×Int}:q∈bB gs↔∃ g∈gs,g.1=q.1/\q.2∈g.2.2:=by
 unfold bB;rw[List.mem_flatMap]
 constructor
 ·rintro ⟨g,hg,h⟩;obtain⟨o,ho,rfl⟩:=aBa.mp h;exact⟨g,hg,rfl,ho⟩
 ·rintro ⟨g,hg,h1,h2⟩;exact⟨g,hg,aBa.mpr ⟨q.2,h2,by rw[h1]⟩⟩
theorem xT (f:Int->Int) (a b:Trs):tot f (a++b)=tot f a+tot f b:=by simp[tot]
theorem pL (f:Int->Int):∀ gs:List Grp,wgt f gs=tot f (bB gs)
 | []=>rfl
 | g :: r=>by
  rw[cA,cG,xT,pL f r]
  congr 1
  generalize g.2.2=l
  induction l with
  | nil=>simp[tot]
  | cons x l ih =>
   have:tot f ((x :: l).map fun o=>(g.1,o))=f g.1+tot f (l.map fun o=>(g.1,o)):=by simp[tot]
   rw[this,<- ih,aBY,show ((l.length+1:Nat):Int)=(l.length:Int)+1 by omega,Int.mul_add,Int.mul_one];omega
theorem lP (j k:Int):fU j k=min j k:=by unfold fU;split <;> omega
theorem vU (ps:Trs) (j:Int):tot (fU j) ps=les ps j:=by
 unfold tot les
 congr 1
 exact List.map_congr_left fun q _=>lP j q.1
theorem pM (ps:Trs) (j:Int):N2 ps j=les ps j:=vU ps j
theorem tK (gs:List Grp) (j:Int):wgt (fU j) gs=les (bB gs) j:=by rw[pL,vU]
theorem oE (gs:List Grp):sto gs=siz (bB gs):=pL _ gs
theorem rZ {k o:Int}:∀ {gs:List Grp},(gs.map (·.1)).Nodup->(∃ g∈gs,g.1=k)->(bB (dZ k o gs)).Perm ((k,o) :: bB gs)
 | [],_,⟨g,h,_⟩=>by cases h
 | g :: r,hn,hex=>by
  have hn':=List.nodup_cons.mp hn
  by_cases h:g.1=k
  ·have hr:dZ k o r=r:=mO fun x hx e=>hn'.1 (aBa.mpr ⟨x,hx,e.trans h.symm⟩);have:dZ k o (g :: r)=(g.1,g.2.1,g.2.2++[o]) :: r:=by
    show (if g.1=k then (g.1,g.2.1,g.2.2++[o])else g) :: dZ k o r=_;rw[if_pos h,hr]
   rw[this,cG,cG];simp only[aBJ,aBU,List.map_nil,List.append_assoc,h];exact List.perm_middle
  ·have hex':∃ g∈r,g.1=k:=by
    obtain⟨x,hx,e⟩:=hex;rcases aB8.mp hx with rfl | hx
    ·exact absurd e h
    ·exact⟨x,hx,e⟩
   have ih:=rZ (o:=o) hn'.2 hex';have:dZ k o (g :: r)=g :: dZ k o r:=by
    show (if g.1=k then (g.1,g.2.1,g.2.2++[o])else g) :: dZ k o r=_;rw[if_neg h]
   rw[this,cG,cG];exact(ih.append_left _).trans List.perm_middle
theorem fZ {H:Hp} {k o:Int} {gs gs':List Grp} (hn:(gs.map (·.1)).Nodup) (h:pK H k o gs gs'):(bB gs').Perm ((k,o) :: bB gs):=by
 rcases h with ⟨hg,rfl⟩ | ⟨_,z,_,rfl⟩
 ·exact rZ hn hg
 ·rw[vT];exact List.perm_append_comm
theorem mQ:∀ {gs:List Grp},(gs.map (·.1)).Nodup->∀ {g:Grp} (_:g∈gs) (hne:g.2.2≠[]),(bB gs).Perm ((g.1,g.2.2.getLast hne) :: bB (pops g.1 gs))
 | [],_,g,hg,_=>by cases hg
 | x :: r,hn,g,hg,hne=>by
  have hn':=List.nodup_cons.mp hn;have e0:pops g.1 (x :: r)=(if x.1=g.1 then (x.1,x.2.1,x.2.2.dropLast)else x) :: pops g.1 r:=rfl;rw[e0]
  by_cases h:x.1=g.1
  ·have hx:x=g:=cB (f:=fun g:Grp=>g.1) hn aAw hg h;subst hx;rw[if_pos rfl,mP fun y hy e=>hn'.1 (aBa.mpr ⟨y,hy,e⟩),cG,cG];have e1:x.2.2.map (fun o=>(x.1,o))=x.2.2.dropLast.map (fun o=>(x.1,o))++[(x.1,x.2.2.getLast hne)]:=by
    conv=>lhs;rw[<- List.dropLast_concat_getLast hne]
    rw[aBJ];rfl
   rw[e1,List.append_assoc];exact List.perm_middle
  ·have hg':g∈r:=by
    rcases aB8.mp hg with e | e
    ·exact absurd (by rw[e]) h
    ·exact e
   rw[if_neg h,cG,cG];exact((mQ hn'.2 hg' hne).append_left _).trans List.perm_middle
theorem sA {k:Int}:∀ {gs:List Grp},(∀ g∈gs,g.1=k->g.2.2=[])->bB (outs k gs)=bB gs
 | [],_=>rfl
 | g :: r,h=>by
  have ih:=sA (k:=k) (gs:=r) fun x hx=>h x (aAx _ hx);unfold outs at ih ⊢;rw[List.filter_cons,cG]
  by_cases e:g.1=k
  ·have:=h g aAw e;rw[if_neg (by simp[e]),ih,this];rfl
  ·rw[if_pos (by simp[e]),cG,ih]
theorem vV {gs:List Grp} (hn:(gs.map (·.1)).Nodup) {g:Grp} (hg:g∈gs) (hne:g.2.2≠[]):(bB gs).Perm ((g.1,g.2.2.getLast hne) :: bB (shr g.1 gs)):=by
 unfold shr;split
 ·next h =>
  obtain⟨x,hx,hp⟩:=List.any_eq_true.mp h;simp only[Bool.and_eq_true,decide_eq_true_eq,List.isEmpty_iff]at hp;rw[sA fun y hy e=>?_]
  ·exact mQ hn hg hne
  have:y=x:=cB (f:=fun g:Grp=>g.1) (by rw[jF];exact hn) hy hx (e.trans hp.1.symm);rw[this];exact hp.2
 ·exact mQ hn hg hne
def Asc (gs:List Grp):Prop:=∀ g∈gs,g.2.2.Pairwise (·<=·)
theorem Asc.last {gs:List Grp} (h:Asc gs) {g:Grp} (hg:g∈gs) (hne:g.2.2≠[]) {o:Int} (ho:o∈g.2.2):o<=g.2.2.getLast hne:=by
 have hp:=h g hg;rw[<- List.dropLast_concat_getLast hne]at ho hp;rcases aB9.mp ho with h1 | h1
 ·exact(List.pairwise_append.mp hp).2.2 o h1 _ (by simp)
 ·rw[aB1.mp h1];exact Int.le_refl _
theorem Asc.shr {gs:List Grp} (h:Asc gs) (k:Int):Asc (shr k gs):=by
 have hp:Asc (pops k gs):=fun x hx=>by
  obtain⟨g,hg,e1,e2,e3⟩:=lM hx;rw[e3];split
  ·exact(h g hg).sublist (List.dropLast_sublist _)
  ·exact h g hg
 intro x hx;unfold CW.shr at hx;split at hx
 ·exact hp x (aBb.mp hx).1
 ·exact hp x hx
theorem Asc.puts {H:Hp} {k o:Int} {gs gs':List Grp} (h:Asc gs) (hp:pK H k o gs gs') (hle:∀ q∈bB gs,q.1=k->q.2<=o):Asc gs':=by
 rcases hp with ⟨hg,rfl⟩ | ⟨_,z,_,rfl⟩
 ·intro x hx;obtain⟨g0,h0,rfl⟩:=aBa.mp hx
  by_cases e:g0.1=k
  ·rw[if_pos e];refine List.pairwise_append.mpr ⟨h g0 h0,by simp,fun a ha b hb=>?_⟩;rw[aB1.mp hb];exact hle (g0.1,a) (fK.mpr ⟨g0,h0,rfl,ha⟩) e
  ·rw[if_neg e];exact h g0 h0
 ·intro x hx;rcases aB9.mp hx with hx | hx
  ·exact h x hx
  ·rw[aB1.mp hx];simp
theorem tL {gs:List Grp} (k:Int) (h:(gs.map (·.1)).Nodup):((shr k gs).map (·.1)).Nodup:=by
 unfold shr;split
 ·exact(show ((pops k gs).map (·.1)).Nodup by rw[jF];exact h).sublist (List.filter_sublist.map _)
 ·rw[jF];exact h
theorem xU {H:Hp} {gs gs':List Grp} {p s:Int} (hn:(gs.map (·.1)).Nodup) (gd:GoodG gs) (ac:Asc gs) (bd:Bd (bB gs) (p - 1)) {gs1:List Grp}
 (hs:s=0/\gs1=gs\/1<=s/\∃ g∈gs,∃ hne:g.2.2≠[],g.1=s/\g.2.2.getLast hne=p - 1 - 2 * les (bB gs) s/\gs1=shr s gs)
 (htop:∀ g∈gs,∀ hne:g.2.2≠[],s<g.1->g.2.2.getLast hne≠p - 1 - 2 * les (bB gs) g.1)
 (hp:pK H (s+1) (p - 2 * les (bB gs1) (s+1) - 2 * (s+1)) gs1 gs'):Add (bB gs) p (bB gs')/\Asc gs'/\GoodG gs':=by
 have ha:Add (bB gs) p (bB gs'):=by
  refine⟨s,bB gs1,?_,?_,fun q hq hlt e=>?_,?_⟩
  ·rcases hs with h | h <;> omega
  ·rcases hs with ⟨h,rfl⟩ | ⟨h,g,hg,hne,e1,e2,rfl⟩
   ·exact .inl ⟨h,.refl _⟩
   ·refine .inr ⟨h,?_⟩;have:=vV hn hg hne;rw[e1,e2]at this;exact this
  ·obtain⟨g,hg,e1,e2⟩:=fK.mp hq;have hne:=(gd g hg).2;have h1:=ac.last hg hne e2;have h2:=(bd (g.1,g.2.2.getLast hne) (fK.mpr ⟨g,hg,rfl,List.getLast_mem hne⟩)).2;simp only at h2;rw[<- e1]at e hlt;exact htop g hg hne hlt (by omega)
  ·have hn1:(gs1.map (·.1)).Nodup:=by
    rcases hs with ⟨h,rfl⟩ | ⟨h,g,hg,hne,e1,e2,rfl⟩
    ·exact hn
    ·exact tL s hn
   exact fZ hn1 hp
 have hb:=ha.bd bd;have hn1:(gs1.map (·.1)).Nodup/\Asc gs1/\GoodG gs1:=by
  rcases hs with ⟨h,rfl⟩ | ⟨h,g,hg,hne,e1,e2,rfl⟩
  ·exact⟨hn,ac,gd⟩
  ·exact⟨tL s hn,ac.shr s,gd.shr s⟩
 have hfp:=fZ hn1.1 hp;refine⟨ha,hn1.2.1.puts hp fun q hq e=>?_,hn1.2.2.puts (by rcases hs with h | h <;> omega) hp⟩;have h1:=(hb q (hfp.mem_iff.mpr (aAx _ hq))).2;rw[aM hfp,aO,e]at h1;simp only at h1;omega
theorem pN {H:Hp} {gs gs':List Grp} {p:Int} (hn:(gs.map (·.1)).Nodup) (gd:GoodG gs) (ac:Asc gs) {g:Grp} (hg:g∈gs) (hne:g.2.2≠[]) (hp:g.2.2.getLast hne+2 * les (bB gs) g.1=p)
 (htop:∀ x∈gs,∀ hx:x.2.2≠[],x.2.2.getLast hx+2 * les (bB gs) x.1<=p/\(x.1<g.1->x.2.2.getLast hx+2 * les (bB gs) x.1<p))
 (hq:g.1=1/\gs'=shr g.1 gs\/2<=g.1/\pK H (g.1 - 1) (p - 1 - 2 * les (bB (shr g.1 gs)) (g.1 - 1) - 2 * (g.1 - 1)) (shr g.1 gs) gs'):Tak (bB gs) p (bB gs')/\Asc gs'/\GoodG gs':=by
 have hn1:=tL g.1 hn;have hfs:=vV hn hg hne;have hpos:∀ q∈bB gs,1<=q.1:=fun q hq=>by
  obtain⟨x,hx,e1,_⟩:=fK.mp hq;rw[<- e1];exact(gd x hx).1
 have hlast:g.2.2.getLast hne=p - 2 * les (bB gs) g.1:=by omega
 have ht:Tak (bB gs) p (bB gs'):=by
  refine⟨g.1,bB (shr g.1 gs),(gd g hg).1,by rw[<- hlast];exact hfs,fun q hq=>?_,fun q hq hl=>?_,?_⟩
  ·obtain⟨x,hx,e1,e2⟩:=fK.mp hq;have h1:=ac.last hx (gd x hx).2 e2;have h2:=(htop x hx (gd x hx).2).1;rw[<- e1];omega
  ·obtain⟨x,hx,e1,e2⟩:=fK.mp hq;have h1:=ac.last hx (gd x hx).2 e2;have h2:=(htop x hx (gd x hx).2).2 (by rw[e1];exact hl);rw[<- e1];omega
  ·rcases hq with ⟨h,rfl⟩ | ⟨h,h2⟩
   ·exact .inl ⟨h,.refl _⟩
   ·exact .inr ⟨h,fZ hn1 h2⟩
 refine⟨ht,?_⟩;obtain⟨hb,_⟩:=ht.add hpos;rcases hq with ⟨h,rfl⟩ | ⟨h,h2⟩
 ·exact⟨ac.shr _,gd.shr _⟩
 ·have hfp:=fZ hn1 h2;refine⟨(ac.shr _).puts h2 fun q hq e=>?_,(gd.shr _).puts (by omega) h2⟩;have h1:=(hb q (hfp.mem_iff.mpr (aAx _ hq))).2;rw[aM hfp,aO,e]at h1;simp only at h1;omega
def lng (b:Int) (gs:List Grp):Int:=wgt (fun k=>if b<k then 1 else 0) gs
theorem tM (f h:Int->Int):∀ gs:List Grp,wgt (fun k=>f k+h k) gs=wgt f gs+wgt h gs
 | []=>rfl
 | g :: r=>by
  rw[cA,cA,cA,tM f h r];have:(f g.1+h g.1) * (g.2.2.length:Int)=f g.1 * (g.2.2.length:Int)+h g.1 * (g.2.2.length:Int):=Int.add_mul ..;omega
theorem zQ (c:Int) (f:Int->Int):∀ gs:List Grp,wgt (fun k=>c * f k) gs=c * wgt f gs
 | []=>by simp[wgt]
 | g :: r=>by rw[cA,cA,zQ c f r,Int.mul_add,Int.mul_assoc]
theorem jZ {f h:Int->Int} {gs:List Grp} (e:∀ g∈gs,f g.1=h g.1):wgt f gs=wgt h gs:=by
 unfold wgt
 congr 1
 exact List.map_congr_left fun g hg=>by rw[e g hg]
theorem pO:∀ gs:List Grp,wgt (fun _=>0) gs=0
 | []=>rfl
 | g :: r=>by rw[cA,pO r];simp
theorem xV {gs:List Grp} {b m:Int} (hbm:b<=m) (h:∀ g∈gs,b<g.1->m<=g.1):wgt (fU m) gs=wgt (fU b) gs+(m - b) * lng b gs:=by
 unfold lng;rw[<- zQ,<- tM];refine jZ fun g hg=>?_;rw[lP,lP];have:=h g hg;split
 ·have:=this (by assumption);omega
 ·omega
theorem O8 {gs:List Grp} {b m:Int} (hbm:b<m) (h:∀ g∈gs,b<g.1->m<=g.1) (hn:(gs.map (·.1)).Nodup) {g:Grp} (hg:g∈gs) (hm:g.1=m):lng m gs=lng b gs - (g.2.2.length:Int):=by
 have h1:lng b gs=lng m gs+wgt (fun k=>if k=m then 1 else 0) gs:=by
  unfold lng;rw[<- tM];refine jZ fun x hx=>?_;have:=h x hx
  by_cases c:b<x.1
  ·have:=this c;rw[if_pos c]
   by_cases d:x.1=m
   ·rw[if_neg (by omega),if_pos d];omega
   ·rw[if_pos (by omega),if_neg d];omega
  ·rw[if_neg c,if_neg (by omega),if_neg (by omega)];omega
 have h2:wgt (fun k=>if k=m then 1 else 0) gs=(g.2.2.length:Int):=by
  clear h1 h
  induction gs with
  | nil=>cases hg
  | cons x r ih =>
   have hn':=List.nodup_cons.mp hn;rw[cA];rcases aB8.mp hg with e | e
   ·subst e;have:wgt (fun k=>if k=m then 1 else 0) r=0:=by
     have:wgt (fun k=>if k=m then 1 else 0) r=wgt (fun _=>0) r:=jZ fun y hy=>if_neg fun z=>hn'.1 (aBa.mpr ⟨y,hy,by show y.1=g.1;omega⟩);rw[this];exact pO r
    rw[this,if_pos hm];omega
   ·have hx:x.1≠m:=fun z=>hn'.1 (aBa.mpr ⟨g,e,by show g.1=x.1;omega⟩);rw[if_neg hx,ih hn'.2 e];omega
 omega
theorem O9 {gs:List Grp} (gd:GoodG gs):lng 0 gs=(gs.map (fun g:Grp=>(g.2.2.length:Int))).sum:=by
 unfold lng wgt
 congr 1
 exact List.map_congr_left fun g hg=>by show (if 0<g.1 then (1:Int)else 0) * _=_;rw[if_pos (by have:=(gd g hg).1;omega)];omega
theorem P0 {gs:List Grp} (gd:GoodG gs):wgt (fU 0) gs=0:=by
 have:wgt (fU 0) gs=wgt (fun _=>0) gs:=jZ fun g hg=>by rw[lP];have:=(gd g hg).1;omega
 rw[this];exact pO gs
end CW
namespace L2
open PySem PySem.Spec PyProof.Rows
def zR (J:It) (σ0:St) (g:TG) (tt:TT) (te:TE) (ys0:List V) (N:List V->Hp->Prop) (H1:Hp):Prop:=∃ W:Nat->Nat->List V->Hp->Prop,(∃ m,W 0 m ys0 H1)/\∀ i m ys H,W i m ys H ->
 ys.length<sizeLine/\((J.stop i H/\N ys H) \/
  (J.go i H/\∃ N':List V->Hp->Prop,(∀ ys' H',N' ys' H'->∃ m',m'<m/\W (i+1) m' ys' H')/\∀ x H',J.yld i H x H'->g x σ0 H' fun σ2 H2=>tt σ2 H2 fun b H3 =>
   if b=true then te σ2 H3 fun y H4=>N' (ys++[y]) H4 else N' ys H3))
def xW (J:It) (σ0:St) (g:TG) (tt:TT) (wi:TI) (g2:TG) (tt2:TT) (te:TE) (Q:VK) (H1:Hp):Prop:=∃ W:Nat->Nat->List V->Hp->Prop,(∃ m,W 0 m [] H1)/\∀ i m ys H,W i m ys H ->
 ys.length<sizeLine/\((J.stop i H/\∀ D,H D=none->Q (.ref D) (upd H D (.lst ys))) \/
  (J.go i H/\∃ N:List V->Hp->Prop,(∀ ys' H',N ys' H'->∃ m',m'<m/\W (i+1) m' ys' H')/\∀ x H',J.yld i H x H'->g x σ0 H' fun σ2 H2=>tt σ2 H2 fun b H3 =>
   if b=true then wi σ2 H3 fun J2 H4=>zR J2 σ2 g2 tt2 te ys N H4 else N ys H3))
def r6 (wi:TI) (nt:Nat) (js:List Nat) (g:TG) (tt:TT) (wi2:TI) (g2:TG) (tt2:TT) (te:TE):TE:=fun σ H Q=>wi σ H fun J H1=>xW J (sIn nt js σ) g tt wi2 g2 tt2 te Q H1
def GR (lo hi:Nat) (g:TG):Prop:=∀ v σ H Q,g v σ H Q->g v σ H fun σ' H'=>((∀ i,(i<lo\/hi<=i)->σ'[i]?=σ[i]?)/\σ'.length=σ.length)/\Q σ' H'
theorem X3 {lo hi i:Nat} (h:lo<=i) (h2:i<hi):GR lo hi (nB i):=fun v σ H Q q=>⟨⟨fun j hj=>by rw[List.getElem?_set_ne (by omega)],by simp⟩,q⟩
theorem nR (elt t1 i1 t2 i2:Expr) (f1 f2:List Expr) (scope:Scope) (pos:Pos) (it acc:Value) (env:Env) :
 compTurn (.ListComp elt [⟨t1,i1,f1,0⟩,⟨t2,i2,f2,0⟩] scope pos) 0 it acc env=(do
  standAt i1.pos
  match <- pyNext it with
  | none=>pure (.done .next)
  | some v =>
   letOwnedTupleGo t1 it v
   assign t1 env v
   let mut ok:=true
   for c in f1 do
    if ok then ok <- isTrue c env (eval c env)
   if ok then
    let x <- eval i2 env
    standAt i2.pos
    let x <- foldedSetIterable i2 env x
    let _ <- runOwn (.compStart (.ListComp elt [⟨t1,i1,f1,0⟩,⟨t2,i2,f2,0⟩] scope pos) 1 (<- holding [x] (pyIter x)) acc env) env
   again (.compLoop (.ListComp elt [⟨t1,i1,f1,0⟩,⟨t2,i2,f2,0⟩] scope pos) 0 it acc env)):=by rfl
theorem nS (elt t1 i1 t2 i2:Expr) (f1 f2:List Expr) (scope:Scope) (pos:Pos) (it acc:Value) (env:Env) :
 compTurn (.ListComp elt [⟨t1,i1,f1,0⟩,⟨t2,i2,f2,0⟩] scope pos) 1 it acc env=(do
  standAt i2.pos
  match <- pyNext it with
  | none=>pure (.done .next)
  | some v =>
   letOwnedTupleGo t2 it v
   assign t2 env v
   let mut ok:=true
   for c in f2 do
    if ok then ok <- isTrue c env (eval c env)
   if ok then
    (do let _ <- call (.builtin "list.append") [acc,<- eval elt env])
   again (.compLoop (.ListComp elt [⟨t1,i1,f1,0⟩,⟨t2,i2,f2,0⟩] scope pos) 1 it acc env)):=by rfl
theorem iE {prog:Program} {w:World} {A:Around} {R:Result->Shared->Prop} {s:Shared} {elt g1 target iter ifs rest scope pos it acc env}
 (h0:codeAny (model prog w) A (.compLoop (.ListComp elt (g1 :: ⟨target,iter,ifs,0⟩ :: rest) scope pos) 1 it acc env) R s)
 (h:wpAny (model prog w) A (pyIter it) (fun it' s'=>codeAny (model prog w) A (.compLoop (.ListComp elt (g1 :: ⟨target,iter,ifs,0⟩ :: rest) scope pos) 1 it' acc env) R s')
  (notedBy (model prog w) A env fun x s'=>R (.error x) s') s) :
 codeAny (model prog w) A (.compStart (.ListComp elt (g1 :: ⟨target,iter,ifs,0⟩ :: rest) scope pos) 1 it acc env) R s:=by
 refine codeAny_of_tree ?_;show wpAny _ _ ((compStart (.ListComp elt (g1 :: ⟨target,iter,ifs,0⟩ :: rest) scope pos) 1 it acc env).onRaise (fun x=>do noteFrame x env;standAt theWindowsPlace)) _ _ s;refine wpAny_notedAt ?_;unfold compStart;show wpAny _ _ (ask >>= _) _ _ s;refine aAs (wpAny_askSetting (wpAny_ite ?_));split
 ·first
   | exact aAs (aAt (aAt (And.intro rfl h0)))
   | exact aAt (And.intro rfl h0)
 ·first
   | exact aAs (wpAny_rule (aAs (wpAny_standAt (aAs (wpAny_mono h (fun it' s' h'=>aAt (And.intro rfl h')) fun _ _ x=>x)))))
   | (refine aAs (wpAny_rule ?_);show wpAny _ _ (standAt iter.pos >>= _) _ _ s;exact aAs (wpAny_standAt (aAs (wpAny_mono h (fun it' s' h'=>aAt (And.intro rfl h')) fun _ _ x=>x))))
theorem xX {X:Cx} {pl:List (Addr×Obj)} {σ:St} {elt t1 i1 tg iter:Expr} {f1 ifs:List Expr} {inn:Scope} {pos:Pos} {g:TG} {tt:TT} {te:TE} {lo hi:Nat} {J:It} {fp:List Addr} {it:Addr} {tn:Nat->Heap->Prop} {H2:Hp} {s2:Shared} {ys0:List V} {N:List V->Hp->Prop} {RR:Result->Shared->Prop} {D:Addr}
 (hcalm:X.calm=true) (hxe:X.xe=fun _ _=>False) (DX:D∈X.ex) (Dl:D≠X.env.locals) (hpl:∀ p∈X.pn++pl,p.1≠D) (hDf:D∉fp)
 (hgX:PG X tg g) (hk:GR lo hi g) (htX:PIf X ifs tt) (heX:PE X elt te) (hσ:∀ i v,lo<=i->i<hi->σ[i]?≠some (some v))
 (I2:Inv X pl σ H2 s2) (T:qS X.prog X.w X.K tg J fp it tn) (st2:tn 0 s2.heap) (f2:∀ b∈fp,gR X pl H2 b) (fD2:H2 D=none) {its0:List Value} {c0:Nat} (rv0:Vals ys0 its0) (eD0:s2.heap.get? D=some { cls:=.type "list",data:=.seq its0.toArray c0 })
 (R:zR J σ g tt te ys0 N H2)
 (hRR:∀ s' H' ys its c,Inv X pl σ H' s'->Vals ys its->s'.heap.get? D=some { cls:=.type "list",data:=.seq its.toArray c }->H' D=none->N ys H'->RR (.ok .next) s') :
 codeAny (model X.prog X.w) X.A (.compStart (.ListComp elt [⟨t1,i1,f1,0⟩,⟨tg,iter,ifs,0⟩] inn pos) 1 (.ref it) (.ref D) X.env) RR s2:=by
 have okX:=I2.ok;obtain⟨W,⟨m0,w0⟩,turn⟩:=R;have stat:∀ {H':Hp} {ql:List (Addr×Obj)},(∀ b∈fp,H' b=none)->(∀ p∈ql,p.1=D)->∀ b∈fp,gR X (pl++ql) H' b:=fun {H' ql} hn hql b hb=>by
  obtain⟨_,a1,a2,a3,a4,a5⟩:=f2 b hb;refine⟨hn b hb,a1,a2,a3,a4,fun p hp=>?_⟩;rw[<- List.append_assoc]at hp;rcases aB9.mp hp with hp | hp
  ·exact a5 p hp
  ·rw[hql p hp];intro e;exact hDf (e ▸ hb)
 have loop:codeAny (model X.prog X.w) X.A (.compLoop (.ListComp elt [⟨t1,i1,f1,0⟩,⟨tg,iter,ifs,0⟩] inn pos) 1 (.ref it) (.ref D) X.env) RR s2:=by
  refine codeAny_loop rfl (fun n s'=>∃ i ys H',Inv X pl σ H' s'/\tn i s'.heap/\(∀ b∈fp,H' b=none)/\H' D=none/\(∃ (its:List Value) (c:Nat),Vals ys its/\s'.heap.get? D=some { cls:=.type "list",data:=.seq its.toArray c })/\W i n ys H') ?_ m0
   ⟨0,ys0,H2,I2,st2,fun b hb=>(f2 b hb).1,fD2,⟨its0,c0,rv0,eD0⟩,w0⟩
  rintro n s5 ⟨i,ys,H5,I5,st5,fr5,fD5,⟨its,c,rv,eD⟩,w5⟩;show wpAny _ X.A ((compTurn (.ListComp elt [⟨t1,i1,f1,0⟩,⟨tg,iter,ifs,0⟩] inn pos) 1 (.ref it) (.ref D) X.env).onRaise (fun x=>do noteFrame x X.env;theTreesLotGoes x)) _ _ s5;refine wpAny_noted ?_;rw[nS];refine aAs (wpAny_standAt (aAs ?_));have pinD:Inv X (pl++bR [D] s5.heap) σ H5 s5:=by
   refine I5.pinned (fp:=[D]) (fun b hb=>?_) (fun b hb=>?_)
   ·have e:b=D:=by simpa using hb
    subst e;exact⟨fD5,Dl,fun z=>okX.exfs b DX z,.inl DX,(okX.exf b DX).2,hpl⟩
   ·have e:b=D:=by simpa using hb
    subst e;exact⟨_,eD,fun v z=>by cases z⟩
  have plD:∀ p∈bR [D] s5.heap,p.1=D:=fun p hp=>by simpa using (fY hp).1
  have memD:(D,({ cls:=.type "list",data:=.seq its.toArray c }:Obj))∈bR [D] s5.heap:=bH (by simp) eD;obtain⟨hz,tn5⟩:=turn i n ys H5 w5;rcases tn5 with ⟨stop,fin⟩ | ⟨go,N',hN,step⟩
  ·have q:=T.done X rfl rfl rfl hcalm i _ s5 _ H5 (notedBy (model X.prog X.w) X.A X.env fun e s'=>RR (.error e) s') pinD (stat fr5 plD) st5 stop;refine wpAny_mono q (fun r s6 ⟨hr,I6⟩=>?_) fun _ _ z=>z;subst hr;refine aAt ?_;have eD6:=(I6.pin (D,_) (aAy _ (aAy _ memD))).1;exact hRR s6 H5 ys its c (I6.pins_of fun p hp=>I6.pin p (aAy _ (aBO _ hp))) rv eD6 fD5 fin
  ·have q:=T.item X rfl rfl rfl hcalm i _ s5 _ H5 (notedBy (model X.prog X.w) X.A X.env fun e s'=>RR (.error e) s') pinD (stat fr5 plD) st5 go;refine wpAny_mono q (fun r s6 ⟨u,hr,h6⟩=>?_) fun _ _ z=>z;subst hr;refine aAs (wpAny_mono h6 (fun _ s7 ⟨x,H7,I7,r7,y7,st7,fr7⟩=>?_) fun _ _ z=>z);have I7':=I7.pinned (fp:=fp) (fun b hb=>stat fr7 plD b hb) (T.obj _ _ st7);have q8:=hgX _ s7 _ H7 x u _ I7' r7 (hk x _ H7 _ (step x H7 y7));rw[hxe]at q8;refine aAs (wpAny_mono q8 (fun _ s8 ⟨σ8,H8,I8,⟨k8,l8⟩,q8⟩=>?_) fun _ _ z=>z.elim);have q9:=htX _ s8 σ8 H8 _ I8 q8;rw[hxe]at q9;refine aAs (wpAny_mono q9 (fun ok s9 ⟨H9,I9,q9⟩=>?_) fun _ _ z=>z.elim);have keepσ:∀ (j:Nat) v,σ[j]?=some (some v)->σ8[j]?=some (some v):=fun j v e=>by
    by_cases hj:j<lo\/hi<=j
    ·rw[k8 j hj];exact e
    ·exact absurd e (hσ j v (by omega) (by omega))
   have ends:∀ {H9:Hp} {s9:Shared} {ys':List V},Inv X ((pl++bR [D] s5.heap)++bR fp s7.heap) σ8 H9 s9->∀ {h':Heap} {its':List Value} {c':Nat},(∀ b o,b≠D->s9.heap.get? b=some o->h'.get? b=some o)->Vals ys' its'->h'.get? D=some { cls:=.type "list",data:=.seq its'.toArray c' }->N' ys' H9 ->
    ∀ tk,∃ m,m<n/\∃ i ys H',Inv X pl σ H' { s9 with heap:=h',toks:=tk }/\tn i h'/\(∀ b∈fp,H' b=none)/\H' D=none/\(∃ (its:List Value) (c:Nat),Vals ys its/\h'.get? D=some { cls:=.type "list",data:=.seq its.toArray c })/\W i m ys H':=fun {H9 s9 ys'} I9 {h' its' c'} kp rv' eD' n9 tk=>by
    obtain⟨m',hm,w9⟩:=hN ys' H9 n9;have fD9:H9 D=none:=(I9.pin (D,_) (aAy _ (aBO _ (aAy _ memD)))).2.1;have fr9:∀ b∈fp,H9 b=none:=fun b hb=>by
     obtain⟨o,e,d⟩:=T.obj _ _ st7 b hb;exact(I9.pin (b,o) (aAy _ (aAy _ (bH hb e)))).2.1
    have I10:Inv X pl σ8 H9 s9:=I9.pins_of fun p hp=>I9.pin p (aAy _ (aBO _ (aBO _ hp)));have I11:Inv X pl σ8 H9 { s9 with heap:=h',toks:=tk }:=I10.turned (it:=D) kp fD9 Dl (.inl DX) (okX.exf D DX).2 hpl;refine⟨m',hm,i+1,ys',H9,I11.weak l8.symm keepσ,T.keep _ _ _ st7 fun b hb o e=>kp b o (fun z=>hDf (z ▸ hb)) (I9.pin (b,o) (aAy _ (aAy _ (bH hb e)))).1,fr9,fD9,⟨its',c',rv',eD'⟩,w9⟩
   cases ok with
   | false =>
    rw[if_neg aBH]at q9;have eD9:=(I9.pin (D,_) (aAy _ (aBO _ (aAy _ memD)))).1;exact aAt ⟨rfl,ends I9 (h':=s9.heap) (fun _ _ _ e=>e) rv eD9 q9 s9.toks⟩
   | true =>
    rw[if_pos rfl]at q9;have q10:=heX _ s9 σ8 H9 _ I9 q9;rw[hxe]at q10;refine aAs (aAs (wpAny_mono q10 (fun v s10 ⟨y,H10,I10,r10,q10⟩=>?_) fun _ _ z=>z.elim));have eD10:=(I10.pin (D,_) (aAy _ (aBO _ (aAy _ memD)))).1;have hlen:=rv.length;refine aAs (wpAny_list_append_plain (items:=its.toArray) ⟨c,eD10⟩ (fun h' hl hs=>aAt (aAt ⟨rfl,?_⟩)) (by rw[aBC];omega));obtain⟨c',e'⟩:=hl;have e'':h'.get? D=some { cls:=.type "list",data:=.seq (its++[v]).toArray c' }:=by rw[e'];simp
    exact ends I10 (h':=h') (fun b o hb e=>hs.extBut b o hb e) (rv.append (.cons r10 .nil)) e'' q10 s10.toks
 refine iE loop ?_;exact T.self X.A 0 _ _ _ st2 loop
section
variable {X:Cx} {pins:List (Addr×Obj)} {σ:St} {inn:Scope} {js:List Nat} {cs ts:List Str} {nt lo:Nat} {elt tg iter t2 i2:Expr} {ifs f2:List Expr} {pos:Pos} {g g2:TG} {tt tt2:TT} {te:TE} {wi wi2:TI}
theorem xY {J:It} {fp:List Addr} {it:Addr} {tn:Nat->Heap->Prop} {H2:Hp} {s2:Shared} {E:Value->Shared->Prop} {Q:VK} {RR:Value->Addr->Result->Shared->Prop}
 (hcalm:X.calm=true) (O:CompOk X.env.scope inn X.N js cs) (hts:ts.length=nt)
 (hlo:lo<=nt) (hg:∀ s₀ H₀ ex,PG (eU X inn (ts++cs) s₀ H₀ ex) tg g) (hk:GK lo g) (hi2:∀ s₀ H₀ ex,PI (eU X inn (ts++cs) s₀ H₀ ex) t2 i2 wi2) (hg2:∀ s₀ H₀ ex,PG (eU X inn (ts++cs) s₀ H₀ ex) t2 g2) (hk2:GR lo nt g2) (ht2:∀ s₀ H₀ ex,PIf (eU X inn (ts++cs) s₀ H₀ ex) f2 tt2) (hs2:∀ env x,foldedSetIterable i2 env x=pure x) (ht:∀ s₀ H₀ ex,PIf (eU X inn (ts++cs) s₀ H₀ ex) ifs tt) (he:∀ s₀ H₀ ex,PE (eU X inn (ts++cs) s₀ H₀ ex) elt te)
 (I2:Inv X pins σ H2 s2) (T:qS X.prog X.w X.K tg J fp it tn) (st2:tn 0 s2.heap) (fo:∀ b∈fp,gR X pins H2 b)
 (R:xW J (sIn nt js σ) g tt wi2 g2 tt2 te Q H2)
 (hRR:∀ D C s' H',Inv X pins σ H' s'->(∃ m,s'.heap.Ns C m)->H' C=none->C≠X.env.locals->X.s₀.heap.objs.size<=C->(∀ x c,X.env.cells.lookup x=some c->c≠C)->(∀ p∈X.pn++pins,p.1≠C)->Q (.ref D) H'->RR (.ref D) C (.ok .next) s') :
 wpAny (model X.prog X.w) X.A (newList []) (fun acc s₃=>wpAny (model X.prog X.w) X.A (newFunctionEnv inn X.env.globals (eT inn X.env) [] X.env.qual none .none (some X.env)) (fun cenv s₄ =>
  codeAny (model X.prog X.w) X.A (.compStart (.ListComp elt [⟨tg,iter,ifs,0⟩,⟨t2,i2,f2,0⟩] inn pos) 0 (.ref it) acc { cenv with scope:=relabel inn X.env }) (RR acc cenv.locals) s₄) E s₃) E s2:=by
 refine wpAny_newObj_type (wpAny_newFunctionEnv O.nocell (by intro y hy;simp at hy) (fun h₁ hns₁ hsb₁=>?_) O.kind);dsimp only at hns₁ hsb₁ ⊢;generalize hD:s2.heap.objs.size=D;have I3:Inv X pins σ H2 { s2 with heap:=s2.heap.push { cls:=.type "list",dict:=none,data:=.seq ([]:List Value).toArray } }:=I2.kept (t':=s2.toks) fun b o e=>aAv _ e;generalize hs3:({ s2 with heap:=s2.heap.push { cls:=.type "list",dict:=none,data:=.seq ([]:List Value).toArray } }:Shared)=s3 at I3;have e3:s3.heap=s2.heap.push { cls:=.type "list",dict:=none,data:=.seq ([]:List Value).toArray }:=by rw[<- hs3]
 have hD3:s3.heap.get? D=some { cls:=.type "list",dict:=none,data:=.seq ([]:List Value).toArray }:=by rw[e3,<- hD];exact aBB _ rfl
 have hsz3:s3.heap.objs.size=D+1:=by rw[e3,Heap.size_push,hD]
 have e3':(s2.heap.push { cls:=.type "list",dict:=none,data:=.seq ([]:List Value).toArray })=s3.heap:=e3.symm;rw[e3']at hns₁ hsb₁ ⊢;have fH2D:H2 D=none:=I2.hok.fresh (by rw[hD];exact Nat.le_refl _);have up:∀ b o,s3.heap.get? b=some o->h₁.get? b=some o:=fun b o e=>hsb₁.extBut b o (aBS (aBA e)) (aAv _ e);have fpo:∀ b∈fp,b<s3.heap.objs.size/\b≠D:=fun b hb=>by
  obtain⟨o,eo,_⟩:=T.obj 0 _ st2 b hb;have h1:=aBA eo;rw[hD]at h1;exact⟨by rw[hsz3];exact Nat.lt_succ_of_lt h1,aBS h1⟩
 have nb:∀ b,X.s₀.heap.objs.size<=b->∀ o,X.base.get? b≠some o:=fun b hb o e=>absurd (aBL (aBA e) (Nat.le_trans I2.ok.bsz hb)) (Nat.lt_irrefl _);have dge:s2.heap.objs.size<=D:=by rw[hD];exact Nat.le_refl _
 have fD:gR X pins H2 D:=I2.fpOk dge fH2D;have hex:∀ b∈D :: fp,b<s3.heap.objs.size/\b≠X.env.locals/\b∉X.fs/\(∀ x c,X.env.cells.lookup x=some c->c≠b)/\∀ o,X.base.get? b≠some o:=fun b hb=>by
  rcases aB8.mp hb with rfl | hb
  ·exact⟨by rw[hsz3];exact Nat.lt_succ_self _,fD.2.1,fD.2.2.1,fD.2.2.2.2.1,nb _ (Nat.le_trans I2.sz dge)⟩
  ·obtain⟨f0,f1,f2',f3,f4,f5⟩:=fo b hb;refine⟨(fpo b hb).1,f1,f2',f4,fun o e=>?_⟩;rcases f3 with z | z
   ·exact I2.ok.noex b o e z
   ·exact nb b z o e
 have hC:s3.heap.objs.size=s3.heap.objs.size:=rfl;generalize hXi:eU X inn (ts++cs) s3 H2 (D :: fp)=Xi;have I4:Inv Xi [] (sIn nt js σ) H2 { s3 with heap:=h₁,toks:=s3.toks }:=by
  rw[<- hXi];exact M5 hts I3 O hex ⟨_,hns₁⟩ up
 have xp:Xi.prog=X.prog:=by rw[<- hXi];rfl
 have xw:Xi.w=X.w:=by rw[<- hXi];rfl
 have xK:Xi.K=X.K:=by rw[<- hXi];rfl
 have xA:Xi.A=X.A:=by rw[<- hXi];rfl
 have xc:Xi.calm=true:=by rw[<- hXi];exact hcalm
 have xe:Xi.env=compEnvC inn (eT inn X.env) s3.heap.objs.size X.env:=by rw[<- hXi];rfl
 have xx:Xi.xe=fun _ _=>False:=by rw[<- hXi];rfl
 have xex:Xi.ex=D :: fp:=by rw[<- hXi];rfl
 have xpn:Xi.pn=[]:=by rw[<- hXi];rfl
 have xs0:Xi.s₀=s3:=by rw[<- hXi];rfl
 have xH0:Xi.H₀=H2:=by rw[<- hXi];rfl
 have xfs:Xi.fs=frs X.stack:=by rw[<- hXi];rfl
 have hgX:PG Xi tg g:=by rw[<- hXi];exact hg _ _ _
 have htX:PIf Xi ifs tt:=by rw[<- hXi];exact ht _ _ _
 have heX:PE Xi elt te:=by rw[<- hXi];exact he _ _ _
 have hi2X:PI Xi t2 i2 wi2:=by rw[<- hXi];exact hi2 _ _ _
 have hg2X:PG Xi t2 g2:=by rw[<- hXi];exact hg2 _ _ _
 have ht2X:PIf Xi f2 tt2:=by rw[<- hXi];exact ht2 _ _ _
 have okX:=I4.ok;have xl:Xi.env.locals=s3.heap.objs.size:=by rw[xe];rfl
 have Dl:D≠Xi.env.locals:=by rw[xl,hsz3];exact aBS (Nat.lt_succ_self _)
 have stat:∀ {H':Hp} {pl:List (Addr×Obj)},(∀ b∈fp,H' b=none)->(∀ p∈pl,p.1=D)->∀ b∈fp,gR Xi pl H' b:=fun {H' pl} hn hpl b hb=>by
  have hbx:b∈Xi.ex:=by rw[xex];exact aAx _ hb
  refine⟨hn b hb,(okX.exf b hbx).1,fun z=>okX.exfs b hbx z,.inl hbx,(okX.exf b hbx).2,fun p hp=>?_⟩;rw[xpn,List.nil_append]at hp;rw[hpl p hp];exact Ne.symm (fpo b hb).2
 have DX:D∈Xi.ex:=by rw[xex];exact aAw
 obtain⟨W,⟨m0,w0⟩,turn⟩:=R;have loop:codeAny (model X.prog X.w) X.A (.compLoop (.ListComp elt [⟨tg,iter,ifs,0⟩,⟨t2,i2,f2,0⟩] inn pos) 0 (.ref it) (.ref D) Xi.env) (RR (.ref D) s3.heap.objs.size) { s3 with heap:=h₁,toks:=s3.toks }:=by
  refine codeAny_loop rfl (fun n s'=>∃ i ys H',Inv Xi [] (sIn nt js σ) H' s'/\tn i s'.heap/\(∀ b∈fp,H' b=none)/\H' D=none/\(∃ (its:List Value) (c:Nat),Vals ys its/\s'.heap.get? D=some { cls:=.type "list",data:=.seq its.toArray c })/\W i n ys H') ?_ m0
   ⟨0,[],H2,I4,?_,fun b hb=>(fo b hb).1,fH2D,⟨[],0,.nil,up D _ hD3⟩,w0⟩
  ·rintro n s5 ⟨i,ys,H5,I5,st5,fr5,fD5,⟨its,c,rv,eD⟩,w5⟩;show wpAny _ X.A ((compTurn (.ListComp elt [⟨tg,iter,ifs,0⟩,⟨t2,i2,f2,0⟩] inn pos) 0 (.ref it) (.ref D) Xi.env).onRaise (fun x=>do noteFrame x Xi.env;theTreesLotGoes x)) _ _ s5;refine wpAny_noted ?_;rw[nR];refine aAs (wpAny_standAt (aAs ?_));have pinD:Inv Xi (bR [D] s5.heap) (sIn nt js σ) H5 s5:=by
    have q:=I5.pinned (fp:=[D]) (fun b hb=>?_) (fun b hb=>?_)
    ·simpa using q
    ·have e:b=D:=by simpa using hb
     subst e;refine⟨fD5,Dl,fun z=>okX.exfs b DX z,.inl DX,(okX.exf b DX).2,fun p hp=>?_⟩;rw[xpn,List.nil_append]at hp;cases hp
    ·have e:b=D:=by simpa using hb
     subst e;exact⟨_,eD,fun v z=>by cases z⟩
   have plD:∀ p∈bR [D] s5.heap,p.1=D:=fun p hp=>by simpa using (fY hp).1
   have memD:(D,({ cls:=.type "list",data:=.seq its.toArray c }:Obj))∈bR [D] s5.heap:=bH (by simp) eD;obtain⟨hz,tn5⟩:=turn i n ys H5 w5;rcases tn5 with ⟨stop,fin⟩ | ⟨go,N,hN,step⟩
   ·have q:=T.done Xi xp xw xK xc i _ s5 _ H5 (notedBy (model X.prog X.w) X.A Xi.env fun e s'=>RR (.ref D) s3.heap.objs.size (.error e) s') pinD (stat fr5 plD) st5 stop;rw[xA]at q;refine wpAny_mono q (fun r s6 ⟨hr,I6⟩=>?_) fun _ _ z=>z;subst hr;refine aAt ?_;have eD6:=(I6.pin (D,_) (aAy _ memD)).1;have un:Un (frs X.stack) (D :: fp) H2 H5 s3.heap s6.heap:=by
     have z:=I6.base;rw[xfs,xex,xH0,xs0]at z;exact z
    have os6:s6.os=s3.os:=by have z:=I6.os;rw[xs0]at z;exact z
    have hok6:HOk X.prog X.w H5 s6.heap:=by have z:=I6.hok;rw[xp,xw]at z;exact z
    have I7:Inv X pins σ H5 s6:=I3.call' os6 un hok6 I6.bare fun b hb=>by
     rcases aB8.mp hb with e | hb
     ·rw[e];exact⟨.inr (Nat.le_trans I2.sz dge),fD.2.1,fD.2.2.2.2.1,fD.2.2.2.2.2⟩
     ·obtain⟨f0,f1,f2',f3,f4,f5⟩:=fo b hb;exact⟨f3,f1,f4,f5⟩
    have I8:Inv X pins σ (upd H5 D (.lst ys)) s6:=I7.track fD5 (Nat.le_trans I2.sz dge) fD.2.1 fD.2.2.2.2.1 fD.2.2.2.2.2 ⟨Nat.le_of_lt hz,its,c,rv,eD6⟩;have Cge:s3.heap.objs.size<=s3.heap.objs.size:=Nat.le_refl _;have fC:gR X pins (upd H5 D (.lst ys)) s3.heap.objs.size:=I3.fpOk Cge (by
     rw[aC (by rw[<- xl];exact Ne.symm Dl)];have z:=I6.free;rw[xl]at z;exact z)
    obtain⟨mm,hmm,_⟩:=I6.loc;rw[xl]at hmm;exact hRR D _ s6 _ I8 ⟨mm,hmm⟩ fC.1 fC.2.1 (Nat.le_trans I3.sz Cge) fC.2.2.2.2.1 fC.2.2.2.2.2 (fin D fD5)
   ·have q:=T.item Xi xp xw xK xc i _ s5 _ H5 (notedBy (model X.prog X.w) X.A Xi.env fun e s'=>RR (.ref D) s3.heap.objs.size (.error e) s') pinD (stat fr5 plD) st5 go;rw[xA]at q;refine wpAny_mono q (fun r s6 ⟨u,hr,h6⟩=>?_) fun _ _ z=>z;subst hr;refine aAs (wpAny_mono h6 (fun _ s7 ⟨x,H7,I7,r7,y7,st7,fr7⟩=>?_) fun _ _ z=>z);have I7':=I7.pinned (fp:=fp) (fun b hb=>stat fr7 plD b hb) (T.obj _ _ st7);have q8:=hgX _ s7 _ H7 x u _ I7' r7 (hk x _ H7 _ (step x H7 y7));rw[xp,xw,xA,xx]at q8;refine aAs (wpAny_mono q8 (fun _ s8 ⟨σ8,H8,I8,⟨k8,l8⟩,q8⟩=>?_) fun _ _ z=>z.elim);have q9:=htX _ s8 σ8 H8 _ I8 q8;rw[xp,xw,xA,xx]at q9;refine aAs (wpAny_mono q9 (fun ok s9 ⟨H9,I9,q9⟩=>?_) fun _ _ z=>z.elim);have keepσ:∀ (j:Nat) v,(sIn nt js σ)[j]?=some (some v)->σ8[j]?=some (some v):=fun j v e=>by
     have hj:=(jW e).1;rw[k8 j (Nat.le_trans hlo hj)];exact e
    have ends:∀ {H9:Hp} {s9:Shared} {ys':List V},Inv Xi (bR [D] s5.heap++bR fp s7.heap) σ8 H9 s9->∀ {h':Heap} {its':List Value} {c':Nat},(∀ b o,b≠D->s9.heap.get? b=some o->h'.get? b=some o)->Vals ys' its'->h'.get? D=some { cls:=.type "list",data:=.seq its'.toArray c' }->N ys' H9 ->
     ∀ tk,∃ m,m<n/\∃ i ys H',Inv Xi [] (sIn nt js σ) H' { s9 with heap:=h',toks:=tk }/\tn i h'/\(∀ b∈fp,H' b=none)/\H' D=none/\(∃ (its:List Value) (c:Nat),Vals ys its/\h'.get? D=some { cls:=.type "list",data:=.seq its.toArray c })/\W i m ys H':=fun {H9 s9 ys'} I9 {h' its' c'} kp rv' eD' n9 tk=>by
     obtain⟨m',hm,w9⟩:=hN ys' H9 n9;have fD9:H9 D=none:=(I9.pin (D,_) (aAy _ (aBO _ memD))).2.1;have fr9:∀ b∈fp,H9 b=none:=fun b hb=>by
      obtain⟨o,e,d⟩:=T.obj _ _ st7 b hb;exact(I9.pin (b,o) (aAy _ (aAy _ (bH hb e)))).2.1
     have I10:Inv Xi [] σ8 H9 s9:=I9.pins_of fun p hp=>by cases hp
     have I11:Inv Xi [] σ8 H9 { s9 with heap:=h',toks:=tk }:=I10.turned (it:=D) kp fD9 Dl (.inl DX) (okX.exf D DX).2 (fun p hp=>by rw[xpn]at hp;cases hp);refine⟨m',hm,i+1,ys',H9,I11.weak l8.symm keepσ,T.keep _ _ _ st7 fun b hb o e=>kp b o (fpo b hb).2 (I9.pin (b,o) (aAy _ (aAy _ (bH hb e)))).1,fr9,fD9,⟨its',c',rv',eD'⟩,w9⟩
    cases ok with
    | false =>
     rw[if_neg aBH]at q9;have eD9:=(I9.pin (D,_) (aAy _ (aBO _ memD))).1;exact aAt ⟨rfl,ends I9 (h':=s9.heap) (fun _ _ _ e=>e) rv eD9 q9 s9.toks⟩
    | true =>
     rw[if_pos rfl]at q9;have q10:=hi2X _ s9 σ8 H9 _ I9 q9;rw[xp,xw,xA,xx]at q10;refine aAs (wpAny_mono q10 (fun v s10 q11=>?_) fun _ _ z=>z.elim);refine aAs (wpAny_standAt (aAs (wpAny_of_eq (hs2 _ v) (aAs (wpAny_holding (wpAny_mono q11 (fun itv s11 q12=>?_) fun _ _ z=>z.elim))))));obtain⟨it2,fp2,tn2,J2,H11,ei,I11,T2,st11,f11,R11⟩:=q12;subst ei;have pm:(D,({ cls:=.type "list",data:=.seq its.toArray c }:Obj))∈Xi.pn++(bR [D] s5.heap++bR fp s7.heap):=aAy _ (aBO _ memD);have eD11:=(I11.pin (D,_) pm).1;have fD11:H11 D=none:=(I11.pin (D,_) pm).2.1;have hpl:∀ p∈Xi.pn++bR fp s7.heap,p.1≠D:=fun p hp=>by
      rw[xpn,List.nil_append]at hp;exact(fpo p.1 (fY hp).1).2
     have xcc:Xi.calm=true:=xc;refine aAs (wpAny_runOwn ?_);have core:=xX (X:=Xi) (pl:=bR fp s7.heap) (σ:=σ8) (elt:=elt) (t1:=tg) (i1:=iter) (tg:=t2) (iter:=i2) (f1:=ifs) (ifs:=f2) (inn:=inn) (pos:=pos) (lo:=lo) (hi:=nt) (D:=D) (N:=N)
      (RR:=fun r s'=>match r with | .ok f=>wpAny (model Xi.prog Xi.w) Xi.A (again (.compLoop (.ListComp elt [⟨tg,iter,ifs,0⟩,⟨t2,i2,f2,0⟩] inn pos) 0 (.ref it) (.ref D) Xi.env)) (fun f s'=>f=Fin.again (.compLoop (.ListComp elt [⟨tg,iter,ifs,0⟩,⟨t2,i2,f2,0⟩] inn pos) 0 (.ref it) (.ref D) Xi.env)/\∃ m,m<n/\∃ i ys H',Inv Xi [] (sIn nt js σ) H' s'/\tn i s'.heap/\(∀ b∈fp,H' b=none)/\H' D=none/\(∃ (its:List Value) (c:Nat),Vals ys its/\s'.heap.get? D=some { cls:=.type "list",data:=.seq its.toArray c })/\W i m ys H') (fun _ _=>False) s' | .error e=>False)
      xc xx DX Dl hpl (fun hb=>(f11 D hb).2.2.2.2.2 _ pm rfl) hg2X hk2 ht2X heX (fun j v h1 h2 e=>?_) (I11.pins_of fun p hp=>I11.pin p (aAy _ (aAy _ hp))) T2 st11
      (fun b hb=>let ⟨a0,a1,a2,a3,a4,a5⟩:=f11 b hb;⟨a0,a1,a2,a3,a4,fun p hp=>a5 p ((aB9.mp hp).elim (aBO _) fun z=>aAy _ (aAy _ z))⟩) fD11 rv eD11 R11 ?_
     ·rw[xp,xw,xA]at core;refine codeAny_mono core fun r s' hr=>?_;cases r with
      | ok f=>exact wpAny_mono hr (fun _ _ z=>by obtain⟨rfl,z⟩:=z;exact⟨rfl,z⟩) fun _ _ z=>z.elim
      | error e=>exact hr.elim
     ·have e':=(k8 j h1).symm.trans e;exact absurd (jW e').1 (by omega)
     ·intro s' H' ys' its' c' I' rv' eD' fD' n';obtain⟨m',hm,w9⟩:=hN ys' H' n';have fr':∀ b∈fp,H' b=none:=fun b hb=>by
       obtain⟨o,e,d⟩:=T.obj _ _ st7 b hb;exact(I'.pin (b,o) (aAy _ (bH hb e))).2.1
      refine aAt ⟨rfl,m',hm,i+1,ys',H',(I'.pins_of fun p hp=>by cases hp).weak l8.symm keepσ,T.keep _ _ _ st7 fun b hb o e=>(I'.pin (b,o) (aAy _ (bH hb e))).1,fr',fD',⟨its',c',rv',eD'⟩,w9⟩
  ·exact T.keep 0 _ _ st2 fun b hb o e=>up b o (by rw[e3];exact aAv _ e)
 have e4:({ s2 with heap:=h₁,toks:=s2.toks+([]:List (Str×Value)).length }:Shared)={ s3 with heap:=h₁,toks:=s3.toks }:=by rw[<- hs3];rfl
 rw[e4];show codeAny _ _ (.compStart (.ListComp elt [⟨tg,iter,ifs,0⟩,⟨t2,i2,f2,0⟩] inn pos) 0 (.ref it) (.ref D) (compEnvC inn (eT inn X.env) s3.heap.objs.size X.env)) (RR (.ref D) s3.heap.objs.size) _;rw[<- xe];refine codeAny_compStart_list loop ?_;refine T.self X.A 0 _ _ _ ?_ loop;exact T.keep 0 _ _ st2 fun b hb o e=>up b o (by rw[e3];exact aAv _ e)
theorem P1 (ts1 ts2 cs:List Str) (js:List Nat) (hcalm:X.calm=true) (O:CompOk X.env.scope inn X.N js cs) (hi:PI X tg iter wi)
 (hg:∀ s₀ H₀ ex,PG (eU X inn ((ts1++ts2)++cs) s₀ H₀ ex) tg g) (hk:GK ts1.length g) (ht:∀ s₀ H₀ ex,PIf (eU X inn ((ts1++ts2)++cs) s₀ H₀ ex) ifs tt)
 (hi2:∀ s₀ H₀ ex,PI (eU X inn ((ts1++ts2)++cs) s₀ H₀ ex) t2 i2 wi2) (hg2:∀ s₀ H₀ ex,PG (eU X inn ((ts1++ts2)++cs) s₀ H₀ ex) t2 g2) (hk2:GR ts1.length (ts1++ts2).length g2) (ht2:∀ s₀ H₀ ex,PIf (eU X inn ((ts1++ts2)++cs) s₀ H₀ ex) f2 tt2) (he:∀ s₀ H₀ ex,PE (eU X inn ((ts1++ts2)++cs) s₀ H₀ ex) elt te)
 (hs:∀ x,foldedSetIterable iter X.env x=pure x:=by intro _;rfl) (hs2:∀ env x,foldedSetIterable i2 env x=pure x:=by intro _ _;rfl):PE X (.ListComp elt [⟨tg,iter,ifs,0⟩,⟨t2,i2,f2,0⟩] inn pos) (r6 wi (ts1++ts2).length js g tt wi2 g2 tt2 te):=by
 intro pins s σ H Q I h;rw[eval_ListComp];refine wpAny_comprehension_free (use:=none) rfl hs (oA fun y hy e=>I.ok.has y.1 (O.frees y hy e)) O.kind O.names (thn (hi pins s σ H _ I h) fun xv s1 h1=>thn h1 fun itv s2 h2=>?_);obtain⟨it,fp,tn,J,H2,e,I2,T,st2,f2,R⟩:=h2;subst e;refine xY (Q:=Q) (RR:=fun acc C=>compPost (model X.prog X.w) X.A X.xe none (EP X pins σ Q) acc C) hcalm O rfl (lo:=ts1.length) (by simp) hg hk hi2 hg2 hk2 ht2 hs2 ht he I2 T st2 f2 R ?_;intro D C s' H' I' ⟨m,hm⟩ c1 c2 c3 c4 c5 q;refine⟨m,hm,fun h' hsb=>?_⟩;exact⟨.ref D,H',I'.turned (it:=C) (t':=s'.toks) (fun b o hb e=>hsb.extBut b o hb e) c1 c2 (.inr c3) c4 c5,rfl,q⟩
end
theorem vW {X:Cx} {tg:Expr} (K:PySem.W.Frag) (h:X.K=K) {l:Expr} {tl:TE} (hl:PE X l tl):PI X tg l (d0 K tl):=h ▸ bW hl
theorem xZ {K:PySem.W.Frag} {a:Addr} {xs:List V} {σ0:St} {g g2:TG} {tt tt2:TT} {wi:TI} {te:TE} {H:Hp} {Q:VK} (Pv:Nat->List V->Hp->Prop) (h0:Pv 0 [] H) (hl:∀ i ys H,i<=xs.length->Pv i ys H->SqL K H a xs/\ys.length<sizeLine)
 (hs:∀ i x ys H,xs[i]?=some x->Pv i ys H->g x σ0 H fun σ2 H2=>tt σ2 H2 fun b H3=>if b=true then wi σ2 H3 fun J2 H4=>zR J2 σ2 g2 tt2 te ys (Pv (i+1)) H4 else Pv (i+1) ys H3) (hd:∀ ys H,Pv xs.length ys H->∀ D,H D=none->Q (.ref D) (upd H D (.lst ys))) :
 xW (Itl K a) σ0 g tt wi g2 tt2 te Q H:=by
 refine⟨fun i m ys H=>m=xs.length - i/\i<=xs.length/\Pv i ys H,⟨xs.length,by simp,Nat.zero_le _,h0⟩,?_⟩;rintro i m ys H ⟨rfl,hi,p⟩;obtain⟨q,hz⟩:=hl i ys H hi p;refine⟨hz,?_⟩
 by_cases hlt:i<xs.length
 ·refine .inr ⟨⟨xs,xs[i],q,by simp[hlt]⟩,Pv (i+1),fun ys' H' p'=>⟨xs.length - (i+1),by omega,rfl,hlt,p'⟩,fun x H' y=>?_⟩;obtain⟨e,y⟩:=y;subst e;exact hs i x ys _ (y xs q) p
 ·have e:i=xs.length:=by omega
  subst e;exact .inl ⟨⟨xs,q,Nat.le_refl _⟩,hd ys H p⟩
theorem yA {K:PySem.W.Frag} {a:Addr} {xs:List V} {σ0:St} {g:TG} {tt:TT} {te:TE} {H:Hp} {N:List V->Hp->Prop} {ys0:List V} (Pv:Nat->List V->Hp->Prop) (h0:Pv 0 ys0 H) (hl:∀ i ys H,i<=xs.length->Pv i ys H->SqL K H a xs/\ys.length<sizeLine)
 (hs:∀ i x ys H,xs[i]?=some x->Pv i ys H->g x σ0 H fun σ2 H2=>tt σ2 H2 fun b H3=>if b=true then te σ2 H3 fun y H4=>Pv (i+1) (ys++[y]) H4 else Pv (i+1) ys H3) (hd:∀ ys H,Pv xs.length ys H->N ys H) :
 zR (Itl K a) σ0 g tt te ys0 N H:=by
 refine⟨fun i m ys H=>m=xs.length - i/\i<=xs.length/\Pv i ys H,⟨xs.length,by simp,Nat.zero_le _,h0⟩,?_⟩;rintro i m ys H ⟨rfl,hi,p⟩;obtain⟨q,hz⟩:=hl i ys H hi p;refine⟨hz,?_⟩
 by_cases hlt:i<xs.length
 ·refine .inr ⟨⟨xs,xs[i],q,by simp[hlt]⟩,Pv (i+1),fun ys' H' p'=>⟨xs.length - (i+1),by omega,rfl,hlt,p'⟩,fun x H' y=>?_⟩;obtain⟨e,y⟩:=y;subst e;exact hs i x ys _ (y xs q) p
 ·have e:i=xs.length:=by omega
  subst e;exact .inl ⟨⟨xs,q,Nat.le_refl _⟩,hd ys H p⟩
def aAN (t u:TS):TS:=fun D σ H=>∀ M:St->Hp->Prop,(∀ σ' H',u D σ' H'->M σ' H')->t { D with nx:=M } σ H
theorem bK {X:Cx} {st:Stmt} {rest:List Stmt} {t u:TS} (h1:PS X st t) (h2:PSs X rest u):PSs X (st :: rest) (aAN t u):=fun pins s σ H D I h=>aF h1 h2 pins s σ H D I (h (u D) fun _ _ z=>z)
end L2
namespace L2
open PySem
open PyProof.Rows PySem.MeetsSeq PySem.SeqAt PySem.Spec
open PySem.AutoSeq1 (wpAny_loadPart')
theorem qW (l:Addr) (items:Array Value) (n:Nat) (x:Value) (e:Value->Bool) (j:Nat) (hj:j<items.size) (hit:e items[j]=true) (k:Nat) (hs1:items.size<=sizeLine) :
 ∀ i:Nat,j - i=k->i<=j->(∀ m (hm:m<items.size),i<=m->m<j->e items[m]=false)->Meets (Builtin.«list.remove.loop» ⟨[.ref l,x,rawInt i],[]⟩)
  (fun A R s=>s.heap.get? l=some { cls:=.type "list",dict:=none,data:=.seq items n,slots:=#[] }/\(∀ y,y∈items->EqAt A.in1 s y x (e y))/\R (.ok (.ret .none)) { s with heap:=s.heap.update l (Obj.mapSeq fun xs=>xs.eraseIdxIfInBounds j) }):=by
 induction k with
 | zero =>
  intro i hk hij hno prog w A R s h;obtain⟨hp,g,d,tk,os⟩:=s;obtain⟨hl,he,h⟩:=h;have hij':i=j:=by omega
  subst hij'
  wp_walk using wpAny_loadPart' hl
  have hi:items[((i:Nat):Int).toNat]?=some items[i]:=by simp[hj]
  rw[hi];refine aAs (he _ (Array.getElem_mem hj) prog w _ _ ?_);rw[hit];have hz':(items.eraseIdxIfInBounds i).size<=sizeLine+1:=Nat.le_trans (size_erased items _) (Nat.le_succ_of_le hs1)
  wp_walk using (wpAny_updateSeq hl rfl (hz:=hs1) (_hz':=hz')),wpAny_loadPart' hl
  simpa using h
 | succ k ih =>
  intro i hk hij hno prog w A R s h;obtain⟨hp,g,d,tk,os⟩:=s;obtain⟨hl,he,h⟩:=h;have hlt:i<items.size:=by omega
  wp_walk using wpAny_loadPart' hl
  have hi:items[((i:Nat):Int).toNat]?=some items[i]:=by simp[hlt]
  have hc:((i:Int)+1)=((i+1:Nat):Int):=by push_cast;rfl
  rw[hi];refine aAs (he _ (Array.getElem_mem hlt) prog w _ _ ?_);rw[hno i hlt (Nat.le_refl _) (by omega)]
  wp_walk
  rw[hc];exact⟨plainId_quiet plain_remove_loop _,codeAny_builtin entry_remove_loop (by
   rw[aBG plain_remove_loop _];exact ih (i+1) (by omega) (by omega) (fun m hm h1 h2=>hno m hm (by omega) h2) prog w A R _ ⟨hl,he,h⟩)⟩
theorem qX (l:Addr) (items:Array Value) (n:Nat) (x:Value) (e:Value->Bool) (j:Nat) (hj:j<items.size)
 (hit:e items[j]=true) (hno:∀ m (hm:m<items.size),m<j->e items[m]=false) (hs1:items.size<=sizeLine) :
 Meets (Builtin.«list.remove» ⟨[.ref l,x],[]⟩)
  (fun A R s=>s.heap.get? l=some { cls:=.type "list",dict:=none,data:=.seq items n,slots:=#[] }/\(∀ y,y∈items->EqAt A.in1 s y x (e y))/\R (.ok (.ret .none)) { s with heap:=s.heap.update l (Obj.mapSeq fun xs=>xs.eraseIdxIfInBounds j) }):=by
 intro prog w A R s h;obtain⟨hp,g,d,tk,os⟩:=s;obtain⟨hl,he,h⟩:=h
 wp_walk using wpAny_loadPart' hl
 exact⟨plainId_quiet plain_remove_loop _,codeAny_builtin entry_remove_loop (by
  rw[aBG plain_remove_loop _];exact qW l items n x e j hj hit _ hs1 0 rfl (Nat.zero_le _) (fun m hm _ h2=>hno m hm h2) prog w A R _ ⟨hl,he,h⟩)⟩
theorem PairV.inj {h:Heap} {v:Value} {p q:Int×Int} (a:PairV h v p) (b:PairV h v q):p=q:=by
 obtain⟨t,o,n,k1,k2,rfl,ho,_,hd⟩:=a;obtain⟨t',o',n',k1',k2',e,ho',_,hd'⟩:=b;cases e;rw[ho]at ho';cases ho';rw[hd]at hd';obtain⟨p1,p2⟩:=p;obtain⟨q1,q2⟩:=q;simp only[Data.seq.injEq,Array.mk.injEq,List.cons.injEq,Value.int.injEq,and_true]at hd';obtain⟨⟨⟨rfl,_⟩,rfl,_⟩,_⟩:=hd';rfl
theorem EqAt.pairs {A:Around} {s:Shared} {x y:Value} {p q:Int×Int} (hx:PairV s.heap x p) (hy:PairV s.heap y q) (hu:A.units+1<cLine):EqAt A s x y (decide (p=q)):=by
 obtain⟨t,o,n,k1,k2,rfl,ho,hc,hd⟩:=id hx;obtain⟨t',o',n',k1',k2',rfl,ho',hc',hd'⟩:=id hy
 by_cases ht:t=t'
 ·subst ht;have:p=q:=hx.inj hy;rw[aBR this];exact EqAt.same _
 ·refine EqAt.of_refs ht ?_;have h:=RcAt.tuples (A:=A) (s:=s) (l:=t) (b:=t') (e:=fun j=>if j=0 then p.1 == q.1 else p.2 == q.2) ⟨o,ho,hc,n,hd⟩ ⟨o',ho',hc',n',hd'⟩ (by omega) fun j h1 h2=>?_
  ·have e:((List.range (min (#[Value.int p.1 k1,Value.int p.2 k2]:Array Value).size (#[Value.int q.1 k1',Value.int q.2 k2']:Array Value).size)).all (fun j=>if j=0 then p.1 == q.1 else p.2 == q.2) && (#[Value.int p.1 k1,Value.int p.2 k2]:Array Value).size == (#[Value.int q.1 k1',Value.int q.2 k2']:Array Value).size)=decide (p=q):=by
    show ((p.1 == q.1) && ((p.2 == q.2) && true) && true)=decide (p=q);obtain⟨p1,p2⟩:=p;obtain⟨q1,q2⟩:=q;rw[Bool.eq_iff_iff];simp
   rw[e]at h;exact h
  ·match j,h1,h2 with
   | 0,_,_=>exact EqAt.int_int p.1 k1 q.1 k1'
   | 1,_,_=>exact EqAt.int_int p.2 k2 q.2 k2'
section
variable {X:Cx}
open Classical in
def P2:V->List V->Hp->VK->Prop:=fun x vs H Q=>∃ l us ps t p,x=.ref l/\vs=[.ref t]/\H l=some (.lst us)/\CW.Prs H us ps/\H t=some (.tup [.int p.1,.int p.2])/\p∈ps/\∀ us':List V,CW.Prs H us' (ps.erase p)->us'.length<us.length->Q .non (upd H l (.lst us'))
theorem sB {H:Hp} {p:Int×Int}:∀ {us:List V} {ps:List (Int×Int)},CW.Prs H us ps->p∈ps->∃ j,j<ps.length/\ps[j]?=some p/\(∀ m,m<j->ps[m]?≠some p)/\CW.Prs H (us.eraseIdx j) (ps.erase p)
 | [],[],_,h=>by cases h
 | u :: us,q :: ps,.cons a r,h=>by
  by_cases e:q=p
  ·subst e;refine⟨0,by simp,rfl,fun m hm=>by omega,?_⟩;rw[List.erase_cons_head];exact r
  ·have hp:p∈ps:=by
    rcases aB8.mp h with z | z
    ·exact absurd z.symm e
    ·exact z
   obtain⟨j,h1,h2,h3,h4⟩:=sB r hp;refine⟨j+1,by simpa using h1,h2,fun m hm=>?_,?_⟩
   ·cases m with
    | zero=>simpa using e
    | succ m=>exact h3 m (by omega)
   ·rw[List.erase_cons_tail (by simpa using e)];exact .cons a h4
theorem yB (hu:X.A.units+64<cLine):MtM X "list.remove" P2:=by
 intro pins s σ H x vs v us Q I rx rv h;obtain⟨l,xs,ps,t,p,rfl,rfl,hH,pr,ht,hp,q⟩:=h;cases rx;obtain⟨u,rfl,ru⟩:=rv.one;obtain⟨z,its,n,r,hl,e⟩:=I.lstM hH;obtain⟨j,h1,h2,h3,h4⟩:=sB pr hp;have hv:=jE I r pr;have hu2:PairV s.heap u p:=by
  have:=jE I (us0:=[.ref t]) (its:=[u]) (ps:=[p]) (.cons ru .nil) (.cons ⟨t,rfl,ht⟩ .nil);cases this with
  | cons a _=>exact a
 have hlp:xs.length=ps.length:=CW.Prs.len pr;have at':∀ m (hm:m<its.toArray.size),PairV s.heap its.toArray[m] (ps[m]'(by simp at hm;omega)):=fun m hm=>by
  have hm':m<its.length:=by simpa using hm
  obtain⟨q',hq,hP⟩:=CW.paired_get hv (i:=m) (x:=its[m]) (by simp[hm']);have:ps[m]'(by omega)=q':=by
   have:=aBE (l:=ps) (i:=m) (by omega);rw[this]at hq;exact Option.some.inj hq
  rw[this];simpa using hP
 refine call_meets F.slot_list_remove ⟨_,e,rfl⟩ F.entry_list_remove (F.args_list_remove_2 _ _) (qX l its.toArray n u (fun y=>@decide (PairV s.heap y p) (Classical.propDecidable _)) j (by simp;omega) ?_ (fun m hm hlt=>?_) (by rw[aBC];omega)) ⟨e,fun y hy=>?_,?_⟩
 ·have:=at' j (by simp;omega);have e2:ps[j]'(by omega)=p:=by
   have:=aBE (l:=ps) (i:=j) (by omega);rw[this]at h2;exact Option.some.inj h2
  rw[e2]at this;exact @decide_eq_true _ (Classical.propDecidable _) this
 ·refine @decide_eq_false _ (Classical.propDecidable _) fun hP=>h3 m hlt ?_;have e2:=(at' m hm).inj hP;rw[aBE (by simp at hm;omega),e2]
 ·obtain⟨m,hm,rfl⟩:=Array.mem_iff_getElem.mp hy;have hP:=at' m hm;have h5:=EqAt.pairs (A:=X.A.in1) hP hu2 (by show X.A.units+1+1<cLine;omega);have:(@decide (PairV s.heap its.toArray[m] p) (Classical.propDecidable _))=decide (ps[m]'(by simp at hm;omega)=p):=by
   rw[Bool.eq_iff_iff,@decide_eq_true_iff _ (Classical.propDecidable _),decide_eq_true_iff];exact⟨fun z=>hP.inj z,fun z=>z ▸ hP⟩
  rw[this];exact h5
 ·have hlen:(xs.eraseIdx j).length<xs.length:=by rw[List.length_eraseIdx];split <;> omega
  refine⟨.non,_,I.lset (its':=its.eraseIdx j) hH e ?_ (r.eraseIdx j) (by omega),rfl,q _ h4 hlen⟩;apply Array.toList_inj.mp
  simp[Array.toList_eraseIdxIfInBounds]
def r8 (t:TS):TS:=fun D σ H=>∃ d kvs,H d=some (.dK kvs)/\t { D with nx:=fun σ' H'=>∃ od,H' d=some (.frz od (.dK kvs))/\D.nx σ' (upd H' d (.dK kvs)) } σ H
theorem X4 {st:Stmt} {t:TS} (h:PS X st t):PS X st (r8 t):=by
 intro pins s σ H D I q;obtain⟨d,kvs,hd,q⟩:=q;have h0:∀ o u,X.H₀ d≠some (.frz o u):=fun o u z=>by
  have:=I.base.frzs d o u z;rw[hd]at this;cases this
 refine thn (h pins s σ H _ I q) fun f s1 q1=>?_;cases f with
 | next =>
  obtain⟨σ',H',I',od,hf,q1⟩:=q1;exact⟨σ',_,I'.thaw hf h0,q1⟩
 | ret v=>exact q1
 | brk=>exact q1
 | cont=>exact q1
end
end L2
namespace CW
open PySem L2
theorem P3 {b:Int}:∀ {gs:List Grp},(∀ g∈gs,g.2.2.length<=60)->0<=lng b gs/\lng b gs<=60 * (gs.length:Int)
 | [],_=>⟨Int.le_refl _,Int.le_refl _⟩
 | g :: r,h=>by
  obtain⟨h1,h2⟩:=P3 (b:=b) (gs:=r) fun x hx=>h x (aAx _ hx);have h3:=h g aAw;unfold lng at h1 h2 ⊢;rw[cA,aBY]
  by_cases c:b<g.1
  ·rw[if_pos c];omega
  ·rw[if_neg c];omega
theorem vX:∀ {a b:Trs},a.Perm b->a.Pairwise ple->b.Pairwise ple->a=b:=fun {a b} h ha hb =>
 List.Perm.eq_of_pairwise (le:=ple) (fun x y _ _ h1 h2=>by
  obtain⟨x1,x2⟩:=x;obtain⟨y1,y2⟩:=y;unfold ple at h1 h2;simp only at h1 h2;have e1:x1=y1:=by omega
  have e2:x2=y2:=by omega
  rw[e1,e2]) ha hb h
def laid (ms:List Int) (gs:List Grp):Trs:=ms.flatMap fun m=>match gs.find? (fun g=>decide (g.1=m))with | some g=>g.2.2.map fun o=>(m,o) | none=>[]
theorem mR (m:Int) (ms:List Int) (gs:List Grp):laid (m :: ms) gs=(match gs.find? (fun g=>decide (g.1=m))with | some g=>g.2.2.map (fun o=>(m,o)) | none=>[])++laid ms gs:=rfl
theorem nF (a b:List Int) (gs:List Grp):laid (a++b) gs=laid a gs++laid b gs:=by simp[laid]
theorem P4 {gs:List Grp} (hn:(gs.map (·.1)).Nodup) {g:Grp} (hg:g∈gs):laid [g.1] gs=g.2.2.map fun o=>(g.1,o):=by
 rw[mR,lN hn hg];exact List.append_nil _
theorem sC {ms ks:List Int} (gs:List Grp) (h:ms.Perm ks):(laid ms gs).Perm (laid ks gs):=h.flatMap_right _
theorem sD:∀ {gs:List Grp},(gs.map (·.1)).Nodup->laid (gs.map (·.1)) gs=bB gs:=by
 intro gs hn;have go:∀ us:List Grp,(∀ g∈us,g∈gs)->laid (us.map (·.1)) gs=bB us:=by
  intro us
  induction us with
  | nil=>intro _;rfl
  | cons g r ih =>
   intro h;rw[aBU,mR,lN hn (h g aAw),cG,ih fun x hx=>h x (aAx _ hx)]
 exact go gs fun _ h=>h
theorem P5 {ms:List Int} {gs:List Grp} {q:Int×Int} (h:q∈laid ms gs):q.1∈ms:=by
 unfold laid at h;obtain⟨m,hm,hq⟩:=List.mem_flatMap.mp h;split at hq
 ·obtain⟨o,_,rfl⟩:=aBa.mp hq;exact hm
 ·cases hq
theorem nG {gs:List Grp} (ac:Asc gs):∀ {ms:List Int},ms.Pairwise (·<·)->(laid ms gs).Pairwise ple
 | [],_=>List.Pairwise.nil
 | m :: ms,h=>by
  obtain⟨h1,h2⟩:=List.pairwise_cons.mp h;rw[mR];refine List.pairwise_append.mpr ⟨?_,nG ac h2,fun a ha b hb=>?_⟩
  ·split
   ·next g hg =>
    rw[List.pairwise_map];exact(ac g (List.mem_of_find?_eq_some hg)).imp fun {x y} hxy=>.inr ⟨rfl,hxy⟩
   ·exact List.Pairwise.nil
  ·have hb1:=h1 _ (P5 hb);split at ha
   ·obtain⟨o,_,rfl⟩:=aBa.mp ha;exact .inl hb1
   ·cases ha
theorem sE {ms ks:List Int} (hp:ms.Perm ks) (hs:ms.Pairwise (·<=·)) (hn:ks.Nodup):ms.Pairwise (·<·):=by
 have h:=hp.nodup_iff.mpr hn;exact(List.pairwise_and_iff.mpr ⟨hs,h⟩).imp fun {x y} ⟨a,b⟩=>by omega
section
variable {P:Program} {w:World} {K:PySem.W.Frag} {mg:Str->Option Value} {base:Heap}
inductive iG (vs:List V) (H:Hp) (Q:VK) (E_:XK):Prop
 | mk (d:Addr) (gs:List Grp) (h0_:vs=[.ref d]) (h1_:DG H d gs) (h2_:GoodG gs) (h3_:gs.length<=60) (h4_:(∀ g∈gs,g.2.2.length<=60)) (h5_:∀ (e:Addr) (kvs:List (Key×V)) (H':Hp),H e=none->Same H H'->H' e=some (.dK kvs)->(∀ g∈gs,dI kvs (Sum.inl g.1:Key)=some (.int (2 * les (bB gs) g.1)))->Q (.ref e) H'):iG vs H Q E_
inductive fL (vs:List V) (H:Hp) (Q:VK) (E_:XK):Prop
 | mk (d:Addr) (gs:List Grp) (k p:Int) (h0_:vs=[.ref d,.int k,.int p]) (h1_:DG H d gs) (h2_:gs.length<=60) (h3_:(∀ g∈gs,g.2.2.length<=60)) (h4_:∀ (gs':List Grp) (H':Hp),StayG d gs H H'->DG H' d gs'->pK H k (p - 2 * wgt (fU k) gs - 2 * k) gs gs'->Q .non H'):fL vs H Q E_
inductive iK (vs:List V) (H:Hp) (Q:VK) (E_:XK):Prop
 | mk (d:Addr) (gs:List Grp) (p:Int) (H0:Hp) (h0_:vs=[.ref d,.int p]) (h1_:DG H d gs) (h2_:GoodG gs) (h3_:Asc gs) (h4_:sto gs<=59) (h5_:Bd (bB gs) (p - 1)) (h6_:Same H0 H) (h7_:H0 d=none) (h8_:(∀ g∈gs,H0 g.2.1=none)) (h9_:∀ (gs':List Grp) (H':Hp),Same H0 H'->DG H' d gs'->GoodG gs'->Asc gs'->Add (bB gs) p (bB gs')->(∀ g∈gs',H0 g.2.1=none)->Q .non H'):iK vs H Q E_
inductive lQ (vs:List V) (H:Hp) (Q:VK) (E_:XK):Prop
 | mk (a:Addr) (row:List Int) (h0_:vs=[.ref a]) (h1_:H a=some (.lst (row.map V.int))) (h2_:Row row) (h3_:row.length<=60) (h4_:∀ qs:Trs,Lst row qs->qs.Pairwise ple->aAE H Q qs):lQ vs H Q E_
inductive kA (vs:List V) (H:Hp) (Q:VK) (E_:XK):Prop
 | mk (a:Addr) (row:List Int) (h0_:vs=[.ref a]) (h1_:H a=some (.lst (row.map V.int))) (h2_:Row row) (h3_:row.length<=60) (h4_:∀ qs:Trs,Lst row qs->qs.Pairwise ple->aAE H Q qs):kA vs H Q E_
end
theorem tN {l:List Int} (h:l≠[]):atI (l.map V.int) (-1)=some (V.int (l.getLast h)):=by
 have e:l.map V.int=l.dropLast.map V.int++[V.int (l.getLast h)]:=by
  rw[<- List.map_singleton (f:=V.int),<- aBJ,List.dropLast_concat_getLast h]
 rw[e];exact L7 _ _
theorem eM:∀ (r:List Int) (n:Int),(r.foldl max n=n\/r.foldl max n∈r)/\n<=r.foldl max n/\∀ x∈r,x<=r.foldl max n
 | [],n=>⟨.inl rfl,Int.le_refl _,fun x hx=>(nomatch hx)⟩
 | a :: r,n=>by
  obtain⟨h1,h2,h3⟩:=eM r (max n a);rw[aBW];refine⟨?_,by omega,fun x hx=>?_⟩
  ·rcases h1 with h1 | h1
   ·rcases Int.le_total n a with c | c
    ·right;rw[h1];rw[show max n a=a by omega];exact aAw
    ·left;rw[h1];omega
   ·exact .inr (aAx _ h1)
  ·rcases aB8.mp hx with rfl | hx
   ·omega
   ·exact h3 x hx
theorem E3 {gs:List Grp} {p:Int} (gd:GoodG gs) {ns:List Int} (h1:∀ n∈ns,∃ g∈gs,∃ hne:g.2.2≠[],n=g.1/\g.2.2.getLast hne=p - 1 - 2 * les (bB gs) g.1)
 (h2:∀ g∈gs,∀ hne:g.2.2≠[],g.2.2.getLast hne=p - 1 - 2 * les (bB gs) g.1->g.1∈ns) :
 ∃ s:Int,mxD ns (.int 0)=.int s/\0<=s/\(s=0\/1<=s/\∃ g∈gs,∃ hne:g.2.2≠[],g.1=s/\g.2.2.getLast hne=p - 1 - 2 * les (bB gs) s)/\(∀ g∈gs,∀ hne:g.2.2≠[],s<g.1->g.2.2.getLast hne≠p - 1 - 2 * les (bB gs) g.1):=by
 cases ns with
 | nil=>exact⟨0,rfl,Int.le_refl _,.inl rfl,fun g hg hne _ e=>(nomatch (h2 g hg hne e))⟩
 | cons n r =>
  obtain⟨a1,a2,a3⟩:=eM r n;have hm:r.foldl max n∈n :: r:=by
   rcases a1 with h | h
   ·rw[h];exact aAw
   ·exact aAx _ h
  obtain⟨g,hg,hne,e1,e2⟩:=h1 _ hm;have hg1:=(gd g hg).1;refine⟨r.foldl max n,rfl,by omega,.inr ⟨by omega,g,hg,hne,e1.symm,by rw[e1];exact e2⟩,fun x hx hnx hlt e=>?_⟩;have:=h2 x hx hnx e;rcases aB8.mp this with z | z
  ·omega
  ·have:=a3 _ z;omega
theorem P6 {ps:Trs} {p:Int} (hpos:∀ q∈ps,1<=q.1) {ns:List Int} (h1:∀ n∈ns,∃ q∈ps,n=q.1/\q.2=p - 1 - 2 * les ps q.1) (h2:∀ q∈ps,q.2=p - 1 - 2 * les ps q.1->q.1∈ns) :
 ∃ s:Int,mxD ns (.int 0)=.int s/\0<=s/\(s=0\/1<=s/\(s,p - 1 - 2 * les ps s)∈ps)/\(∀ q∈ps,s<q.1->q.2+2 * les ps q.1≠p - 1):=by
 cases ns with
 | nil=>exact⟨0,rfl,Int.le_refl _,.inl rfl,fun q hq _ e=>(nomatch (h2 q hq (by omega)))⟩
 | cons n r =>
  obtain⟨a1,a2,a3⟩:=eM r n;have hm:r.foldl max n∈n :: r:=by
   rcases a1 with h | h
   ·rw[h];exact aAw
   ·exact aAx _ h
  obtain⟨q,hq,e1,e2⟩:=h1 _ hm;have hq1:=hpos q hq;refine⟨r.foldl max n,rfl,by omega,.inr ⟨by omega,?_⟩,fun x hx hlt e=>?_⟩
  ·have:(r.foldl max n,p - 1 - 2 * les ps (r.foldl max n))=q:=by rw[e1,<- e2]
   rw[this];exact hq
  have:=h2 x hx (by omega);rcases aB8.mp this with z | z
  ·omega
  ·have:=a3 _ z;omega
theorem add_list {ps ps1:Trs} {p s:Int} (h0:0<=s) (hs:s=0/\ps1=ps\/1<=s/\(s,p - 1 - 2 * les ps s)∈ps/\ps1=ps.erase (s,p - 1 - 2 * les ps s)) (htop:∀ q∈ps,s<q.1->q.2+2 * les ps q.1≠p - 1) :
 Add ps p (ps1++[(s+1,p - 2 * les (ps1++[(s+1,0)]) (s+1))]):=by
 refine⟨s,ps1,h0,?_,htop,?_⟩
 ·rcases hs with ⟨a,rfl⟩ | ⟨a,b,rfl⟩
  ·exact .inl ⟨a,.refl _⟩
  ·exact .inr ⟨a,List.perm_cons_erase b⟩
 ·have:p - 2 * les (ps1++[(s+1,0)]) (s+1)=p - 2 * les ps1 (s+1) - 2 * (s+1):=by
   rw[xS,aO,X2];simp only;omega
  rw[this];exact List.perm_append_comm
theorem Lst.few {row:List Int} {qs:Trs} (h:Lst row qs) (hl:row.length<=60):qs.length<=60:=by
 have h3:=dA h.pos;have h4:(szs qs).sum=siz qs:=rfl;have h5:=h.sizx;omega
end CW
namespace L2
open PySem PySem.Spec PyProof.Rows
section
variable {prog:Program} {w:World} {A:Around} {R:Result->Shared->Prop} {l it S:Addr} {its:List Value} {ns:List Int}
end
section
variable {X:Cx}
end
end L2
namespace CW
open PySem L2
theorem Lst.le {r:List Int} {ps:Trs} (h:Lst r ps) {n:Int} (b:Bd ps n):∀ x∈r,x<=n:=by
 cases h with
 | nil=>intro x hx;cases hx
 | snoc a hlt c =>
  rename_i r ps0 p
  have bd:=a.bd (n:=p - 1) fun x hx=>by have:=hlt x hx;omega
  obtain⟨s,rest,h0,h1,_⟩:=c.tak bd;have:=(b _ (h1.mem_iff.mpr aAw)).2;simp only at this;intro x hx;rcases aB9.mp hx with hx | hx
  ·have:=hlt x hx;omega
  ·have:x=p:=by simpa using hx
   omega
theorem Lst.rowp {r:List Int} {ps:Trs} (h:Lst r ps):Row r:=by
 induction h with
 | nil=>exact List.Pairwise.nil
 | snoc a b c ih=>exact M9 ih b
theorem vY {ps qs ps0:Trs} {p:Int} {done:List Int} (t:Tak ps p qs) (hp:∀ q∈ps,1<=q.1) (fin:∀ r,Lst r ps->Lst (r++done) ps0):∀ r,Lst r qs->Lst (r++p :: done) ps0:=fun r hr=>by
 obtain⟨b,a⟩:=t.add hp;have:=fin (r++[p]) (.snoc hr (fun x hx=>by have:=hr.le b x hx;omega) a);rw[List.append_assoc]at this;exact this
theorem Tak.pos {ps qs:Trs} {p:Int} (h:Tak ps p qs) (hp:∀ q∈ps,1<=q.1):∀ q∈qs,1<=q.1:=fun q hq=>((h.add hp).1 q hq).1
theorem yC {ms row:List Int} (hp:ms.Perm row) (hs:ms.Pairwise (·<=·)) (hr:Row row.reverse):ms=row.reverse :=
 List.Perm.eq_of_pairwise (le:=fun a b:Int=>a<=b) (fun x y _ _ h1 h2=>by omega) hs (hr.imp fun {x y} q=>by omega) (hp.trans (List.reverse_perm _).symm)
theorem yD {gs:List Grp} (gd:GoodG gs) {qs:List (Int×Int)} {j:Nat} {p:Int×Int} (ht:Top qs qs.length j) (hj:qs[j]?=some p) (h1:∀ q∈qs,∃ g∈gs,∃ hne:g.2.2≠[],q=(g.2.2.getLast hne+2 * les (bB gs) g.1,-g.1))
 (h2:∀ g∈gs,∀ hne:g.2.2≠[],(g.2.2.getLast hne+2 * les (bB gs) g.1,-g.1)∈qs) :
 ∃ g∈gs,∃ hne:g.2.2≠[],p.2=-g.1/\g.2.2.getLast hne+2 * les (bB gs) g.1=p.1/\∀ x∈gs,∀ hx:x.2.2≠[],x.2.2.getLast hx+2 * les (bB gs) x.1<=p.1/\(x.1<g.1->x.2.2.getLast hx+2 * les (bB gs) x.1<p.1):=by
 obtain⟨g,hg,hne,e⟩:=h1 p (aBF hj);refine⟨g,hg,hne,by rw[e],by rw[e],fun x hx hnx=>?_⟩;obtain⟨k,hk,hkx⟩:=List.mem_iff_getElem.mp (h2 x hx hnx);have h3:=ht.2 k hk;have e1:qs.getD j (0,0)=p:=by rw[List.getD_eq_getElem?_getD,hj];rfl
 have e2:qs.getD k (0,0)=(x.2.2.getLast hnx+2 * les (bB gs) x.1,-x.1):=by rw[List.getD_eq_getElem?_getD,aBE hk,hkx];rfl
 rw[e1,e2,eJ]at h3;simp only at h3;rw[e]at h3 ⊢;simp only at h3 ⊢;omega
section
variable {P:Program} {w:World} {K:PySem.W.Frag} {mg:Str->Option Value} {base:Heap}
inductive kB (vs:List V) (H:Hp) (Q:VK) (E_:XK):Prop
 | mk (a:Addr) (ps:List (Int×Int)) (h0_:vs=[.ref a]) (h1_:LP H a ps) (h2_:ps.length<=60) (h3_:∀ (d:Addr) (gs:List Grp) (H':Hp),H d=none->Same H H'->DG H' d gs->(bB gs).Perm ps->Asc gs->(∀ g∈gs,g.2.2≠[]/\H g.2.1=none)->Q (.ref d) H'):kB vs H Q E_
inductive r9 (H0:Hp) (ps:Trs) (a d r:Addr) (m:Nat) (σ:St) (Hx:Hp):Prop
 | mk (gs:List Grp) (row:List Int) (v3 v4 v5 v6:Option V) (h0_:σ=[some (.ref a),some (.ref d),some (.ref r),v3,v4,v5,v6]) (h1_:Same H0 Hx) (h2_:DG Hx d gs) (h3_:GoodG gs) (h4_:Asc gs) (h5_:Hx r=some (.lst (row.map V.int))) (h6_:(∀ g∈gs,H0 g.2.1=none/\g.2.1≠r)) (h7_:sto gs=(m:Int)) (h8_:m+row.length<=60) (h9_:∀ r',Lst r' (bB gs)->Lst (r'++row.reverse) ps):r9 H0 ps a d r m σ Hx
inductive lR (vs:List V) (H:Hp) (Q:VK) (E_:XK):Prop
 | mk (a:Addr) (ps:List (Int×Int)) (h0_:vs=[.ref a]) (h1_:LP H a ps) (h2_:Trn ps) (h3_:∀ r:List Int,Lst r ps->o7 H Q r):lR vs H Q E_
end
end CW
namespace CW
def tr (s o:Int) (rest:Trs):Trs:=if s=0 then rest else (s,o) :: rest
theorem iL {s o:Int} {rest:Trs} {j:Int} (hs:0<=s) (hj:0<=j):les (tr s o rest) j=min j s+les rest j:=by
 unfold tr;split
 ·omega
 ·rw[aO]
theorem pP {s o:Int} {rest:Trs} {q:Int×Int} (h:q∈tr s o rest):q=(s,o)/\s≠0\/q∈rest:=by
 unfold tr at h;split at h
 ·exact .inr h
 ·rcases aB8.mp h with h | h
  ·exact .inl ⟨h,by assumption⟩
  ·exact .inr h
theorem tP {s o:Int} {rest:Trs} {q:Int×Int} (h:q∈rest):q∈tr s o rest:=by
 unfold tr;split
 ·exact h
 ·exact aAx _ h
theorem X5 {s o:Int} {a b:Trs} (h:a.Perm b):(tr s o a).Perm (tr s o b):=by
 unfold tr;split
 ·exact h
 ·exact h.cons _
theorem tQ {ps qs:Trs} {p s:Int} {rest:Trs} (h0:0<=s) (h1:ps.Perm (tr s (p - 1 - 2 * les ps s) rest)) (h2:∀ q∈ps,s<q.1->q.2+2 * les ps q.1≠p - 1) (h3:qs.Perm ((s+1,p - 2 * les rest (s+1) - 2 * (s+1)) :: rest)):Add ps p qs:=by
 refine⟨s,rest,h0,?_,h2,h3⟩;unfold tr at h1;split at h1
 ·exact .inl ⟨by assumption,h1⟩
 ·exact .inr ⟨by omega,h1⟩
theorem Add.tr' {ps qs:Trs} {p:Int} (h:Add ps p qs):∃ (s:Int) (rest:Trs),0<=s/\ps.Perm (tr s (p - 1 - 2 * les ps s) rest)/\(∀ q∈ps,s<q.1->q.2+2 * les ps q.1≠p - 1)/\qs.Perm ((s+1,p - 2 * les rest (s+1) - 2 * (s+1)) :: rest):=by
 obtain⟨s,rest,h0,h1,h2,h3⟩:=h;refine⟨s,rest,h0,?_,h2,h3⟩;unfold tr;rcases h1 with ⟨a,b⟩ | ⟨a,b⟩
 ·rw[if_pos a];exact b
 ·rw[if_neg (by omega)];exact b
theorem Tak.tr' {ps qs:Trs} {p:Int} (h:Tak ps p qs):∃ (s:Int) (rest:Trs),1<=s/\ps.Perm ((s,p - 2 * les ps s) :: rest)/\(∀ q∈ps,q.2+2 * les ps q.1<=p)/\(∀ q∈ps,q.1<s->q.2+2 * les ps q.1<p)/\qs.Perm (tr (s - 1) (p - 1 - 2 * les rest (s - 1) - 2 * (s - 1)) rest):=by
 obtain⟨s,rest,h0,h1,h2,h3,h4⟩:=h;refine⟨s,rest,h0,h1,h2,h3,?_⟩;unfold tr;rcases h4 with ⟨a,b⟩ | ⟨a,b⟩
 ·rw[if_pos (by omega)];exact b
 ·rw[if_neg (by omega)];exact b
def rnn (p:Int) (k:Nat):List Int:=(List.range k).map fun(j:Nat)=>p+(j:Int)
theorem vZ (p:Int) (k:Nat):rnn p (k+1)=rnn p k++[p+(k:Int)]:=by unfold rnn;rw[List.range_succ,aBJ];rfl
theorem P7 (p:Int):rnn p 0=[]:=rfl
theorem gX {p:Int} {k:Nat} {x:Int} (h:x∈rnn p k):p<=x/\x<=p+(k:Int) - 1:=by
 unfold rnn at h;obtain⟨j,hj,rfl⟩:=aBa.mp h;have:=List.mem_range.mp hj;omega
theorem tR {fs:List Int} {p:Int} {k:Nat} (hf:∀ x∈fs,x<p):∀ x∈fs++rnn p k,x<=p+(k:Int) - 1:=fun x hx=>by
 rcases aB9.mp hx with h | h
 ·have:=hf x h;omega
 ·have:=gX h;omega
theorem tS {fs:List Int} {p:Int} {k:Nat} {Y:Trs} (h:Lst (fs++rnn p (k+1)) Y):∃ Y',Lst (fs++rnn p k) Y'/\Tak Y (p+(k:Int)) Y':=by
 rw[vZ,<- List.append_assoc]at h;obtain⟨Y',h1,h2,h3⟩:=h.inv;exact⟨Y',h1,h3.tak (h1.bd fun x hx=>by have:=h2 x hx;omega)⟩
theorem tT {fs:List Int} {p:Int} {k:Nat} {X X':Trs} (hf:∀ x∈fs,x<p) (h:Lst (fs++rnn p k) X') (a:Add X' (p+(k:Int)) X):Lst (fs++rnn p (k+1)) X:=by
 rw[vZ,<- List.append_assoc];exact .snoc h (fun x hx=>by have:=tR hf x hx;omega) a
theorem t3 {fs:List Int} {p:Int} (hf:∀ x∈fs,x<p):∀ (k:Nat) (Y rest X:Trs),Lst (fs++rnn p k) Y->(∀ q∈Y,q.1<=(k:Int)->q.2+2 * les Y q.1<=p - 1+q.1) ->
 Y.Perm (tr (k:Int) (p - 1+(k:Int) - 2 * les Y (k:Int)) rest)->X.Perm (tr (k:Int) (p+(k:Int) - 2 * les Y (k:Int)) rest)->Lst (fs++rnn (p+1) k) X:=by
 intro k
 induction k with
 | zero =>
  intro Y rest X hY hC hp hx;have e:∀ o,tr ((0:Nat):Int) o rest=rest:=fun o=>rfl;rw[e]at hp hx;exact hY.perm (hp.trans hx.symm)
 | succ k ih =>
  intro Y rest X hY hC hp hx;obtain⟨Y',hY',hT⟩:=tS hY;obtain⟨t,rT,ht1,hTp,hTm,hTs,hT'⟩:=hT.tr';have hk0:((k+1:Nat):Int)≠0:=by omega
  have hmem:(((k+1:Nat):Int),p - 1+((k+1:Nat):Int) - 2 * les Y ((k+1:Nat):Int))∈Y:=hp.mem_iff.mpr (by unfold tr;rw[if_neg hk0];exact aAw);have htm:(t,p+(k:Int) - 2 * les Y t)∈Y:=hTp.mem_iff.mpr aAw;have a1:=hTs _ hmem;have a2:=hC _ htm;simp only at a1 a2;have htk:t=((k+1:Nat):Int):=by
   rcases Int.lt_trichotomy t ((k+1:Nat):Int)with c | c | c
   ·have:=a2 (by omega);omega
   ·exact c
   ·have:=a1 c;omega
  subst htk;have hrr:rT.Perm rest:=by
   have h5:=hTp.symm.trans hp;unfold tr at h5;rw[if_neg hk0,show p - 1+((k+1:Nat):Int) - 2 * les Y ((k+1:Nat):Int)=p+(k:Int) - 2 * les Y ((k+1:Nat):Int)by omega]at h5;exact List.Perm.cons_inv h5
  have e1:((k+1:Nat):Int) - 1=(k:Int):=by omega
  rw[e1]at hT';have hlY:∀ j,0<=j->les Y j=min j ((k+1:Nat):Int)+les rest j:=fun j hj=>by
   rw[aM hTp,aO,aM hrr]
  have hlY':∀ j,0<=j->les Y' j=min j (k:Int)+les rest j:=fun j hj=>by
   rw[aM hT',iL (by omega) hj,aM hrr]
  have hbd:=hY.bd (tR hf);have hpos:=hY.pos;have hrY:∀ q∈rest,q∈Y:=fun q hq=>hp.mem_iff.mpr (tP hq);have hX':=ih Y' rest (tr (k:Int) (p+(k:Int) - 2 * les Y' (k:Int)) rest) hY' (fun q hq hle=>by
   rcases pP (hT'.mem_iff.mp hq)with ⟨e,hne⟩ | h
   ·rw[e];simp only;have h6:=hlY' (k:Int) (by omega);have h7:=aM hrr (k:Int);omega
   ·have hq':=hrY q (hrr.mem_iff.mp h);have h5:=hC q hq' (by omega);have h6:=hpos q hq';have h7:=hlY q.1 (by omega);have h8:=hlY' q.1 (by omega);omega) (hT'.trans (by
     have h6:=hlY' (k:Int) (by omega);have h7:=aM hrr (k:Int);rw[show p+(k:Int) - 1 - 2 * les rT (k:Int) - 2 * (k:Int)=p - 1+(k:Int) - 2 * les Y' (k:Int)by omega];exact X5 hrr)) (.refl _)
  refine tT (fun x hx=>by have:=hf x hx;omega) hX' (tQ (s:=(k:Int)) (rest:=rest) (by omega) ?_ ?_ ?_)
  ·have hlX:les (tr (k:Int) (p+(k:Int) - 2 * les Y' (k:Int)) rest) (k:Int)=les Y' (k:Int):=by rw[iL (by omega) (by omega),hlY' _ (by omega)]
   rw[hlX,show p+1+(k:Int) - 1 - 2 * les Y' (k:Int)=p+(k:Int) - 2 * les Y' (k:Int)by omega]
  ·intro q hq hgt;rcases pP hq with ⟨e,hne⟩ | h
   ·rw[e]at hgt;exact absurd hgt (by simp)
   ·have hq':=hrY q h;have h5:=(hbd q hq').2;have h6:=hpos q hq';have h7:=hlY q.1 (by omega);rw[iL (by omega) (by omega)];omega
  ·have h8:=hlY ((k+1:Nat):Int) (by omega);have e3:(k:Int)+1=((k+1:Nat):Int):=by omega
   refine hx.trans ?_;unfold tr;rw[if_neg hk0,e3];rw[show p+((k+1:Nat):Int) - 2 * les Y ((k+1:Nat):Int)=p+1+(k:Int) - 2 * les rest ((k+1:Nat):Int) - 2 * ((k+1:Nat):Int)by omega]
theorem t4 {fs:List Int} {p:Int} (hf:∀ x∈fs,x<p) (s:Nat):∀ (d:Nat) (Y rest X:Trs),Lst (fs++rnn p (s+d)) Y->(∀ q∈Y,(q.1<=(s:Int)->q.2+2 * les Y q.1<=p - 1+q.1)/\((s:Int)<q.1->q.2+2 * les Y q.1<=p - 1+q.1 - 1)) ->
 Y.Perm (tr (s:Int) (p - 1+(s:Int) - 2 * les Y (s:Int)) rest)->X.Perm (((s:Int)+1,p+1+(s:Int) - 2 * les rest ((s:Int)+1) - 2 * ((s:Int)+1)) :: rest)->Lst (fs++rnn (p+1) (s+d+1)) X:=by
 intro d
 induction d with
 | zero =>
  intro Y rest X hY hC hp hx;rw[Nat.add_zero]at hY ⊢;have hlY:∀ j,0<=j->les Y j=min j (s:Int)+les rest j:=fun j hj=>by rw[aM hp,iL (by omega) hj]
  have hX':=t3 hf s Y rest (tr (s:Int) (p+(s:Int) - 2 * les Y (s:Int)) rest) hY (fun q hq hle=>(hC q hq).1 hle) hp (.refl _);have hbd:=hY.bd (tR hf);refine tT (fun x hx=>by have:=hf x hx;omega) hX' (tQ (s:=(s:Int)) (rest:=rest) (by omega) ?_ ?_ ?_)
  ·have hlX:les (tr (s:Int) (p+(s:Int) - 2 * les Y (s:Int)) rest) (s:Int)=les Y (s:Int):=by rw[iL (by omega) (by omega),hlY _ (by omega)]
   rw[hlX,show p+1+(s:Int) - 1 - 2 * les Y (s:Int)=p+(s:Int) - 2 * les Y (s:Int)by omega]
  ·intro q hq hgt;rcases pP hq with ⟨e,hne⟩ | h
   ·rw[e]at hgt;exact absurd hgt (by simp)
   ·have hq':=hp.mem_iff.mpr (tP h);have h5:=(hbd q hq').2;have h7:=hlY q.1 (by omega);rw[iL (by omega) (by omega)];omega
  ·exact hx
 | succ d ih =>
  intro Y rest X hY hC hp hx;have e0:s+(d+1)=(s+d)+1:=by omega
  rw[e0]at hY ⊢;obtain⟨Y',hY',hT⟩:=tS hY;obtain⟨t,rT,ht1,hTp,hTm,hTs,hT'⟩:=hT.tr';have htm:(t,p+((s+d:Nat):Int) - 2 * les Y t)∈Y:=hTp.mem_iff.mpr aAw;have hc:=hC _ htm;simp only at hc;have hts:(s:Int)+2<=t:=by
   rcases Int.lt_or_le (s:Int) t with c | c
   ·have:=hc.2 c;omega
   ·have:=hc.1 c;omega
  have hpos:=hY.pos;have htr:(t,p+((s+d:Nat):Int) - 2 * les Y t)∈rest:=by
   rcases pP (hp.mem_iff.mp htm)with ⟨e,_⟩ | h
   ·have:=congrArg Prod.fst e;simp only at this;omega
   ·exact h
  obtain⟨r2,hr2⟩:∃ r2:Trs,rest.Perm ((t,p+((s+d:Nat):Int) - 2 * les Y t) :: r2):=⟨rest.erase _,List.perm_cons_erase htr⟩;have hlY:∀ j,0<=j->les Y j=min j (s:Int)+(min j t+les r2 j):=fun j hj=>by rw[aM hp,iL (by omega) hj,aM hr2,aO]
  have hrT:rT.Perm (tr (s:Int) (p - 1+(s:Int) - 2 * les Y (s:Int)) r2):=by
   refine List.Perm.cons_inv (a:=(t,p+((s+d:Nat):Int) - 2 * les Y t)) (hTp.symm.trans (hp.trans ?_));unfold tr;split
   ·exact hr2
   ·exact(hr2.cons _).trans (List.Perm.swap _ _ _)
  have hlrT:∀ j,0<=j->les rT j=min j (s:Int)+les r2 j:=fun j hj=>by rw[aM hrT,iL (by omega) hj]
  have ht0:t - 1≠0:=by omega
  obtain⟨rest',hrest'⟩:∃ rest':Trs,rest'=(t - 1,p+((s+d:Nat):Int) - 1 - 2 * les rT (t - 1) - 2 * (t - 1)) :: r2:=⟨_,rfl⟩;have hY'p:Y'.Perm (tr (s:Int) (p - 1+(s:Int) - 2 * les Y (s:Int)) rest'):=by
   refine hT'.trans ?_;rw[hrest'];unfold tr at hrT ⊢;rw[if_neg ht0];split at hrT
   ·rw[if_pos (by assumption)];exact hrT.cons _
   ·rw[if_neg (by assumption)];exact(hrT.cons _).trans (List.Perm.swap _ _ _)
  have hlY':∀ j,0<=j->les Y' j=min j (s:Int)+(min j (t - 1)+les r2 j):=fun j hj=>by rw[aM hY'p,iL (by omega) hj,hrest',aO]
  have hles:les Y' (s:Int)=les Y (s:Int):=by rw[hlY' _ (by omega),hlY _ (by omega)];omega
  rw[<- hles]at hY'p;have hX':=ih Y' rest' (((s:Int)+1,p+1+(s:Int) - 2 * les rest' ((s:Int)+1) - 2 * ((s:Int)+1)) :: rest') hY' (fun q hq=>by
   have hq2:=hY'p.mem_iff.mp hq;rw[hrest']at hq2;rcases pP hq2 with ⟨e,hne⟩ | h
   ·rw[e];simp only;omega
   ·rcases aB8.mp h with e | h
    ·rw[e];simp only;have h6:=hlY' (t - 1) (by omega);have h7:=hlrT (t - 1) (by omega);omega
    ·have hq':q∈Y:=hp.mem_iff.mpr (tP (hr2.mem_iff.mpr (aAx _ h)));have h5:=hC q hq';have h6:=hpos q hq';have h7:=hlY q.1 (by omega);have h8:=hlY' q.1 (by omega);omega) hY'p (.refl _)
  have hlX':∀ j,0<=j->les (((s:Int)+1,p+1+(s:Int) - 2 * les rest' ((s:Int)+1) - 2 * ((s:Int)+1)) :: rest') j=min j ((s:Int)+1)+(min j (t - 1)+les r2 j):=fun j hj=>by
   have h1:les rest' j=min j (t - 1)+les r2 j:=by rw[hrest',aO]
   rw[aO,h1]
  have hrl:les rest' ((s:Int)+1)=((s:Int)+1)+les r2 ((s:Int)+1):=by rw[hrest',aO];simp only;omega
  have hrl2:les rest ((s:Int)+1)=((s:Int)+1)+les r2 ((s:Int)+1):=by rw[aM hr2,aO];simp only;omega
  refine tT (fun x hx=>by have:=hf x hx;omega) hX' (tQ (s:=t - 1) (rest:=((s:Int)+1,p+1+(s:Int) - 2 * les rest' ((s:Int)+1) - 2 * ((s:Int)+1)) :: r2) (by omega) ?_ ?_ ?_)
  ·unfold tr;rw[if_neg ht0];have h9:=hlX' (t - 1) (by omega);have h7:=hlrT (t - 1) (by omega);generalize les (((s:Int)+1,p+1+(s:Int) - 2 * les rest' ((s:Int)+1) - 2 * ((s:Int)+1)) :: rest') (t - 1)=L at h9 ⊢;refine(List.Perm.cons _ ?_).trans (List.Perm.swap _ _ _);rw[hrest',show p+((s+d:Nat):Int) - 1 - 2 * les rT (t - 1) - 2 * (t - 1)=p+1+((s+d+1:Nat):Int) - 1 - 2 * L by omega]
  ·intro q hq hgt;have hq2:q∈r2:=by
    rcases aB8.mp hq with e | h
    ·rw[e]at hgt;simp only at hgt;omega
    ·rw[hrest']at h;rcases aB8.mp h with e | h
     ·rw[e]at hgt;exact absurd hgt (by simp)
     ·exact h
   have hq':q∈Y:=hp.mem_iff.mpr (tP (hr2.mem_iff.mpr (aAx _ hq2)));have h5:=hTm q hq';have h6:=hpos q hq';have h7:=hlY q.1 (by omega);rw[hlX' q.1 (by omega)];omega
  ·have e4:t - 1+1=t:=by omega
   rw[e4];have h9:les (((s:Int)+1,p+1+(s:Int) - 2 * les rest' ((s:Int)+1) - 2 * ((s:Int)+1)) :: r2) t=((s:Int)+1)+les r2 t:=by rw[aO];simp only;omega
   have h10:=hlY t (by omega);rw[h9,hrl];refine hx.trans ?_;rw[hrl2];refine(hr2.cons _).trans ?_;rw[show p+((s+d:Nat):Int) - 2 * les Y t=p+1+((s+d+1:Nat):Int) - 2 * ((s:Int)+1+les r2 t) - 2 * t by omega];exact List.Perm.swap _ _ _
theorem pQ (n:Int) (k:Nat):rnn n (k+1)=n :: rnn (n+1) k:=gE k n
theorem pR {c:Int} {r:List Int}:∀ (k h:Nat) (m:Int),(∀ x∈r,m+(k:Int)<=x)->goM c r h m=rnn m (min h k)++goM c r (h - min h k) (m+(k:Int))
 | 0,h,m,_=>by simp[rnn]
 | k+1,0,m,hr=>by
  simp only[Nat.zero_min,Nat.zero_sub,P7,List.nil_append];exact oX
 | k+1,h+1,m,hr=>by
  have e1:min (h+1) (k+1)=min h k+1:=by omega
  have e2:h+1 - (min h k+1)=h - min h k:=by omega
  have ih:=pR (c:=c) (r:=r) k h (m+1) fun x hx=>by have:=hr x hx;omega
  have e3:goM c r (h+1) m=m :: goM c r h (m+1):=by
   cases r with
   | nil=>exact tD c h m
   | cons p r'=>exact V8 (by have:=hr p aAw;omega)
  rw[e3,ih,e1,e2,pQ,show m+((k+1:Nat):Int)=m+1+(k:Int)by omega];rfl
theorem P8 {c:Int} (hc:1<=c):∀ (r0:List Int) (h:Nat) (m n:Int),V9 r0->(∀ x∈r0,x<n/\(m<=x\/h=0))->(m<=n\/h=0)->(h:Int)<=c ->
 ∃ (fs:List Int) (ld:Nat),(∀ x∈fs,x<n)/\(ld:Int)<=c/\∀ r,(∀ x∈r,n<=x)->goM c (r0++r) h m=fs++goM c r ld n
 | [],h,m,n,_,_,hmn,hh=>by
  rcases Nat.eq_zero_or_pos h with e | e
  ·subst e;exact⟨[],0,fun x hx=>(nomatch hx),by omega,fun r _=>by rw[List.nil_append,List.nil_append];exact oX⟩
  ·have hmn':m<=n:=by omega
   refine⟨rnn m (min h (n - m).toNat),h - min h (n - m).toNat,fun x hx=>by have:=gX hx;omega,by omega,fun r hr=>?_⟩;have:=pR (c:=c) (r:=r) (n - m).toNat h m fun x hx=>by have:=hr x hx;omega
   rw[List.nil_append,this,show m+((n - m).toNat:Int)=n by omega]
 | p :: r0,h,m,n,hrow,hx,hmn,hh=>by
  obtain⟨h1,h2⟩:=List.pairwise_cons.mp hrow;have hp:=hx p aAw;have hm:min h (p - m).toNat<=h:=Nat.min_le_left _ _;have key:∀ r,goM c ((p :: r0)++r) h m=rnn m (min h (p - m).toNat)++(if ((h - min h (p - m).toNat:Nat):Int)<c then goM c (r0++r) (h - min h (p - m).toNat+1) (p+1)else p :: goM c (r0++r) (h - min h (p - m).toNat) (p+1)):=fun r=>rfl;have hrnn:∀ x∈rnn m (min h (p - m).toNat),x<n:=fun x hx=>by
   have:=gX hx;rcases hp.2 with q | q
   ·omega
   ·rw[q]at hx;simp[rnn]at hx
  have hr0:∀ x∈r0,x<n/\p+1<=x:=fun x hx'=>⟨(hx x (aAx _ hx')).1,by have:=h1 x hx';omega⟩
  by_cases hlt:((h - min h (p - m).toNat:Nat):Int)<c
  ·obtain⟨fs,ld,a1,a2,a3⟩:=P8 hc r0 (h - min h (p - m).toNat+1) (p+1) n h2 (fun x hx=>⟨(hr0 x hx).1,.inl (hr0 x hx).2⟩) (.inl (by omega)) (by omega);refine⟨rnn m (min h (p - m).toNat)++fs,ld,fun x hx=>?_,a2,fun r hr=>by rw[key,if_pos hlt,a3 r hr,List.append_assoc]⟩;rcases aB9.mp hx with q | q
   ·exact hrnn x q
   ·exact a1 x q
  ·obtain⟨fs,ld,a1,a2,a3⟩:=P8 hc r0 (h - min h (p - m).toNat) (p+1) n h2 (fun x hx=>⟨(hr0 x hx).1,.inl (hr0 x hx).2⟩) (.inl (by omega)) (by omega);refine⟨rnn m (min h (p - m).toNat)++p :: fs,ld,fun x hx=>?_,a2,fun r hr=>by rw[key,if_neg hlt,a3 r hr,List.append_assoc];rfl⟩;rcases aB9.mp hx with q | q
   ·exact hrnn x q
   ·rcases aB8.mp q with e | q
    ·rw[e];exact hp.1
    ·exact a1 x q
def shf (l:Int) (ps:Trs):Trs:=ps.map fun q=>(q.1,q.2+min l q.1)
theorem gY (l:Int) (ps:Trs) (j:Int):les (shf l ps) j=les ps j:=by
 unfold les shf;rw[aBZ];rfl
theorem lS {l:Int} {a b:Trs} (h:a.Perm b):(shf l a).Perm (shf l b):=h.map _
theorem P9 {l s o:Int} {rest:Trs}:shf l (tr s o rest)=tr s (o+min l s) (shf l rest):=by
 unfold tr;split <;> rfl
theorem tU {l:Int} {ps:Trs} {q:Int×Int} (h:q∈shf l ps):∃ q'∈ps,q=(q'.1,q'.2+min l q'.1):=by
 obtain⟨q',h1,h2⟩:=aBa.mp h;exact⟨q',h1,h2.symm⟩
theorem kR {l p:Int} (hl:1<=l) {ps0 ps:Trs} (hb:Bd ps0 (p - 1)) (ha:Add ps0 p ps) {fs:List Int} {ld:Nat} (hf:∀ x∈fs,x<p) (hld:(ld:Int)<=l) (hY:Lst (fs++rnn p ld) (shf l ps0)) :
 Lst (if (ld:Int)<l then fs++rnn (p+1) (ld+1)else fs++rnn p (ld+1)) (shf l ps)/\∃ s rest,0<=s/\ps0.Perm (tr s (p - 1 - 2 * les ps0 s) rest)/\ps.Perm ((s+1,p - 2 * les rest (s+1) - 2 * (s+1)) :: rest)/\((ld:Int)<l↔s<l):=by
 obtain⟨s,rest,h0,h1,h2,h3⟩:=ha.tr';have hsm:s≠0->(s,p - 1 - 2 * les ps0 s)∈ps0:=fun h=>h1.mem_iff.mpr (by unfold tr;rw[if_neg h];exact aAw)
 by_cases hc:(ld:Int)<l
 ·rw[if_pos hc];have hbd:=hY.bd (tR hf);have hs:s<=(ld:Int):=by
   by_cases hs0:s=0
   ·omega
   ·have:=(hbd (s,p - 1 - 2 * les ps0 s+min l s) (aBa.mpr ⟨_,hsm hs0,rfl⟩)).2;simp only[gY]at this;omega
  obtain⟨sn,rfl⟩:∃ sn:Nat,s=(sn:Int):=⟨s.toNat,by omega⟩;obtain⟨d,hd⟩:∃ d:Nat,ld=sn+d:=⟨ld - sn,by omega⟩;subst hd;refine⟨t4 hf sn d (shf l ps0) (shf l rest) (shf l ps) hY (fun q hq=>?_) ?_ ?_,(sn:Int),rest,h0,h1,h3,by constructor <;> intro _ <;> omega⟩
  ·obtain⟨q',hq',rfl⟩:=tU hq;have h5:=hb q' hq';have h6:=h2 q' hq';simp only[gY];refine⟨fun _=>by omega,fun h=>?_⟩;have:=h6 h;omega
  ·rw[gY];refine(lS h1).trans ?_;rw[P9,show p - 1 - 2 * les ps0 (sn:Int)+min l (sn:Int)=p - 1+(sn:Int) - 2 * les ps0 (sn:Int)by omega]
  ·rw[gY];refine(lS h3).trans ?_;unfold shf;rw[aBU];simp only;rw[show p - 2 * les rest ((sn:Int)+1) - 2 * ((sn:Int)+1)+min l ((sn:Int)+1)=p+1+(sn:Int) - 2 * les rest ((sn:Int)+1) - 2 * ((sn:Int)+1)by omega]
 ·rw[if_neg hc];have hll:(ld:Int)=l:=by omega
  obtain⟨k,hk⟩:∃ k,ld=k+1:=⟨ld - 1,by omega⟩;have hY2:=hY;rw[hk]at hY2;obtain⟨Y',_,hT⟩:=tS hY2;obtain⟨t,rT,ht1,hTp,_⟩:=hT;obtain⟨q',hq',e⟩:=tU (hTp.mem_iff.mpr aAw);have e1:=congrArg Prod.fst e;have e2:=congrArg Prod.snd e;simp only[gY]at e1 e2;have h5:=(hb q' hq').2;have h6:=h2 q' hq';rw[e1]at e2;have hs:l<=s:=by
   rcases Int.lt_or_le s q'.1 with c | c
   ·have:=h6 c;omega
   ·omega
  refine⟨tT hf hY (tQ (s:=s) (rest:=shf l rest) h0 ?_ ?_ ?_),s,rest,h0,h1,h3,by constructor <;> intro _ <;> omega⟩
  ·rw[gY];refine(lS h1).trans ?_;rw[P9,show p - 1 - 2 * les ps0 s+min l s=p+(ld:Int) - 1 - 2 * les ps0 s by omega]
  ·intro q hq hgt;obtain⟨q2,hq2,rfl⟩:=tU hq;have:=h2 q2 hq2;simp only[gY]at hgt ⊢;have:=this hgt;omega
  ·rw[gY];refine(lS h3).trans ?_;unfold shf;rw[aBU];simp only;rw[show p - 2 * les rest (s+1) - 2 * (s+1)+min l (s+1)=p+(ld:Int) - 2 * les rest (s+1) - 2 * (s+1)by omega]
theorem Lst.rowP {r:List Int} {ps:Trs} (h:Lst r ps):V9 r:=by
 induction h with
 | nil=>exact List.Pairwise.nil
 | snoc a b c ih=>exact List.pairwise_append.mpr ⟨ih,by simp,fun x hx y hy=>by rw[aB1.mp hy];exact b x hx⟩
theorem sF {l:Int} (hl:1<=l) {r:List Int} {p:Int} (hr:V9 r) (hp:∀ x∈r,x<p):∃ (fs:List Int) (ld:Nat),(∀ x∈fs,x<p)/\(ld:Int)<=l/\lG r l=fs++rnn p ld/\lG (r++[p]) l=if (ld:Int)<l then fs++rnn (p+1) (ld+1)else fs++rnn p (ld+1):=by
 obtain⟨fs,ld,a1,a2,a3⟩:=P8 hl r 0 0 p hr (fun x hx=>⟨hp x hx,.inr rfl⟩) (.inr rfl) (by omega);refine⟨fs,ld,a1,a2,?_,?_⟩
 ·have:=a3 [] fun x hx=>(nomatch hx);rw[List.append_nil]at this;exact this
 ·have:=a3 [p] fun x hx=>by rw[aB1.mp hx];exact Int.le_refl _
  unfold lG;rw[this,tB (.inr (Int.le_refl _))];split
  ·rfl
  ·rw[pQ];rfl
theorem Lst.walk {l:Int} (hl:1<=l) {r:List Int} {ps:Trs} (h:Lst r ps):Lst (lG r l) (shf l ps):=by
 induction h with
 | nil=>exact .nil
 | snoc a b c ih =>
  rename_i r ps0 p ps
  obtain⟨fs,ld,a1,a2,a3,a4⟩:=sF hl a.rowP b;rw[a3]at ih;rw[a4];exact(kR hl (a.bd fun x hx=>by have:=b x hx;omega) c a1 a2 ih).1
end CW
namespace L2
open PySem PySem.Spec PyProof.Rows
end L2
namespace CW
open PySem L2
theorem t5:∀ {l:List Int},l≠[]->∃ m∈l,∀ x∈l,x<=m:=fun {l} h=>by
 cases l with
 | nil=>exact absurd rfl h
 | cons n r =>
  obtain⟨a1,a2,a3⟩:=eM r n;refine⟨r.foldl max n,?_,fun x hx=>?_⟩
  ·rcases a1 with h | h
   ·rw[h];exact aAw
   ·exact aAx _ h
  ·rcases aB8.mp hx with rfl | hx
   ·exact a2
   ·exact a3 x hx
theorem Add.ex (ps:Trs) (hp:∀ q∈ps,1<=q.1) (p:Int):∃ qs,Add ps p qs:=by
 by_cases h:(ps.filter fun q=>decide (q.2+2 * les ps q.1=p - 1))=[]
 ·refine⟨_,0,ps,Int.le_refl _,.inl ⟨rfl,.refl _⟩,fun q hq _ e=>?_,.refl _⟩;have:q∈ps.filter fun q=>decide (q.2+2 * les ps q.1=p - 1):=aBb.mpr ⟨hq,by simpa using e⟩;rw[h]at this;cases this
 ·obtain⟨s,hs,hmax⟩:=t5 (l:=(ps.filter fun q=>decide (q.2+2 * les ps q.1=p - 1)).map (·.1)) (by simpa using h);obtain⟨q,hq,e⟩:=aBa.mp hs;obtain⟨h1,h2⟩:=aBb.mp hq;have h3:q.2+2 * les ps q.1=p - 1:=by simpa using h2
  have e':q.1=s:=e;have hm:(s,p - 1 - 2 * les ps s)∈ps:=by
   have:(s,p - 1 - 2 * les ps s)=q:=by rw[<- e',<- h3];exact Prod.ext rfl (by show _=q.2;omega)
   rw[this];exact h1
  have hs1:=hp _ hm;have hs1':1<=s:=hs1;refine⟨_,s,ps.erase (s,p - 1 - 2 * les ps s),by omega,.inr ⟨hs1',List.perm_cons_erase hm⟩,fun x hx hlt e2=>?_,.refl _⟩;have:=hmax x.1 (aBa.mpr ⟨x,aBb.mpr ⟨hx,by simpa using e2⟩,rfl⟩);omega
theorem Lst.ex:∀ (r:List Int),Row r->∃ ps,Lst r ps:=by
 have go:∀ (n:Nat) (r:List Int),r.length=n->Row r->∃ ps,Lst r ps:=by
  intro n
  induction n with
  | zero=>intro r h _;exact⟨[],by rw[List.length_eq_zero_iff.mp h];exact .nil⟩
  | succ n ih =>
   intro r h hr;have hne:r≠[]:=fun e=>by rw[e]at h;cases h
   have e:=List.dropLast_concat_getLast hne;rw[<- e]at hr;obtain⟨h1,_,h2⟩:=List.pairwise_append.mp hr;obtain⟨ps,hps⟩:=ih r.dropLast (by rw[List.length_dropLast];omega) h1;obtain⟨qs,hqs⟩:=Add.ex ps hps.pos (r.getLast hne);refine⟨qs,?_⟩;rw[<- e];exact .snoc hps (fun x hx=>h2 x hx _ (by simp)) hqs
 exact fun r hr=>go r.length r rfl hr
def shn (f:Int->Int) (ps:Trs):Trs:=ps.map fun q=>(q.1,q.2+f q.1)
theorem Lst.walks {l:Int} (hl:1<=l) {r:List Int} {ps:Trs} (h:Lst r ps):Lst (lG r l) (shn (fun s=>min l s) ps):=h.walk hl
theorem Lst.trn {r:List Int} {ps:Trs} (h:Lst r ps) (hl:r.length<=60):Trn ps:=⟨h.pos,by have:=h.sizx;unfold siz at this;unfold szs;omega⟩
section
variable {P:Program} {w:World} {K:PySem.W.Frag} {mg:Str->Option Value} {base:Heap}
end
theorem yE {c B:Int}:∀ (r:List Int) (h:Nat) (n:Int),(∀ x∈r,x<=B)->n<=B+1->∀ y∈goM c r h n,y<=B+(h:Int)+(r.length:Int)
 | [],h,n,_,hn,y,hy=>by
  obtain⟨k,hk,rfl⟩:=aBa.mp hy;have:=List.mem_range.mp hk;simp only[List.length_nil];omega
 | p :: r,h,n,hx,hn,y,hy=>by
  have hp:=hx p aAw;have hr:∀ x∈r,x<=B:=fun x hx'=>hx x (aAx _ hx');rw[goM]at hy;rw[aBY];rcases aB9.mp hy with hy | hy
  ·obtain⟨k,hk,rfl⟩:=aBa.mp hy;have:=List.mem_range.mp hk;omega
  ·split at hy
   ·have:=yE r _ (p+1) hr (by omega) y hy;omega
   ·rcases aB8.mp hy with rfl | hy
    ·omega
    ·have:=yE r _ (p+1) hr (by omega) y hy;omega
theorem yF {c L:Int}:∀ (r:List Int) (h:Nat) (n:Int),(∀ x∈r,L<=x)->(L<=n\/h=0)->∀ y∈goM c r h n,L<=y
 | [],h,n,_,hn,y,hy=>by
  obtain⟨k,hk,rfl⟩:=aBa.mp hy;have:=List.mem_range.mp hk;omega
 | p :: r,h,n,hx,hn,y,hy=>by
  have hp:=hx p aAw;have hr:∀ x∈r,L<=x:=fun x hx'=>hx x (aAx _ hx');rw[goM]at hy;rcases aB9.mp hy with hy | hy
  ·obtain⟨k,hk,rfl⟩:=aBa.mp hy;have:=List.mem_range.mp hk;omega
  ·split at hy
   ·exact yF r _ (p+1) hr (.inl (by omega)) y hy
   ·rcases aB8.mp hy with rfl | hy
    ·omega
    ·exact yF r _ (p+1) hr (.inl (by omega)) y hy
def Near (b:Int) (r:List Int):Prop:=∀ x∈r,-b<=x/\x<=b
theorem Near.walk {b c:Int} {r:List Int} (h:Near b r) (hb:0<=b):Near (b+(r.length:Int)) (lG r c):=fun y hy=>by
 have h1:=yE (c:=c) (B:=b) r 0 0 (fun x hx=>(h x hx).2) (by omega) y hy;have h2:=yF (c:=c) (L:=-b) r 0 0 (fun x hx=>(h x hx).1) (.inr rfl) y hy;omega
section
variable {P:Program} {w:World} {K:PySem.W.Frag} {mg:Str->Option Value} {base:Heap}
end
theorem kT (p:Int->Bool) (a b:List Int):((a++b).filter p).length=(a.filter p).length+(b.filter p).length:=by rw[List.filter_append,aBD]
theorem zS (s o l:Int) (rest:Trs) (h0:0<=s) (hl:1<=l):les (tr s o rest) l=min l s+les rest l:=by
 unfold tr;split
 ·rename_i e
  rw[e];have:min l 0=0:=by omega
  omega
 ·rw[aO]
theorem Lst.car {l:Int} (hl:1<=l) {r:List Int} {ps:Trs} (h:Lst r ps):(tG r l:Int)=les ps l:=by
 induction h with
 | nil=>rfl
 | snoc a b c ih =>
  rename_i r ps0 p ps
  obtain⟨fs,ld,a1,a2,a3,a4⟩:=sF hl a.rowP b;have hw:=a.walk hl;rw[a3]at hw;obtain⟨_,s,rest,s0,s1,s2,s3⟩:=kR hl (a.bd fun x hx=>by have:=b x hx;omega) c a1 a2 hw;rw[aM s1,zS s _ l rest s0 hl]at ih;rw[aM s2,aO];simp only;have old:tG r l=(fs.filter fun x=>decide (x∉r)).length+ld:=by
   unfold tG;rw[a3,kT]
   congr 1
   rw[List.filter_eq_self.mpr]
   ·simp[rnn]
   ·intro x hx;have:=gX hx;exact aBR fun z=>by have:=b x z;omega
  have efs:(fs.filter fun x=>decide (x∉r++[p]))=fs.filter fun x=>decide (x∉r):=List.filter_congr fun x hx=>by
   have hne:x≠p:=by have:=a1 x hx;omega
   simp[hne]
  by_cases hc:(ld:Int)<l
  ·have new:tG (r++[p]) l=(fs.filter fun x=>decide (x∉r)).length+(ld+1):=by
    unfold tG;rw[a4,if_pos hc,kT,efs]
    congr 1
    rw[List.filter_eq_self.mpr]
    ·simp[rnn]
    ·intro x hx;have:=gX hx;refine aBR fun z=>?_;rcases aB9.mp z with z | z
     ·have:=b x z;omega
     ·have:=aB1.mp z;omega
   have:=s3.mp hc;omega
  ·have new:tG (r++[p]) l=(fs.filter fun x=>decide (x∉r)).length+ld:=by
    unfold tG;rw[a4,if_neg hc,kT,efs]
    congr 1
    rw[pQ,List.filter_cons,if_neg (by simp),List.filter_eq_self.mpr]
    ·simp[rnn]
    ·intro x hx;have:=gX hx;refine aBR fun z=>?_;rcases aB9.mp z with z | z
     ·have:=b x z;omega
     ·have:=aB1.mp z;omega
   have:=mt s3.mpr hc;omega
def ldG (c:Nat):List Int->Nat->Int->Nat
 | [],_,_=>0
 | p :: r,h,n=>if h - min h (p - n).toNat<c then 1+ldG c r (h - min h (p - n).toNat+1) (p+1)else ldG c r (h - min h (p - n).toNat) (p+1)
def wA (a:Int):List Int->List Int
 | []=>[]
 | [_]=>[]
 | x :: y :: r=>if y=x+1 then (x - 2 * a) :: wA a (y :: r)else wA (a+1) (y :: r)
theorem X6 (c:Nat) {r:List Int} {h:Nat} {n:Int} (d:Nat) (hr:∀ x∈r,n+(d:Int)<=x):ldG c r h n=ldG c r (h - min h d) (n+(d:Int)):=by
 cases r with
 | nil=>rfl
 | cons p r =>
  have hp:=hr p aAw;show (if h - min h (p - n).toNat<c then _ else _)=if h - min h d - min (h - min h d) (p - (n+(d:Int))).toNat<c then _ else _
  have e:h - min h d - min (h - min h d) (p - (n+(d:Int))).toNat=h - min h (p - n).toNat:=by omega
  rw[e]
def wB:List Int->List Int
 | []=>[]
 | [x]=>[x]
 | x :: y :: r=>if y=x+1 then wB (y :: r)else x :: wB (y :: r)
theorem Q0 (c:Nat) {r:List Int} {n m:Int}:ldG c r 0 n=ldG c r 0 m:=by
 cases r with
 | nil=>rfl
 | cons p r =>
  show (if 0 - min 0 (p - n).toNat<c then _ else _)=if 0 - min 0 (p - m).toNat<c then _ else _
  simp
theorem yG {c:Nat} (hc:1<=c):∀ (r0:List Int) (h:Nat) (m n:Int),V9 r0->(∀ x∈r0,x<n/\(m<=x\/h=0))->(m<=n\/h=0)->h<=c ->
 ∃ (fs:List Int) (ld k:Nat),(∀ x∈fs,x<n)/\ld<=c/\∀ r,(∀ x∈r,n<=x)->goM c (r0++r) h m=fs++goM c r ld n/\ldG c (r0++r) h m=k+ldG c r ld n
 | [],h,m,n,_,_,hmn,hh=>by
  rcases Nat.eq_zero_or_pos h with e | e
  ·subst e;exact⟨[],0,0,fun x hx=>(nomatch hx),by omega,fun r _=>⟨by rw[List.nil_append,List.nil_append];exact oX,by rw[List.nil_append,Nat.zero_add];exact Q0 c⟩⟩
  ·have hmn':m<=n:=by omega
   refine⟨rnn m (min h (n - m).toNat),h - min h (n - m).toNat,0,fun x hx=>by have:=gX hx;omega,by omega,fun r hr=>⟨?_,?_⟩⟩
   ·have:=pR (c:=c) (r:=r) (n - m).toNat h m fun x hx=>by have:=hr x hx;omega
    rw[List.nil_append,this,show m+((n - m).toNat:Int)=n by omega]
   ·have:=X6 c (r:=r) (h:=h) (n:=m) (n - m).toNat fun x hx=>by have:=hr x hx;omega
    rw[List.nil_append,this,show m+((n - m).toNat:Int)=n by omega];omega
 | p :: r0,h,m,n,hrow,hx,hmn,hh=>by
  obtain⟨h1,h2⟩:=List.pairwise_cons.mp hrow;have hp:=hx p aAw;have hm:min h (p - m).toNat<=h:=Nat.min_le_left _ _;have key:∀ r,goM c ((p :: r0)++r) h m=rnn m (min h (p - m).toNat)++(if ((h - min h (p - m).toNat:Nat):Int)<(c:Int)then goM c (r0++r) (h - min h (p - m).toNat+1) (p+1)else p :: goM c (r0++r) (h - min h (p - m).toNat) (p+1)):=fun r=>rfl;have key2:∀ r,ldG c ((p :: r0)++r) h m=if h - min h (p - m).toNat<c then 1+ldG c (r0++r) (h - min h (p - m).toNat+1) (p+1)else ldG c (r0++r) (h - min h (p - m).toNat) (p+1):=fun r=>rfl
  have hrnn:∀ x∈rnn m (min h (p - m).toNat),x<n:=fun x hx=>by
   have:=gX hx;rcases hp.2 with q | q
   ·omega
   ·rw[q]at hx;simp[rnn]at hx
  have hr0:∀ x∈r0,x<n/\p+1<=x:=fun x hx'=>⟨(hx x (aAx _ hx')).1,by have:=h1 x hx';omega⟩
  by_cases hlt:h - min h (p - m).toNat<c
  ·obtain⟨fs,ld,k,a1,a2,a3⟩:=yG hc r0 (h - min h (p - m).toNat+1) (p+1) n h2 (fun x hx=>⟨(hr0 x hx).1,.inl (hr0 x hx).2⟩) (.inl (by omega)) (by omega);refine⟨rnn m (min h (p - m).toNat)++fs,ld,k+1,fun x hx=>?_,a2,fun r hr=>⟨by rw[key,if_pos (by omega),(a3 r hr).1,List.append_assoc],by rw[key2,if_pos hlt,(a3 r hr).2];omega⟩⟩;rcases aB9.mp hx with q | q
   ·exact hrnn x q
   ·exact a1 x q
  ·obtain⟨fs,ld,k,a1,a2,a3⟩:=yG hc r0 (h - min h (p - m).toNat) (p+1) n h2 (fun x hx=>⟨(hr0 x hx).1,.inl (hr0 x hx).2⟩) (.inl (by omega)) (by omega);refine⟨rnn m (min h (p - m).toNat)++p :: fs,ld,k,fun x hx=>?_,a2,fun r hr=>⟨by rw[key,if_neg (by omega),(a3 r hr).1,List.append_assoc];rfl,by rw[key2,if_neg hlt,(a3 r hr).2]⟩⟩;rcases aB9.mp hx with q | q
   ·exact hrnn x q
   ·rcases aB8.mp q with e | q
    ·rw[e];exact hp.1
    ·exact a1 x q
theorem Lst.load {c:Nat} (hc:1<=c) {r:List Int} {ps:Trs} (h:Lst r ps):(ldG c r 0 0:Int)=les ps c:=by
 induction h with
 | nil=>rfl
 | snoc a b d ih =>
  rename_i r ps0 p ps
  obtain⟨fs,ld,k,a1,a2,a3⟩:=yG hc r 0 0 p a.rowP (fun x hx=>⟨b x hx,.inr rfl⟩) (.inr rfl) (by omega);have o:=a3 [] fun x hx=>(nomatch hx);have w:=a3 [p] fun x hx=>by rw[aB1.mp hx];exact Int.le_refl _
  rw[List.append_nil]at o;have ow:lG r c=fs++rnn p ld:=o.1;have ol:ldG c r 0 0=k:=o.2;have nl:ldG c (r++[p]) 0 0=k+(if ld<c then 1 else 0):=by
   rw[w.2]
   congr 1
   show (if ld - min ld (p - p).toNat<c then 1+0 else 0)=_;rw[show ld - min ld (p - p).toNat=ld by omega]
  have hw:=a.walk (l:=c) (by omega);rw[ow]at hw;obtain⟨_,s,rest,s0,s1,s2,s3⟩:=kR (l:=c) (by omega) (a.bd fun x hx=>by have:=b x hx;omega) d a1 (by omega) hw;rw[aM s1,zS s _ c rest s0 (by omega),ol]at ih;rw[aM s2,aO,nl];simp only
  by_cases hl:ld<c
  ·have:=s3.mp (by omega);rw[if_pos hl];omega
  ·have:=mt s3.mpr (by omega);rw[if_neg hl];omega
theorem E4 {ps:Trs} (h:∀ q∈ps,1<=q.1):les ps 0=0:=by
 induction ps with
 | nil=>rfl
 | cons q ps ih =>
  have:=h q aAw;rw[aO,ih fun x hx=>h x (aAx _ hx)];omega
def geN (ss:List Int) (k:Int):Nat:=(ss.filter fun s=>decide (k<=s)).length
theorem Q3 (k:Int):∀ ps:Trs,les ps (k+1) - les ps k=(geN (ps.map (·.1)) (k+1):Int)
 | []=>rfl
 | q :: ps=>by
  have ih:=Q3 k ps;rw[aO,aO];unfold geN at *;rw[aBU,List.filter_cons]
  by_cases c:k+1<=q.1
  ·rw[if_pos (by simpa using c),aBY];omega
  ·rw[if_neg (by simpa using c)];omega
end CW
namespace L2
open PySem PySem.Spec PyProof.Rows
section
variable {K:PySem.W.Frag} {x qual:Str} {st:Stmt} {f:Addr} {fd:FuncData} {p1 p2 p3 p4:Str}
theorem Fun.binds1 (F:Fun K x qual st f fd) (h:∀ (kV doc pm:Value) (an:Option Addr) (cdv ct u:Value),bindArgs (PySem.W.fnOf x qual (aU st) (aR st) (aE st) .none kV doc pm an cdv ct) ⟨[u],[]⟩=pure [(p1,u)]):Binds K fd [p1] [] :=
 F.binds fun a b c d e g us hl=>match us,hl with | [u],_=>h a b c d e g u
theorem Fun.binds2 (F:Fun K x qual st f fd) (h:∀ (kV doc pm:Value) (an:Option Addr) (cdv ct u v:Value),bindArgs (PySem.W.fnOf x qual (aU st) (aR st) (aE st) .none kV doc pm an cdv ct) ⟨[u,v],[]⟩=pure [(p1,u),(p2,v)]):Binds K fd [p1,p2] [] :=
 F.binds fun a b c d e g us hl=>match us,hl with | [u,v],_=>h a b c d e g u v
theorem Fun.binds3 (F:Fun K x qual st f fd) (h:∀ (kV doc pm:Value) (an:Option Addr) (cdv ct u v w:Value),bindArgs (PySem.W.fnOf x qual (aU st) (aR st) (aE st) .none kV doc pm an cdv ct) ⟨[u,v,w],[]⟩=pure [(p1,u),(p2,v),(p3,w)]):Binds K fd [p1,p2,p3] [] :=
 F.binds fun a b c d e g us hl=>match us,hl with | [u,v,w],_=>h a b c d e g u v w
end
structure CompOkC (sc inn:Scope) (N:List Str) (js:List Nat) (cs:List Str):Prop where
 kind:inn.kind=.function
 names:∀ y∈inn.names,y.2=.local->inn.names.lookup y.1=some .local
 cells:∀ y∈inn.names,y.2=.cell->inn.names.lookup y.1=some .cell
 frees:∀ y∈inn.names,y.2=.free->sc.names.lookup y.1=some .cell\/sc.names.lookup y.1=some .free
 slots:(js.map fun j=>N[j]?)=cs.map some
 caps:∀ x∈cs,inn.names.lookup x=some .free
def tV (sc inn:Scope) (N:List Str) (js:List Nat) (cs:List Str):Bool :=
 (inn.kind == .function) && inn.names.all (fun y=>(y.2 != .cell || inn.names.lookup y.1 == some .cell) && (y.2 != .local || inn.names.lookup y.1 == some .local) && (y.2 != .free || (sc.names.lookup y.1 == some .cell || sc.names.lookup y.1 == some .free))) &&
 (js.map fun j=>N[j]?) == cs.map some && cs.all (fun x=>inn.names.lookup x == some .free)
theorem CompOkC.of {sc inn:Scope} {N:List Str} {js:List Nat} {cs:List Str} (h:tV sc inn N js cs=true):CompOkC sc inn N js cs:=by
 unfold tV at h;simp only[Bool.and_eq_true]at h;obtain⟨⟨⟨h1,h2⟩,h3⟩,h4⟩:=h;rw[List.all_eq_true]at h2 h4;refine⟨by simpa using h1,fun y hy e=>?_,fun y hy e=>?_,fun y hy e=>?_,by simpa using h3,fun x hx=>by simpa using h4 x hx⟩
 ·have:=h2 y hy;simp only[Bool.and_eq_true,e]at this;simpa using this.1.2
 ·have:=h2 y hy;simp only[Bool.and_eq_true,e]at this;simpa using this.1.1
 ·have:=h2 y hy;simp only[Bool.and_eq_true,e]at this;simpa using this.2
def Q4 (inn:Scope) (x:Str):Bool:=match inn.names.lookup x with | some .cell=>true | _=>false
theorem E5 {inn:Scope} {x:Str} (h:Q4 inn x=true):inn.names.lookup x=some .cell:=by
 unfold Q4 at h;split at h
 ·assumption
 ·cases h
def kJ (X:Cx) (inn:Scope) (N':List Str) (s₀:Shared) (H₀:Hp) (ex:List Addr):Cx :=
 { eU X inn N' s₀ H₀ ex with env:=compEnvC inn (cellsFrom (s₀.heap.objs.size+1) inn.names (eT inn X.env)) s₀.heap.objs.size X.env,fn:=fun x=>Q4 inn x }
theorem eV:∀ (names:List (Str×NameKind)) (n:Nat) (acc:List (Str×Addr)),cellsFrom n names acc=cellsFrom n names []++acc
 | [],_,_=>rfl
 | (x,k) :: r,n,acc=>by
  unfold cellsFrom;split
  ·rw[eV r (n+1) ((x,n) :: acc),eV r (n+1) [(x,n)],List.append_assoc];rfl
  ·exact eV r n acc
theorem mS {x:Str} {c:Addr}:∀ (names:List (Str×NameKind)) (n:Nat) (acc:List (Str×Addr)),(x,c)∈cellsFrom n names acc->(x,NameKind.cell)∈names\/(x,c)∈acc
 | [],_,_,h=>.inr h
 | (y,k) :: r,n,acc,h=>by
  unfold cellsFrom at h;split at h
  ·rename_i hk
   rcases mS r _ _ h with q | q
   ·exact .inl (aAx _ q)
   ·rcases aB8.mp q with e | q
    ·cases e;have:k=.cell:=by simpa using hk
     rw[this];exact .inl aAw
    ·exact .inr q
  ·rcases mS r _ _ h with q | q
   ·exact .inl (aAx _ q)
   ·exact .inr q
theorem tW {inn:Scope} (h:Heap):(∀ x c,(x,c)∈cellsFrom (h.objs.size+1) inn.names []->(pushCells (h.push { cls:=.type "dict",data:=.dict #[] }) inn.names).IsCell c none)/\(∀ x c,(x,c)∈cellsFrom (h.objs.size+1) inn.names []->h.objs.size<c)/\(cellsFrom (h.objs.size+1) inn.names []).Pairwise fun x y=>x.2≠y.2:=by
 have ok:=cellsFrom_ok inn.names (h.push { cls:=.type "dict",data:=.dict #[] }) (h.objs.size+1) [] ⟨fun _ _ hm=>(nomatch hm),List.Pairwise.nil⟩ (by rw[Heap.size_push];exact Nat.le_refl _);rw[Heap.size_push]at ok;exact⟨fun x c hm=>(ok.empty x c hm).1,fun x c hm=>(ok.empty x c hm).2,ok.apart⟩
theorem gH {x:Str}:∀ (a b:List (Str×Addr)),(a++b).lookup x=(a.lookup x).or (b.lookup x)
 | [],_=>rfl
 | (y,c) :: a,b=>by
  rw[List.cons_append,List.lookup_cons,List.lookup_cons];cases x == y with
  | true=>rfl
  | false=>exact gH a b
theorem Q5 {inn:Scope} {n:Nat} {cl:List (Str×Addr)} {x:Str} {c:Addr} (h:(cellsFrom n inn.names cl).lookup x=some c):(x,c)∈cellsFrom n inn.names []\/cl.lookup x=some c:=by
 rw[eV,gH]at h;cases e:(cellsFrom n inn.names []).lookup x with
 | none=>rw[e]at h;exact .inr h
 | some d =>
  rw[e]at h;cases h;exact .inl (PySem.mem_of_lookup e)
theorem zT {inn:Scope} {n:Nat} {cl:List (Str×Addr)} {x:Str} {c:Addr} (hc:∀ y∈inn.names,y.2=.cell->inn.names.lookup y.1=some .cell) (hx:inn.names.lookup x=some .free) (h:cl.lookup x=some c):(cellsFrom n inn.names cl).lookup x=some c:=by
 rw[eV,gH];cases e:(cellsFrom n inn.names []).lookup x with
 | none=>exact h
 | some d =>
  rcases mS inn.names _ _ (PySem.mem_of_lookup e)with q | q
  ·have:=hc _ q rfl;rw[hx]at this;cases this
  ·cases q
theorem nH {env:Env}:∀ {names:List (Str×NameKind)} {x:Str},((names.map fun(n,k)=>if (k == NameKind.free && env.scope.kind == .function && env.kindOf n == some .cell)then (n,NameKind.cell)else (n,k)).lookup x=some .cell \/
 (names.map fun(n,k)=>if (k == NameKind.free && env.scope.kind == .function && env.kindOf n == some .cell)then (n,NameKind.cell)else (n,k)).lookup x=some .free)->names.lookup x=some .cell\/names.lookup x=some .free
 | [],_,h=>by simp at h
 | (n,k) :: r,x,h=>by
  have ih:=@nH env r x;rw[aBU]at h;cases hx:x == n with
  | true =>
   simp only[List.lookup_cons,hx]
   by_cases hc:(k == NameKind.free && env.scope.kind == .function && env.kindOf n == some .cell)=true
   ·have:k=.free:=by simp only[Bool.and_eq_true]at hc;simpa using hc.1.1
    subst this;exact .inr rfl
   ·simp only[if_neg hc,List.lookup_cons,hx]at h;exact h
  | false =>
   simp only[List.lookup_cons,hx];refine ih ?_
   by_cases hc:(k == NameKind.free && env.scope.kind == .function && env.kindOf n == some .cell)=true
   ·simp only[if_pos hc,List.lookup_cons,hx]at h;exact h
   ·simp only[if_neg hc,List.lookup_cons,hx]at h;exact h
section
variable {M:Model} {A:Around} {E:Value->Shared->Prop} {s:Shared}
theorem X7 {scope:Scope} {globals:Addr} {cl:List (Str×Addr)} {qual:Str} {func:Option Addr} {code:Value} {around:Env} {builtins:Addr} {Q:Env->Shared->Prop}
 (hQ:Q { scope:=scope,locals:=s.heap.objs.size,globals:=globals,cells:=cellsFrom (s.heap.objs.size+1) scope.names cl,qual:=qual,func:=func,code:=around.code,frame:=around.frame,builtins:=around.builtins } { s with heap:=pushCells (s.heap.push { cls:=.type "dict",data:=.dict #[] }) scope.names }) :
 wpAny M A (newFunctionEnv scope globals cl [] qual func code (some around) builtins) Q E s:=by
 simp only[newFunctionEnv,Option.isSome_some,if_true];refine aAs (wpAny_alloc ?_);refine aAs (wpAny_layCells _ (fun name kind cells=>by cases hkc:kind == NameKind.cell <;> simp[hkc]) _ _ _ _ ?_);rw[show ({ s with heap:=s.heap.push { cls:=.type "dict",data:=.dict #[] } }:Shared).heap.objs.size=s.heap.objs.size+1 from Heap.size_push ..];refine aAs ?_;rw[List.forIn_nil];exact aAt (aAt hQ)
end
section
variable {X:Cx} {pins:List (Addr×Obj)} {σ:St} {H H':Hp} {s:Shared} {inn:Scope} {js:List Nat} {cs ts:List Str} {nt:Nat}
theorem pS (I:Inv X pins σ H s) {x:Str} {c:Addr} (e:(cellsFrom (s.heap.objs.size+1) inn.names (eT inn X.env)).lookup x=some c):((x,c)∈cellsFrom (s.heap.objs.size+1) inn.names []/\s.heap.objs.size<c)\/(X.env.cells.lookup x=some c/\c<s.heap.objs.size):=by
 rcases Q5 e with q | q
 ·exact .inl ⟨q,(tW s.heap).2.1 x c q⟩
 ·obtain⟨v,o,ho,_⟩:=I.cell x c (dG q);exact .inr ⟨dG q,aBA ho⟩
theorem t7 {ex:List Addr} (I:Inv X pins σ H s) (O:CompOkC X.env.scope inn X.N js cs) (hex:∀ b∈ex,b<s.heap.objs.size/\b≠X.env.locals/\b∉X.fs/\(∀ x c,X.env.cells.lookup x=some c->c≠b)/\∀ o,X.base.get? b≠some o) :
 (kJ X inn (ts++cs) s H ex).Ok where
 mod:=I.ok.mod
 kind:=O.kind
 glob:=I.ok.glob
 blt:=I.ok.blt
 above:=Nat.le_refl _
 inj:=fun x y c h1 h2=>by
  rcases pS I h1 with ⟨a,la⟩ | ⟨a,la⟩ <;> rcases pS I h2 with ⟨b,lb⟩ | ⟨b,lb⟩
  ·exact name_of_addr (tW s.heap).2.2 a b
  ·exact absurd (Nat.lt_trans la lb) (Nat.lt_irrefl _)
  ·exact absurd (Nat.lt_trans la lb) (Nat.lt_irrefl _)
  ·exact I.ok.inj x y c a b
 has:=fun x hx=>by
  show ∃ c,(cellsFrom (s.heap.objs.size+1) inn.names (eT inn X.env)).lookup x=some c;rcases nH (env:=X.env) hx with q | q
  ·obtain⟨c,ec⟩:=kZ (n:=s.heap.objs.size+1) q;exact⟨c,by rw[eV,gH,ec];rfl⟩
  ·obtain⟨c,ec⟩:=jV (env:=X.env) (fun y hy e=>I.ok.has y.1 (O.frees y hy e)) (PySem.mem_of_lookup q);exact⟨c,zT O.cells q ec⟩
 cab:=fun x c h e=>by
  have e':(cellsFrom (s.heap.objs.size+1) inn.names (eT inn X.env)).lookup x=some c:=e;obtain⟨d,ed⟩:=kZ (n:=s.heap.objs.size+1) (E5 h);rw[eV,gH,ed]at e';cases e';exact Nat.le_of_lt ((tW s.heap).2.1 x _ (PySem.mem_of_lookup ed))
 hd:=I.ok.hd
 frames:=I.ok.frames
 stk:=.inl rfl
 exf:=fun b hb=>⟨aBS (hex b hb).1,fun x c e=>by
  rcases pS I e with ⟨_,l⟩ | ⟨q,_⟩
  ·exact aBV (Nat.lt_trans (hex b hb).1 l)
  ·exact(hex b hb).2.2.2.1 x c q⟩
 bs:=I.bs
 bsz:=Nat.le_trans I.ok.bsz I.sz
 noex:=fun b o e hb=>(hex b hb).2.2.2.2 o e
 exfs:=fun b hb hs=>by
  rcases aB8.mp (I.stkSub b hs)with e | e
  ·exact(hex b hb).2.1 e
  ·exact(hex b hb).2.2.1 e
 funs:=I.stack
 frf:=I.stkFree
theorem X8 {ex:List Addr} {h':Heap} {tk:Nat} (hts:ts.length=nt) (I:Inv X pins σ H s) (O:CompOkC X.env.scope inn X.N js cs) (hex:∀ b∈ex,b<s.heap.objs.size/\b≠X.env.locals/\b∉X.fs/\(∀ x c,X.env.cells.lookup x=some c->c≠b)/\∀ o,X.base.get? b≠some o)
 (hn:∃ m,h'.Ns s.heap.objs.size m) (hk:∀ b o,s.heap.get? b=some o->h'.get? b=some o) (hcel:∀ x c,(x,c)∈cellsFrom (s.heap.objs.size+1) inn.names []->h'.IsCell c none) :
 Inv (kJ X inn (ts++cs) s H ex) [] (sIn nt js σ) H { s with heap:=h',toks:=tk }:=by
 have ok:(kJ X inn (ts++cs) s H ex).Ok:=t7 I O hex;obtain⟨m,hn⟩:=hn;have cellK:∀ c v,s.heap.IsCell c v->h'.IsCell c v:=fun c v ⟨o,ho,hd⟩=>⟨o,hk c o ho,hd⟩;have hlen:js.length=cs.length:=by have:=congrArg List.length O.slots;simpa using this
 refine⟨ok,rfl,I.bare,Un.kept hk,⟨m,hn,fun i x v e1 e2 e3=>?_⟩,fun x c e=>?_,I.hok.fresh (Nat.le_refl _),fun x c e=>?_,fun p hp=>?_,I.hok.kept hk,?_⟩
 ·obtain⟨hi,j,hj,hv⟩:=jW e2;have e1':(ts++cs)[i]?=some x:=e1;rw[List.getElem?_append_right (by omega),hts]at e1';have hN:X.N[j]?=some x:=by
   have q:(js.map fun j=>X.N[j]?)[i - nt]?=(cs.map some)[i - nt]?:=by rw[O.slots]
   rw[aBT,aBT,hj,e1']at q;exact Option.some.inj q
  have hcap:=O.caps x (aBF e1');have hmem:(x,NameKind.free)∈inn.names:=PySem.mem_of_lookup hcap;have hout:=O.frees _ hmem rfl;obtain⟨mo,hno,hl⟩:=I.loc;obtain⟨u,r,l⟩:=hl j x v hN hv (.inr hout);refine⟨u,r,.inr ?_⟩;rcases l with ⟨l1,_⟩ | ⟨k,c,ec,z⟩
  ·have l1':X.env.scope.names.lookup x=some .local:=l1;rcases hout with q | q <;> (rw[q]at l1';cases l1')
  ·refine⟨?_,?_⟩
   ·exact dN (env:=X.env) hcap
   ·obtain⟨c',ec'⟩:=jV (env:=X.env) (fun y hy e=>I.ok.has y.1 (O.frees y hy e)) hmem;have:=dG ec';rw[ec]at this;cases this;exact⟨c,zT O.cells hcap ec',cellK _ _ z⟩
 ·rcases pS I e with ⟨q,_⟩ | ⟨q,_⟩
  ·exact⟨none,hcel x c q⟩
  ·obtain⟨v,z⟩:=I.cell x c q;exact⟨v,cellK _ _ z⟩
 ·rcases pS I e with ⟨_,l⟩ | ⟨q,_⟩
  ·exact I.hok.fresh (Nat.le_of_lt l)
  ·exact I.freeC x c q
 ·exact absurd (show p∈([]:List (Addr×Obj)) from hp) (by simp)
 ·show (sIn nt js σ).length=(ts++cs).length;unfold sIn;simp[hts,hlen]
end
section
variable {X:Cx} {pins:List (Addr×Obj)} {σ:St} {inn:Scope} {js:List Nat} {cs ts:List Str} {nt:Nat} {elt tg iter:Expr} {ifs:List Expr} {pos:Pos} {g:TG} {tt:TT} {te:TE}
theorem yH {J:It} {fp:List Addr} {it:Addr} {tn:Nat->Heap->Prop} {H2:Hp} {s2:Shared} {E:Value->Shared->Prop} {Q:VK} {RR:Value->Addr->Result->Shared->Prop}
 (hcalm:X.calm=true) (O:CompOkC X.env.scope inn X.N js cs) (hts:ts.length=nt)
 (hg:∀ s₀ H₀ ex,PG (kJ X inn (ts++cs) s₀ H₀ ex) tg g) (hk:GK nt g) (ht:∀ s₀ H₀ ex,PIf (kJ X inn (ts++cs) s₀ H₀ ex) ifs tt) (he:∀ s₀ H₀ ex,PE (kJ X inn (ts++cs) s₀ H₀ ex) elt te)
 (I2:Inv X pins σ H2 s2) (T:qS X.prog X.w X.K tg J fp it tn) (st2:tn 0 s2.heap) (f2:∀ b∈fp,gR X pins H2 b)
 (R:oU J (sIn nt js σ) g tt te Q H2)
 (hRR:∀ D C s' H',Inv X pins σ H' s'->(∃ m,s'.heap.Ns C m)->H' C=none->C≠X.env.locals->X.s₀.heap.objs.size<=C->(∀ x c,X.env.cells.lookup x=some c->c≠C)->(∀ p∈X.pn++pins,p.1≠C)->Q (.ref D) H'->RR (.ref D) C (.ok .next) s') :
 wpAny (model X.prog X.w) X.A (newList []) (fun acc s₃=>wpAny (model X.prog X.w) X.A (newFunctionEnv inn X.env.globals (eT inn X.env) [] X.env.qual none .none (some X.env)) (fun cenv s₄ =>
  codeAny (model X.prog X.w) X.A (.compStart (.ListComp elt [⟨tg,iter,ifs,0⟩] inn pos) 0 (.ref it) acc { cenv with scope:=relabel inn X.env }) (RR acc cenv.locals) s₄) E s₃) E s2:=by
 refine wpAny_newObj_type (X7 ?_);dsimp only;have hns₁:(pushCells ((s2.heap.push { cls:=.type "list",dict:=none,data:=.seq ([]:List Value).toArray }).push { cls:=.type "dict",data:=.dict #[] }) inn.names).Ns (s2.heap.push { cls:=.type "list",dict:=none,data:=.seq ([]:List Value).toArray }).objs.size (fun _=>none):=(Heap.Ns.new _ (.type "dict")).keeps (pushCells_keeps _ _);have up₁:∀ b o,(s2.heap.push { cls:=.type "list",dict:=none,data:=.seq ([]:List Value).toArray }).get? b=some o->(pushCells ((s2.heap.push { cls:=.type "list",dict:=none,data:=.seq ([]:List Value).toArray }).push { cls:=.type "dict",data:=.dict #[] }) inn.names).get? b=some o:=fun b o e=>pushCells_keeps _ _ b o (aAv _ e);have cel₁:∀ x c,(x,c)∈cellsFrom ((s2.heap.push { cls:=.type "list",dict:=none,data:=.seq ([]:List Value).toArray }).objs.size+1) inn.names []->(pushCells ((s2.heap.push { cls:=.type "list",dict:=none,data:=.seq ([]:List Value).toArray }).push { cls:=.type "dict",data:=.dict #[] }) inn.names).IsCell c none:=fun x c hm=>(tW (inn:=inn) (s2.heap.push { cls:=.type "list",dict:=none,data:=.seq ([]:List Value).toArray })).1 x c hm;generalize pushCells ((s2.heap.push { cls:=.type "list",dict:=none,data:=.seq ([]:List Value).toArray }).push { cls:=.type "dict",data:=.dict #[] }) inn.names=h₁ at hns₁ up₁ cel₁ ⊢;generalize hD:s2.heap.objs.size=D;have I3:Inv X pins σ H2 { s2 with heap:=s2.heap.push { cls:=.type "list",dict:=none,data:=.seq ([]:List Value).toArray } }:=I2.kept (t':=s2.toks) fun b o e=>aAv _ e;generalize hs3:({ s2 with heap:=s2.heap.push { cls:=.type "list",dict:=none,data:=.seq ([]:List Value).toArray } }:Shared)=s3 at I3;have e3:s3.heap=s2.heap.push { cls:=.type "list",dict:=none,data:=.seq ([]:List Value).toArray }:=by rw[<- hs3]
 have hD3:s3.heap.get? D=some { cls:=.type "list",dict:=none,data:=.seq ([]:List Value).toArray }:=by rw[e3,<- hD];exact aBB _ rfl
 have hsz3:s3.heap.objs.size=D+1:=by rw[e3,Heap.size_push,hD]
 have e3':(s2.heap.push { cls:=.type "list",dict:=none,data:=.seq ([]:List Value).toArray })=s3.heap:=e3.symm;rw[e3']at hns₁ up₁ cel₁ ⊢;have fH2D:H2 D=none:=I2.hok.fresh (by rw[hD];exact Nat.le_refl _);have up:=up₁;have fpo:∀ b∈fp,b<s3.heap.objs.size/\b≠D:=fun b hb=>by
  obtain⟨o,eo,_⟩:=T.obj 0 _ st2 b hb;have h1:=aBA eo;rw[hD]at h1;exact⟨by rw[hsz3];exact Nat.lt_succ_of_lt h1,aBS h1⟩
 have nb:∀ b,X.s₀.heap.objs.size<=b->∀ o,X.base.get? b≠some o:=fun b hb o e=>absurd (aBL (aBA e) (Nat.le_trans I2.ok.bsz hb)) (Nat.lt_irrefl _);have dge:s2.heap.objs.size<=D:=by rw[hD];exact Nat.le_refl _
 have fD:gR X pins H2 D:=I2.fpOk dge fH2D;have hex:∀ b∈D :: fp,b<s3.heap.objs.size/\b≠X.env.locals/\b∉X.fs/\(∀ x c,X.env.cells.lookup x=some c->c≠b)/\∀ o,X.base.get? b≠some o:=fun b hb=>by
  rcases aB8.mp hb with rfl | hb
  ·exact⟨by rw[hsz3];exact Nat.lt_succ_self _,fD.2.1,fD.2.2.1,fD.2.2.2.2.1,nb _ (Nat.le_trans I2.sz dge)⟩
  ·obtain⟨f0,f1,f2',f3,f4,f5⟩:=f2 b hb;refine⟨(fpo b hb).1,f1,f2',f4,fun o e=>?_⟩;rcases f3 with z | z
   ·exact I2.ok.noex b o e z
   ·exact nb b z o e
 have hC:s3.heap.objs.size=s3.heap.objs.size:=rfl;generalize hXi:kJ X inn (ts++cs) s3 H2 (D :: fp)=Xi;have I4:Inv Xi [] (sIn nt js σ) H2 { s3 with heap:=h₁,toks:=s3.toks }:=by
  rw[<- hXi];exact X8 hts I3 O hex ⟨_,hns₁⟩ up cel₁
 have xp:Xi.prog=X.prog:=by rw[<- hXi];rfl
 have xw:Xi.w=X.w:=by rw[<- hXi];rfl
 have xK:Xi.K=X.K:=by rw[<- hXi];rfl
 have xA:Xi.A=X.A:=by rw[<- hXi];rfl
 have xc:Xi.calm=true:=by rw[<- hXi];exact hcalm
 have xe:Xi.env=compEnvC inn (cellsFrom (s3.heap.objs.size+1) inn.names (eT inn X.env)) s3.heap.objs.size X.env:=by rw[<- hXi];rfl
 have xx:Xi.xe=fun _ _=>False:=by rw[<- hXi];rfl
 have xex:Xi.ex=D :: fp:=by rw[<- hXi];rfl
 have xpn:Xi.pn=[]:=by rw[<- hXi];rfl
 have xs0:Xi.s₀=s3:=by rw[<- hXi];rfl
 have xH0:Xi.H₀=H2:=by rw[<- hXi];rfl
 have xfs:Xi.fs=frs X.stack:=by rw[<- hXi];rfl
 have hgX:PG Xi tg g:=by rw[<- hXi];exact hg _ _ _
 have htX:PIf Xi ifs tt:=by rw[<- hXi];exact ht _ _ _
 have heX:PE Xi elt te:=by rw[<- hXi];exact he _ _ _
 have okX:=I4.ok;have xl:Xi.env.locals=s3.heap.objs.size:=by rw[xe];rfl
 have Dl:D≠Xi.env.locals:=by rw[xl,hsz3];exact aBS (Nat.lt_succ_self _)
 have stat:∀ {H':Hp} {pl:List (Addr×Obj)},(∀ b∈fp,H' b=none)->(∀ p∈pl,p.1=D)->∀ b∈fp,gR Xi pl H' b:=fun {H' pl} hn hpl b hb=>by
  have hbx:b∈Xi.ex:=by rw[xex];exact aAx _ hb
  refine⟨hn b hb,(okX.exf b hbx).1,fun z=>okX.exfs b hbx z,.inl hbx,(okX.exf b hbx).2,fun p hp=>?_⟩;rw[xpn,List.nil_append]at hp;rw[hpl p hp];exact Ne.symm (fpo b hb).2
 have DX:D∈Xi.ex:=by rw[xex];exact aAw
 obtain⟨W,⟨m0,w0⟩,turn⟩:=R;have loop:codeAny (model X.prog X.w) X.A (.compLoop (.ListComp elt [⟨tg,iter,ifs,0⟩] inn pos) 0 (.ref it) (.ref D) Xi.env) (RR (.ref D) s3.heap.objs.size) { s3 with heap:=h₁,toks:=s3.toks }:=by
  refine codeAny_loop rfl (fun n s'=>∃ i ys H',Inv Xi [] (sIn nt js σ) H' s'/\tn i s'.heap/\(∀ b∈fp,H' b=none)/\H' D=none/\(∃ (its:List Value) (c:Nat),Vals ys its/\s'.heap.get? D=some { cls:=.type "list",data:=.seq its.toArray c })/\W i n ys H') ?_ m0
   ⟨0,[],H2,I4,?_,fun b hb=>(f2 b hb).1,fH2D,⟨[],0,.nil,up D _ hD3⟩,w0⟩
  ·rintro n s5 ⟨i,ys,H5,I5,st5,fr5,fD5,⟨its,c,rv,eD⟩,w5⟩;show wpAny _ X.A ((compTurn (.ListComp elt [⟨tg,iter,ifs,0⟩] inn pos) 0 (.ref it) (.ref D) Xi.env).onRaise (fun x=>do noteFrame x Xi.env;theTreesLotGoes x)) _ _ s5;refine wpAny_noted ?_;rw[compTurn_list];refine aAs (wpAny_standAt (aAs ?_));have pinD:Inv Xi (bR [D] s5.heap) (sIn nt js σ) H5 s5:=by
    have q:=I5.pinned (fp:=[D]) (fun b hb=>?_) (fun b hb=>?_)
    ·simpa using q
    ·have e:b=D:=by simpa using hb
     subst e;refine⟨fD5,Dl,fun z=>okX.exfs b DX z,.inl DX,(okX.exf b DX).2,fun p hp=>?_⟩;rw[xpn,List.nil_append]at hp;cases hp
    ·have e:b=D:=by simpa using hb
     subst e;exact⟨_,eD,fun v z=>by cases z⟩
   have plD:∀ p∈bR [D] s5.heap,p.1=D:=fun p hp=>by simpa using (fY hp).1
   have memD:(D,({ cls:=.type "list",data:=.seq its.toArray c }:Obj))∈bR [D] s5.heap:=bH (by simp) eD;obtain⟨hz,tn5⟩:=turn i n ys H5 w5;rcases tn5 with ⟨stop,fin⟩ | ⟨go,N,hN,step⟩
   ·have q:=T.done Xi xp xw xK xc i _ s5 _ H5 (notedBy (model X.prog X.w) X.A Xi.env fun e s'=>RR (.ref D) s3.heap.objs.size (.error e) s') pinD (stat fr5 plD) st5 stop;rw[xA]at q;refine wpAny_mono q (fun r s6 ⟨hr,I6⟩=>?_) fun _ _ z=>z;subst hr;refine aAt ?_;have eD6:=(I6.pin (D,_) (aAy _ memD)).1;have un:Un (frs X.stack) (D :: fp) H2 H5 s3.heap s6.heap:=by
     have z:=I6.base;rw[xfs,xex,xH0,xs0]at z;exact z
    have os6:s6.os=s3.os:=by have z:=I6.os;rw[xs0]at z;exact z
    have hok6:HOk X.prog X.w H5 s6.heap:=by have z:=I6.hok;rw[xp,xw]at z;exact z
    have I7:Inv X pins σ H5 s6:=I3.call' os6 un hok6 I6.bare fun b hb=>by
     rcases aB8.mp hb with e | hb
     ·rw[e];exact⟨.inr (Nat.le_trans I2.sz dge),fD.2.1,fD.2.2.2.2.1,fD.2.2.2.2.2⟩
     ·obtain⟨f0,f1,f2',f3,f4,f5⟩:=f2 b hb;exact⟨f3,f1,f4,f5⟩
    have I8:Inv X pins σ (upd H5 D (.lst ys)) s6:=I7.track fD5 (Nat.le_trans I2.sz dge) fD.2.1 fD.2.2.2.2.1 fD.2.2.2.2.2 ⟨Nat.le_of_lt hz,its,c,rv,eD6⟩;have Cge:s3.heap.objs.size<=s3.heap.objs.size:=Nat.le_refl _;have fC:gR X pins (upd H5 D (.lst ys)) s3.heap.objs.size:=I3.fpOk Cge (by
     rw[aC (by rw[<- xl];exact Ne.symm Dl)];have z:=I6.free;rw[xl]at z;exact z)
    obtain⟨mm,hmm,_⟩:=I6.loc;rw[xl]at hmm;exact hRR D _ s6 _ I8 ⟨mm,hmm⟩ fC.1 fC.2.1 (Nat.le_trans I3.sz Cge) fC.2.2.2.2.1 fC.2.2.2.2.2 (fin D fD5)
   ·have q:=T.item Xi xp xw xK xc i _ s5 _ H5 (notedBy (model X.prog X.w) X.A Xi.env fun e s'=>RR (.ref D) s3.heap.objs.size (.error e) s') pinD (stat fr5 plD) st5 go;rw[xA]at q;refine wpAny_mono q (fun r s6 ⟨u,hr,h6⟩=>?_) fun _ _ z=>z;subst hr;refine aAs (wpAny_mono h6 (fun _ s7 ⟨x,H7,I7,r7,y7,st7,fr7⟩=>?_) fun _ _ z=>z);have I7':=I7.pinned (fp:=fp) (fun b hb=>stat fr7 plD b hb) (T.obj _ _ st7);have q8:=hgX _ s7 _ H7 x u _ I7' r7 (hk x _ H7 _ (step x H7 y7));rw[xp,xw,xA,xx]at q8;refine aAs (wpAny_mono q8 (fun _ s8 ⟨σ8,H8,I8,⟨k8,l8⟩,q8⟩=>?_) fun _ _ z=>z.elim);have q9:=htX _ s8 σ8 H8 _ I8 q8;rw[xp,xw,xA,xx]at q9;refine aAs (wpAny_mono q9 (fun ok s9 ⟨H9,I9,q9⟩=>?_) fun _ _ z=>z.elim);have keepσ:∀ (j:Nat) v,(sIn nt js σ)[j]?=some (some v)->σ8[j]?=some (some v):=fun j v e=>by
     have hj:=(jW e).1;rw[k8 j hj];exact e
    have ends:∀ {H9:Hp} {s9:Shared} {ys':List V},Inv Xi (bR [D] s5.heap++bR fp s7.heap) σ8 H9 s9->∀ {h':Heap} {its':List Value} {c':Nat},(∀ b o,b≠D->s9.heap.get? b=some o->h'.get? b=some o)->Vals ys' its'->h'.get? D=some { cls:=.type "list",data:=.seq its'.toArray c' }->N ys' H9 ->
     ∀ tk,∃ m,m<n/\∃ i ys H',Inv Xi [] (sIn nt js σ) H' { s9 with heap:=h',toks:=tk }/\tn i h'/\(∀ b∈fp,H' b=none)/\H' D=none/\(∃ (its:List Value) (c:Nat),Vals ys its/\h'.get? D=some { cls:=.type "list",data:=.seq its.toArray c })/\W i m ys H':=fun {H9 s9 ys'} I9 {h' its' c'} kp rv' eD' n9 tk=>by
     obtain⟨m',hm,w9⟩:=hN ys' H9 n9;have fD9:H9 D=none:=(I9.pin (D,_) (aAy _ (aBO _ memD))).2.1;have fr9:∀ b∈fp,H9 b=none:=fun b hb=>by
      obtain⟨o,e,d⟩:=T.obj _ _ st7 b hb;exact(I9.pin (b,o) (aAy _ (aAy _ (bH hb e)))).2.1
     have I10:Inv Xi [] σ8 H9 s9:=I9.pins_of fun p hp=>by cases hp
     have I11:Inv Xi [] σ8 H9 { s9 with heap:=h',toks:=tk }:=I10.turned (it:=D) kp fD9 Dl (.inl DX) (okX.exf D DX).2 (fun p hp=>by rw[xpn]at hp;cases hp);refine⟨m',hm,i+1,ys',H9,I11.weak l8.symm keepσ,T.keep _ _ _ st7 fun b hb o e=>kp b o (fpo b hb).2 (I9.pin (b,o) (aAy _ (aAy _ (bH hb e)))).1,fr9,fD9,⟨its',c',rv',eD'⟩,w9⟩
    cases ok with
    | false =>
     rw[if_neg aBH]at q9;have eD9:=(I9.pin (D,_) (aAy _ (aBO _ memD))).1;exact aAt ⟨rfl,ends I9 (h':=s9.heap) (fun _ _ _ e=>e) rv eD9 q9 s9.toks⟩
    | true =>
     rw[if_pos rfl]at q9;have q10:=heX _ s9 σ8 H9 _ I9 q9;rw[xp,xw,xA,xx]at q10;refine aAs (aAs (wpAny_mono q10 (fun v s10 ⟨y,H10,I10,r10,q10⟩=>?_) fun _ _ z=>z.elim));have eD10:=(I10.pin (D,_) (aAy _ (aBO _ memD))).1;have hlen:=rv.length;refine aAs (wpAny_list_append_plain (items:=its.toArray) ⟨c,eD10⟩ (fun h' hl hs=>aAt (aAt ⟨rfl,?_⟩)) (by rw[aBC];omega));obtain⟨c',e'⟩:=hl;have e'':h'.get? D=some { cls:=.type "list",data:=.seq (its++[v]).toArray c' }:=by rw[e'];simp
     exact ends I10 (h':=h') (fun b o hb e=>hs.extBut b o hb e) (rv.append (.cons r10 .nil)) e'' q10 s10.toks
  ·exact T.keep 0 _ _ st2 fun b hb o e=>up b o (by rw[e3];exact aAv _ e)
 have e4:({ s2 with heap:=h₁ }:Shared)={ s3 with heap:=h₁,toks:=s3.toks }:=by rw[<- hs3]
 rw[e4];show codeAny _ _ (.compStart (.ListComp elt [⟨tg,iter,ifs,0⟩] inn pos) 0 (.ref it) (.ref D) (compEnvC inn (cellsFrom (s3.heap.objs.size+1) inn.names (eT inn X.env)) s3.heap.objs.size X.env)) (RR (.ref D) s3.heap.objs.size) _;rw[<- xe];refine codeAny_compStart_list loop ?_;refine T.self X.A 0 _ _ _ ?_ loop;exact T.keep 0 _ _ st2 fun b hb o e=>up b o (by rw[e3];exact aAv _ e)
end
section
variable {X:Cx} {inn:Scope} {js:List Nat} {cs ts:List Str} {nt:Nat} {elt tg iter:Expr} {ifs:List Expr} {pos:Pos} {g:TG} {tt:TT} {te:TE} {wi:TI}
theorem Q6 (ts cs:List Str) (js:List Nat) (hcalm:X.calm=true) (O:CompOkC X.env.scope inn X.N js cs) (hi:PI X tg iter wi)
 (hg:∀ s₀ H₀ ex,PG (kJ X inn (ts++cs) s₀ H₀ ex) tg g) (hk:GK ts.length g) (ht:∀ s₀ H₀ ex,PIf (kJ X inn (ts++cs) s₀ H₀ ex) ifs tt) (he:∀ s₀ H₀ ex,PE (kJ X inn (ts++cs) s₀ H₀ ex) elt te)
 (hs:∀ x,foldedSetIterable iter X.env x=pure x:=by intro _;rfl):PE X (.ListComp elt [⟨tg,iter,ifs,0⟩] inn pos) (M4 wi ts.length js g tt te):=by
 intro pins s σ H Q I h;rw[eval_ListComp];refine wpAny_comprehension_free (use:=none) rfl hs (oA fun y hy e=>I.ok.has y.1 (O.frees y hy e)) O.kind O.names (thn (hi pins s σ H _ I h) fun xv s1 h1=>thn h1 fun itv s2 h2=>?_);obtain⟨it,fp,tn,J,H2,e,I2,T,st2,f2,R⟩:=h2;subst e;refine yH (Q:=Q) (RR:=fun acc C=>compPost (model X.prog X.w) X.A X.xe none (EP X pins σ Q) acc C) hcalm O rfl hg hk ht he I2 T st2 f2 R ?_;intro D C s' H' I' ⟨m,hm⟩ c1 c2 c3 c4 c5 q;refine⟨m,hm,fun h' hsb=>?_⟩;exact⟨.ref D,H',I'.turned (it:=C) (t':=s'.toks) (fun b o hb e=>hsb.extBut b o hb e) c1 c2 (.inr c3) c4 c5,rfl,q⟩
end
end L2
namespace CW
open PySem L2
inductive PlI (row:List Int) (i:Nat) (stays:List Int):Prop
 | mk (ah:Nat) (h1_:(wB row).drop ah=wB (row.drop i)) (h2_:stays++wA ah (row.drop i)=wA 0 row) (h3_:∀ z∈(wB row).take ah,∀ y∈row.drop i,z<y):PlI row i stays
theorem PlI.init (row:List Int):PlI row 0 []:=⟨0,rfl,rfl,fun z hz=>by simp at hz⟩
theorem tX {α:Type} {l:List α} {i:Nat} {x:α} (h:l[i]?=some x):l.drop i=x :: l.drop (i+1):=by
 obtain⟨hi,ex⟩:=aB7.mp h;rw[List.drop_eq_getElem_cons hi,ex]
theorem PlI.done {row stays:List Int} {i:Nat} (hi:row.length<=i) (h:PlI row i stays):stays=wA 0 row:=by
 obtain⟨ah,h1,h2,_⟩:=h;rw[List.drop_eq_nil_of_le hi]at h2;rw[<- h2];exact(List.append_nil _).symm
theorem hX:∀ {a b:List Int},a.Perm b->a.Pairwise (·<=·)->b.Pairwise (·<=·)->a=b
 | [],b,h,_,_=>by rw[h.symm.eq_nil]
 | x :: a,[],h,_,_=>by have:=h.eq_nil;cases this
 | x :: a,y :: b,h,ha,hb=>by
  have ha':=List.pairwise_cons.mp ha;have hb':=List.pairwise_cons.mp hb;have hx:x∈y :: b:=h.mem_iff.mp aAw;have hy:y∈x :: a:=h.mem_iff.mpr aAw;have e:x=y:=by
   rcases aB8.mp hx with q | q
   ·exact q
   ·rcases aB8.mp hy with r | r
    ·exact r.symm
    ·have h1:=ha'.1 y r;have h2:=hb'.1 x q;omega
  subst e;rw[hX (List.perm_cons x |>.mp h) ha'.2 hb'.2]
end CW
namespace L2
open PySem PySem.Spec PyProof.Rows
def UpA (xs:Array Nat):Prop:=xs.toList.Pairwise (·<·)
theorem UpA.lt {xs:Array Nat} (h:UpA xs) {i j a b:Nat} (hij:i<j) (hi:xs[i]?=some a) (hj:xs[j]?=some b):a<b:=by
 rw[<- Array.getElem?_toList]at hi hj;obtain⟨h1,e1⟩:=aB7.mp hi;obtain⟨h2,e2⟩:=aB7.mp hj;have:=(List.pairwise_iff_getElem.mp h) i j h1 h2 hij;rw[e1,e2]at this;exact this
theorem pT {xs:Array Nat} (j:Nat) (U:UpA xs):∀ (fuel lo hi:Nat),hi<=xs.size->lo<=hi->hi - lo<=fuel->(∀ k a,k<lo->xs[k]?=some a->a<j)->(∀ k a,hi<=k->xs[k]?=some a->j<=a) ->
 SetTable.below.go xs j fuel lo hi<=xs.size/\(∀ k a,k<SetTable.below.go xs j fuel lo hi->xs[k]?=some a->a<j)/\(∀ k a,SetTable.below.go xs j fuel lo hi<=k->xs[k]?=some a->j<=a)
 | 0,lo,hi,h1,h2,h3,h4,h5=>by
  have e:hi=lo:=by omega
  subst e;exact⟨h1,h4,h5⟩
 | fuel+1,lo,hi,h1,h2,h3,h4,h5=>by
  unfold SetTable.below.go
  by_cases q:lo<hi
  ·rw[if_pos q];have hm:(lo+hi) / 2<xs.size:=by omega
   have hg:xs.getD ((lo+hi) / 2) j=xs[(lo+hi) / 2]:=by rw[Array.getD,dif_pos hm];rfl
   have hs:xs[(lo+hi) / 2]?=some xs[(lo+hi) / 2]:=aBM hm;dsimp only;rw[hg]
   by_cases z:xs[(lo+hi) / 2]<j
   ·rw[if_pos z];refine pT j U fuel _ _ h1 (by omega) (by omega) (fun k a hk ha=>?_) h5;rcases Nat.lt_or_ge k ((lo+hi) / 2)with y | y
    ·exact Nat.lt_trans (U.lt y ha hs) z
    ·have:k=(lo+hi) / 2:=by omega
     subst this;rw[hs]at ha;cases ha;exact z
   ·rw[if_neg z];refine pT j U fuel _ _ (by omega) (by omega) (by omega) h4 (fun k a hk ha=>?_);rcases Nat.lt_or_ge ((lo+hi) / 2) k with y | y
    ·have:=U.lt y hs ha;omega
    ·have:k=(lo+hi) / 2:=by omega
     subst this;rw[hs]at ha;cases ha;omega
  ·rw[if_neg q];have e:hi=lo:=by omega
   subst e;exact⟨h1,h4,h5⟩
theorem wC {xs:Array Nat} (j:Nat) (U:UpA xs):SetTable.below xs j<=xs.size/\(∀ k a,k<SetTable.below xs j->xs[k]?=some a->a<j)/\(∀ k a,SetTable.below xs j<=k->xs[k]?=some a->j<=a) :=
 pT j U xs.size 0 xs.size (Nat.le_refl _) (Nat.zero_le _) (by omega) (fun k a hk=>absurd hk (by omega)) (fun k a hk ha=>by
  have:=(Array.getElem?_eq_some_iff.mp ha).1;omega)
theorem wD {xs:Array Nat} {j p:Nat} (U:UpA xs) (hp:p<=xs.size) (h1:∀ k a,k<p->xs[k]?=some a->a<j) (h2:∀ k a,p<=k->xs[k]?=some a->j<=a):SetTable.below xs j=p:=by
 obtain⟨b0,b1,b2⟩:=wC j U;rcases Nat.lt_trichotomy (SetTable.below xs j) p with q | q | q
 ·have hs:xs[SetTable.below xs j]?=some xs[SetTable.below xs j]:=aBM (by omega);have:=b2 _ _ (Nat.le_refl _) hs;have:=h1 _ _ q hs;omega
 ·exact q
 ·have hs:xs[p]?=some xs[p]:=aBM (by omega);have:=h2 _ _ (Nat.le_refl _) hs;have:=b1 _ _ q hs;omega
theorem zU {t:SetTable} (hd:t.dummies=#[]) (j:Nat):t.slot j=.empty\/∃ i,t.slot j=.live i:=by
 unfold SetTable.slot;rw[hd];dsimp only;split
 ·exact .inr ⟨_,rfl⟩
 ·left
  rw[if_neg (by unfold SetTable.has;simp)]
theorem E6 {t:SetTable} (hd:t.dummies=#[]) {j:Nat} (h:j∉t.place.toList):t.slot j=.empty:=by
 unfold SetTable.slot;rw[hd];dsimp only;rw[if_neg,if_neg (by unfold SetTable.has;simp)];intro e;rw[beq_iff_eq]at e;rw[<- Array.getElem?_toList]at e;exact h (aBF e)
theorem Q7 {t:SetTable} {j:Nat} (e:t.slot j=.empty):t.place[SetTable.below t.place j]?≠some j:=by
 intro h;unfold SetTable.slot at e;dsimp only at e;rw[if_pos (by rw[h];simp)]at e;cases e
theorem t8 {t:SetTable} (U:UpA t.place) {j:Nat} (e:t.slot j=.empty):UpA (t.put j).1.place:=by
 obtain⟨b0,b1,b2⟩:=wC j U;have hn:=Q7 e;show (SetTable.insertAt t.place (SetTable.below t.place j) j).toList.Pairwise (·<·);rw[SetTable.toList_insertAt];have U':t.place.toList.Pairwise (·<·):=U;rw[List.pairwise_append];refine⟨U'.sublist (List.take_sublist ..),?_,?_⟩
 ·rw[List.pairwise_cons];refine⟨fun a ha=>?_,U'.sublist (List.drop_sublist ..)⟩;obtain⟨k,hk⟩:=List.mem_iff_getElem?.mp ha;rw[List.getElem?_drop,Array.getElem?_toList]at hk;have h1:=b2 _ _ (Nat.le_add_right _ k) hk;rcases Nat.eq_zero_or_pos k with z | z
  ·subst z;have:j≠a:=fun q=>hn (by rw[q]at hk ⊢;simpa using hk);omega
  ·have hb:SetTable.below t.place j<t.place.size:=by
    have:=(Array.getElem?_eq_some_iff.mp hk).1;omega
   have hs:t.place[SetTable.below t.place j]?=some t.place[SetTable.below t.place j]:=aBM hb;have h2:=b2 _ _ (Nat.le_refl _) hs;have h3:=U.lt (by omega) hs hk;omega
 ·intro a ha b hb;obtain⟨k,hk⟩:=List.mem_iff_getElem?.mp ha;have hlt:a<j:=by
   rw[List.getElem?_take]at hk;split at hk
   ·rename_i q
    rw[Array.getElem?_toList]at hk;exact b1 _ _ q hk
   ·cases hk
  rcases aB8.mp hb with q | q
  ·rw[q];exact hlt
  ·obtain⟨k2,hk2⟩:=List.mem_iff_getElem?.mp q;rw[List.getElem?_drop,Array.getElem?_toList]at hk2;have:=b2 _ _ (Nat.le_add_right _ k2) hk2;omega
def lT (m i:Nat):Nat:=(i * 5+1) % (m+1)
def lU (m:Nat):Nat->Nat->Nat->Nat
 | 0,_,_=>0
 | f+1,i,j=>if i=j then 0 else lU m f (lT m i) j+1
def nI (m:Nat):Prop:=∀ i j:Fin (m+1),i.val≠j.val->lU m (m+1) i j=lU m (m+1) (lT m i) j+1
instance (m:Nat):Decidable (nI m):=by unfold nI;infer_instance
theorem aAO:nI 7:=by decide +kernel
theorem t9:nI 31:=by decide +kernel
theorem zV (m:Nat):∀ f i j,lU m f i j<=f
 | 0,_,_=>Nat.le_refl _
 | f+1,i,j=>by unfold lU;split;omega;have:=zV m f (lT m i) j;omega
theorem E7 {m i j:Nat} (h:lU m (m+1) i j=0):i=j:=by
 unfold lU at h;split at h;assumption;omega
section
variable {t:SetTable} {h:Int}
def zW (m i perturb:Nat):SetTable.Probe:={ j:=i,more:=SetTable.runEnd m i - i,i:=i,perturb:=perturb,dummy:=none }
def pU (t:SetTable) (r:Option SetTable.Met):Prop:=∃ j,r=some (.empty j none)/\t.slot j=.empty
theorem yI (hd:t.dummies=#[]):∀ (more fuel j i perturb:Nat),more<fuel ->
 pU t ((SetTable.probe.go t (fun _=>h+1) h) fuel { j:=j,more:=more,i:=i,perturb:=perturb,dummy:=none }) \/
 (SetTable.probe.go t (fun _=>h+1) h) fuel { j:=j,more:=more,i:=i,perturb:=perturb,dummy:=none }=(SetTable.probe.go t (fun _=>h+1) h) (fuel - (more+1)) (zW t.mask (SetTable.leap t.mask i perturb).1 (SetTable.leap t.mask i perturb).2)
 | more,0,j,i,perturb,hf=>absurd hf (by omega)
 | 0,fuel+1,j,i,perturb,hf=>by
  rw[SetTable.probe.go];rcases zU hd j with e | ⟨x,e⟩
  ·left;dsimp only;rw[e];exact⟨j,rfl,e⟩
  ·right
   dsimp only;rw[e];dsimp only;rw[if_neg (by simp;omega)];rfl
 | more+1,fuel+1,j,i,perturb,hf=>by
  rw[SetTable.probe.go];rcases zU hd j with e | ⟨x,e⟩
  ·left;dsimp only;rw[e];exact⟨j,rfl,e⟩
  ·dsimp only;rw[e];dsimp only;rw[if_neg (by simp;omega)];have ea:t.advance { j:=j,more:=more+1,i:=i,perturb:=perturb,dummy:=none }={ j:=j+1,more:=more,i:=i,perturb:=perturb,dummy:=none }:=by
    unfold SetTable.advance;rw[if_pos (by simp)];simp
   rw[ea];have:=yI hd more fuel (j+1) i perturb (by omega);rw[show fuel+1 - (more+1+1)=fuel - (more+1)by omega];exact this
theorem sG (m i:Nat):SetTable.runEnd m i - i<=9:=by unfold SetTable.runEnd;split <;> omega
theorem cyc (hd:t.dummies=#[]) (F:nI t.mask) {j0:Nat} (hj:j0<=t.mask) (hs:t.slot j0=.empty):∀ (d fuel i:Nat),i<=t.mask->lU t.mask (t.mask+1) i j0=d->10 * d<fuel->pU t ((SetTable.probe.go t (fun _=>h+1) h) fuel (zW t.mask i 0))
 | 0,0,i,hi,e,hf=>absurd hf (by omega)
 | 0,fuel+1,i,hi,e,hf=>by
  have q:=E7 e;subst q;rw[SetTable.probe.go,show t.slot (zW t.mask i 0).j=.empty from hs];exact⟨i,rfl,hs⟩
 | d+1,fuel,i,hi,e,hf=>by
  have hr:=sG t.mask i;rcases yI (t:=t) (h:=h) hd (SetTable.runEnd t.mask i - i) fuel i i 0 (by omega)with q | q
  ·exact q
  ·show pU t ((SetTable.probe.go t (fun _=>h+1) h) fuel { j:=i,more:=SetTable.runEnd t.mask i - i,i:=i,perturb:=0,dummy:=none });rw[q];have el:SetTable.leap t.mask i 0=(lT t.mask i,0):=rfl;rw[el];have ne:i≠j0:=fun z=>by subst z;unfold lU at e;rw[if_pos rfl]at e;cases e
   have:=F ⟨i,by omega⟩ ⟨j0,by omega⟩ ne;dsimp only at this;have hl:lT t.mask i<=t.mask:=by have:=Nat.mod_lt (i * 5+1) (show 0<t.mask+1 by omega);unfold lT;omega
   exact cyc hd F hj hs d _ (lT t.mask i) hl (by omega) (by omega)
theorem sH (hd:t.dummies=#[]) (F:nI t.mask) {j0:Nat} (hj:j0<=t.mask) (hs:t.slot j0=.empty):∀ (k fuel i perturb:Nat),i<=t.mask->perturb<32 ^ k->10 * (k+t.mask+1)<fuel->pU t ((SetTable.probe.go t (fun _=>h+1) h) fuel (zW t.mask i perturb))
 | 0,fuel,i,perturb,hi,hp,hf=>by
  have:perturb=0:=by simp at hp;exact hp
  subst this;exact cyc hd F hj hs _ fuel i hi rfl (by have:=zV t.mask (t.mask+1) i j0;omega)
 | k+1,fuel,i,perturb,hi,hp,hf=>by
  have hr:=sG t.mask i;rcases yI (t:=t) (h:=h) hd (SetTable.runEnd t.mask i - i) fuel i i perturb (by omega)with q | q
  ·exact q
  ·show pU t ((SetTable.probe.go t (fun _=>h+1) h) fuel { j:=i,more:=SetTable.runEnd t.mask i - i,i:=i,perturb:=perturb,dummy:=none });rw[q];have hpp:perturb / 32<32 ^ k:=by rw[Nat.div_lt_iff_lt_mul (by decide)];rw[Nat.pow_succ]at hp;exact hp
   exact sH hd F hj hs k _ _ _ (by have:=Nat.mod_lt (i * 5+1+perturb / 32) (show 0<t.mask+1 by omega);show (i * 5+1+perturb / 32) % (t.mask+1)<=t.mask;omega) hpp (by omega)
theorem zX (h:Int):SetTable.bits h<32 ^ 13:=by
 unfold SetTable.bits;have h1:=Int.emod_lt_of_pos h (show (0:Int)<2 ^ 64 by decide);have h2:=Int.emod_nonneg h (show (2 ^ 64:Int)≠0 by decide);have:(32:Nat) ^ 13=36893488147419103232:=by decide
 rw[this];have e:(2:Int) ^ 64=18446744073709551616:=by decide
 rw[e]at h1 h2 ⊢;omega
theorem aAP {t:SetTable} (hn:t.place.size<=t.mask):∃ j,j<=t.mask/\j∉t.place.toList:=by
 apply Classical.byContradiction
 intro hc;have hsub:List.range (t.mask+1) ⊆ t.place.toList:=fun j hj=>Classical.byContradiction fun q=>hc ⟨j,by have:=List.mem_range.mp hj;omega,q⟩;have:=List.nodup_range.length_le_of_subset hsub;rw[List.length_range,Array.length_toList]at this;omega
theorem qY (hd:t.dummies=#[]) (F:nI t.mask) (hn:t.place.size<=t.mask):∃ j,t.freeSlot h=some (j,false)/\t.slot j=.empty:=by
 obtain⟨j0,hj,hm⟩:=aAP hn;have:=sH (h:=h) hd F hj (E6 hd hm) 13 (10 * SetTable.turns t.mask) (SetTable.bits h % (t.mask+1)) (SetTable.bits h) (by have:=Nat.mod_lt (SetTable.bits h) (show 0<t.mask+1 by omega);omega) (zX h) (by unfold SetTable.turns;omega);obtain⟨j,e,hs⟩:=this;refine⟨j,?_,hs⟩;unfold SetTable.freeSlot;have e2:t.probe (fun _=>h+1) h (t.probeStart h)=some (.empty j none):=e;rw[e2];rfl
end
def rkL (i:Nat):Nat:=if i=24 then 4 else if i=25 then 3 else if i=30\/i=31 then 2 else if 23<=i then 1 else 0
theorem X9:∀ i:Fin 32,22<i.val->rkL (lT 31 i.val)<rkL i.val:=by decide +kernel
theorem aAQ (i:Nat):rkL i<=4:=by unfold rkL;(repeat' split) <;> omega
theorem wE {α:Type}:∀ (l:List (Option α)),(∀ x∈l,x.isSome=true)->(l.filterMap id).length=l.length
 | [],_=>rfl
 | none :: l,h=>by have:=h none aAw;cases this
 | some a :: l,h=>by
  rw[List.filterMap_cons_some (f:=id) (a:=some a) (b:=a) rfl,aBY,aBY,wE l fun x hx=>h x (aAx _ hx)]
theorem Q8 {owner:Array (Option Nat)} (hz:owner.size=32) (hc:(owner.toList.filterMap id).length<10) {i:Nat} (hi:i<=22) :
 ∃ k,(List.range 10).find? (fun k=>(owner.getD (i+k) (some 0)).isNone)=some k/\k<10/\owner[i+k]?=some none:=by
 cases hf:(List.range 10).find? (fun k=>(owner.getD (i+k) (some 0)).isNone)with
 | some k =>
  have h1:=List.find?_some hf;have h2:=List.mem_of_find?_eq_some hf;have hk:=List.mem_range.mp h2;refine⟨k,rfl,hk,?_⟩;have hb:i+k<owner.size:=by omega
  rw[aBM hb];rw[Array.getD,dif_pos hb]at h1;have h3:owner[i+k].isNone=true:=h1;rw[Option.isNone_iff_eq_none.mp h3]
 | none =>
  exfalso
  have h1:=List.find?_eq_none.mp hf;have hsub:((owner.toList.drop i).take 10).Sublist owner.toList:=(List.take_sublist ..).trans (List.drop_sublist ..);have hle:=(hsub.filterMap id).length_le;have hlen:((owner.toList.drop i).take 10).length=10:=by
   rw[aBK,List.length_drop,Array.length_toList,hz];omega
  have:=wE ((owner.toList.drop i).take 10) fun x hx=>by
   obtain⟨k,hk⟩:=List.mem_iff_getElem?.mp hx;have hk10:k<10:=by rw[<- hlen];exact(aB7.mp hk).1
   rw[List.getElem?_take,if_pos hk10,List.getElem?_drop,Array.getElem?_toList]at hk;have hb:i+k<owner.size:=(Array.getElem?_eq_some_iff.mp hk).1;have h2:=h1 k (List.mem_range.mpr hk10);rw[Array.getD,dif_pos hb]at h2;have h3:¬ owner[i+k].isNone=true:=h2;have h4:owner[i+k]=x:=(Array.getElem?_eq_some_iff.mp hk).2;rw[h4]at h3;cases x with
   | none=>exact absurd rfl h3
   | some _=>rfl
  omega
def Y0 (owner:Array (Option Nat)) (r:Option Nat):Prop:=∃ j,r=some j/\owner[j]?=some none
theorem wF {owner:Array (Option Nat)} (hz:owner.size=32) (hc:(owner.toList.filterMap id).length<10) {i:Nat} (hi:i<=22) (fuel perturb:Nat) :
 Y0 owner (SetTable.layClean.free 31 owner (fuel+1) i perturb):=by
 obtain⟨k,e,_,h⟩:=Q8 hz hc hi;rw[SetTable.layClean.free];have er:SetTable.runEnd 31 i+1 - i=10:=by unfold SetTable.runEnd;rw[if_pos (by omega)];omega
 rw[er,e];exact⟨i+k,rfl,h⟩
theorem zY {owner:Array (Option Nat)} (hz:owner.size=32) {i:Nat} (hi:22<i) (hi2:i<32) (fuel perturb:Nat) :
 Y0 owner (SetTable.layClean.free 31 owner (fuel+1) i perturb) \/
 SetTable.layClean.free 31 owner (fuel+1) i perturb=SetTable.layClean.free 31 owner fuel ((i * 5+1+perturb / 32) % 32) (perturb / 32):=by
 rw[SetTable.layClean.free];have er:SetTable.runEnd 31 i+1 - i=1:=by unfold SetTable.runEnd;rw[if_neg (by omega)];omega
 rw[er];cases hf:(List.range 1).find? (fun k=>(owner.getD (i+k) (some 0)).isNone)with
 | none=>right;rfl
 | some k =>
  left
  have h1:=List.find?_some hf;have h2:=List.mem_of_find?_eq_some hf;have hk:=List.mem_range.mp h2;have hb:i+k<owner.size:=by omega
  refine⟨i+k,rfl,?_⟩;rw[aBM hb];rw[Array.getD,dif_pos hb]at h1;have h3:owner[i+k].isNone=true:=h1;rw[Option.isNone_iff_eq_none.mp h3]
theorem Q9 {owner:Array (Option Nat)} (hz:owner.size=32) (hc:(owner.toList.filterMap id).length<10):∀ (fuel i:Nat),i<32->rkL i<fuel->Y0 owner (SetTable.layClean.free 31 owner fuel i 0)
 | 0,i,hi,h=>absurd h (by omega)
 | fuel+1,i,hi,h=>by
  rcases Nat.lt_or_ge 22 i with q | q
  ·rcases zY hz q hi fuel 0 with z | z
   ·exact z
   ·rw[z];have:=X9 ⟨i,hi⟩ q;have e:(i * 5+1+0 / 32) % 32=lT 31 i:=rfl;rw[e];exact Q9 hz hc fuel _ (Nat.mod_lt _ (by decide)) (by dsimp only at this;omega)
  ·exact wF hz hc q fuel 0
theorem wG {owner:Array (Option Nat)} (hz:owner.size=32) (hc:(owner.toList.filterMap id).length<10):∀ (k fuel i perturb:Nat),i<32->perturb<32 ^ k->k+5<=fuel->Y0 owner (SetTable.layClean.free 31 owner fuel i perturb)
 | 0,fuel,i,perturb,hi,hp,hf=>by
  have:perturb=0:=by simp at hp;exact hp
  subst this;exact Q9 hz hc fuel i hi (by have:=aAQ i;omega)
 | k+1,0,i,perturb,hi,hp,hf=>absurd hf (by omega)
 | k+1,fuel+1,i,perturb,hi,hp,hf=>by
  rcases Nat.lt_or_ge 22 i with q | q
  ·rcases zY hz q hi fuel perturb with z | z
   ·exact z
   ·rw[z];have hpp:perturb / 32<32 ^ k:=by rw[Nat.div_lt_iff_lt_mul (by decide)];rw[Nat.pow_succ]at hp;exact hp
    exact wG hz hc k fuel _ _ (Nat.mod_lt _ (by decide)) hpp (by omega)
  ·exact wF hz hc q fuel perturb
theorem R0 {l:List (Option Nat)} {j k:Nat} (h:l[j]?=some none):((l.set j (some k)).filterMap id).Perm (l.filterMap id++[k]):=by
 obtain⟨hb,e⟩:=aB7.mp h;have e1:l=l.take j++none :: l.drop (j+1):=by
  rw[<- e,List.getElem_cons_drop,List.take_append_drop]
 rw[List.set_eq_take_append_cons_drop,if_pos hb]
 conv=>rhs;rw[e1]
 rw[List.filterMap_append,List.filterMap_append,List.filterMap_cons_some (f:=id) (a:=some k) (b:=k) rfl,List.filterMap_cons_none (f:=id) (a:=(none:Option Nat)) rfl,List.append_assoc];exact List.Perm.append_left _ (List.perm_append_singleton k _).symm
def R1 (mask:Nat):Option (Array (Option Nat)×Nat)->Int->Option (Array (Option Nat)×Nat):=fun acc h=>do
 let (owner,k) <- acc
 let j <- SetTable.layClean.free mask owner (SetTable.turns mask) (SetTable.bits h % (mask+1)) (SetTable.bits h)
 pure (owner.setIfInBounds j (some k),k+1)
theorem R3:∀ (l:List Int) (owner:Array (Option Nat)) (k:Nat),owner.size=32->(owner.toList.filterMap id).Perm (List.range k)->k+l.length<=5 ->
 ∃ owner',l.foldl (R1 31) (some (owner,k))=some (owner',k+l.length)/\owner'.size=32/\(owner'.toList.filterMap id).Perm (List.range (k+l.length))
 | [],owner,k,hz,hp,hk=>⟨owner,rfl,hz,hp⟩
 | h :: l,owner,k,hz,hp,hk=>by
  rw[aBY]at hk;obtain⟨j,e,hj⟩:=wG (owner:=owner) hz (by rw[hp.length_eq,List.length_range];omega) 13 (SetTable.turns 31) (SetTable.bits h % 32) (SetTable.bits h) (Nat.mod_lt _ (by decide)) (zX h) (by decide);have e2:R1 31 (some (owner,k)) h=some (owner.setIfInBounds j (some k),k+1):=by
   unfold R1;show (SetTable.layClean.free 31 owner (SetTable.turns 31) (SetTable.bits h % 32) (SetTable.bits h)).bind _=_;rw[e];rfl
  rw[aBW,e2];have:=R3 l (owner.setIfInBounds j (some k)) (k+1) (by rw[Array.size_setIfInBounds];exact hz) (by
   rw[Array.toList_setIfInBounds];refine(R0 (by rw[Array.getElem?_toList];exact hj)).trans ?_;rw[List.range_succ];exact hp.append_right _) (by omega)
  rw[aBY,show k+(l.length+1)=k+1+l.length by omega];exact this
theorem qZ {hs:Array Int} (hn:hs.size<=5):∃ owner,SetTable.layClean 31 hs=some owner/\owner.size=32/\(owner.toList.filterMap id).Perm (List.range hs.size):=by
 obtain⟨owner,e,hz,hp⟩:=R3 hs.toList (Array.replicate 32 none) 0 (by simp) (by simp) (by simpa using hn);refine⟨owner,?_,hz,by simpa using hp⟩;unfold SetTable.layClean;have e2:hs.foldl (R1 31) (some (Array.replicate (31+1) none,0))=some (owner,0+hs.toList.length):=by rw[<- Array.foldl_toList];exact e
 show Option.map (·.1) (hs.foldl (R1 31) (some (Array.replicate (31+1) none,0)))=some owner;rw[e2];rfl
theorem wH {owner:Array (Option Nat)} {n:Nat} (hz:owner.size=n):(List.range n).filterMap (fun j=>owner.getD j none)=owner.toList.filterMap id:=by
 subst hz;have e:owner.toList=(List.range owner.size).map fun j=>owner.getD j none:=by
  apply List.ext_getElem
  ·simp
  ·intro i h1 h2;have hb:i<owner.size:=by simpa using h1
   rw[List.getElem_map,List.getElem_range,Array.getElem_toList,Array.getD,dif_pos hb];rfl
 conv=>rhs;rw[e]
 rw[List.filterMap_map];rfl
theorem E8 {hs:Array Int} {f m:Nat} {led:Bool} (hn:hs.size<=5):∃ t' order,SetTable.laid 31 f m led true hs=some (t',order)/\t'.mask=31/\UpA t'.place/\t'.place.size=hs.size/\t'.dummies=#[]/\t'.led=led/\t'.plain=true /\
 order.toList.Perm (List.range hs.size):=by
 obtain⟨owner,e,hz,hp⟩:=qZ hn;refine⟨_,_,by unfold SetTable.laid;rw[e];rfl,rfl,?_,?_,rfl,rfl,rfl,?_⟩
 ·show ((List.range 32).filterMap fun j=>(owner.getD j none).map (j,·)).map (·.1) |>.toArray.toList.Pairwise (·<·);rw[List.map_filterMap];refine List.Pairwise.filterMap _ (R:=(·<·)) (fun a a' haa b hb b' hb'=>?_) List.pairwise_lt_range;have g:∀ (x y:Nat),(Option.map (·.1) ((owner.getD x none).map fun k=>(x,k)))=some y->y=x:=fun x y q=>by
   cases ho:owner.getD x none with
   | none=>rw[ho]at q;cases q
   | some z=>rw[ho]at q;cases q;rfl
  rw[g _ _ hb,g _ _ hb'];exact haa
 ·show (((List.range 32).filterMap fun j=>(owner.getD j none).map (j,·)).map (·.1)).toArray.size=_;have:=hp.length_eq;rw[<- wH hz,List.length_range]at this;rw[aBC,aAu,<- this];have g:∀ l:List Nat,(l.filterMap fun j=>(owner.getD j none).map fun k=>(j,k)).length=(l.filterMap fun j=>owner.getD j none).length:=by
   intro l
   induction l with
   | nil=>rfl
   | cons x l ih =>
    cases ho:owner.getD x none with
    | none=>rw[List.filterMap_cons_none (by rw[ho];rfl),List.filterMap_cons_none (f:=fun j=>owner.getD j none) (a:=x) ho,ih]
    | some z=>rw[List.filterMap_cons_some (b:=(x,z)) (by rw[ho];rfl),List.filterMap_cons_some (f:=fun j=>owner.getD j none) (a:=x) (b:=z) ho,aBY,aBY,ih]
  exact g _
 ·show (((List.range 32).filterMap fun j=>(owner.getD j none).map (j,·)).map (·.2)).toArray.toList.Perm _;rw[List.map_filterMap];have g:(fun j=>Option.map (·.2) ((owner.getD j none).map fun k=>(j,k)))=fun j=>owner.getD j none:=by
   funext j
   cases owner.getD j none <;> rfl
  show (List.filterMap (fun j=>Option.map (·.2) ((owner.getD j none).map fun k=>(j,k))) (List.range 32)).Perm _;rw[g,wH hz];exact hp
structure TabG (w:World) (t:SetTable) (n:Nat):Prop where
 plain:t.plain=true
 led:t.led=true\/w.params.followText "set-order"=true
 dum:t.dummies=#[]
 up:UpA t.place
 sz:t.place.size=n
 msk:(t.mask=7/\n<=4)\/(t.mask=31/\n<=18)
theorem TabG.fresh {w:World} {led:Bool} (h:led=true\/w.params.followText "set-order"=true):TabG w (.fresh 0 0 led) 0 :=
 ⟨rfl,h,rfl,.nil,rfl,.inl ⟨rfl,by decide⟩⟩
theorem TabG.full {w:World} {t:SetTable} {n:Nat} (T:TabG w t n):nI t.mask:=by
 rcases T.msk with ⟨e,_⟩ | ⟨e,_⟩
 ·rw[e];exact aAO
 ·rw[e];exact t9
theorem TabG.lay {w:World} {t:SetTable} {n:Nat} (T:TabG w t n) (es:Array (Int×Value)) (hn:es.size=n) (h:Int) (x:Value) :
 ∃ es' t',layNew t es h x=(es',t',false,false)/\t'.plain=true/\t'.led=t.led/\t'.dummies=#[]/\UpA t'.place/\t'.place.size=n+1/\t'.mask=t.mask:=by
 have hm:t.place.size<=t.mask:=by rw[T.sz];rcases T.msk with ⟨e,q⟩ | ⟨e,q⟩ <;> omega
 obtain⟨j,e,hs⟩:=qY (h:=h) T.dum T.full hm;have hz:(t.put j).1.place.size=n+1:=by
  show (SetTable.insertAt t.place (SetTable.below t.place j) j).size=n+1;rw[<- Array.length_toList,(SetTable.insertAt_perm ..).length_eq,Array.length_toList,Array.size_push,T.sz]
 have hd:(t.put j).1.dummies=#[]:=by
  show (if SetTable.has t.dummies j then _ else t.dummies)=#[];rw[T.dum,if_neg (by unfold SetTable.has;simp)]
 have hez:(SetTable.insertAt es (t.put j).2 (h,x)).size=n+1:=by
  rw[<- Array.length_toList,(SetTable.insertAt_perm ..).length_eq,Array.length_toList,Array.size_push,hn]
 have hmk:(t.put j).1.mask=t.mask:=rfl;have hf:(t.put j).1.fits (SetTable.insertAt es (t.put j).2 (h,x)).size=true:=by
  unfold SetTable.fits SetTable.fill;rw[hez,hz,hd,hmk];rcases T.msk with ⟨e,q⟩ | ⟨e,q⟩
  ·rw[e];simp;omega
  ·rw[e];simp;omega
 refine⟨SetTable.insertAt es (t.put j).2 (h,x),(t.put j).1,?_,T.plain,rfl,hd,t8 T.up hs,hz,rfl⟩;unfold layNew;rw[e];dsimp only;unfold SetTable.orStandIn;rw[if_pos hf,hf];rfl
theorem yJ {w:World} {t:SetTable} {es:Array (Int×Value)} (hz:es.size=5) (hp:t.plain=true) (hl:t.led=true\/w.params.followText "set-order"=true) :
 ∃ es' t',relayAll t es (SetTable.grown es.size)=(es',t',false)/\TabG w t' 5/\es'.size=5:=by
 have hh:(es.map (·.1)).size<=5:=by rw[Array.size_map,hz];decide
 obtain⟨t',order,e,a1,a2,a3,a4,a5,a6,a7⟩:=E8 (f:=t.finger) (m:=t.movedTo 31) (led:=t.led) hh;rw[Array.size_map,hz]at a3 a7;have e2:t.relaid (es.map (·.1)) (SetTable.grown es.size)=some (t',order):=by
  unfold SetTable.relaid;rw[hz,hp];exact e
 have hpm:=relayAll_perm t es (SetTable.grown es.size);have hcov:coversAll order es.size=true:=by unfold coversAll;rw[hz];exact List.isPerm_iff.mpr a7
 have hsz:(order.filterMap (es[·]?)).size=5:=by
  rw[<- Array.length_toList,Array.toList_filterMap,(a7.filterMap _).length_eq,<- hz,filterMap_getElem?_range,Array.length_toList]
 have hf:t'.fits (order.filterMap (es[·]?)).size=true:=by
  unfold SetTable.fits SetTable.fill;rw[hsz,a3,a4,a1];rfl
 refine⟨order.filterMap (es[·]?),t',?_,⟨a6,by rw[a5];exact hl,a4,a2,a3,.inr ⟨a1,by decide⟩⟩,hsz⟩;unfold relayAll;rw[e2];dsimp only;rw[hcov,hf];rfl
section
variable {prog:Program} {w:World} {A:Around} {E:Value->Shared->Prop} {s:Shared}
def SetG (prog:Program) (w:World) (h:Heap) (a:Addr) (S:Int->Bool) (n:Nat):Prop :=
 ∃ o es ep t,h.get? a=some o/\o.ExactSet/\o.data=.set es ep t/\ElemsOf (intKind prog w) es.toList/\(∀ k,S k=true↔∃ e∈es.toList,(intKind prog w).is k e.2=true)/\es.size=n/\TabG w t n
theorem TabG.le {t:SetTable} {n:Nat} (T:TabG w t n):n<=18:=by rcases T.msk with ⟨_,q⟩ | ⟨_,q⟩ <;> omega
theorem TabG.fits {t:SetTable} {n:Nat} (T:TabG w t n):t.fits n=true:=by
 unfold SetTable.fits SetTable.fill;rw[T.sz,T.dum];rcases T.msk with ⟨e,q⟩ | ⟨e,q⟩ <;> (rw[e];simp;omega)
theorem SetG.congr {h:Heap} {a:Addr} {S S':Int->Bool} {n n':Nat} (hS:SetG prog w h a S n) (e:∀ k,S k=S' k) (en:n=n'):SetG prog w h a S' n':=by
 have:S=S':=funext e;subst this;subst en;exact hS
theorem SetG.at' {h h':Heap} {a:Addr} {S:Int->Bool} {n:Nat} (hS:SetG prog w h a S n) (k:∀ o,h.get? a=some o->h'.get? a=some o):SetG prog w h' a S n:=by
 obtain⟨o,es,ep,t,h1,r⟩:=hS;exact⟨o,es,ep,t,k _ h1,r⟩
theorem R4 {h:Heap} {a:Addr} {o:Obj} {es:Array (Int×Value)} {ep:Nat} {t:SetTable} (ho:h.get? a=some o) (hd:o.data=.set es ep t) (es':Array (Int×Value)) (t':SetTable) :
 (h.update a (Obj.putSet es' t')).get? a=some { o with data:=.set es' (ep+1) t' }:=by
 have:=aBN (Obj.putSet es' t') ho (by rw[putSet_of es' t' hd];rfl);rw[putSet_of es' t' hd]at this;exact this
theorem aAo {a:Addr} {S:Int->Bool} {n:Nat} {k:Int} {tk:Tok} {Q:Bool->Shared->Prop} (hS:SetG prog w s.heap a S n) (hroom:S k=true\/n+1<=18)
 (h:∀ h',Heap.SameBut a s.heap h'->SetG prog w h' a (fun k'=>S k' || decide (k'=k)) (if S k then n else n+1)->Q (!S k) { s with heap:=h' }) :
 wpAny (model prog w) A (setAddHashed a (.int k tk) (hashInt k)) Q E s:=by
 obtain⟨o,es,ep,t,ho,hex,hd,hel,hmem,hn,T⟩:=hS;have hkey:(intKind prog w).is k (.int k tk)=true:=intKind_is _ _ _ _;have hf:t.fits es.size=true:=by rw[hn];exact T.fits
 have hsb:scanBound=4096:=rfl;have h18:=T.le;have hb:es.size<scanBound:=by omega
 show wpAny (model prog w) A (setAddHashed a (.int k tk) ((intKind prog w).hash k)) Q E s;unfold setAddHashed setAddHashedIn;refine wpAny_holding (aAs (wpAny_setState_of ho hd hf ?_));dsimp only;rw[byScan_of (knd:=intKind prog w) rfl hb hel];simp only[↓reduceIte];unfold setAddByScan;refine aAs ?_;refine aAs (wpAny_rule ?_);refine aAs (wpAny_setScan_of hkey ho hd hf hel ?_);cases hr:List.findIdx? (fun e=>(intKind prog w).is k e.2) es.toList with
 | some j =>
  dsimp only;obtain⟨hj,hpj,_⟩:=List.findIdx?_eq_some_iff_getElem.mp hr;have hSk:S k=true:=(hmem k).mpr ⟨es.toList[j],List.getElem_mem hj,hpj⟩;refine aAt (aAt ?_);have e:s={ s with heap:=s.heap }:=by cases s;rfl
  have:=h s.heap (Heap.SameBut.refl a s.heap) ⟨o,es,ep,t,ho,hex,hd,hel,fun k'=>by
   rw[Bool.or_eq_true,decide_eq_true_eq,<- hmem k'];exact⟨fun hk=>hk.elim id (fun e=>e ▸ hSk),.inl⟩,by rw[hSk];exact hn,by rw[hSk];exact T⟩
  rw[hSk]at this;rw[e];exact this
 | none =>
  dsimp only;have hSk:S k=false:=by
   cases hk:S k with
   | false=>rfl
   | true=>obtain⟨e,he,hp⟩:=(hmem k).mp hk;have:=List.findIdx?_eq_none_iff.mp hr e he;rw[hp]at this;exact Bool.noConfusion this
  have hroom:n+1<=18:=hroom.resolve_left (by rw[hSk];exact aBH);have hperm:=layNew_perm t es ((intKind prog w).hash k) (.int k tk);obtain⟨es1,t1,eL,p1,p2,p3,p4,p5,p6⟩:=T.lay es hn ((intKind prog w).hash k) (.int k tk);rw[eL]at hperm ⊢;dsimp only at hperm ⊢;rw[Array.toList_push]at hperm;have hel1:ElemsOf (intKind prog w) es1.toList:=(hel.push hkey rfl).perm hperm;have hmem1:∀ k',(S k' || decide (k'=k))=true↔∃ e∈es1.toList,(intKind prog w).is k' e.2=true:=mem_push_iff hkey hmem hperm;have hsz1:es1.size=n+1:=by rw[<- Array.length_toList,hperm.length_eq,aBD,Array.length_toList,hn];rfl
  have hl:t1.led=true\/w.params.followText "set-order"=true:=by rw[p2];exact T.led
  have hend:∀ h',Heap.SameBut a s.heap h'->SetG prog w h' a (fun k'=>S k' || decide (k'=k)) (n+1)->Q true { s with heap:=h' }:=by
   intro h' hsb hS';have:=h h' hsb;rw[hSk]at this;exact this hS'
  refine aAs (aAt ?_);rw[p1];simp only[↓reduceIte];rw[hashByValue_scannable 8 (x:=.int k tk) rfl];refine aAs (aAt ?_);have hpk:plainKind (.int k tk)=true:=rfl;rw[hpk];simp only[↓reduceIte];refine aAs (wpAny_storeSet_of ho hd ?_ (fits_of_scanBound (by omega)));have ho1:=R4 ho hd es1 t1;have hsb1:=Heap.SameBut.update s.heap a (Obj.putSet es1 t1);have hfill:t1.fill=n+1:=by unfold SetTable.fill;rw[p5,p3];rfl
  rcases Nat.lt_or_ge t1.mask 8 with q | q
  ·have hm7:t.mask=7:=by rcases T.msk with ⟨e,_⟩ | ⟨e,_⟩;exact e;omega
   have hn4:n<=4:=by rcases T.msk with ⟨e,q4⟩ | ⟨e,_⟩;exact q4;omega
   rcases Nat.lt_or_ge n 4 with z | z
   ·have htf:(!false && t1.tooFull)=false:=by
     unfold SetTable.tooFull;rw[hfill,p6,hm7];simp;omega
    rw[htf];simp only[Bool.false_eq_true,↓reduceIte];refine aAt (aAt ?_);exact hend _ hsb1 ⟨_,es1,ep+1,t1,ho1,hex,rfl,hel1,hmem1,hsz1,⟨p1,hl,p3,p4,p5,.inl ⟨by rw[p6,hm7],by omega⟩⟩⟩
   ·have hn4':n=4:=by omega
    subst hn4';have htf:(!false && t1.tooFull)=true:=by
     unfold SetTable.tooFull;rw[hfill,p6,hm7];rfl
    rw[htf];simp only[↓reduceIte];have hp:=relayAll_perm t1 es1 (SetTable.grown es1.size);obtain⟨es2,t2,eR,T2,hz2⟩:=yJ (w:=w) hsz1 p1 hl;rw[eR]at hp ⊢;dsimp only at hp ⊢;refine aAs (aAt ?_);refine aAs (wpAny_storeSet_of ho1 rfl ?_ (fits_of_scanBound (by omega)));have ho2:=R4 ho1 rfl es2 t2;refine aAt (aAt ?_);exact hend _ (hsb1.trans (Heap.SameBut.update _ a _)) ⟨_,es2,ep+1+1,t2,ho2,hex,rfl,hel1.perm hp,
     fun k'=>(hmem1 k').trans ⟨fun⟨e,he,q⟩=>⟨e,hp.mem_iff.mpr he,q⟩,fun⟨e,he,q⟩=>⟨e,hp.mem_iff.mp he,q⟩⟩,hz2,T2⟩
  ·have hm31:t.mask=31:=by rcases T.msk with ⟨e,_⟩ | ⟨e,_⟩;omega;exact e
   have htf:(!false && t1.tooFull)=false:=by
    unfold SetTable.tooFull;rw[hfill,p6,hm31];simp;omega
   rw[htf];simp only[Bool.false_eq_true,↓reduceIte];refine aAt (aAt ?_);exact hend _ hsb1 ⟨_,es1,ep+1,t1,ho1,hex,rfl,hel1,hmem1,hsz1,⟨p1,hl,p3,p4,p5,.inr ⟨by rw[p6,hm31],hroom⟩⟩⟩
end
theorem kK (val:Nat->Int) {i:Nat}:∀ {n:Nat},i<=n->(firstMet val i).length<=(firstMet val n).length
 | 0,h=>by have:i=0:=by omega
           rw[this];exact Nat.le_refl _
 | n+1,h=>by
  rcases Nat.lt_or_ge n i with q | q
  ·have:i=n+1:=by omega
   rw[this];exact Nat.le_refl _
  ·have:=kK val q;rw[firstMet_succ,step_length];split <;> omega
section
variable {prog:Program} {w:World} {A:Around} {R:Result->Shared->Prop} {I:Addr} {fp wr:List Addr} {G:Array GenState->Array GenState->Prop} {n:Nat} {P:Nat->Value->Prop} {St:Nat->Shared->Prop}
theorem E9 (W:WalksS prog w A.in1 I fp wr G n P St) (S:Addr) (hSf:S∉fp)
 (val:Nat->Int) (hval:∀ i v,P i v->∃ t,v=.int (val i) t) (hb:(firstMet val n).length<=18) :
 ∀ (k i:Nat) (s:Shared),n - i=k->i<=n->St i s ->
  SetG prog w s.heap S (fun k'=>(firstMet val i).any (· == k')) (firstMet val i).length ->
  (∀ s',Moved (S :: wr) G s s'->SetG prog w s'.heap S (fun k'=>(firstMet val n).any (· == k')) (firstMet val n).length->R (.ok (.ret .none)) s') ->
  codeAny (model prog w) A (.builtin "set.update.loop" ⟨[.ref S,.ref I],[]⟩) R s:=by
 have hSw:S∉wr:=fun h=>hSf (W.sub _ h);have hsub:∀ b∈wr,b∈S :: wr:=fun b hb=>aAx _ hb;intro k
 induction k with
 | zero =>
  intro i s hk hi hst hS hR;have hin:i=n:=by omega
  subst hin;refine codeAny_builtin PyProof.Rows.F.entry_set_update_loop ?_;rw[aBG PyProof.Rows.F.plain_set_update_loop _];show wpAny _ A.in1 (pyNext (.ref I) >>= _) _ _ s;refine aAs (W.done s _ _ hst fun s' hm=>?_);show wpAny _ A.in1 (ret Value.none) _ _ s';exact aAt (hR s' (hm.mono hsub) (hS.at' fun o e=>hm.heap S _ hSw e))
 | succ k ih =>
  intro i s hk hi hst hS hR;have hlt:i<n:=by omega
  refine codeAny_builtin PyProof.Rows.F.entry_set_update_loop ?_;rw[aBG PyProof.Rows.F.plain_set_update_loop _];show wpAny _ A.in1 (pyNext (.ref I) >>= _) _ _ s;refine aAs (W.item i s _ _ hlt hst fun v s' hP hst' hm=>?_);obtain⟨t,rfl⟩:=hval i v hP;have hS':=hS.at' (h':=s'.heap) fun o e=>hm.heap S _ hSw e;show wpAny _ A.in1 (holding [Value.int (val i) t] (setAdd S (.int (val i) t)) >>= _) _ _ s';refine aAs (wpAny_holding ?_);unfold setAdd;refine wpAny_holding ?_;refine aAs ((intKind prog w).pyHash (k:=val i) (intKind_is _ _ _ _) ?_);have hm1:=kK val (show i+1<=n from hlt);have hroom:(firstMet val i).any (· == val i)=true\/(firstMet val i).length+1<=18:=by
   by_cases q:(firstMet val i).any (· == val i)=true
   ·exact .inl q
   ·right
    rw[firstMet_succ,step_length,if_neg q]at hm1;omega
  refine aAo (s:={ s' with toks:=s'.toks+1 }) hS' hroom fun h' hsb hS2=>?_;have hSi:SetG prog w h' S (fun k'=>(firstMet val (i+1)).any (· == k')) (firstMet val (i+1)).length :=
   hS2.congr (fun k'=>by rw[firstMet_succ,step_any]) (by rw[firstMet_succ,step_length])
  refine aAt ⟨plainId_quiet PyProof.Rows.F.plain_set_update_loop _,ih (i+1) _ (by omega) hlt (W.frame _ s' _ _ hst' (Nat.le_succ _) fun b hb o e=>?_) hSi fun s'' hm'' hS''=>?_⟩
  ·rw[hsb.2 b (fun h:b=S=>hSf (by rw[<- h];exact hb))];exact e
  ·refine hR s'' (Moved.trans W.gtrans ((hm.mono hsub).then_heap (Nat.le_succ _) fun b o hb e=>?_) hm'') hS'';rw[hsb.2 b (fun h:b=S=>hb (by rw[h];exact aAw))];exact e
end
section
variable {prog:Program} {w:World} {A:Around} {E:Value->Shared->Prop} {s:Shared}
def gI (w:World):Obj:={ cls:=.type "set",dict:=none,data:=.set #[] 0 (.fresh 0 0 (!w.params.followText "set-order")) }
theorem R5 (a:Value) {Q₁:Value->Shared->Prop}
 (h:Q₁ (.ref s.heap.objs.size) { s with heap:=s.heap.push (gI w) }) :
 codeAny (model prog w) A (.call (.builtin "set.__new__") ⟨[.type "set",a],[]⟩) (wants Q₁ E) s:=by
 refine codeAny_of_tree ?_;show wpAny _ A.in1 (do checkBuiltinCall "set.__new__" ⟨[.type "set",a],[]⟩;again (.builtin "set.__new__" ⟨[.type "set",a],[]⟩)) _ _ s;refine aAs (wpAny_of_eq (PySem.F.newCall_set_1 a) (aAt ⟨plainId_quiet PySem.F.plain_set_new _,codeAny_builtin PySem.F.entry_set_new ?_⟩));rw[aBG PySem.F.plain_set_new _];unfold Builtin.«set.__new__» Builtin.Frozenset.newClass;have hsub:=sub_set_self;obtain⟨hp,g,d,tk,os⟩:=s;dsimp only
 wp_walk
 refine wpAny_askSetting (aAt ?_);dsimp only;simp only[newObj];refine aAs (wpAny_alloc (aAt ?_));exact aAt h
theorem yK {h:Heap} {a:Addr} (e:h.get? a=some (gI w)):SetG prog w h a (fun _=>false) 0 :=
 ⟨_,#[],0,_,e,⟨rfl,rfl,rfl⟩,rfl,fun e he=>by simp at he,fun k=>by simp,rfl,.fresh (by cases w.params.followText "set-order";exact .inl rfl;exact .inr rfl)⟩
theorem G0 {l:Addr} {items:Array Value} {ns:List Int} {Q:Value->Shared->Prop}
 (hh:A.handled=none) (hl:s.heap.IsList l items) (hi:IntsAre items.toList ns) (hb:(firstMet (fun i=>ns.getD i 0) items.size).length<=18)
 (h:∀ (h':Heap) (tk:Nat),SetG prog w h' s.heap.objs.size (fun k'=>(firstMet (fun i=>ns.getD i 0) items.size).any (· == k')) (firstMet (fun i=>ns.getD i 0) items.size).length ->
  (∀ b o,b<s.heap.objs.size->s.heap.get? b=some o->h'.get? b=some o)->Q (.ref s.heap.objs.size) { s with heap:=h',toks:=tk }) :
 wpAny (model prog w) A (call (.type "set") [.ref l]) Q E s:=by
 obtain⟨c,tl,hmro⟩:=PySem.F.called_set.mro;have hmade:=PySem.F.called_set.made;have hsub:=PySem.F.called_set.sub;refine wpAny_call (codeAny_of_tree ?_);show wpAny _ _ (callAny (.type "set") _) _ _ _;refine aAt ⟨Code.quiet_builtin _ (by decide +kernel),codeAny_builtin PySem.F.entry_type_call ?_⟩;rw[Around.under_plain (weight_type_call_type "set" [.ref l] []) rfl];have h1:=PySem.F.called_set.notType;have h2:=PySem.F.called_set.canCreate;have hct:=PySem.F.typeCall_set_1 (.ref l)
 repeat (any_goals (first | assumption | wp_step))
 refine codeAny_mono (R5 (.ref l) (E:=E) (Q₁:=fun obj s₁=>obj=.ref s.heap.objs.size/\s₁={ s with heap:=s.heap.push (gI w) }) ⟨rfl,rfl⟩) fun r s₁ hr=>?_;cases r with
 | error e=>exact hr
 | ok fl =>
  cases fl with
  | ret obj =>
   obtain⟨rfl,rfl⟩:=hr;have hS:(s.heap.push (gI w)).get? s.heap.objs.size=some (gI w):=aBB _ rfl;have hT:Shared.TypeIs { s with heap:=s.heap.push (gI w) } (.ref s.heap.objs.size) "set":=⟨_,hS,rfl⟩;have hli:=PySem.F.called_set.init.lookup;have hbi:=PySem.F.called_set.init.bind (.ref s.heap.objs.size)
   repeat (any_goals (first | assumption | wp_step))
   refine codeAny_mono (codeAny_call_builtin (R:=wants (fun r s₂=>r=.none/\∃ h' tk,s₂={ s with heap:=h',toks:=tk } /\
    SetG prog w h' s.heap.objs.size (fun k'=>(firstMet (fun i=>ns.getD i 0) items.size).any (· == k')) (firstMet (fun i=>ns.getD i 0) items.size).length /\
    (∀ b o,b<s.heap.objs.size->s.heap.get? b=some o->h'.get? b=some o)) E) PySem.F.called_set.init.plain PySem.F.entry_set_init (check_set_init_1 hT ?_)) fun r₂ s₂ hr₂=>?_
   ·obtain⟨ol,hol,hcl,nl,hdl⟩:=hl;obtain⟨ocls,odict,odata,oslots⟩:=ol;simp only at hcl hdl;subst hcl;subst hdl;have hol':(s.heap.push (gI w)).get? l=some { cls:=.type "list",dict:=odict,data:=.seq items nl,slots:=oslots }:=aAv _ hol;have hsls:=PySem.F.sub_list_set;have hslf:=PySem.F.sub_list_frozenset;have hne:(Value.type "list" == Value.type "dict")=false:=by decide
    have hl1:(s.heap.push (gI w)).IsList l items:=⟨_,hol',rfl,nl,rfl⟩;unfold Builtin.«set.__init__» noKeywords Builtin.Frozenset.updateFrom;generalize hPI:pyIter=PI
    wp_walk
    subst hPI;refine wpAny_pyIter_list hl1 ?_;refine aAs (wpAny_runValue ?_);have hlS:l<s.heap.objs.size:=aBA hol;have hh3:A.in1.in1.in1.handled=none:=by simp[hh]
    have hneI:l≠(s.heap.push (gI w)).objs.size:=by
     rw[Heap.size_push];exact aBS (Nat.lt_succ_of_lt hlS)
    have hSf:s.heap.objs.size∉[(s.heap.push (gI w)).objs.size,l]:=by
     rw[Heap.size_push];simp only[aB8,aB1,List.not_mem_nil,or_false,not_or];exact⟨aBS (Nat.lt_succ_self _),aBV hlS⟩
    have hval:∀ (i:Nat) (v:Value),items[i]?=some v->∃ t,v=.int ((fun i=>ns.getD i 0) i) t:=fun i v hv =>
     PyProof.Rows.IntsAre.int_at hi i v (by rw[Array.getElem?_toList];exact hv)
    refine E9 ((Walks.list hh3 _ l hneI items).toS) s.heap.objs.size
     hSf (fun i=>ns.getD i 0) hval hb (items.size - 0) 0 _ (by omega) (Nat.zero_le _)
     ⟨⟨_,aBB _ rfl,rfl,rfl⟩,(hl1.push _)⟩ ?hS0 ?hR
    case hS0 =>
     exact(yK (prog:=prog) (aAv _ hS)).congr (fun _=>rfl) rfl
    case hR =>
     intro s' hm hS';obtain⟨h',g',d',tk',os'⟩:=s';have eg:g'=s.gens:=hm.gens;have ed:d'=s.drawn:=hm.drawn;have eo:os'=s.os:=hm.os;subst eg;subst ed;subst eo;show wpAny _ _ _ _ _ _;refine aAt ?_;show wpAny _ _ (ret Value.none) _ _ _;refine aAt ⟨rfl,h',tk',rfl,hS',fun b o hb e=>?_⟩;have hb1:b≠s.heap.objs.size:=aBS hb;have hb2:b≠(s.heap.push (gI w)).objs.size:=by
      rw[Heap.size_push];exact aBS (Nat.lt_succ_of_lt hb)
     exact hm.heap b o (by simp only[aB8,aB1,List.not_mem_nil,or_false,not_or];exact⟨hb1,hb2⟩) (aAv _ (aAv _ e))
   ·cases r₂ with
    | error e=>exact hr₂
    | ok fl₂ =>
     cases fl₂ with
     | ret r =>
      obtain⟨rfl,h',tk,rfl,hS',hk'⟩:=hr₂
      repeat (any_goals (first | assumption | wp_step))
      exact h _ _ hS' hk'
     | _=>exact hr₂.elim
  | _=>exact hr.elim
end
theorem zZ {α:Type} (next:Nat->Nat):∀ (fuel k:Nat) (left:List α) (out:Array α),left.length=fuel->(pickOrder.go next fuel k left out).toList.Perm (out.toList++left)
 | 0,k,left,out,h=>by
  have:left=[]:=aB2 h;subst this;rw[pickOrder.go,List.append_nil]
 | fuel+1,k,left,out,h=>by
  rw[pickOrder.go];have hl:next k % left.length<left.length:=Nat.mod_lt _ (by omega);rw[aBE hl];dsimp only;refine(zZ next fuel (k+1) _ _ (by rw[List.length_eraseIdx,if_pos hl];omega)).trans ?_;rw[Array.toList_push,List.append_assoc];refine List.Perm.append_left _ ?_;rw[List.singleton_append];rw[List.eraseIdx_eq_take_drop_succ];refine List.perm_middle.symm.trans ?_;rw[List.getElem_cons_drop,List.take_append_drop]
theorem G1 {α:Type} (next:Nat->Nat) (xs:Array α):(pickOrder next xs).toList.Perm xs.toList:=by
 unfold pickOrder;have:=zZ next xs.size 0 xs.toList #[] (by simp);simpa using this
theorem cN:Slot "set_iterator" "__next__" "set_iterator.__next__" :=
 .of (owner:="set_iterator") (n:="__next__") (by rw[typeLookup_type,builtinLookup_eq_fast];kernel_rfl) (by decide +kernel) (by decide +kernel) (by decide +kernel)
  (by first | exact .inl (by decide +kernel) | exact .inr (by decide +kernel)) (by rw[isSubtype_type];kernel_rfl)
theorem jG:Slot "set_iterator" "__iter__" "set_iterator.__iter__" :=
 .of (owner:="set_iterator") (n:="__iter__") (by rw[typeLookup_type,builtinLookup_eq_fast];kernel_rfl) (by decide +kernel) (by decide +kernel) (by decide +kernel)
  (by first | exact .inl (by decide +kernel) | exact .inr (by decide +kernel)) (by rw[isSubtype_type];kernel_rfl)
theorem iU:entryFor table "set_iterator.__next__"=some Builtin.«set_iterator.__next__»:=entryFor_of_tree (by kernel_rfl)
theorem nU:entryFor table "set_iterator.__iter__"=some Builtin.«dict_keyiterator.__iter__» :=
 entryFor_alias (id':="dict_keyiterator.__iter__") (by kernel_rfl) rfl (by decide +kernel) (by kernel_rfl)
theorem nV:entryFor table "set.__iter__"=some Builtin.«frozenset.__iter__» :=
 entryFor_alias (id':="frozenset.__iter__") (by kernel_rfl) rfl (by decide +kernel) (by kernel_rfl)
theorem pV:Manifest.owners.lookup (String.ofList ['r','o','t','a','r','e','t','i','_','t','e','s'].reverse)=some Manifest.sig_set_iterator:=by kernel_rfl
theorem jH (a:Value):argsOk "set_iterator.__next__" ⟨[a],[]⟩:=by
 unfold argsOk;rw[signature?_of (id:="set_iterator.__next__") (n:=['_','_','t','x','e','n','_','_']) (o:=['r','o','t','a','r','e','t','i','_','t','e','s']) (by kernel_rfl) pV];kernel_rfl
theorem pW (a:Value):argsOk "set_iterator.__iter__" ⟨[a],[]⟩:=by
 unfold argsOk;rw[signature?_of (id:="set_iterator.__iter__") (n:=['_','_','r','e','t','i','_','_']) (o:=['r','o','t','a','r','e','t','i','_','t','e','s']) (by kernel_rfl) pV];kernel_rfl
section
variable {prog:Program} {w:World} {A:Around} {E:Value->Shared->Prop} {s:Shared}
def SetAt (w:World) (h:Heap) (d:Addr) (es:Array (Int×Value)) (ep:Nat) (t:SetTable):Prop :=
 ∃ o,h.get? d=some o/\o.ExactSet/\o.data=.set es ep t/\TabG w t es.size
def IsSetIter (h:Heap) (it d:Addr) (slot i n ep:Nat):Prop :=
 ∃ o,h.get? it=some o/\o.cls=.type "set_iterator"/\o.data=.fields #[.int slot 0,.int i 0,.ref d,.int n 0,.int ep 0]
def kF (w:World) (d:Addr) (es:Array (Int×Value)) (ep:Nat):Array (Int×Value):=if w.params.followText "set-order"=true then pickOrder (w.params.setOrder d ep) es else es
theorem mT (w:World) (d:Addr) (es:Array (Int×Value)) (ep:Nat):(kF w d es ep).toList.Perm es.toList:=by
 unfold kF;split;exact G1 _ _;exact .rfl
def mU (w:World) (t:SetTable) (slot i:Nat):Prop:=w.params.followText "set-order"=true\/((∀ k a,k<i->t.place[k]?=some a->a<slot)/\(∀ k a,i<=k->t.place[k]?=some a->slot<=a))
theorem SetAt.typeIs {d:Addr} {es:Array (Int×Value)} {ep:Nat} {t:SetTable} (x:SetAt w s.heap d es ep t):s.TypeIs (.ref d) "set":=let ⟨o,ho,hx,_⟩:=x;⟨o,ho,hx.1⟩
theorem SetAt.at' {h h':Heap} {d:Addr} {es:Array (Int×Value)} {ep:Nat} {t:SetTable} (x:SetAt w h d es ep t) (k:∀ o,h.get? d=some o->h'.get? d=some o):SetAt w h' d es ep t:=let ⟨o,ho,r⟩:=x;⟨o,k _ ho,r⟩
theorem IsSetIter.typeIs {it d:Addr} {slot i n ep:Nat} (x:IsSetIter s.heap it d slot i n ep):s.TypeIs (.ref it) "set_iterator":=let ⟨o,ho,hc,_⟩:=x;⟨o,ho,hc⟩
theorem iM {Q:Bool->Shared->Prop} (h:Q (w.params.followText "set-order") s):wpAny (model prog w) A setsByText Q E s:=by
 unfold setsByText;exact aAs (wpAny_askSetting (aAt h))
theorem R6 {d:Addr} {es:Array (Int×Value)} {ep:Nat} {t:SetTable} {Q:Value->Shared->Prop} (hs:SetAt w s.heap d es ep t)
 (hQ:Q (.ref s.heap.objs.size) { s with heap:=s.heap.push { cls:=.type "set_iterator",data:=.fields #[.int 0 0,.int 0 0,.ref d,.int es.size 0,.int ep 0] } }) :
 wpAny (model prog w) A (pyIter (.ref d)) Q E s:=by
 obtain⟨o,ho,hx,hd,T⟩:=id hs;refine wpAny_pyIter_slot hs.typeIs PySem.F.slot_set_iter (wpAny_call_entry PySem.F.slot_set_iter hs.typeIs nV ?_ (PySem.F.args_set_iter_1 _));unfold Builtin.«frozenset.__iter__»;refine aAs (aAt ?_);refine aAs ?_;unfold Builtin.Frozenset.sizeOf;refine aAs (wpAny_setEntries_of ho hd T.fits (aAt ?_));refine aAs ?_;unfold setDrawn;refine aAs (wpAny_setState_of ho hd T.fits ?_);refine aAs (iM (aAt ?_));have e:(!w.params.followText "set-order" && (!t.plain && decide (es.size > 1)))=false:=by rw[T.plain];simp
 show wpAny _ _ (if (!w.params.followText "set-order" && (!t.plain && decide (es.size > 1)))=true then _ else _) _ _ s;rw[e];simp only[Bool.false_eq_true,↓reduceIte];refine aAs (aAt ?_);refine aAs (wpAny_setEpoch_of ho hd T.fits ?_);refine aAs ?_;refine wpAny_newObj_type (aAt ⟨_,rfl,"set_iterator",_,⟨_,aBB _ rfl,rfl⟩,cN.lookup,?_⟩);exact hQ
theorem G2 {it d:Addr} {slot i n ep:Nat} {Q:Value->Shared->Prop} (hit:IsSetIter s.heap it d slot i n ep) (h:Q (.ref it) s):wpAny (model prog w) A (pyIter (.ref it)) Q E s:=by
 refine wpAny_pyIter_slot hit.typeIs jG (wpAny_call_entry jG hit.typeIs nU ?_ (pW _));show wpAny _ _ (ret (.ref it)) _ _ s;exact aAt ⟨_,rfl,"set_iterator",_,hit.typeIs,cN.lookup,h⟩
theorem pX {d:Addr} {es:Array (Int×Value)} {ep slot i:Nat} {t:SetTable} {Q:Option (Value×Nat)->Shared->Prop} (hs:SetAt w s.heap d es ep t) (hS:mU w t slot i)
 (h:∀ slot',mU w t slot' (i+1)->Q (((kF w d es ep)[i]?).map fun e=>(e.2,slot')) s):wpAny (model prog w) A (setNext d slot i ep) Q E s:=by
 obtain⟨o,ho,hx,hd,T⟩:=id hs;unfold setNext;refine aAs (wpAny_setState_of ho hd T.fits ?_);refine aAs (iM ?_);dsimp only
 by_cases q:w.params.followText "set-order"=true
 ·rw[if_pos q];rw[if_neg (by simp)];refine aAs ?_;unfold setWalk;refine aAs (wpAny_setState_of ho hd T.fits ?_);refine aAs (iM ?_);rw[if_pos q];refine aAs (wpAny_askSetting (aAt (aAt ?_)));have:=h slot (.inl q);unfold kF at this;rw[if_pos q]at this;exact this
 ·rw[if_neg q];have e:(!t.plain && decide (es.size > 1))=false:=by rw[T.plain];rfl
  show wpAny _ _ (if (!t.plain && decide (es.size > 1))=true then _ else _) _ _ s;rw[e];simp only[Bool.false_eq_true,↓reduceIte];have hl:t.led=true:=T.led.resolve_right q;refine aAs ?_;show wpAny _ _ (if (!t.led && !es.isEmpty)=true then _ else _) _ _ s;rw[hl];simp only[Bool.not_true,Bool.false_and,Bool.false_eq_true,↓reduceIte];refine aAt ?_;obtain⟨hS1,hS2⟩:=hS.resolve_left q;have hz:=T.sz;have hord:kF w d es ep=es:=by unfold kF;rw[if_neg q]
  rcases Nat.lt_or_ge i es.size with z | z
  ·have eb:SetTable.below t.place slot=i:=wD T.up (by omega) hS1 hS2;rw[eb];have hp:t.place[i]?=some t.place[i]:=aBM (by omega);have he:es[i]?=some es[i]:=aBM z;rw[hp,he];have:=h (t.place[i]+1) (.inr ⟨fun k a hk ha=>?_,fun k a hk ha=>?_⟩)
   ·rw[hord,he]at this;exact aAt this
   ·rcases Nat.lt_or_ge k i with y | y
    ·have:=T.up.lt y ha hp;omega
    ·have:k=i:=by omega
     subst this;rw[hp]at ha;cases ha;omega
   ·have:=T.up.lt (show i<k by omega) hp ha;omega
  ·have eb:SetTable.below t.place slot=es.size:=wD T.up (by omega) (fun k a hk ha=>hS1 k a (by omega) ha) (fun k a hk ha=>by
    have:=(Array.getElem?_eq_some_iff.mp ha).1;omega)
   rw[eb];have he:es[es.size]?=none:=Array.getElem?_eq_none (Nat.le_refl _);rw[he];have:=h 0;have hno:(kF w d es ep)[i]?=none:=by rw[hord];exact Array.getElem?_eq_none z
   have:=h (if _h:es.size=0 then slot else t.place[es.size - 1]!+1+slot) (.inr ⟨fun k a hk ha=>?_,fun k a hk ha=>?_⟩)
   ·rw[hno]at this;exact aAt this
   ·have hk2:=(Array.getElem?_eq_some_iff.mp ha).1;have:=hS1 k a (by omega) ha;split <;> omega
   ·have:=(Array.getElem?_eq_some_iff.mp ha).1;omega
end
section
variable {prog:Program} {w:World} {A:Around} {E:Value->Shared->Prop} {s:Shared}
theorem R7 {it d:Addr} {slot i ep:Nat} {es:Array (Int×Value)} {t:SetTable} {x:Value} {hx:Int} {Q:Option Value->Shared->Prop} (hne:d≠it) (hit:IsSetIter s.heap it d slot i es.size ep)
 (hs:SetAt w s.heap d es ep t) (hS:mU w t slot i) (he:(kF w d es ep)[i]?=some (hx,x))
 (hQ:∀ slot' h',IsSetIter h' it d slot' (i+1) es.size ep->mU w t slot' (i+1)->Heap.SameBut it s.heap h'->Q (some x) { s with heap:=h' }) :
 wpAny (model prog w) A (pyNext (.ref it)) Q E s:=by
 obtain⟨o,ho,hc,hd⟩:=id hit;obtain⟨od,hod,hxd,hdd,T⟩:=id hs;unfold pyNext;refine aAs (wpAny_attempt (wpAny_callSpecial?_slot (name:=Str.ofString "__next__") hit.typeIs cN
  (wpAny_call_entry cN hit.typeIs iU ?_ (jH _))))
 unfold Builtin.«set_iterator.__next__»;refine aAs (aAt ?_);refine aAs (wpAny_fieldsOf ho hd ?_);show wpAny _ _ (setEntries d >>= _) _ _ s;refine aAs (wpAny_setEntries_of hod hdd T.fits ?_);rw[if_neg (by simp)];show wpAny _ _ (setNext d (slot:Int).toNat (i:Int).toNat (ep:Int).toNat >>= _) _ _ s;rw[Int.toNat_natCast,Int.toNat_natCast,Int.toNat_natCast];refine aAs (pX hs hS fun slot' hS'=>?_);rw[he];dsimp only[Option.map];refine aAs (wpAny_setField ho hd (by simp) ?_);have ho2:=aBN (Obj.mapFields (·.setIfInBounds 0 (rawInt slot'))) ho (Obj.isFreed_of_fields (Obj.data_mapFields hd _));have hd2:(Obj.mapFields (·.setIfInBounds 0 (rawInt slot')) o).data=.fields #[.int slot' 0,.int i 0,.ref d,.int es.size 0,.int ep 0]:=by rw[Obj.data_mapFields hd];simp[rawInt]
 refine aAs (wpAny_setField ho2 hd2 (by simp) ?_);have ho3:=aBN (Obj.mapFields (·.setIfInBounds 1 (rawInt ((i:Int)+1)))) ho2 (Obj.isFreed_of_fields (Obj.data_mapFields hd2 _));exact aAt ⟨_,rfl,aAt (hQ slot' _ ⟨_,ho3,(Obj.cls_mapFields ..).trans ((Obj.cls_mapFields ..).trans hc),by rw[Obj.data_mapFields hd2];simp[rawInt]⟩ hS' ((Heap.SameBut.update ..).trans (Heap.SameBut.update ..)))⟩
theorem R8 {it d:Addr} {slot i ep:Nat} {es:Array (Int×Value)} {t:SetTable} {Q:Option Value->Shared->Prop} (hh:A.handled=none) (hne:d≠it) (hit:IsSetIter s.heap it d slot i es.size ep)
 (hs:SetAt w s.heap d es ep t) (hS:mU w t slot i) (he:(kF w d es ep)[i]?=none)
 (hQ:∀ h',Heap.ExtBut it s.heap h'->Q none { s with heap:=h' }) :
 wpAny (model prog w) A (pyNext (.ref it)) Q E s:=by
 obtain⟨o,ho,hc,hd⟩:=id hit;obtain⟨od,hod,hxd,hdd,T⟩:=id hs;unfold pyNext;refine aAs (wpAny_attempt (wpAny_callSpecial?_slot (name:=Str.ofString "__next__") hit.typeIs cN
  (wpAny_call_entry cN hit.typeIs iU ?_ (jH _))))
 unfold Builtin.«set_iterator.__next__»;refine aAs (aAt ?_);refine aAs (wpAny_fieldsOf ho hd ?_);show wpAny _ _ (setEntries d >>= _) _ _ s;refine aAs (wpAny_setEntries_of hod hdd T.fits ?_);rw[if_neg (by simp)];show wpAny _ _ (setNext d (slot:Int).toNat (i:Int).toNat (ep:Int).toNat >>= _) _ _ s;rw[Int.toNat_natCast,Int.toNat_natCast,Int.toNat_natCast];refine aAs (pX hs hS fun slot' hS'=>?_);rw[he];dsimp only[Option.map];refine aAs (wpAny_setField ho hd (by simp) ?_);refine aAs ?_;simp only[newExc,newTuple];refine aAs (wpAny_newObj_type ?_ (by size_fits));refine aAs (m:=firstArgMember _ _) (wpAny_of_eq (a:=Value.none) (by first | rfl | (simp only[firstArgMember];rfl)) ?_);refine wpAny_newObj_type ?_ (by size_fits);simp only[raiseNew];refine aAs (wpAny_handled ?_);rw[show A.in1.handled=none from hh];refine aAs (aAt (wpAny_throw ?_));refine aAs (wpAny_isInstance (T:="StopIteration") (b:=true) ⟨_,aBB _ rfl,rfl⟩ isSubtype_stop ?_);exact aAt (hQ _ (((Heap.SameBut.update ..).extBut.push _).push _))
theorem G3 (hh:A.handled=none) (I d:Addr) (hne:d≠I) (es:Array (Int×Value)) (ep:Nat) (t:SetTable) :
 Walks prog w A I [I,d] [I] es.size (fun i v=>∃ hx,(kF w d es ep)[i]?=some (hx,v)) (fun i h=>∃ slot,IsSetIter h I d slot i es.size ep/\SetAt w h d es ep t/\mU w t slot i) where
 sub:=fun b hb=>by simp at hb;simp[hb]
 frame:=fun _ _ _ ⟨slot,⟨o,ho,r⟩,st,hS⟩ hk=>⟨slot,⟨o,hk I (by simp) o ho,r⟩,st.at' fun o e=>hk d (by simp) o e,hS⟩
 item:=fun i s Q E hi ⟨slot,hit,st,hS⟩ hQ=>by
  have hz:(kF w d es ep).size=es.size:=by rw[<- Array.length_toList,(mT w d es ep).length_eq,Array.length_toList]
  obtain⟨⟨hx,x⟩,he⟩:∃ p,(kF w d es ep)[i]?=some p:=⟨_,aBM (by omega)⟩;refine R7 hne hit st hS he fun slot' h' hit' hS' hs'=>?_;exact hQ x h' s.toks ⟨hx,he⟩ ⟨slot',hit',st.at' fun o e=>hs'.extBut d o hne e,hS'⟩ fun b o hb e=>hs'.extBut b o (fun h=>hb (by simp[h])) e
 done:=fun s Q E ⟨slot,hit,st,hS⟩ hQ=>by
  have hz:(kF w d es ep).size=es.size:=by rw[<- Array.length_toList,(mT w d es ep).length_eq,Array.length_toList]
  exact R8 hh hne hit st hS (Array.getElem?_eq_none (by omega)) fun h' he'=>hQ h' s.toks fun b o hb e=>he' b o (fun h=>hb (by simp[h])) e
 self:=fun _ _ _ _ ⟨slot,hit,st,hS⟩ hQ=>G2 hit hQ
theorem R9 {r:Addr} {Q:Bool->Shared->Prop} (hT:s.TypeIs (.ref r) "set") (h:Q false s):wpAny (model prog w) A (Builtin.List.listLengthHint (.ref r)) Q E s:=by
 unfold Builtin.List.listLengthHint;refine aAs (wpAny_specialOf hT PySem.F.slot_set_len.lookup ?_);generalize hid:("set.__len__":String)=id0
 wp_delta
 rw[show splitId id0=some ("set","__len__") from by subst hid;decide +kernel];subst hid;refine aAs (wpAny_isInstance (T:="set") (b:=true) hT (by rw[isSubtype_type];kernel_rfl) ?_);refine wpAny_ite_split (fun hab=>absurd hab (by decide)) (fun _=>?_);refine wpAny_ite_split (fun _=>?_) (fun hab=>absurd (by decide +kernel) hab);refine aAs (wpAny_typeOf hT ?_);exact aAt h
theorem Y1 {d:Addr} {es:Array (Int×Value)} {ep:Nat} {t:SetTable}:PySem.W.KdlSrc prog w "set" d d es.size (fun i v=>∃ hx,(kF w d es ep)[i]?=some (hx,v)) (fun h=>SetAt w h d es ep t) where
 type:=fun _ hm=>hm.typeIs
 there:=fun _ hm=>let ⟨_,ho,_⟩:=hm;⟨aBA ho,aBA ho⟩
 keep:=fun _ _ hm hk=>hm.at' fun o e=>hk d (.inl rfl) o e
 notList:=by decide
 notTuple:=by decide
 hint:=fun _ _ _ _ hm hq=>R9 hm.typeIs hq
 iter:=fun _ s hh hm=>⟨_,_,(fun _ _ hq=>R6 hm hq),G3 hh _ d (let ⟨_,ho,_⟩:=hm;aBS (aBA ho)) es ep t,
  ⟨0,⟨_,aBB _ rfl,rfl,rfl⟩,hm.at' fun o e=>aAv _ e,.inr ⟨fun k a hk=>absurd hk (by omega),fun k a _ _=>Nat.zero_le _⟩⟩⟩
end
def cX (ns:List Int):List Int:=firstMet (fun i=>ns.getD i 0) ns.length
section
variable {X:Cx}
end
theorem jI {α:Type} [DecidableEq α]:∀ {l1 l2:List α},l1.Nodup->l1 ⊆ l2->l2.length<=l1.length->l1.Perm l2
 | [],l2,_,_,h=>by
  have:l2=[]:=aB2 (by simpa using h);rw[this]
 | x :: l1,l2,hn,hs,h=>by
  rw[List.nodup_cons]at hn;have hx:x∈l2:=hs aAw;refine(List.Perm.cons x (jI hn.2 (fun y hy=>?_) ?_)).trans (List.perm_cons_erase hx).symm
  ·have hne:y≠x:=fun e=>hn.1 (e ▸ hy);exact(List.mem_erase_of_ne hne).mpr (hs (aAx _ hy))
  ·rw[List.length_erase_of_mem hx];simp only[aBY]at h;omega
theorem gJ (val:Nat->Int):∀ i,(firstMet val i).Nodup
 | 0=>by rw[firstMet_zero];exact .nil
 | i+1=>by
  rw[firstMet_succ];unfold step_dedup;split
  ·exact gJ val i
  ·rename_i h
   rw[List.nodup_append];refine⟨gJ val i,by simp,fun a ha b hb e=>h ?_⟩;rw[aB1]at hb;rw[List.any_eq_true];exact⟨a,ha,by rw[e,hb];simp⟩
theorem fM (ns:List Int):(cX ns).Nodup:=gJ _ _
theorem gA (ns:List Int) (k:Int):k∈cX ns↔k∈ns:=by
 have e:=firstMet_any (fun i=>ns.getD i 0) ns.length k;have h1:k∈cX ns↔(cX ns).any (· == k)=true:=by
  rw[List.any_eq_true];exact⟨fun h=>⟨k,h,by simp⟩,fun⟨x,h,q⟩=>by rw[beq_iff_eq]at q;exact q ▸ h⟩
 rw[h1];show (firstMet (fun i=>ns.getD i 0) ns.length).any (· == k)=true↔_;rw[e,List.any_eq_true]
 constructor
 ·rintro ⟨x,hx,q⟩;rw[beq_iff_eq]at q;obtain⟨i,hi,rfl⟩:=aBa.mp hx;have hi2:=List.mem_range.mp hi;rw[<- q];show ns.getD i 0∈ns;rw[List.getD_eq_getElem?_getD,aBE hi2];exact List.getElem_mem hi2
 ·intro h;obtain⟨i,hi,e⟩:=List.getElem_of_mem h;exact⟨k,aBa.mpr ⟨i,List.mem_range.mpr hi,by show ns.getD i 0=k;rw[List.getD_eq_getElem?_getD,aBE hi];exact e⟩,by simp⟩
def G4:Value->Int
 | .int k _=>k
 | _=>0
theorem nJ:∀ {vs:List Value},(∀ v∈vs,∃ k t,v=.int k t)->IntsAre vs (vs.map G4)
 | [],_=>.nil
 | v :: vs,h=>by
  obtain⟨k,t,rfl⟩:=h v aAw;exact .cons k t (nJ fun x hx=>h x (aAx _ hx))
section
variable {prog:Program} {w:World} {A:Around} {E:Value->Shared->Prop} {s:Shared}
theorem wI {T:String} {r d:Addr} {n:Nat} {P:Nat->Value->Prop} {OK:Heap->Prop} {R:List Value->Shared->Prop} (K:PySem.W.KdlSrc prog w T r d n P OK) (hh:A.handled=none) (hok:OK s.heap) (hn:n<=sizeLine)
 (h:∀ (h':Heap) (tk:Nat) (acc:Array Value),(∀ b o,s.heap.get? b=some o->h'.get? b=some o)->s.heap.objs.size<h'.objs.size->ItemsOf P acc n->R acc.toList { s with heap:=h',toks:=tk }) :
 wpAny (model prog w) A (collect (.ref r)) R E s:=by
 have hlt:=K.there _ hok;unfold collect;refine aAs (wpAny_runValue (codeAny_builtin entry_proto_collect' ?_));rw[aBG PySem.F.plain_proto_collect _];show wpAny _ A.in1 (newList [] >>= fun l=>again (.builtin "list.__iadd__" ⟨[l,.ref r],[]⟩)) _ _ s;refine aAs (wpAny_newObj_type (aAt ⟨plainId_quiet PySem.F.plain_list_iadd _,codeAny_builtin entry_list_iadd' ?_⟩));rw[aBG PySem.F.plain_list_iadd _];have hS:(s.heap.push { cls:=.type "list",data:=.seq ([]:List Value).toArray }).get? s.heap.objs.size=some { cls:=.type "list",data:=.seq #[] }:=aBB _ rfl;show wpAny _ A.in1 (Builtin.List.listExtendWith (.ref s.heap.objs.size) (.ref r) (.ref s.heap.objs.size)) _ _ _;have key:=PySem.W.kdl_extend (A:=A) (s:={ s with heap:=s.heap.push { cls:=.type "list",data:=.seq ([]:List Value).toArray } })
  (R:=fun(q:Result) (s':Shared)=>∃ (h':Heap) (tk:Nat) (acc':Array Value) (c':Nat),q=.ok (.ret (.ref s.heap.objs.size))/\s'={ s with heap:=h',toks:=tk } /\
   (∀ b o,s.heap.get? b=some o->h'.get? b=some o)/\h'.get? s.heap.objs.size=some { cls:=.type "list",dict:=none,data:=.seq acc' c',slots:=#[] }/\ItemsOf P acc' n)
  K hh (K.keep _ _ hok fun b _ o e=>aAv _ e) s.heap.objs.size (aBV hlt.1) (aBV hlt.2) (.ref s.heap.objs.size) 0 hS
  (fun h' tk acc' c' hk hS' hacc=>⟨h',tk,acc',c',rfl,rfl,fun b o e=>hk b o (aBS (aBA e)) (aAv _ e),hS',hacc⟩) hn
 refine wpAny_mono key (fun fin s' x=>?_) fun e s' x=>?_
 ·cases fin with
  | done f =>
   obtain⟨h',tk,acc',c',e,rfl,hk,hS',hacc⟩:=x;cases e;show wpAny _ A (load s.heap.objs.size >>= _) _ _ _;exact aAs (wpAny_load hS' (aAt (h h' tk acc' hk (aBA hS') hacc)))
  | again c₁ =>
   refine⟨x.1,codeAny_mono x.2 fun q s₂ y=>?_⟩;obtain⟨h',tk,acc',c',rfl,rfl,hk,hS',hacc⟩:=y;show wpAny _ A (load s.heap.objs.size >>= _) _ _ _;exact aAs (wpAny_load hS' (aAt (h h' tk acc' hk (aBA hS') hacc)))
 ·obtain⟨_,_,_,_,e',_⟩:=x;cases e'
theorem yL {T:String} {r d:Addr} {n:Nat} {P:Nat->Value->Prop} {OK:Heap->Prop} {Q:Value->Shared->Prop} (K:PySem.W.KdlSrc prog w T r d n P OK) (hh:A.handled=none) (hok:OK s.heap) (h64:n<64)
 (hP:∀ i v,P i v->∃ k t,v=.int k t)
 (h:∀ (h':Heap) (tk:Nat) (a:Addr) (vs:List Value) (out:Array Value) (ms:List Int) (e:Nat),vs.length=n->(∀ i v,vs[i]?=some v->P i v)->(∀ b o,s.heap.get? b=some o->h'.get? b=some o)->s.heap.objs.size<=a ->
  h'.get? a=some (seqObj "list" out e)->IntsAre out.toList ms->ms.Perm (vs.map G4)->ms.Pairwise (·<=·)->Q (.ref a) { s with heap:=h',toks:=tk }) :
 wpAny (model prog w) A (call (.builtin "sorted") [.ref r]) Q E s:=by
 have hsl:n<=sizeLine:=by rw[sizeLine_eq];omega
 refine Calls.call_function_entry kind_sorted plain_sorted entry_sorted (args_sorted1 _) ?_;unfold Builtin.«sorted»;refine aAs (m:=checkCount "sorted" 1 1 _) (aAt ?_);refine aAs (wI (A:=A.in1) K hh hok hsl fun h' tk acc hk hgr hacc=>?_);have hl:acc.toList.length=n:=by rw[Array.length_toList];exact hacc.1
 have hv:∀ i v,acc.toList[i]?=some v->P i v:=fun j v e=>hacc.2 j v (by rw[<- Array.getElem?_toList];exact e);refine aAs (wpAny_newList ?_ (by rw[hl];exact hsl));have hI:IntsAre acc.toList (acc.toList.map G4):=nJ fun v hv'=>by
  obtain⟨i,hi⟩:=List.mem_iff_getElem?.mp hv';exact hP i v (hv i v hi)
 have hoL:(h'.push (seqObj "list" acc.toList.toArray 0)).get? h'.objs.size=some (seqObj "list" acc.toList.toArray 0):=aBB _ rfl;refine aAs (wpAny_holding (wpAny_call_entry slot_list_sort ⟨_,hoL,rfl⟩ entry_list_sort (list_sort_tree (s:={ s with heap:=h'.push (seqObj "list" acc.toList.toArray 0),toks:=tk }) hoL hI (by omega) fun out ns' a1 a2 a3=>⟨_,rfl,?_⟩) (args_list_sort _)));obtain⟨e,he⟩:=sortedHeap_at (out:=out) hoL;refine aAt ⟨_,rfl,h _ tk _ acc.toList out ns' e hl hv (fun b o q=>?_) (Nat.le_of_lt hgr) he a1 a2 a3⟩;have hb:=aBA (hk b o q);rw[sortedHeap_old (aBS hb) (by rw[size_push'];exact Nat.lt_succ_of_lt hb)];exact aAv _ (hk b o q)
variable {X:Cx} {e:Expr} {es:List Expr} {t:TA} {x y:Str} {p p2 pos pos2:Pos}
def tSS (t:TA):TE:=fun σ H Q=>t σ H fun xs H1=>∃ (a:Addr) (ns:List Int),xs=[.ref a]/\H1 a=some (.lst (ns.map V.int))/\(cX ns).length<=18 /\
 ∀ (l:Addr) (ms:List Int),H1 l=none->ms.Perm (cX ns)->ms.Pairwise (·<·)->Q (.ref l) (upd H1 l (.lst (ms.map V.int)))
theorem lV (hc:X.calm=true) (hg:Gl X x) (hm:X.mg x=none) (hv:bootBuiltins x=some (.builtin "sorted")) (hg2:Gl X y) (hm2:X.mg y=none) (hv2:bootBuiltins y=some (.type "set")) (ha:PA X [e] t)
 (hn:x≠"__name__":=by decide) (hdb:(x == ("__debug__":Str))=false:=by decide) (hn2:y≠"__name__":=by decide) (hdb2:(y == ("__debug__":Str))=false:=by decide)
 (he:starEach [e] X.env=(false,eval e X.env) :: starEach [] X.env:=by rfl):PE X (.Call (.Name x p) [.Call (.Name y p2) [e] [] pos2] [] pos) (tSS t):=by
 intro pins s σ H Q I h;refine wpAny_Call_Name_kw (hU I hg hm hv ?_ hn hdb);refine PyProof.Rows.callWith_builtin1 ?_ rfl rfl;show wpAny _ _ (spliced ((false,eval (.Call (.Name y p2) [e] [] pos2) X.env) :: backTo pos (starEach [] X.env))) _ _ s;refine Calls.spliced_cons ?_;refine wpAny_Call_Name_kw (hU I hg2 hm2 hv2 ?_ hn2 hdb2);refine PyProof.Rows.callWith_type1 (thn (ha pos2 pins s σ H _ I h) fun us s1 ⟨vs,H1,I1,r1,q1⟩=>?_) he rfl;obtain⟨a,ns,rfl,hl,h18,q⟩:=q1;obtain⟨u,rfl,rx⟩:=iA r1;cases rx;obtain⟨its,rv,pl,hz⟩:=I1.list (SqL.of hl);have hlen:=rv.length;rw[aAu]at hlen;have es1:its.toArray.size=ns.length:=by rw[aBC,hlen]
 refine G0 (I1.ok.hd hc) pl.isList (jB rv) (by rw[es1];exact h18) fun h' tk hS kp=>?_;rw[es1]at hS;refine Calls.spliced_nil ?_;obtain⟨o,es,ep,tt,ho,hex,hd,hel,hmem,hn',T⟩:=hS;have hAt:SetAt X.w h' s1.heap.objs.size es ep tt:=⟨o,ho,hex,hd,by rw[hn'];exact T⟩;have h18':=T.le;have hint:∀ q∈es.toList,∃ k t,q.2=.int k t:=fun q hq=>by
  obtain⟨⟨k,hk,_⟩,_⟩:=hel q hq;obtain⟨t,e⟩:=Value.isInt_shape hk;exact⟨k,t,e⟩
 have hpo:=mT X.w s1.heap.objs.size es ep;refine yL (s:={ s1 with heap:=h',toks:=tk }) (Y1 (t:=tt)) (I1.ok.hd hc) hAt (by omega) (fun i v ⟨hx,e⟩=>?_) fun h2 tk2 a2 vs out ms e2 hvl hvv hk2 hsz2 ho2 hI2 hp2 hs2=>?_
 ·rw[<- Array.getElem?_toList]at e;have:=hint _ (hpo.mem_iff.mp (aBF e));exact this
 ·have hvs:vs=(kF X.w s1.heap.objs.size es ep).toList.map (·.2):=by
   have hz2:(kF X.w s1.heap.objs.size es ep).toList.length=es.size:=by rw[hpo.length_eq,Array.length_toList]
   apply List.ext_getElem
   ·rw[aAu,hz2,hvl]
   ·intro i h1 h2';obtain⟨hx,e⟩:=hvv i vs[i] (aBE h1);rw[<- Array.getElem?_toList]at e;obtain⟨hb,e⟩:=aB7.mp e;rw[List.getElem_map,e]
  have hperm:ms.Perm (cX ns):=by
   refine hp2.trans ?_;rw[hvs,aBZ];refine(hpo.map _).trans ?_;refine(jI (fM ns) (fun k hk=>?_) ?_).symm
   ·have:(firstMet (fun i=>ns.getD i 0) ns.length).any (· == k)=true:=by
     rw[List.any_eq_true];exact⟨k,hk,by simp⟩
    obtain⟨q,hq,hq2⟩:=(hmem k).mp this;obtain⟨t,e⟩:=Value.isInt_shape hq2;refine aBa.mpr ⟨q,hq,?_⟩;show G4 q.2=k;rw[e];rfl
   ·rw[aAu,Array.length_toList,hn'];exact Nat.le_refl _
  have hstr:ms.Pairwise (·<·):=by
   have hnd:ms.Nodup:=hperm.nodup_iff.mpr (fM ns);exact(hs2.and hnd).imp fun⟨h1,h2⟩=>by omega
  have hfr:s1.heap.objs.size<=a2:=by
   have h3:s1.heap.objs.size<h'.objs.size:=aBA ho;have h4:h'.objs.size<=a2:=hsz2;omega
  have hnone:H1 a2=none:=I1.hok.fresh hfr;refine⟨.ref a2,_,I1.laid (t':=tk2) (o:=.lst (ms.map V.int)) (fun b o e=>hk2 b o (kp b o (aBA e) e)) hfr ⟨?_,out.toList,e2,iB hI2,ho2⟩,rfl,q a2 ms hnone hperm hstr⟩;rw[aAu,hperm.length_eq];exact Nat.le_trans h18 (by decide)
end
def DK {α:Type}:Sem α->Prop
 | .pure _=>True
 | .raise _=>True
 | .unsupported _=>True
 | .finish _=>True
 | .rule _ k=>∀ u,DK (k u)
 | .at _ k=>∀ u,DK (k u)
 | .load _ _ k=>∀ o,DK (k o)
 | .update _ _ f k=>(∀ o,(f o).dict=o.dict/\(f o).cls=o.cls/\(o.isFreed=false->(f o).isFreed=false))/\∀ u,DK (k u)
 | .alloc _ k=>∀ a,DK (k a)
 | .loadIfAlive _ k=>∀ o,DK (k o)
 | .point _ k=>∀ u,DK (k u)
 | .register _ _=>True
 | .fresh k=>∀ t,DK (k t)
 | .ask k=>∀ x,DK (k x)
 | .choose _ _ k=>∀ n,DK (k n)
 | .os _ _ _=>False
 | .call _ _ _ _ _=>False
 | .handled _ k=>∀ h,DK (k h)
 | .newGen _ _=>False
 | .genState _ k=>∀ g,DK (k g)
 | .resume _ _ _ _=>False
 | .yield _ _ _ _=>False
 | .stack k=>∀ l,DK (k l)
 | .fork _ _=>False
 | .thread k=>∀ n,DK (k n)
 | .await _ _ _ _ _=>False
theorem DK.bind {α β:Type} {f:α->Sem β}:∀ {t:Sem α},DK t->(∀ a,DK (f a))->DK (t.bind f):=by
 intro t
 induction t with
 | pure a=>intro _ hf;exact hf a
 | raise e=>intro _ _;trivial
 | unsupported w=>intro _ _;trivial
 | finish e=>intro _ _;trivial
 | rule tag k ih=>intro h hf u;exact ih u (h u) hf
 | «at» pos k ih=>intro h hf u;exact ih u (h u) hf
 | load a part k ih=>intro h hf o;exact ih o (h o) hf
 | update a part g k ih=>intro h hf;exact⟨h.1,fun u=>ih u (h.2 u) hf⟩
 | alloc o k ih=>intro h hf a;exact ih a (h a) hf
 | loadIfAlive a k ih=>intro h hf o;exact ih o (h o) hf
 | point live k ih=>intro h hf u;exact ih u (h u) hf
 | register a k ih=>intro _ _;trivial
 | fresh k ih=>intro h hf t;exact ih t (h t) hf
 | ask k ih=>intro h hf x;exact ih x (h x) hf
 | choose src n k ih=>intro h hf x;exact ih x (h x) hf
 | os req live k ih=>intro h _;exact h.elim
 | call c hd gd live k ih=>intro h _;exact h.elim
 | handled own k ih=>intro h hf x;exact ih x (h x) hf
 | newGen c k ih=>intro h _;exact h.elim
 | genState g k ih=>intro h hf x;exact ih x (h x) hf
 | resume g r live k ih=>intro h _;exact h.elim
 | yield v gd live k ih=>intro h _;exact h.elim
 | stack k ih=>intro h hf x;exact ih x (h x) hf
 | fork c k ih=>intro h _;exact h.elim
 | thread k ih=>intro h hf x;exact ih x (h x) hf
 | await a take timed live k ih=>intro h _;exact h.elim
def HD (h0 h:Heap):Prop:=∀ b o,h0.get? b=some o->∃ o',h.get? b=some o'/\o'.dict=o.dict/\o'.cls=o.cls
theorem HD.refl (h:Heap):HD h h:=fun b o e=>⟨o,e,rfl,rfl⟩
theorem HD.trans {a b c:Heap} (x:HD a b) (y:HD b c):HD a c:=fun d o e=>by
 obtain⟨o1,e1,d1,c1⟩:=x d o e;obtain⟨o2,e2,d2,c2⟩:=y d o1 e1;exact⟨o2,e2,d2.trans d1,c2.trans c1⟩
theorem yM {h:Heap} {a:Addr} {o:Obj} (e:h.get? a=some o):o.isFreed=false:=(Heap.get?_some_iff.mp e).2
theorem HD.update {h:Heap} {a:Addr} {f:Obj->Obj} (hf:∀ o,(f o).dict=o.dict/\(f o).cls=o.cls/\(o.isFreed=false->(f o).isFreed=false)):HD h (h.update a f):=fun b o e=>by
 by_cases q:b=a
 ·subst q;exact⟨f o,aBN f e ((hf o).2.2 (yM e)),(hf o).1,(hf o).2.1⟩
 ·exact⟨o,(Heap.get?_update_ne _ _ _ _ q).trans e,rfl,rfl⟩
theorem ObjOk.there {P:Program} {w:World} {H:Hp} {h:Heap} {a:Addr} {u:HO} (x:ObjOk P w H h a u):∃ o,h.get? a=some o:=by
 cases u with
 | lst xs=>obtain⟨_,_,_,_,e⟩:=x;exact⟨_,e⟩
 | tup xs=>obtain⟨_,_,_,o,e,_⟩:=x;exact⟨_,e⟩
 | dK kvs=>obtain⟨_,_,_,_,o,_,_,e,_⟩:=x;exact⟨_,e⟩
 | dT kvs=>obtain⟨_,_,_,_,o,_,_,e,_⟩:=x;exact⟨_,e⟩
 | set S n=>obtain⟨o,_,_,_,e,_⟩:=x;exact⟨_,e⟩
 | ins C dx fs=>obtain⟨_,_,_,e,_⟩:=x;exact⟨_,e⟩
 | own y=>exact x
 | xd fs=>obtain⟨_,⟨_,_,_,e,_⟩,_⟩:=x;exact⟨_,e⟩
 | rng lo hi=>obtain⟨_,_,_,e⟩:=x;exact⟨_,e⟩
 | frz ob u=>obtain⟨e,_⟩:=x;exact⟨_,e⟩
 | tbl ps=>exact⟨_,show h.get? a=some _ from x⟩
 | met f y=>exact⟨_,show h.get? a=some _ from x⟩
 | ext φ=>obtain⟨_,e,_⟩:=x;exact e
section
variable {X:Cx} {pins:List (Addr×Obj)} {σ:St} {H:Hp} {s:Shared} {E:XK}
structure Body (X:Cx):Prop where
 ex:X.ex=[]
 stk:X.stack=X.env :: X.outer
 fr:X.env.frame=some X.env.locals
theorem Body.mem (b:Body X) {c:Addr}:c∈frs X.stack↔c=X.env.locals\/c∈X.fs:=by
 rw[b.stk];unfold frs;rw[List.filterMap_cons,b.fr,aB8];rfl
end
section
variable {X:Cx}
end
section
variable {X:Cx}
end
section
variable {X:Cx}
end
open PySem.MeetsSeq
section
variable {X:Cx}
def Y2:V->List V->Hp->VK->Prop:=fun x vs H Q=>∃ (l:Addr) (ns:List Int) (k:Int),x=.ref l/\vs=[.int k]/\H l=some (.lst (ns.map V.int))/\Q (.int (ns.count k:Nat)) H
theorem nK (k:Int):∀ {vs:List Value} {ns:List Int},IntsAre vs ns->vs.countP (fun v=>G4 v == k)=ns.count k
 | _,_,.nil=>rfl
 | _,_,.cons n t r=>by
  rw[List.countP_cons,List.count_cons,nK k r];rfl
theorem mV:MtM X "list.count" Y2:=by
 intro pins s σ H x vs v us Q I rx rv h;obtain⟨l,ns,k,rfl,rfl,hH,q⟩:=h;cases rx;obtain⟨u,rfl,ru⟩:=rv.one;obtain⟨t,rfl⟩:=ru;obtain⟨z,its,n,r,hl,e⟩:=I.lstM hH;have hI:=jB r;refine call_meets PySem.F.slot_list_count ⟨_,e,rfl⟩ PySem.F.entry_list_count (PySem.F.args_list_count_2 _ _) (list_count l its.toArray n (.int k t) (fun v=>G4 v == k) fun y hy=>?_) ⟨e,?_⟩
 ·obtain⟨i,hi⟩:=List.mem_iff_getElem?.mp (show y∈its by simpa using hy);obtain⟨t',rfl⟩:=hI.int_at i y hi;exact EqGives.int _ _ _ _
 ·rw[show its.toArray.toList=its from rfl,nK k hI];exact⟨.int _,H,I.tok _,⟨_,rfl⟩,q⟩
end
end L2
namespace L2
open PySem PySem.Spec PyProof.Rows
section
variable {X:Cx}
def CMulB (i j:Int):Prop:=(0<=i/\i<2 ^ 20000)/\(0<=j/\j<2 ^ 20000)
theorem S0 {i:Int} (h0:0<=i) (h1:i<2 ^ 20000):Builtin.Int.intBits i<=2 ^ 20:=by
 unfold Builtin.Int.intBits;split
 ·omega
 ·have h2:i.natAbs<2 ^ 20000:=by
   have e:((i.natAbs:Nat):Int)<((2 ^ 20000:Nat):Int):=by
    rw[Int.natAbs_of_nonneg h0,Int.natCast_pow];exact h1
   exact Int.ofNat_lt.mp e
  have hne:i.natAbs≠0:=fun e=>by
   have:i=0:=Int.natAbs_eq_zero.mp e;subst this
   rename_i q
   exact q rfl
  have:=(Nat.log2_lt hne).mpr h2;have e:(2:Nat) ^ 20=1048576:=by decide
  omega
theorem CMulB.ok {i j:Int} (h:CMulB i j):IntMulOk i j:=.of_bits (S0 h.1.1 h.1.2) (S0 h.2.1 h.2.2)
theorem A0:OpR X (binaryOp .Mult) (rI CMulB fun i j=>.int (i * j)):=opI fun _ _ _ _ _ _ _ hc q=>mul_int q hc.ok
def ipB:TIp:=fun x y H Q=>∃ i j,x=.int i/\y=.int j/\CMulB i j/\Q (.int (i * j)) H
theorem Y3:PIp X .Mult ipB:=by
 intro pins s σ H x y v u Q I r1 r2 h;obtain⟨i,j,e1,e2,hc,q⟩:=h;subst e1;subst e2;obtain⟨t,rfl⟩:=r1;obtain⟨t',rfl⟩:=r2;exact imul_int ⟨.int _,H,I.tok _,⟨_,rfl⟩,q⟩ hc.ok
end
end L2
namespace CW
open PySem L2
structure Cn2 (mg:Str->Option Value) (tC:Tok):Prop where
 MOST_NICHES:mg "MOST_NICHES"=some (.int 200 tC)
theorem A1 {m n:Nat} (h:m<=n):(2:Int) ^ m<=2 ^ n:=by
 rw[show (2:Int)=((2:Nat):Int) from rfl,<- Int.natCast_pow,<- Int.natCast_pow];exact Int.ofNat_le.mpr (Nat.pow_le_pow_right (by decide) h)
theorem A3 {m n:Nat} (h:m<n):(2:Int) ^ m<2 ^ n:=by
 rw[show (2:Int)=((2:Nat):Int) from rfl,<- Int.natCast_pow,<- Int.natCast_pow];exact Int.ofNat_lt.mpr (Nat.pow_lt_pow_right (by decide) h)
def chW (room:Int):Nat->Int
 | 0=>1
 | n+1=>chW room n * (room+((n:Int)+1)) / ((n:Int)+1)
def chO (n:Nat) (room:Int):Int:=if room<0 then 0 else chW room n
theorem S1 {room:Int} (h0:0<=room) (h1:room<=200):∀ n:Nat,n<=60->0<=chW room n/\chW room n<=512 ^ n
 | 0,_=>⟨by unfold chW;decide,by unfold chW;decide⟩
 | n+1,hn=>by
  obtain⟨a,b⟩:=S1 h0 h1 n (by omega);have p:0<=chW room n * (room+((n:Int)+1)):=Int.mul_nonneg a (by omega);refine⟨Int.ediv_nonneg p (by omega),?_⟩;have q:chW room n * (room+((n:Int)+1))<=512 ^ n * 512:=Int.mul_le_mul b (by omega) (by omega) (Int.le_of_lt (Int.pow_pos (by decide)));have r:chW room n * (room+((n:Int)+1)) / ((n:Int)+1)<=chW room n * (room+((n:Int)+1)):=Int.ediv_le_self _ p;have e:(512:Int) ^ (n+1)=512 ^ n * 512:=Int.pow_succ ..;show chW room n * (room+((n:Int)+1)) / ((n:Int)+1)<=512 ^ (n+1);rw[e];exact Int.le_trans r q
theorem S2 {room:Int} (h1:room<=200) {n:Nat} (hn:n<=60):0<=chO n room/\chO n room<=2 ^ 540:=by
 unfold chO;split
 ·exact⟨Int.le_refl _,Int.le_of_lt (Int.pow_pos (by decide))⟩
 ·obtain⟨a,b⟩:=S1 (by omega) h1 n hn;refine⟨a,Int.le_trans b ?_⟩;have e:(512:Int) ^ n=2 ^ (9 * n):=by rw[Int.pow_mul];rfl
  rw[e];exact A1 (by omega)
def nW (ns:List Int) (m:Int):Int:=(ns.map fun o=>if o<m then o else m).sum
def aI (niches:Int) (ns:List Int) (m:Int):Int:=niches - 2 * nW ns m
def bF (niches:Int) (ns ms:List Int):Int:=ms.foldl (fun a m=>a * chO (ns.count m) (aI niches ns m)) 1
def rmM (niches:Int) (ns:List Int) (m:Int):Int×Int:=(m,aI niches ns m)
theorem sI (niches:Int) (ns ms:List Int) (m:Int):bF niches ns (ms++[m])=bF niches ns ms * chO (ns.count m) (aI niches ns m):=by
 unfold bF;rw[List.foldl_append];rfl
theorem kC {niches:Int} {ns ms:List Int} {i:Nat} {m:Int} (h:ms[i]?=some m):bF niches ns (ms.take (i+1))=bF niches ns (ms.take i) * chO (ns.count m) (aI niches ns m):=by
 rw[aB0,h];exact sI ..
theorem Y4 {ns:List Int} {m:Int} (h:∀ n∈ns,1<=n) (hm:1<=m):0<=nW ns m:=by
 unfold nW
 induction ns with
 | nil=>exact Int.le_refl 0
 | cons a l ih =>
  have h1:=ih fun n hn=>h n (aAx _ hn);have h2:=h a aAw;rw[aBU,aBX];split <;> omega
theorem gK {niches:Int} {ns:List Int} {m:Int} (hN:niches<=200) (h:∀ n∈ns,1<=n) (hm:1<=m):aI niches ns m<=200:=by
 have:=Y4 h hm;unfold aI;omega
theorem Y5 {niches:Int} {ns:List Int} (hN:niches<=200) (h:∀ n∈ns,1<=n) (hl:ns.length<=60):∀ (ms:List Int),(∀ m∈ms,1<=m)->∀ (i:Nat),i<=ms.length->0<=bF niches ns (ms.take i)/\bF niches ns (ms.take i)<=(2 ^ 540) ^ i:=by
 intro ms hms i
 induction i with
 | zero=>intro _;exact⟨show (0:Int)<=1 by decide,by rw[Int.pow_zero];exact Int.le_refl 1⟩
 | succ i ih =>
  intro hi;obtain⟨a,b⟩:=ih (by omega);have hm:ms[i]?=some ms[i]:=aBE (by omega);obtain⟨c,d⟩:=S2 (gK hN h (hms ms[i] (List.getElem_mem _))) (n:=ns.count ms[i]) (Nat.le_trans List.count_le_length hl);rw[kC hm];refine⟨Int.mul_nonneg a c,?_⟩;rw[Int.pow_succ];exact Int.mul_le_mul b d c (Int.le_of_lt (Int.pow_pos (Int.pow_pos (by decide))))
theorem yN {niches:Int} {ns ms:List Int} (hN:niches<=200) (h:∀ n∈ns,1<=n) (hl:ns.length<=60) (hms:∀ m∈ms,1<=m) (h18:ms.length<=18) {i:Nat} (hi:i<=ms.length) {m:Int} (hm:1<=m) :
 CMulB (bF niches ns (ms.take i)) (chO (ns.count m) (aI niches ns m)):=by
 obtain⟨a,b⟩:=Y5 hN h hl ms hms i hi;obtain⟨c,d⟩:=S2 (gK hN h hm) (n:=ns.count m) (Nat.le_trans List.count_le_length hl);have e:((2:Int) ^ 540) ^ i=2 ^ (540 * i):=by rw[Int.pow_mul]
 rw[e]at b;exact⟨⟨a,Int.lt_of_le_of_lt b (A3 (by omega))⟩,⟨c,Int.lt_of_le_of_lt d (A3 (by omega))⟩⟩
structure SzOk (ns:List Int):Prop where
 pos:∀ n∈ns,1<=n
 sum:ns.sum<=60
 len:ns.length<=60
 few:(cX ns).length<=18
structure Dst (ns ms:List Int):Prop where
 perm:ms.Perm (cX ns)
 up:ms.Pairwise (·<·)
theorem Dst.mem {ns ms:List Int} (d:Dst ns ms) {m:Int}:m∈ms↔m∈ns:=d.perm.mem_iff.trans (gA ns m)
theorem Dst.eq {ns ns' ms ms':List Int} (d:Dst ns ms) (d':Dst ns' ms') (h:∀ m,m∈ns↔m∈ns'):ms=ms':=by
 have p:ms.Perm ms':=jI (d.up.imp fun h=>Int.ne_of_lt h) (fun m hm=>d'.mem.mpr ((h m).mp (d.mem.mp hm))) (by
  rw[d'.perm.length_eq,d.perm.length_eq];exact(fM ns').length_le_of_subset fun m hm=>(gA ns m).mpr ((h m).mpr ((gA ns' m).mp hm)))
 exact hX p (d.up.imp Int.le_of_lt) (d'.up.imp Int.le_of_lt)
theorem Dst.pos {ns ms:List Int} (d:Dst ns ms) (h:SzOk ns):∀ m∈ms,1<=m:=fun m hm=>h.pos m (d.mem.mp hm)
theorem Dst.len {ns ms:List Int} (d:Dst ns ms) (h:SzOk ns):ms.length<=18:=by rw[d.perm.length_eq];exact h.few
inductive lW (vs:List V) (H:Hp) (Q:VK) (E_:XK):Prop
 | mk (n:Int) (h0_:vs=[.int n]) (h1_:0<=n) (h2_:n<=200) (h3_:Q .non H):lW vs H Q E_
inductive oF (vs:List V) (H:Hp) (Q:VK) (E_:XK):Prop
 | mk (a:Addr) (ns:List Int) (h0_:vs=[.ref a]) (h1_:H a=some (.lst (ns.map V.int))) (h2_:SzOk ns) (h3_:∀ H',Same H H'->Q .non H'):oF vs H Q E_
inductive lX (vs:List V) (H:Hp) (Q:VK) (E_:XK):Prop
 | mk (a:Addr) (niches:Int) (ns:List Int) (h0_:vs=[.int niches,.ref a]) (h1_:H a=some (.lst (ns.map V.int))) (h2_:SzOk ns)
  (h3_:∀ ms (l:Addr) us H',Dst ns ms->Same H H'->H' l=some (.lst us)->Prs H' us (ms.map (rmM niches ns))->Q (.ref l) H'):lX vs H Q E_
inductive dU (vs:List V) (H:Hp) (Q:VK) (E_:XK):Prop
 | mk (n:Nat) (room:Int) (h0_:vs=[.int n,.int room]) (h1_:n<=60) (h2_:room<=200) (h3_:Q (.int (chO n room)) H):dU vs H Q E_
inductive pY (vs:List V) (H:Hp) (Q:VK) (E_:XK):Prop
 | mk (a:Addr) (niches:Int) (ns:List Int) (h0_:vs=[.int niches,.ref a]) (h1_:H a=some (.lst (ns.map V.int))) (h2_:SzOk ns) (h3_:0<=niches) (h4_:niches<=200)
  (h5_:∀ ms H',Dst ns ms->Same H H'->Q (.int (bF niches ns ms)) H'):pY vs H Q E_
inductive oG (vs:List V) (H:Hp) (Q:VK) (E_:XK):Prop
 | mk (a:Addr) (niches m:Int) (ns:List Int) (h0_:vs=[.int niches,.ref a,.int m]) (h1_:H a=some (.lst (ns.map V.int))) (h2_:ns.length<=60)
  (h3_:∀ H',Same H H'->Q (.int (aI niches ns m)) H'):oG vs H Q E_
inductive lY (vs:List V) (H:Hp) (Q:VK) (E_:XK):Prop
 | mk (n:Nat) (room:Int) (h0_:vs=[.int n,.int (room+1)]) (h1_:n<=60) (h2_:0<=room) (h3_:room<=200) (h4_:Q (.int (chW room n)) H):lY vs H Q E_
theorem aAR {ns:List Int} (h:∀ n∈ns,1<=n/\n<=12):(cX ns).length<=18:=by
 have hs:cX ns ⊆ (List.range 13).map (fun i:Nat=>(i:Int)):=fun k hk=>by
  obtain⟨a,b⟩:=h k ((gA ns k).mp hk);exact aBa.mpr ⟨k.toNat,List.mem_range.mpr (by omega),by omega⟩
 have:=(fM ns).length_le_of_subset hs;rw[aAu,List.length_range]at this;omega
theorem SzOk.nil:SzOk []:=⟨fun n hn=>absurd hn List.not_mem_nil,by decide,by decide,by decide⟩
theorem Dst.nil {ms:List Int} (d:Dst [] ms):ms=[]:=by
 apply List.eq_nil_iff_forall_not_mem.mpr
 intro m hm;have:=d.mem.mp hm;cases this
theorem Y6 {ns:List Int} (h:∀ n∈ns,1<=n/\n<=12) (hs:ns.sum<=60) (hl:ns.length<=60):SzOk ns:=⟨fun n hn=>(h n hn).1,hs,hl,aAR h⟩
def Sob (r:List Int):Prop:=∀ (i:Nat) (x:Int),r[i]?=some x->2 * ((i:Int)+1)<=x
theorem Sob.snoc {r:List Int} {p:Int}:Sob (r++[p])↔Sob r/\2 * ((r.length:Int)+1)<=p:=by
 constructor
 ·intro h;refine⟨fun i x e=>h i x ?_,h r.length p ?_⟩
  ·rw[List.getElem?_append_left (aB7.mp e).1];exact e
  ·rw[List.getElem?_append_right (Nat.le_refl _),Nat.sub_self];rfl
 ·rintro ⟨h1,h2⟩ i x e;rw[List.getElem?_append]at e;split at e
  ·exact h1 i x e
  ·rename_i q
   rcases Nat.lt_or_ge (i - r.length) 1 with z | z
   ·have:i=r.length:=by omega
    subst this;rw[Nat.sub_self]at e;cases e;exact h2
   ·rw[List.getElem?_eq_none (by simpa using z)]at e;cases e
theorem wJ (j:Int):∀ ps:Trs,les ps j<=siz ps
 | []=>by simp[les,siz]
 | q :: ps=>by rw[aO,gG];have:=wJ j ps;omega
theorem A4 {j:Int}:∀ {ps:Trs},(∀ q∈ps,q.1<=j)->les ps j=siz ps
 | [],_=>rfl
 | q :: ps,h=>by
  rw[aO,gG,A4 fun x hx=>h x (aAx _ hx)];have:=h q aAw;omega
theorem S3 {j k:Int} (h:j<=k):∀ ps:Trs,les ps j<=les ps k
 | []=>by simp[les]
 | q :: ps=>by rw[aO,aO];have:=S3 h ps;omega
theorem wK:∀ {ps:Trs},ps≠[]->∃ q∈ps,∀ x∈ps,x.1<=q.1
 | [],h=>absurd rfl h
 | [q],_=>⟨q,aAw,fun x hx=>by rw[aB1.mp hx];exact Int.le_refl _⟩
 | p :: q :: ps,_=>by
  obtain⟨m,hm,hx⟩:=wK (ps:=q :: ps) (by simp)
  by_cases c:m.1<=p.1
  ·exact⟨p,aAw,fun x h=>by
    rcases aB8.mp h with e | e
    ·rw[e];exact Int.le_refl _
    ·exact Int.le_trans (hx x e) c⟩
  ·exact⟨m,aAx _ hm,fun x h=>by
    rcases aB8.mp h with e | e
    ·rw[e];omega
    ·exact hx x e⟩
theorem Lst.lowS {r:List Int} {ps:Trs} (h:Lst r ps):(∀ q∈ps,0<=q.2)↔Sob r:=by
 induction h with
 | nil=>exact⟨fun _ i x e=>by simp at e,fun _ q hq=>nomatch hq⟩
 | @snoc r ps p qs hl hb ha ih =>
  have hL:Lst (r++[p]) qs:=.snoc hl hb ha;have hbd:Bd qs p:=hL.bd fun x hx=>by
   rcases aB9.mp hx with z | z
   ·have:=hb x z;omega
   ·rw[aB1.mp z];exact Int.le_refl _
  have hz:=hL.sizx;rw[aBD]at hz;have hz2:=hl.sizx;obtain⟨s,rest,h0,h1,h2,h3⟩:=id ha;rw[Sob.snoc,<- ih];have hm:∀ q:Int×Int,q∈qs↔q=(s+1,p - 2 * les rest (s+1) - 2 * (s+1))\/q∈rest:=fun q=>by rw[h3.mem_iff,aB8]
  have hlr:les rest (s+1)+(s+1)<=siz qs:=by
   have:les qs (s+1)<=siz qs:=wJ _ _;rw[aM h3,aO]at this;simp only at this;omega
  simp only[List.length_singleton,Int.natCast_add]at hz
  constructor
  ·intro h;refine⟨fun q hq=>?_,?_⟩
   ·rcases h1 with ⟨_,hp⟩ | ⟨hs,hp⟩
    ·exact h q ((hm q).mpr (.inr (hp.mem_iff.mp hq)))
    ·rcases aB8.mp (hp.mem_iff.mp hq)with e | e
     ·have hnew:=h _ ((hm _).mpr (.inl rfl));simp only at hnew;rw[e];show 0<=p - 1 - 2 * les ps s;rw[aM hp,aO];have:=S3 (show s<=s+1 by omega) rest;simp only;omega
     ·exact h q ((hm q).mpr (.inr e))
   ·obtain⟨q,hq,hg⟩:=wK ha.ne;have e1:=(hbd q hq).2;rw[A4 hg]at e1;have:=h q hq;omega
  ·rintro ⟨h,hp'⟩ q hq;rcases (hm q).mp hq with e | e
   ·rw[e];show 0<=p - 2 * les rest (s+1) - 2 * (s+1);omega
   ·rcases h1 with ⟨_,hp⟩ | ⟨hs,hp⟩
    ·exact h q (hp.mem_iff.mpr e)
    ·exact h q (hp.mem_iff.mpr (aAx _ e))
theorem Lst.highS {r:List Int} {ps:Trs} (h:Lst r ps) (n:Int):(∀ q∈ps,q.2+2 * les ps q.1<=n)↔∀ x∈r,x<=n:=by
 constructor
 ·intro hq;cases h with
  | nil=>intro x hx;cases hx
  | @snoc r ps' p _ hl hb ha =>
   obtain⟨s,rest,h0,h1,h2,h3⟩:=id ha;have:=hq _ (h3.mem_iff.mpr aAw);simp only at this;rw[aM h3,aO]at this;simp only at this;have e:min (s+1) (s+1)=s+1:=by omega
   rw[e]at this;intro x hx;rcases aB9.mp hx with z | z
   ·have:=hb x z;omega
   ·rw[aB1.mp z];omega
 ·intro hx q hq;exact(h.bd hx q hq).2
theorem pZ (ps:Trs) (m:Int):nW (ps.map (·.1)) m=les ps m:=by
 unfold nW les;rw[aBZ]
 congr 1
 refine List.map_congr_left fun q _=>?_;simp only[Function.comp];split <;> omega
theorem Lst.sober {r:List Int} {ps:Trs} (h:Lst r ps) (n:Int):(∀ q∈ps,0<=q.2/\q.2<=aI n (ps.map (·.1)) q.1)↔(Sob r/\∀ x∈r,x<=n):=by
 rw[<- h.lowS,<- h.highS n]
 constructor
 ·intro hq;refine⟨fun q hm=>(hq q hm).1,fun q hm=>?_⟩;have:=(hq q hm).2;unfold aI at this;rw[pZ]at this;omega
 ·rintro ⟨h1,h2⟩ q hm;refine⟨h1 q hm,?_⟩;unfold aI;rw[pZ];have:=h2 q hm;omega
end CW
namespace L2
open PySem PySem.Spec PyProof.Rows
open Sem (wp)
section
variable {prog:Program} {w:World} {A:Around} {E:Value->Shared->Prop} {h:Heap} {g:Array GenState} {d:Drawn} {t:Nat} {os:OsState}
variable {nm q:Str} {C N:Addr} {bs bm bmB:List Value} {hdct:Bool} {sn:List Str} {sub:List Value} {ab:Bool} {col:Option Bool} {dd:Option Addr} {k0 k1 k2 k3 k5:Option Value} {B newId initId:String}
end
open Sem (wp)
open Builtin Builtin.ObjectAttr
section
variable {prog:Program} {w:World} {A:Around} {E:Value->Shared->Prop} {h:Heap} {g:Array GenState} {d:Drawn} {t:Nat} {os:OsState} {K:PySem.W.Frag} {C e:Addr} {name:Str} {v:Value} {vs:Array Value}
end
end L2
namespace L2
open PySem PySem.Spec PyProof.Rows
section
variable {X:Cx} {pins:List (Addr×Obj)} {σ:St} {H:Hp} {s:Shared} {h':Heap} {C e dx:Addr} {od:Option Addr} {φ:Heap->Prop}
end
section
variable {X:Cx}
end
section
variable {P:Program} {w:World} {l:List Env} {H:Hp} {s s':Shared} {E:XK} {e:Addr}
structure Fly (P:Program) (w:World) (l:List Env) (H:Hp) (s:Shared) (e:Addr) (cls a0:Value) (od:Option Addr) (H':Hp) (B:Heap) (s':Shared):Prop where
 os:s'.os=s.os
 bare:AllBare s'.gens
 un:Un (frs l) [] H H' s.heap s'.heap
 hok:HOk P w H' s'.heap
 no:H' e=none
 at_:∃ oe,s'.heap.get? e=some oe/\oe.dict=od
 fl:Heap.FlyingW B l e cls a0 s'.heap
 cov:∀ b u,H' b=some u->∃ o,B.get? b=some o
 olds:∀ b o,s.heap.get? b=some o->b∉frs l->∃ o',B.get? b=some o'
variable {cls a0:Value} {od:Option Addr} {H':Hp} {B:Heap}
theorem Fly.frame (f:Fly P w l H s e cls a0 od H' B s') {b:Addr} (hb:b∈frs l) {o:Obj} (ho:s'.heap.get? b=some o):∀ vs,o.data≠.fields vs:=by
 obtain⟨_,o',ho',hnf⟩:=f.fl.2.2.1.mem hb;rw[ho]at ho';cases ho';exact hnf
theorem Fly.fresh (f:Fly P w l H s e cls a0 od H' B s') {b:Addr} {o:Obj} (e1:s.heap.get? b=some o):b≠e:=fun z=>by
 subst z
 by_cases hb:b∈frs l
 ·obtain⟨o',e2⟩:=f.un.there b o e1 (by simp);obtain⟨oe,vs,he,_,hd,_⟩:=f.fl.first
  exact f.frame hb he vs hd
 ·obtain⟨o',eB⟩:=f.olds b o e1 hb;rw[f.fl.2.1]at eB;cases eB
end
section
variable {X:Cx} {pins:List (Addr×Obj)} {σ:St} {H:Hp} {s s':Shared} {e:Addr} {cls a0:Value} {od:Option Addr} {H':Hp} {B:Heap}
theorem Fly.inv (I:Inv X pins σ H s) (f:Fly X.prog X.w X.stack H s e cls a0 od H' B s'):Inv X pins σ H' s':=I.call' f.os f.un f.hok f.bare fun b z=>absurd z (by simp)
end
section
variable {X:Cx} {pins:List (Addr×Obj)} {σ:St} {H:Hp} {s s':Shared} {e:Addr} {cls a0:Value} {od:Option Addr} {H':Hp} {B:Heap}
end
abbrev HR:=Value->Option Addr->Addr->qR->St->Hp->Prop
section
variable {X:Cx} {x:Str} {c:Value} {np pos:Pos} {b₀:Stmt} {suite:List Stmt} {rest:List ExceptHandler} {ts:TS} {r:HR}
end
section
variable {X:Cx} {pins:List (Addr×Obj)} {σ:St} {H:Hp} {s:Shared}
end
section
variable {X:Cx} {x n:Str} {c:Value} {np pos:Pos} {b₀:Stmt} {suite:List Stmt} {rest:List ExceptHandler} {ts:TS} {r:HR} {i:Nat}
end
section
variable {X:Cx} {x:Str} {j k:Nat} {ps:List Str} {sp:Sp} {t:TA} {e:Expr} {es:List Expr} {p pos:Pos}
end
def lZ (mg:Str->Option Value) (h:Heap):Prop:=∃ bm ob,mg "__builtins__"=some (.ref bm)/\bm≠builtinsNs/\h.get? bm=some ob/\ob.cls=.type "module"/\ob.dict=some builtinsNs/\ob.data=.plain
section
variable {X:Cx}
end
theorem G5 {Pr:Program} {w:World} {K:PySem.W.Frag} {mg mb:Str->Option Value} {CX:CXT} {k:Nat} {fa a c P:Addr} {fd:FuncData} {x:Str} {sp:Sp} {s₁:Shared} {vs:List Value} {ns:List Int}
 (KX:K.In s₁.heap) (hns:s₁.heap.Ns mainGlobals mg) (hb:s₁.heap.Ns builtinsNs mb) (hbb:∀ x:Str,x≠"__name__"->mb x=bootBuiltins x) (hlim:s₁.heap.NoLimit) (hg:s₁.gens=#[])
 (ha:s₁.heap.get? a=some { cls:=.type "list",data:=.seq vs.toArray }) (hi:IntsAre vs ns) (hl:ns.length<=sizeLine) (hr:Room k callerA)
 (hC:PySem.W.CodeHd s₁.heap c P) (hT:s₁.heap.TableAt c P #[]) (hKP:K.lookup P=none) (hbm:lZ mg s₁.heap)
 (F:∀ base:Heap,K.In base->base.Ns mainGlobals mg->lZ mg base->PySem.W.CodeHd base c P->FnOk Pr w K mg base CX k fa fd [x] sp) (hbind:∀ (s:Shared) (u:Value),BindsTo s fd ⟨[u],[]⟩ [(x,u)])
 (hsp:∀ H:Hp,H P=some (.tbl #[])->SqL K H a (ns.map V.int)->sp [.ref a] H (fun v _=>v=.bl true) fun _ _ _=>False)
 (hCX:∀ H e s',CX [] H s₁ (fun _ _ _=>False) e s'->False) :
 codeAny (model Pr w) callerA (.call (.ref fa) ⟨[.ref a],[]⟩) (fun r s'=>r=.ok (.ret (.bool true))/\OldK s₁.heap s'.heap/\s'.os=s₁.os/\AllBare s'.gens) s₁:=by
 have rv:=iB hi;have lenV:=hi.length;have hP:s₁.heap.get? P=some (PySem.W.tabObj #[]):=hT.2;have hPa:P≠a:=fun z=>by rw[z,ha]at hP;cases hP
 have core:∀ H:Hp,H P=some (.tbl #[])->(∀ b,b≠P->H b=none\/∃ ob xs,H b=some (.frz ob (.lst xs)))->SqL K H a (ns.map V.int)->HOk Pr w H s₁.heap->(∀ b,H b≠none->b=a\/b=P)->(H a≠none->K.lookup a=none) ->
  codeAny (model Pr w) callerA (.call (.ref fa) ⟨[.ref a],[]⟩) (fun r s'=>r=.ok (.ret (.bool true))/\OldK s₁.heap s'.heap/\s'.os=s₁.os/\AllBare s'.gens) s₁:=by
  intro H hHP hO hS hok hA hK;have base_of:∀ {b:Addr} {o:Obj},s₁.heap.get? b=some o->H b=none->(oJ s₁.heap H).get? b=some o:=fun e n=>J9 e n;have free:∀ {b:Addr},b≠a->b≠P->H b=none:=fun {b} n1 n2=>by
   cases q:H b with
   | none=>rfl
   | some u=>rcases hA b (by rw[q];simp)with z | z <;> contradiction
  have noA:∀ {b:Addr} {o:Obj} {es:Array DictEntry} {ep:Nat},s₁.heap.get? b=some o->o.data=.dict es ep->H b=none:=fun {b o es ep} e d =>
   free (fun z=>by rw[z,ha]at e;cases e;cases d) fun z=>by rw[z,hP]at e;cases e;cases d
  have nsK:∀ {b:Addr} {m:Str->Option Value},s₁.heap.Ns b m->(oJ s₁.heap H).Ns b m:=fun {b m} ⟨o,es,ep,e,d,r⟩=>⟨o,es,ep,base_of e (noA e d),d,r⟩;have hKb:K.In (oJ s₁.heap H):=fun b o e=>base_of (KX b o e) (by
   cases q:H b with
   | none=>rfl
   | some u =>
    rcases hA b (by rw[q];simp)with z | z
    ·subst z;rw[hK (by rw[q];simp)]at e;cases e
    ·subst z;rw[hKP]at e;cases e)
  have hM:Mod K mg (oJ s₁.heap H):=⟨hKb,nsK hns,⟨mb,nsK hb,hbb⟩,let ⟨mc,h1,h2⟩:=hlim;⟨mc,nsK h1,h2⟩⟩;have e0:Env0 Pr w K mg (oJ s₁.heap H) callerA [] s₁ H:=⟨rfl,hM,fun b o e=>U8 e,Nat.le_of_eq (B6 _ _),trivial,fun b hb=>absurd (show b∈([]:List Addr) from hb) (by simp),hok,.of_eq hg⟩;have hbm':lZ mg (oJ s₁.heap H):=by
   obtain⟨bm,ob,b1,b2,b3,b4,b5⟩:=hbm;refine⟨bm,ob,b1,b2,base_of b3 (free (fun z=>?_) fun z=>?_),b4,b5⟩
   ·rw[z,ha]at b3;cases b3;exact absurd (show Value.type "list"=Value.type "module" from b4) (by decide)
   ·rw[z,hP]at b3;cases b3;cases b4
  have hC':PySem.W.CodeHd (oJ s₁.heap H) c P:=by
   obtain⟨o,vs',file,tf,flags,tg,inF,text,tt,e1,e2,r⟩:=hC;refine⟨o,vs',file,tf,flags,tg,inF,text,tt,base_of e1 (free (fun z=>?_) fun z=>?_),e2,r⟩
   ·rw[z,ha]at e1;cases e1;exact absurd (show Value.type "list"=Value.type "code" from e2) (by decide)
   ·rw[z,hP]at e1;cases e1;cases e2
  refine codeAny_mono ((F _ hKb (nsK hns) hbm' hC').run callerA [] s₁ H ⟨[.ref a],[]⟩ [.ref a] [.ref a] _ _ hr e0 (hbind s₁ (.ref a)) (.cons rfl .nil) (hsp H hHP hS)) fun r s' h=>?_;cases r with
  | error e=>exact(hCX H e s' h).elim
  | ok fl =>
   cases fl with
   | next=>exact False.elim h
   | brk=>exact False.elim h
   | cont=>exact False.elim h
   | ret u =>
    obtain⟨v,H',os,bare,un,hok',r',q⟩:=h;have q':v=.bl true:=q;subst q';obtain rfl:u=Value.bool true:=r';refine⟨rfl,⟨fun b o e=>?_,fun b o e=>un.there b o e (by simp)⟩,os,bare⟩
    by_cases hbP:b=P
    ·subst hbP;rw[hP]at e;cases e;obtain⟨more,hm⟩:=un.tbls _ _ hHP;exact .inr (.inl ⟨hT.isCodeTable,rfl,#[],more,rfl,hok' _ _ hm⟩)
    ·refine .inl ?_;cases q:H b with
     | none=>exact un.keep b o e q (by intro z;exact absurd (show b∈([]:List Addr) from z) (by simp)) (by simp)
     | some u =>
      rcases hO b hbP with z | ⟨ob,xs,z⟩
      ·rw[q]at z;cases z
      ·have z2:=un.frzs b ob _ z;obtain⟨e1,_⟩:=hok b _ z;obtain⟨e2,_⟩:=hok' b _ z2;rw[e]at e1;cases e1;exact e2
 cases hk:K.lookup a with
 | some o =>
  have e:=KX a o hk;rw[ha]at e;cases e;refine core (upd (fun _=>none) P (.tbl #[])) aB (fun b n=>.inl (by rw[aC n])) (.inr ⟨_,vs.toArray,_,hk,rfl,rfl,rfl,by rw[aBC,lenV];exact hl,by simpa using rv⟩) (fun b u z=>?_) (fun b z=>?_) fun z=>absurd (aC (Ne.symm hPa)) z
  ·by_cases hb':b=P
   ·subst hb';rw[aB]at z;cases z;exact hP
   ·rw[aC hb']at z;cases z
  ·by_cases hb':b=P
   ·exact .inr hb'
   ·exact absurd (aC hb') z
 | none =>
  refine core (upd (upd (fun _=>none) a (.frz { cls:=.type "list",data:=.seq vs.toArray } (.lst (ns.map V.int)))) P (.tbl #[])) aB (fun b n=>?_) (.inl (.inr ⟨{ cls:=.type "list",data:=.seq vs.toArray },by rw[aC (Ne.symm hPa),aB]⟩)) (fun b u z=>?_) (fun b z=>?_) fun _=>hk
  ·by_cases hb':b=a
   ·subst hb';exact .inr ⟨_,_,by rw[aC n,aB]⟩
   ·exact .inl (by rw[aC n,aC hb'])
  ·by_cases hb':b=P
   ·subst hb';rw[aB]at z;cases z;exact hP
   ·rw[aC hb']at z
    by_cases hc':b=a
    ·subst hc';rw[aB]at z;cases z;exact⟨ha,by rw[aAu];exact hl,vs,_,rv,ha⟩
    ·rw[aC hc']at z;cases z
  ·by_cases hb':b=P
   ·exact .inr hb'
   ·by_cases hc':b=a
    ·exact .inl hc'
    ·exact absurd (by rw[aC hb',aC hc']) z
theorem walk_ofT {l:PySem.W.OpenLaw} {n k:Nat} {q:Program} {loose:List Str} {XP:(Str->Option Value)->Heap->Prop} {YP:World->Heap->Prop} {d:DefRec} {K:Params->PySem.W.Frag} {CX:World->CXT} {sp:World->Addr->Sp} {x:Str}
 (hn:l.most=some n) (hn2:n<=sizeLine) (hdf:d.params.defaults=[]) (hr:Room k callerA) {ts:List Addr}
 (hY:∀ (w:World) (h:Heap),YP w h->(K w.params).In h) (hTab:∀ (w:World) (h:Heap),YP w h->∀ P∈ts,h.get? P=some (PySem.W.tabObj #[]))
 (F:∀ (w:World) (mg:Str->Option Value) (fa:Addr) (h:Heap),(K w.params).In h->h.Ns mainGlobals mg->mg d.name=some (.ref fa) ->
  ∃ (fd:FuncData) (c P:Addr),P∈ts/\PySem.W.codeHdIn (K w.params) c P=true/\(K w.params).lookup P=none/\(∀ (s:Shared) (u:Value),BindsTo s fd ⟨[u],[]⟩ [(x,u)]) /\
   ∀ base:Heap,(K w.params).In base->base.Ns mainGlobals mg->lZ mg base->PySem.W.CodeHd base c P->FnOk l.prog w (K w.params) mg base (CX w) k fa fd [x] (sp w P))
 (hsp:∀ (w:World) (P:Addr) (H:Hp) (a:Addr) (ns:List Int),ns.length<=n->H P=some (.tbl #[])->SqL (K w.params) H a (ns.map V.int)->sp w P [.ref a] H (fun v _=>v=.bl true) fun _ _ _=>False)
 (hCX:∀ (w:World) (H:Hp) (s:Shared) (e:Value) (s':Shared),CX w [] H s (fun _ _ _=>False) e s'->False) :
 PySem.W.WalkO q loose XP YP l.row.toRowW d [] (fun f vs=>PySem.call f vs):=by
 refine Att.attach_call hn hdf fun w s₀ s₁ mg mb fa o pm cd doc a vs ns G Y ho hd hcd hmg hobj hints hlen hg=>?_;have KX:=hY w _ Y;obtain⟨fd,c,P,hPt,hcode,hKP,hb,hF⟩:=F w mg fa _ KX G.T.g hmg;have hC:=PySem.W.codeHd_of_K KX hcode;have t6:=hC.tab (hTab w _ Y P hPt);exact G5 KX G.T.g G.T.b G.T.builtins G.T.nolimit hg hobj hints (Nat.le_trans hlen hn2) hr hC t6 hKP G.T.bmain hF hb (fun H h1 h2=>hsp w _ H a ns hlen h1 h2) fun H e s'=>hCX w H s₁ e s'
section
variable {prog:Program} {w:World} {A:Around} {E:Value->Shared->Prop} {s:Shared} {K:PySem.W.Frag} {x C:Addr} {ox:Obj} {od:Option Obj} {name:Str} {expr:Bool} {Q:Value->Shared->Prop}
end
section
variable {P:Program} {w:World} {K:PySem.W.Frag} {mg:Str->Option Value} {base:Heap}
end
open Sem (wp)
open Builtin Builtin.ObjectAttr
section
variable {prog:Program} {w:World} {A:Around} {E:Value->Shared->Prop} {h:Heap} {g:Array GenState} {d:Drawn} {t:Nat} {os:OsState} {K:PySem.W.Frag} {C e:Addr} {name:Str} {v:Value} {vs:Array Value}
end
section
variable {X:Cx} {pins:List (Addr×Obj)} {σ:St} {H:Hp} {s:Shared} {h':Heap} {dx:Addr}
end
section
variable {X:Cx}
end
structure FunD (K:PySem.W.Frag) (x qual:Str) (st:Stmt) (f:Addr) (fd:FuncData):Prop where
 ex:∃ (oc:Value) (od:Option Addr) (dV kV doc pm:Value) (an:Option Addr) (cdv ct:Value) (osl:Array (Option Value)),
  fd=PySem.W.fnOf x qual (aU st) (aR st) (aE st) dV kV doc pm an cdv ct/\K.lookup f=some ⟨oc,od,.func fd,osl⟩/\PySem.W.codeIn K cdv qual=true
 kp:PySem.W.keepIn K (.ref f)=true
section
variable {P:Program} {w:World} {K:PySem.W.Frag} {mg:Str->Option Value} {base:Heap}
theorem FunD.ok {x qual:Str} {st:Stmt} {f:Addr} {fd:FuncData} {N ps:List Str} {k:Nat} {sp:Sp} (F:FunD K x qual st f fd) (S:aV N ps (aE st)) (len:∀ vs H Q E,sp vs H Q E->vs.length=ps.length)
 (hbody:∀ (cdv:Value) (A:Around) (outer:List Env) (s:Shared) (H:Hp) (vs:List V) (Q:VK) (E:XK),Room k (A.deeper (envOfC qual (aE st) s.heap.objs.size f cdv))->sp vs H Q E ->
  ∃ t,PSs (mL CX0 P w K mg base N qual (aE st) f cdv A outer s H E).nox (aR st) t/\t { nx:=fun _ H'=>Q .non H',rt:=Q } (fS N vs) H):FnOk P w K mg base CX0 (k+1) f fd ps sp:=by
 obtain⟨oc,od,dV,kV,doc,pm,an,cdv,ct,osl,rfl,lk,hcd⟩:=F.ex;refine L5 lk hcd S len fun A outer s H vs Q E hr hsp=>?_;obtain⟨t,h,q⟩:=hbody cdv A outer s H vs Q E hr hsp;exact⟨t,h.nox,q⟩
end
end L2
namespace L2
open PySem PySem.Spec PyProof.Rows
open PySem.W PySem.Calls
section
variable {K:PySem.W.Frag} {x t c:Value}
end
section
variable {X:Cx}
end
end L2
namespace CW
open PySem L2
section
variable {P:Program} {w:World} {K:PySem.W.Frag} {mg:Str->Option Value} {base:Heap}
def Rf (E:XK) (C:Addr) (fs:List (Str×V)) (H:Hp):Prop:=∀ dx,H dx=none->E (.ref C) (some dx) (upd H dx (.xd fs))
def Rf0 (E:XK) (C:Addr) (nm:Str) (H:Hp):Prop:=Rf E C [("word",.str nm)] H
def RfI (E:XK) (C:Addr) (nm:Str) (i:Int) (H:Hp):Prop:=Rf E C [("at",.int i),("word",.str nm)] H
def u0 (K:PySem.W.Frag) (C:Addr) (f:Str):Bool:=PySem.W.findIn K (.ref C) "__getattribute__" == some (some (.builtin "BaseException.__getattribute__")) && PySem.W.findIn K (.ref C) "__getattr__" == some none &&
 PySem.W.subIn K (.ref C) (.type "BaseException") == some true && PySem.W.hasDictIn K C && PySem.W.findIn K (.ref C) f == some none
structure S4 (K:PySem.W.Frag) (mg:Str->Option Value) where
 row:Addr
 trains:Addr
 sizes:Addr
 many:Addr
 creel:Addr
 number:Addr
 near:Addr
 bare:Addr
 err:Addr
 m_row:mg "BadRow"=some (.ref row)
 m_trains:mg "BadTrains"=some (.ref trains)
 m_sizes:mg "BadSizes"=some (.ref sizes)
 m_many:mg "TooMany"=some (.ref many)
 m_creel:mg "BadCreel"=some (.ref creel)
 m_number:mg "BadNumber"=some (.ref number)
 m_near:mg "TooNear"=some (.ref near)
 m_bare:mg "Bare"=some (.ref bare)
 m_err:mg "CreelError"=some (.ref err)
def S5 (K:PySem.W.Frag):List Addr->Bool
 | []=>true
 | a :: l=>PySem.W.exmOne K (.ref a) (.ref a) == some true && l.all (fun b=>PySem.W.exmOne K (.ref b) (.ref a) == some false) && S5 K l
structure Sees (X:S4 K mg):Prop where
 met:S5 K [X.row,X.trains,X.sizes,X.many,X.creel,X.number,X.near,X.bare]=true
 g1:u0 K X.row "at"=true
 g2:u0 K X.trains "at"=true
 g3:u0 K X.sizes "at"=true
 e1:PySem.W.exmOne K (.ref X.row) (.ref X.err)=some true
 e4:PySem.W.exmOne K (.ref X.many) (.ref X.err)=some true
theorem Sees.all {X:S4 K mg} (Z:Sees X):PySem.W.exmOne K (.ref X.row) (.ref X.row)=some true/\PySem.W.exmOne K (.ref X.trains) (.ref X.trains)=some true/\PySem.W.exmOne K (.ref X.sizes) (.ref X.sizes)=some true/\PySem.W.exmOne K (.ref X.many) (.ref X.many)=some true/\PySem.W.exmOne K (.ref X.creel) (.ref X.creel)=some true/\PySem.W.exmOne K (.ref X.number) (.ref X.number)=some true/\PySem.W.exmOne K (.ref X.near) (.ref X.near)=some true/\PySem.W.exmOne K (.ref X.bare) (.ref X.bare)=some true/\PySem.W.exmOne K (.ref X.trains) (.ref X.row)=some false/\PySem.W.exmOne K (.ref X.sizes) (.ref X.row)=some false/\PySem.W.exmOne K (.ref X.sizes) (.ref X.trains)=some false/\PySem.W.exmOne K (.ref X.many) (.ref X.row)=some false/\PySem.W.exmOne K (.ref X.many) (.ref X.trains)=some false/\PySem.W.exmOne K (.ref X.many) (.ref X.sizes)=some false/\PySem.W.exmOne K (.ref X.creel) (.ref X.row)=some false/\PySem.W.exmOne K (.ref X.creel) (.ref X.trains)=some false/\PySem.W.exmOne K (.ref X.creel) (.ref X.sizes)=some false/\PySem.W.exmOne K (.ref X.creel) (.ref X.many)=some false/\PySem.W.exmOne K (.ref X.number) (.ref X.row)=some false/\PySem.W.exmOne K (.ref X.number) (.ref X.trains)=some false/\PySem.W.exmOne K (.ref X.number) (.ref X.sizes)=some false/\PySem.W.exmOne K (.ref X.number) (.ref X.many)=some false/\PySem.W.exmOne K (.ref X.number) (.ref X.creel)=some false/\PySem.W.exmOne K (.ref X.near) (.ref X.row)=some false/\PySem.W.exmOne K (.ref X.near) (.ref X.trains)=some false/\PySem.W.exmOne K (.ref X.near) (.ref X.sizes)=some false/\PySem.W.exmOne K (.ref X.near) (.ref X.many)=some false/\PySem.W.exmOne K (.ref X.near) (.ref X.creel)=some false/\PySem.W.exmOne K (.ref X.near) (.ref X.number)=some false/\PySem.W.exmOne K (.ref X.bare) (.ref X.row)=some false/\PySem.W.exmOne K (.ref X.bare) (.ref X.trains)=some false/\PySem.W.exmOne K (.ref X.bare) (.ref X.sizes)=some false/\PySem.W.exmOne K (.ref X.bare) (.ref X.many)=some false/\PySem.W.exmOne K (.ref X.bare) (.ref X.creel)=some false/\PySem.W.exmOne K (.ref X.bare) (.ref X.number)=some false/\PySem.W.exmOne K (.ref X.bare) (.ref X.near)=some false:=by
 have h:=Z.met;simp only[S5,List.all_cons,List.all_nil,Bool.and_eq_true,Bool.and_true,beq_iff_eq]at h;simp only[h,and_self]
def aAp (row:List Int):Prop:=∀ j,1<=j->j<row.length->row.getD (j - 1) 0<row.getD j 0
def aAS (row:List Int) (i:Nat):Prop:=1<=i/\i<row.length/\row.getD i 0<=row.getD (i - 1) 0/\∀ j,1<=j->j<i->row.getD (j - 1) 0<row.getD j 0
inductive WhyRow (row:List Int):Str->Int->Prop where
 | many:60<row.length->WhyRow row "TooMany" 0
 | good:row.length<=60->aAp row->WhyRow row "" 0
 | bad {i:Nat}:row.length<=60->aAS row i->WhyRow row "BadRow" i
structure FunC (K:PySem.W.Frag) (x qual:Str) (st:Stmt) (f:Addr) (fd:FuncData) (c:Addr):Prop where
 ex:∃ (oc:Value) (od:Option Addr) (kV doc pm:Value) (an:Option Addr) (ct:Value) (osl:Array (Option Value)),
  fd=PySem.W.fnOf x qual (aU st) (aR st) (aE st) .none kV doc pm an (.ref c) ct/\K.lookup f=some ⟨oc,od,.func fd,osl⟩/\PySem.W.codeIn K (.ref c) qual=true
theorem FunC.ok {x qual:Str} {st:Stmt} {f c:Addr} {fd:FuncData} {N ps:List Str} {k:Nat} {sp:Sp} (F:FunC K x qual st f fd c) (S:aV N ps (aE st)) (len:∀ vs H Q E,sp vs H Q E->vs.length=ps.length)
 (hbody:∀ (A:Around) (outer:List Env) (s:Shared) (H:Hp) (vs:List V) (Q:VK) (E:XK),Room k (A.deeper (PyProof.Rows.envOfC qual (aE st) s.heap.objs.size f (.ref c)))->sp vs H Q E ->
  ∃ t,PSs (mL CX0 P w K mg base N qual (aE st) f (.ref c) A outer s H E).nox (aR st) t/\t { nx:=fun _ H'=>Q .non H',rt:=Q } (fS N vs) H):FnOk P w K mg base CX0 (k+1) f fd ps sp:=by
 obtain⟨oc,od,kV,doc,pm,an,ct,osl,rfl,lk,hcd⟩:=F.ex;refine L5 lk hcd S len fun A outer s H vs Q E hr hsp=>?_;obtain⟨t,h,q⟩:=hbody A outer s H vs Q E hr hsp;exact⟨t,h.nox,q⟩
def SameP (P:Addr) (H H':Hp):Prop:=∀ b o,b≠P->H b=some o->H' b=some o
theorem SameP.trans {P:Addr} {H H1 H2:Hp} (a:SameP P H H1) (b:SameP P H1 H2):SameP P H H2:=fun c o n h=>b c o n (a c o n h)
theorem SameP.tbl {P:Addr} {H:Hp} {o:HO}:SameP P H (upd H P o):=fun b o n h=>by rw[aC n];exact h
theorem tY {H:Hp} {P b:Addr} {ps:Array Value} {o:HO} (h:H P=some (.tbl ps)) (e:H b=some o) (n:∀ qs,o≠.tbl qs):b≠P:=fun z=>by rw[z,h]at e;cases e;exact n _ rfl
def tZ (K:PySem.W.Frag) (P:Addr):Sp:=fun vs H Q _=>∃ (a:Addr) (ns:List Int),vs=[.ref a]/\H P=some (.tbl #[])/\SqL K H a (ns.map V.int)/\ns.length<=63/\∀ H',Q (.bl true) H'
theorem WhyRow.ok {row:List Int} {nm:Str} {i:Int} (W:WhyRow row nm i):PyData.strOk nm=true:=by
 cases W <;> decide +kernel
theorem WhyRow.eqv {row:List Int} {nm:Str} {i:Int} (W:WhyRow row nm i):PyData.eqv (.str nm) (.str "")=decide (nm=""):=by
 cases W <;> decide +kernel
end
inductive Ref where
 | ok | many | row (i:Int) | trains (i:Int) | sizes (i:Int) | creel | number | near | bare
def Ref.nm:Ref->Str
 | .ok=>"" | .many=>"TooMany" | .row _=>"BadRow" | .trains _=>"BadTrains" | .sizes _=>"BadSizes" | .creel=>"BadCreel" | .number=>"BadNumber" | .near=>"TooNear" | .bare=>"Bare"
def Ref.at:Ref->Int
 | .row i=>i | .trains i=>i | .sizes i=>i | _=>0
theorem Ref.strOk (r:Ref):PyData.strOk r.nm=true:=by cases r <;> simp only[Ref.nm] <;> decide +kernel
section
variable {P:Program} {w:World} {K:PySem.W.Frag} {mg:Str->Option Value} {base:Heap}
def Ref.go (X:S4 K mg) (E:XK) (H:Hp):Ref->Prop
 | .ok=>False
 | .many=>Rf0 E X.many "TooMany" H
 | .row i=>RfI E X.row "BadRow" i H
 | .trains i=>RfI E X.trains "BadTrains" i H
 | .sizes i=>RfI E X.sizes "BadSizes" i H
 | .creel=>Rf0 E X.creel "BadCreel" H
 | .number=>Rf0 E X.number "BadNumber" H
 | .near=>Rf0 E X.near "TooNear" H
 | .bare=>Rf0 E X.bare "Bare" H
section
variable {X:S4 K mg} {row:List Int} {c p:Int} {H:Hp} {Q:VK} {lh t0:Addr}
end
end
section
variable {P:Program} {w:World} {K:PySem.W.Frag} {mg:Str->Option Value} {base:Heap}
end
section
variable {P:Program} {w:World} {K:PySem.W.Frag} {mg:Str->Option Value} {base:Heap}
end
end CW
namespace L2
open PySem PySem.W PySem.Spec PyProof.Rows
section
variable {prog:Program} {w:World} {A:Around} {R:Result->Shared->Prop} {I S:Addr} {fp:List Addr} {P:Nat->Value->Prop} {St:Nat->Heap->Prop} {d:Value} {ns:List Int}
end
section
variable {X:Cx} {e f:Expr} {te tf:TE} {p pos kp:Pos}
end
end L2
namespace L2
open PySem PySem.Spec PyProof.Rows
end L2
namespace CW
open PySem L2
end CW
namespace CW
end CW
namespace L2
open PySem PySem.Spec PyProof.Rows
def CodeX (c:Addr) (qual:Str):HO:=.ext fun h=>∃ oc vs t,h.get? c=some oc/\oc.data=.fields vs/\vs[1]?=some (.str qual t)
theorem CodeX.mk {P:Program} {w:World} {H:Hp} {h:Heap} {c:Addr} {qual:Str} {oc:Obj} {vs:Array Value} {t:Tok} (h1:h.get? c=some oc) (h2:oc.data=.fields vs) (h3:vs[1]?=some (.str qual t)):ObjOk P w H h c (CodeX c qual) :=
 ⟨⟨oc,vs,t,h1,h2,h3⟩,⟨_,h1⟩,fun g1 g2 ⟨oc,vs,t,a,b,d⟩ k=>⟨oc,vs,t,k _ a,b,d⟩⟩
section
variable {X:Cx} {pins:List (Addr×Obj)} {σ:St} {H:Hp} {s:Shared}
theorem Inv.trackX {a:Addr} {φ:Heap->Prop} (I:Inv X pins σ H s) (hn:H a=none) (ho:ObjOk X.prog X.w (upd H a (.ext φ)) s.heap a (.ext φ)) (hf:∀ o,X.s₀.heap.get? a=some o->X.H₀ a=none->a∉X.ex->False)
 (hl:a≠X.env.locals) (hc:∀ x c,X.env.cells.lookup x=some c->c≠a) (hp:∀ p∈X.pn++pins,p.1≠a):Inv X pins σ (upd H a (.ext φ)) s:=by
 have up:∀ b u,H b=some u->upd H a (.ext φ) b=some u:=fun b u q=>by rw[aC (fun z=>by rw[z,hn]at q;cases q)];exact q
 refine⟨I.ok,I.os,I.bare,⟨I.base.keep,I.base.slot,fun b o q n x=>?_,I.base.there,fun b xs q=>up b _ (I.base.tups b xs q),fun b o u q=>up b _ (I.base.frzs b o u q),fun b ps q=>?_⟩,I.loc,I.cell,by rw[aC (Ne.symm hl)];exact I.free,fun x c q=>by rw[aC (hc x c q)];exact I.freeC x c q,fun p q=>?_,fun b u q=>?_,I.len⟩
 ·by_cases hb:b=a
  ·subst hb;exact(hf o q n x).elim
  ·rw[aC hb];exact I.base.free b o q n x
 ·obtain⟨more,e⟩:=I.base.tbls b ps q;exact⟨more,up b _ e⟩
 ·obtain⟨e,n,ne,nf,d⟩:=I.pin p q;exact⟨e,by rw[aC (hp p q)];exact n,ne,nf,d⟩
 ·by_cases hb:b=a
  ·subst hb;rw[aB]at q;cases q;exact ho
  ·rw[aC hb]at q;exact(I.hok b u q).stay (fun _ _ _ z=>z) (fun c z=>up c _ z) fun c xs z=>up c _ z
end
section
variable {X:Cx}
end
end L2
namespace CW
open PySem L2
section
variable {P:Program} {w:World} {K:PySem.W.Frag} {mg:Str->Option Value} {base:Heap}
def SameL (PT:Addr) (H H':Hp):Prop:=∀ b o,b≠PT->(∀ φ,o≠.ext φ)->H b=some o->H' b=some o
theorem SameL.trans {PT:Addr} {H H1 H2:Hp} (a:SameL PT H H1) (b:SameL PT H1 H2):SameL PT H H2:=fun c o n x h=>b c o n x (a c o n x h)
end
section
variable {P:Program} {w:World} {K:PySem.W.Frag} {mg:Str->Option Value} {base:Heap}
end
def aS (ps:Trs) (s:Int):List Int:=(ps.filter fun p=>decide (p.1=s)).map (·.2)
theorem gZ (a b:Trs) (s:Int):aS (a++b) s=aS a s++aS b s:=by
 unfold aS;rw[List.filter_append,aBJ]
theorem iH (p:Int×Int) (ps:Trs) (s:Int):aS (p :: ps) s=if p.1=s then p.2 :: aS ps s else aS ps s:=by
 unfold aS;rw[List.filter_cons]
 by_cases h:p.1=s
 ·rw[if_pos (by simpa using h),if_pos h];rfl
 ·rw[if_neg (by simpa using h),if_neg h]
theorem G6 {ps qs:Trs} (h:ps.Perm qs) (s:Int):(aS ps s).Perm (aS qs s):=(h.filter _).map _
theorem hJ {ps:Trs} (h:ps.Pairwise ple) (s:Int):(aS ps s).Pairwise (·<=·):=by
 unfold aS;rw[List.pairwise_map];refine(h.filter _).imp_of_mem fun {a b} ha hb hab=>?_;have h1:a.1=s:=by have:=(aBb.mp ha).2;simpa using this
 have h2:b.1=s:=by have:=(aBb.mp hb).2;simpa using this
 rcases hab with q | q
 ·omega
 ·exact q.2
theorem S6 (k:Int) (os:List Int) (s:Int):aS (os.map fun o=>(k,o)) s=if k=s then os else []:=by
 induction os with
 | nil=>unfold aS;simp
 | cons o os ih =>
  rw[aBU,iH,ih]
  by_cases h:k=s
  ·rw[if_pos h,if_pos h,if_pos h]
  ·rw[if_neg h,if_neg h,if_neg h]
theorem DG.keep {H H':Hp} {d:Addr} {gs:List Grp} (dg:DG H d gs) (s:Same H H'):DG H' d gs:=⟨s _ _ dg.at_,fun g hg=>s _ _ (dg.lst g hg),dg.adr,dg.key⟩
theorem Y7 {l:List Int} (h:l≠[]):∃ x,atI (l.map V.int) 0=some (V.int x)/\l[0]?=some x:=by
 cases l with
 | nil=>exact absurd rfl h
 | cons x r =>
  obtain⟨y,_,h2,h3⟩:=hW (ns:=x :: r) (i:=0) (by decide) (by simp);exact⟨y,h3,h2⟩
theorem G7 {ps:Trs} {i:Nat} {p:Int×Int} (h:ps[i]?=some p) (s:Int):aS (ps.take (i+1)) s=aS (ps.take i) s++(if p.1=s then [p.2]else []):=by
 rw[aB0,h,gZ];show aS (ps.take i) s++aS [p] s=_;rw[iH];rfl
end CW
namespace L2
open PySem PySem.Spec PyProof.Rows
section
variable {X:Cx}
end
section
variable {X:Cx} {pins:List (Addr×Obj)} {σ:St} {H H':Hp} {s:Shared} {h':Heap}
theorem Inv.many {t':Nat} (I:Inv X pins σ H s) (k:∀ b u,s.heap.get? b=some u->h'.get? b=some u) (ext:∀ b o,H b=some o->H' b=some o) (new:∀ b o,H' b=some o->H b=none->s.heap.objs.size<=b) (hok:∀ b o,H' b=some o->H b=none->ObjOk X.prog X.w H' h' b o)
 (old:∀ b o,H b=some o->ObjOk X.prog X.w H' h' b o):Inv X pins σ H' { s with heap:=h',toks:=t' }:=by
 refine I.un (H':=H') ⟨fun b o e n _ _=>k b o e,fun b o e n _ _=>⟨o.slots,k b o e⟩,fun b o e n _=>?_,fun b o e _=>⟨o,k b o e⟩,fun b xs e=>ext b _ e,fun b o u e=>ext b _ e,fun b ps e=>⟨#[],by rw[ext b _ e];simp⟩⟩ (fun b o e=>?_)
 ·cases q:H' b with
  | none=>rfl
  | some o'=>exact absurd (aBA e) (Nat.not_lt.mpr (new b o' q n))
 ·cases q:H b with
  | none=>exact hok b o e q
  | some o' =>
   have:=ext b o' q;rw[e]at this;cases this;exact old b o q
end
section
variable {prog:Program} {w:World} {A:Around} {E:Value->Shared->Prop} {s:Shared}
end
structure TsOk (h:Heap) (b0:Nat) (no:List Addr) (xs ys:Array Value) (Ts:List Addr):Prop where
 at_:∀ (j:Nat) (T:Addr),Ts[j]?=some T->∃ x y,xs[j]?=some x/\ys[j]?=some y/\IsPair h T x y
 new:∀ T∈Ts,b0<=T/\T∉no
 nd:Ts.Nodup
theorem TsOk.keep {h h':Heap} {b0:Nat} {no:List Addr} {xs ys:Array Value} {Ts:List Addr} (t:TsOk h b0 no xs ys Ts) (k:∀ c o,c∉no->h.get? c=some o->h'.get? c=some o):TsOk h' b0 no xs ys Ts :=
 ⟨fun j T e=>let ⟨x,y,h1,h2,h3⟩:=t.at_ j T e;⟨x,y,h1,h2,k T _ (t.new T (aBF e)).2 h3⟩,t.new,t.nd⟩
theorem TsOk.snoc {h:Heap} {b0:Nat} {no:List Addr} {xs ys:Array Value} {Ts:List Addr} {T:Addr} {x y:Value} (t:TsOk h b0 no xs ys Ts) (hx:xs[Ts.length]?=some x) (hy:ys[Ts.length]?=some y) (hT:IsPair h T x y) (hb:b0<=T) (hno:T∉no) (hn:T∉Ts):TsOk h b0 no xs ys (Ts++[T]):=by
 refine⟨fun j T' e=>?_,fun T' e=>?_,?_⟩
 ·rw[List.getElem?_append]at e;split at e
  ·exact t.at_ j T' e
  ·rename_i q
   have:j=Ts.length:=by
    rcases Nat.lt_or_ge (j - Ts.length) 1 with z | z
    ·omega
    ·rw[List.getElem?_eq_none (by simpa using z)]at e;cases e
   subst this;rw[Nat.sub_self]at e;cases e;exact⟨x,y,hx,hy,hT⟩
 ·rcases aB9.mp e with q | q
  ·exact t.new T' q
  ·rw[aB1.mp q];exact⟨hb,hno⟩
 ·rw[List.nodup_append];exact⟨t.nd,by simp,fun a ha b hb' e=>hn (by rw[aB1]at hb';rw[<- hb',<- e];exact ha)⟩
section
variable {prog:Program} {w:World} {A:Around} {R:Result->Shared->Prop}
end
open PySem.W
section
variable {prog:Program} {w:World} {A:Around} {E:Value->Shared->Prop} {R:Result->Shared->Prop} {s:Shared}
end
structure ZS (h:Heap) (z TI TO i1 i2 l1 l2:Addr) (xs ys:Array Value) (a b:Value):Prop where
 hz:IsZip h z TI TO .none
 hTI:IsPair h TI (.ref i1) (.ref i2)
 hTO:IsPair h TO a b
 h1:h.IsListIter i1 l1 0
 h2:h.IsListIter i2 l2 0
 hl1:h.IsList l1 xs
 hl2:h.IsList l2 ys
theorem ZS.keep {h h':Heap} {z TI TO i1 i2 l1 l2 S:Addr} {xs ys:Array Value} {a b:Value} (q:ZS h z TI TO i1 i2 l1 l2 xs ys a b) (hS:S≠z/\S≠TI/\S≠i1/\S≠i2/\S≠l1/\S≠l2) (hTS:S≠TO)
 (k:∀ c o,c≠S->h.get? c=some o->h'.get? c=some o):ZS h' z TI TO i1 i2 l1 l2 xs ys a b :=
 ⟨k _ _ hS.1.symm q.hz,k _ _ hS.2.1.symm q.hTI,k _ _ hTS.symm q.hTO,q.h1.at fun o e=>k _ o hS.2.2.1.symm e,q.h2.at fun o e=>k _ o hS.2.2.2.1.symm e,q.hl1.at fun o e=>k _ o hS.2.2.2.2.1.symm e,q.hl2.at fun o e=>k _ o hS.2.2.2.2.2.symm e⟩
section
variable {prog:Program} {w:World} {A:Around} {E:Value->Shared->Prop} {R:Result->Shared->Prop} {s:Shared}
end
section
variable {X:Cx} {x y:Str} {a b:Expr} {ta:TA} {p p2 pos pos2:Pos}
end
end L2
namespace CW
open PySem L2
theorem A5:∀ {ns:List Int},(∀ n∈ns,1<=n)->13 * ((ns.filter fun n=>decide (12<n)).length:Int)<=ns.sum/\0<=ns.sum
 | [],_=>⟨by simp,by simp⟩
 | n :: ns,h=>by
  have ih:=A5 (ns:=ns) fun m hm=>h m (aAx _ hm);have h1:=h n aAw;rw[List.filter_cons,aBX]
  by_cases c:12<n
  ·rw[if_pos (aBR c),aBY];omega
  ·rw[if_neg (by simpa using c)];omega
theorem aAT {ns:List Int} (h:∀ n∈ns,1<=n) (hs:ns.sum<=80):(cX ns).length<=18:=by
 have nd:=fM ns;have e:(cX ns).length=((cX ns).filter fun n=>decide (12<n)).length+((cX ns).filter fun n=>!decide (12<n)).length:=by
  have:=(List.filter_append_perm (fun n:Int=>decide (12<n)) (cX ns)).length_eq;rw[aBD]at this;exact this.symm
 have h1:((cX ns).filter fun n=>decide (12<n)).length<=(ns.filter fun n=>decide (12<n)).length:=by
  refine List.Nodup.length_le_of_subset (List.Pairwise.filter _ nd) fun k hk=>?_;obtain⟨a,b⟩:=aBb.mp hk;exact aBb.mpr ⟨(gA ns k).mp a,b⟩
 have h2:((cX ns).filter fun n=>!decide (12<n)).length<=((List.range 12).map (fun i:Nat=>(i:Int)+1)).length:=by
  refine List.Nodup.length_le_of_subset (List.Pairwise.filter _ nd) fun k hk=>?_;obtain⟨a,b⟩:=aBb.mp hk;have:=h k ((gA ns k).mp a);have b':¬ 12<k:=by simpa using b
  exact aBa.mpr ⟨(k - 1).toNat,List.mem_range.mpr (by omega),by omega⟩
 rw[aAu,List.length_range]at h2;have:=(A5 h).1;omega
theorem qA {ps:Trs} {s:Int}:aS ps s≠[]↔∃ p∈ps,p.1=s:=by
 constructor
 ·intro h;obtain⟨o,ho⟩:=List.exists_mem_of_ne_nil _ h;obtain⟨p,hp1,_⟩:=aBa.mp ho;obtain⟨h1,h2⟩:=aBb.mp hp1;exact⟨p,h1,by simpa using h2⟩
 ·rintro ⟨p,hp,e⟩ z;have:p.2∈aS ps s:=aBa.mpr ⟨p,aBb.mpr ⟨hp,by simpa using e⟩,rfl⟩;rw[z]at this;cases this
section
variable {P:Program} {w:World} {K:PySem.W.Frag} {mg:Str->Option Value} {base:Heap} {CX:CXT}
end
def RwsA (H:Hp) (us:List V):Prop:=∀ v∈us,∃ (a:Addr) (r:List Int),v=.ref a/\H a=some (.lst (r.map V.int))/\Row r/\r.length<=40
theorem u3 {ps:Trs} (h:∀ q∈ps,1<=q.1):0<=siz ps:=by have:=dA h;unfold szs at this;unfold siz;omega
theorem RwsA.add {Hx Hy:Hp} {us:List V} {r:List Int} {p l5:Addr} (e5:Hx l5=some (.lst us)) (hR:RwsA Hx us) (hp:Hx p=none) (g:Same Hx Hy) (ep:Hy p=some (.lst (r.map V.int))) (hrr:Row r) (hr40:r.length<=40) :
 RwsA (upd Hy l5 (.lst (us++[V.ref p]))) (us++[V.ref p]):=fun v hv=>by
 rcases aB9.mp hv with h | h
 ·obtain⟨a,r',rfl,e,x⟩:=hR v h;refine⟨a,r',rfl,?_,x⟩;rw[aC fun z=>?_]
  ·exact g _ _ e
  ·rw[z,e5]at e;have e2:=Option.some.inj e;have e3:us=r'.map V.int:=by injection e2
   rw[e3]at h;obtain⟨n,_,hn⟩:=aBa.mp h;cases hn
 ·rw[aB1.mp h];refine⟨p,r,rfl,?_,hrr,hr40⟩;rw[aC fun z=>by rw[z,e5]at hp;cases hp];exact ep
def cb:Nat->Nat->Nat
 | _,0=>1
 | 0,_+1=>1
 | r+1,n+1=>cb r (n+1)+cb (r+1) n
theorem fF (r:Nat):cb r 0=1:=by cases r <;> simp[cb]
theorem eN (n:Nat):cb 0 n=1:=by cases n <;> simp[cb]
theorem eO (r n:Nat):cb (r+1) (n+1)=cb r (n+1)+cb (r+1) n:=by rw[cb]
theorem S7:∀ k r n:Nat,r+n=k->cb r n=cb n r:=by
 intro k
 induction k with
 | zero=>intro r n h;have h1:r=0:=by omega
         have h2:n=0:=by omega
         rw[h1,h2]
 | succ k ih =>
  intro r n h;cases r with
  | zero=>rw[eN,fF]
  | succ r =>
   cases n with
   | zero=>rw[eN,fF]
   | succ n =>
    rw[eO,eO,ih r (n+1) (by omega),ih (r+1) n (by omega)];omega
theorem u4:∀ k r n:Nat,r+n=k->cb r (n+1) * (n+1)=cb r n * (r+n+1):=by
 intro k
 induction k with
 | zero =>
  intro r n h;have h1:r=0:=by omega
  have h2:n=0:=by omega
  rw[h1,h2,eN,eN]
 | succ k ih =>
  intro r n h;cases r with
  | zero=>rw[eN,eN];omega
  | succ r =>
   have a:=ih r n (by omega);have b:=ih n r (by omega);rw[S7 _ n (r+1) rfl,S7 _ n r rfl]at b;rw[eO,Nat.add_mul,a];have c:cb (r+1) n * (r+1+n+1)=cb (r+1) n * (r+1)+cb (r+1) n * (n+1):=by rw[<- Nat.mul_add];rfl
   rw[c,b];have d:n+r+1=r+n+1:=by omega
   rw[d]
theorem yO:∀ r n:Nat,1<=cb r n
 | r,0=>by rw[fF];exact Nat.le_refl _
 | 0,n+1=>by rw[eN];exact Nat.le_refl _
 | r+1,n+1=>by rw[eO];have:=yO r (n+1);omega
theorem aAU (r n:Nat):cb r n<=cb r (n+1):=by
 cases r with
 | zero=>rw[eN,eN];exact Nat.le_refl _
 | succ r=>rw[eO];omega
theorem uA (r:Nat):∀ n:Nat,chW (r:Int) n=(cb r n:Int)
 | 0=>by rw[fF];rfl
 | n+1=>by
  show chW (r:Int) n * ((r:Int)+((n:Int)+1)) / ((n:Int)+1)=_;rw[uA r n];have h:=u4 _ r n rfl;have h':(cb r n:Int) * ((r:Int)+((n:Int)+1))=(cb r (n+1):Int) * ((n:Int)+1):=by
   have h2:cb r n * (r+(n+1))=cb r (n+1) * (n+1):=h.symm
   exact_mod_cast h2
  rw[h'];exact Int.mul_ediv_cancel _ (by omega)
theorem fR {room:Int} (h:0<=room) (n:Nat):chO n room=(cb room.toNat n:Int):=by
 unfold chO;rw[if_neg (by omega)]
 conv=>lhs;rw[show room=((room.toNat:Nat):Int)by omega]
 exact uA _ n
def sw (room:Int) (k:Nat) (l:Int):Nat->Int
 | 0=>0
 | m+1=>sw room k l m+chO k (room - (l+(m:Int)))
theorem A6 {room:Int} (k:Nat) {l:Int}:∀ m:Nat,l+(m:Int)<=room->sw room k l m+(cb (room - l - m).toNat (k+1):Int)=(cb (room - l).toNat (k+1):Int)
 | 0,_=>by show (0:Int)+_=_;rw[Int.zero_add];congr 3;omega
 | m+1,h=>by
  have ih:=A6 (room:=room) k (l:=l) m (by omega);show sw room k l m+chO k (room - (l+(m:Int)))+_=_;rw[fR (by omega),<- ih];have e:(room - l - (m:Int)).toNat=(room - l - ((m+1:Nat):Int)).toNat+1:=by omega
  have e2:(room - (l+(m:Int))).toNat=(room - l - ((m+1:Nat):Int)).toNat+1:=by omega
  rw[e,e2,eO];omega
theorem d7 {room:Int} (k:Nat) {l:Int}:∀ m:Nat,l+(m:Int)<=room+1->0<=sw room k l m
 | 0,_=>Int.le_refl 0
 | m+1,h=>by
  have ih:=d7 (room:=room) k (l:=l) m (by omega);show 0<=sw room k l m+chO k (room - (l+(m:Int)));rw[fR (by omega)];omega
def rk (room:Int):Int->List Int->Int
 | _,[]=>0
 | l,o :: os=>sw room os.length l (o - l).toNat+rk room o os
def Vld (room:Int):Int->List Int->Prop
 | _,[]=>True
 | l,o :: os=>l<=o/\o<=room/\Vld room o os
theorem wL {room:Int}:∀ {os:List Int} {l:Int},l<=room->Vld room l os->0<=rk room l os/\rk room l os<(cb (room - l).toNat os.length:Int)
 | [],l,_,_=>by
  have:=yO (room - l).toNat 0;exact⟨Int.le_refl 0,by show (0:Int)<_;rw[List.length_nil];omega⟩
 | o :: os,l,hl,⟨h1,h2,h3⟩=>by
  obtain⟨a,b⟩:=wL h2 h3;have e:=A6 (room:=room) os.length (l:=l) (o - l).toNat (by omega);have n:=d7 (room:=room) os.length (l:=l) (o - l).toNat (by omega);have e2:(room - l - ((o - l).toNat:Int)).toNat=(room - o).toNat:=by omega
  rw[e2]at e;have u:=aAU (room - o).toNat os.length;show 0<=sw room os.length l (o - l).toNat+rk room o os/\sw room os.length l (o - l).toNat+rk room o os<(cb (room - l).toNat (os.length+1):Int);omega
theorem yP {room:Int}:∀ {os:List Int} {l:Int},os.Pairwise (·<=·)->(∀ o∈os,l<=o/\o<=room)->Vld room l os
 | [],_,_,_=>trivial
 | o :: os,l,h,hm=>by
  obtain⟨h1,h2⟩:=List.pairwise_cons.mp h;obtain⟨a,b⟩:=hm o aAw;exact⟨a,b,yP h2 fun x hx=>⟨h1 x hx,(hm x (aAx _ hx)).2⟩⟩
theorem gL (ps:Trs) (m:Int):(aS ps m).length=(ps.map (·.1)).count m:=by
 induction ps with
 | nil=>rfl
 | cons p ps ih =>
  rw[iH,aBU,List.count_cons]
  by_cases c:p.1=m
  ·rw[if_pos c,aBY,ih];simp[c]
  ·rw[if_neg c,ih];simp[c]
def nmM (niches:Int) (ps:Trs) (ms:List Int):Int:=ms.foldl (fun a m=>a * chO (aS ps m).length (aI niches (ps.map (·.1)) m)+rk (aI niches (ps.map (·.1)) m) 0 (aS ps m)) 0
theorem wM {niches:Int} {ps:Trs} {ms:List Int} {i:Nat} {m:Int} (h:ms[i]?=some m):nmM niches ps (ms.take (i+1))=nmM niches ps (ms.take i) * chO (aS ps m).length (aI niches (ps.map (·.1)) m)+rk (aI niches (ps.map (·.1)) m) 0 (aS ps m):=by
 unfold nmM;rw[aB0,h,List.foldl_append];rfl
def Within (niches:Int) (ps:Trs) (m:Int):Prop:=∀ o∈aS ps m,0<=o/\o<=aI niches (ps.map (·.1)) m
theorem qB {niches:Int} {ps:Trs} {ms:List Int} (hm:∀ m,m∈ms↔m∈ps.map (·.1)):(∀ m∈ms,Within niches ps m)↔∀ q∈ps,0<=q.2/\q.2<=aI niches (ps.map (·.1)) q.1:=by
 constructor
 ·intro h q hq;exact h q.1 ((hm _).mpr (aBa.mpr ⟨q,hq,rfl⟩)) q.2 (aBa.mpr ⟨q,aBb.mpr ⟨hq,by simp⟩,rfl⟩)
 ·intro h m _ o ho;obtain⟨q,hq,rfl⟩:=aBa.mp ho;obtain⟨h1,h2⟩:=aBb.mp hq;have e:q.1=m:=by simpa using h2
  have:=h q h1;rw[e]at this;exact this
theorem Y8 {niches:Int} {ps:Trs} {m N W:Int} (hs:ps.Pairwise ple) (hne:aS ps m≠[]) (hw:Within niches ps m) (h0:0<=N) (h1:N<W) :
 0<=N * chO (aS ps m).length (aI niches (ps.map (·.1)) m)+rk (aI niches (ps.map (·.1)) m) 0 (aS ps m)/\N * chO (aS ps m).length (aI niches (ps.map (·.1)) m)+rk (aI niches (ps.map (·.1)) m) 0 (aS ps m)<W * chO (aS ps m).length (aI niches (ps.map (·.1)) m):=by
 obtain⟨o,ho⟩:=List.exists_mem_of_ne_nil _ hne;have hr:0<=aI niches (ps.map (·.1)) m:=by have:=hw o ho;omega
 have v:=yP (room:=aI niches (ps.map (·.1)) m) (l:=0) (hJ hs m) fun o ho=>hw o ho;obtain⟨a,b⟩:=wL hr v;rw[Int.sub_zero]at b;rw[fR hr];generalize (cb (aI niches (ps.map (·.1)) m).toNat (aS ps m).length:Int)=c at b ⊢;generalize rk (aI niches (ps.map (·.1)) m) 0 (aS ps m)=r at a b ⊢;have hc:0<=c:=by omega
 have p:0<=N * c:=Int.mul_nonneg h0 hc;have q:(N+1) * c<=W * c:=Int.mul_le_mul_of_nonneg_right (by omega) hc;rw[Int.add_mul,Int.one_mul]at q;omega
theorem aAV {r:List Int} {ps:Trs} (h:Lst r ps) (hl:r.length<=60):SzOk (ps.map (·.1)):=by
 have t:=h.trn hl;refine⟨fun n hn=>?_,t.few,by rw[aAu];exact Lst.few h hl,aAT (fun n hn=>?_) (Int.le_trans t.few (by decide))⟩
 ·obtain⟨q,hq,rfl⟩:=aBa.mp hn;exact t.pos q hq
 ·obtain⟨q,hq,rfl⟩:=aBa.mp hn;exact t.pos q hq
def cS (r:List Int) (k:Int):Nat:=(r.filter fun x=>decide (1<=x/\x<=k)).length
theorem A7 {k:Int} (hk:0<=k):∀ {r:List Int},Row r->(cS r (k+1):Int)=(cS r k:Int)+if (k+1)∈r then 1 else 0
 | [],_=>by simp[cS]
 | x :: r,h=>by
  obtain⟨h1,h2⟩:=List.pairwise_cons.mp h;have ih:=A7 hk h2;unfold cS at ih ⊢;rw[List.filter_cons,List.filter_cons]
  by_cases e:x=k+1
  ·have hn:(k+1)∉r:=fun z=>by have:=h1 _ z;omega
   rw[if_neg hn]at ih;rw[if_pos (by simp;omega),if_neg (by simp;omega),if_pos (by rw[e];exact aAw),aBY];omega
  ·have hm:(k+1)∈x :: r↔(k+1)∈r:=by rw[aB8];exact⟨fun z=>z.resolve_left fun q=>e q.symm,.inr⟩
   by_cases c:1<=x/\x<=k
   ·rw[if_pos (by simp;omega),if_pos (by simpa using c),aBY,aBY]
    by_cases q:(k+1)∈r
    ·rw[if_pos q]at ih;rw[if_pos (hm.mpr q)];omega
    ·rw[if_neg q]at ih;rw[if_neg (fun z=>q (hm.mp z))];omega
   ·rw[if_neg (by simp;omega),if_neg (by simpa using c)]
    by_cases q:(k+1)∈r
    ·rw[if_pos q]at ih;rw[if_pos (hm.mpr q)];exact ih
    ·rw[if_neg q]at ih;rw[if_neg (fun z=>q (hm.mp z))];exact ih
theorem Y9 (r:List Int):cS r 0=0:=by
 unfold cS;rw[List.length_eq_zero_iff,List.filter_eq_nil_iff];intro x _ h;simp at h;omega
theorem sJ {r:List Int} (hr:Row r) (n:Int):((∀ k:Nat,(k:Int)+1<=n->2 * (cS r ((k:Int)+1):Int)<=(k:Int)+1)/\∀ x∈r,1<=x/\x<=n)↔(Sob r/\∀ x∈r,x<=n):=by
 constructor
 ·rintro ⟨h1,h2⟩;refine⟨fun i x e=>?_,fun x hx=>(h2 x hx).2⟩;have hi:i<r.length:=(aB7.mp e).1;obtain⟨b1,b2⟩:=h2 x (aBF e);have hc:i+1<=cS r x:=by
   unfold cS;have hs:(r.take (i+1)).filter (fun y=>decide (1<=y/\y<=x))=r.take (i+1):=List.filter_eq_self.mpr fun y hy=>by
    obtain⟨j,hj,ej⟩:=List.mem_take_iff_getElem.mp hy;have hy1:=(h2 y (List.mem_of_mem_take hy)).1;have:y<=x:=by
     rcases Nat.lt_or_ge j i with z | z
     ·exact Int.le_of_lt (Row.lt hr z (by rw[aBE (by omega),ej]) e)
     ·have:j=i:=by omega
      subst this;rw[aBE hi]at e;rw[<- ej,Option.some.inj e];exact Int.le_refl _
    simp only[decide_eq_true_eq];exact⟨hy1,this⟩
   have hsub:=((List.take_sublist (i+1) r).filter fun y=>decide (1<=y/\y<=x)).length_le;rw[hs,aBK]at hsub;omega
  have:=h1 (x - 1).toNat (by omega);rw[show (((x - 1).toNat:Nat):Int)+1=x by omega]at this;omega
 ·rintro ⟨h1,h2⟩;have pos:∀ x∈r,1<=x:=fun x hx=>by
   obtain⟨i,hi,e⟩:=List.getElem_of_mem hx;have:=h1 i x (by rw[aBE hi,e]);omega
  refine⟨fun k _=>?_,fun x hx=>⟨pos x hx,h2 x hx⟩⟩;rcases Nat.eq_zero_or_pos (cS r ((k:Int)+1))with z | z
  ·omega
  ·generalize hc:cS r ((k:Int)+1)=c at z;have hcl:c<=r.length:=by rw[<- hc];exact List.length_filter_le _ _
   have hi:c - 1<r.length:=by omega
   have e:=aBE hi;have hs:=h1 (c - 1) _ e;have:r[c - 1]<=(k:Int)+1:=by
    apply Decidable.byContradiction
    intro q;have hd:((r.drop (c - 1)).filter fun x=>decide (1<=x/\x<=(k:Int)+1))=[]:=List.filter_eq_nil_iff.mpr fun y hy=>by
     obtain⟨j,hj,ej⟩:=List.getElem_of_mem hy;rw[List.length_drop]at hj;rw[List.getElem_drop]at ej;have:r[c - 1]<=y:=by
      rcases Nat.eq_zero_or_pos j with w | w
      ·subst w;rw[<- ej];exact Int.le_refl _
      ·exact Int.le_of_lt (Row.lt hr (show c - 1<c - 1+j by omega) e (by rw[aBE (by omega),ej]))
     simp only[decide_eq_true_eq];omega
    have hl:cS r ((k:Int)+1)<=c - 1:=by
     unfold cS;rw[<- List.take_append_drop (c - 1) r,List.filter_append,hd,List.append_nil];exact Nat.le_trans (List.length_filter_le _ _) (by rw[aBK];omega)
    omega
   omega
end CW
namespace L2
open PySem PySem.Spec PyProof.Rows
end L2
namespace CW
open PySem L2
section
variable {P:Program} {w:World} {K:PySem.W.Frag} {mg:Str->Option Value} {base:Heap}
inductive mB (vs:List V) (H:Hp) (Q:VK) (E_:XK):Prop
 | mk (a:Addr) (os:List Int) (room:Int) (h0_:vs=[.ref a,.int room]) (h1_:H a=some (.lst (os.map V.int))) (h2_:os.length<=60) (h3_:Vld room 0 os) (h4_:0<=room) (h5_:room<=200) (h6_:∀ H',Same H H'->Q (.int (rk room 0 os)) H'):mB vs H Q E_
def AllIn (niches:Int) (ps:Trs):Prop:=∀ q∈ps,0<=q.2/\q.2<=aI niches (ps.map (·.1)) q.1
theorem AllIn.perm {niches:Int} {ps qs:Trs} (h:ps.Perm qs):AllIn niches ps->AllIn niches qs:=fun a q hq=>by
 have:=a q (h.mem_iff.mpr hq);unfold aI at this ⊢;rw[pZ]at this ⊢;rw[<- aM h];exact this
inductive mC (vs:List V) (H:Hp) (Q:VK) (E_:XK):Prop
 | mk (n:Int) (a:Addr) (r:List Int) (h0_:vs=[.int n,.ref a]) (h1_:H a=some (.lst (r.map V.int))) (h2_:Row r) (h3_:r.length<=60) (h4_:0<=n) (h5_:n<=1000) (h6_:∀ b:Bool,(b=true↔(Sob r/\∀ x∈r,x<=n))->∀ H',Same H H'->Q (.bl b) H'):mC vs H Q E_
theorem S8 {os:List Int} (h:os≠[]) (hs:os.Pairwise (·<=·)):∃ x y,atI (os.map V.int) 0=some (V.int x)/\atI (os.map V.int) (-1)=some (V.int y)/\x∈os/\y∈os/\∀ o∈os,x<=o/\o<=y:=by
 obtain⟨x,hx,hx'⟩:=Y7 h;refine⟨x,os.getLast h,hx,tN h,aBF hx',List.getLast_mem h,fun o ho=>?_⟩;obtain⟨i,hi,e⟩:=List.getElem_of_mem ho
 constructor
 ·cases os with
  | nil=>exact absurd rfl h
  | cons z r =>
   cases hx';rcases aB8.mp ho with e | e
   ·rw[e];exact Int.le_refl _
   ·exact(List.pairwise_cons.mp hs).1 o e
 ·have hd:=List.dropLast_concat_getLast h;rw[<- hd]at hs ho;rcases aB9.mp ho with z | z
  ·exact(List.pairwise_append.mp hs).2.2 o z _ (by simp)
  ·rw[aB1.mp z];exact Int.le_refl _
end
theorem S9 {niches:Int} {ps:Trs} {ms:List Int} (hs:ps.Pairwise ple) (hm:∀ m∈ms,aS ps m≠[]):∀ i:Nat,i<=ms.length->(∀ m∈ms.take i,Within niches ps m)->0<=nmM niches ps (ms.take i)/\nmM niches ps (ms.take i)<bF niches (ps.map (·.1)) (ms.take i):=by
 intro i
 induction i with
 | zero=>intro _ _;exact⟨Int.le_refl 0,(show (0:Int)<1 by decide)⟩
 | succ i ih =>
  intro hi hw;have he:ms[i]?=some ms[i]:=aBE (by omega);obtain⟨a,b⟩:=ih (by omega) fun m hm'=>hw m (by rw[aB0];exact aBO _ hm');have hmi:ms[i]∈ms:=List.getElem_mem _;have hwi:Within niches ps ms[i]:=hw _ (by rw[aB0,he];exact aAy _ (by simp));rw[wM he,kC he,<- gL];exact Y8 hs (hm _ hmi) hwi a b
theorem Z0 {niches:Int} {ps:Trs} {ms:List Int} {i:Nat} {m:Int} (hN:niches<=200) (hz:SzOk (ps.map (·.1))) (d:Dst (ps.map (·.1)) ms) (hi:i<=ms.length) (hm:1<=m) (h0:0<=nmM niches ps (ms.take i)) (h1:nmM niches ps (ms.take i)<bF niches (ps.map (·.1)) (ms.take i)) :
 CMulB (nmM niches ps (ms.take i)) (chO (aS ps m).length (aI niches (ps.map (·.1)) m)):=by
 have hb:=yN (i:=i) hN hz.pos hz.len (d.pos hz) (d.len hz) hi hm;rw[<- gL]at hb;exact⟨⟨h0,Int.lt_trans h1 hb.1.2⟩,hb.2⟩
section
variable {K:PySem.W.Frag} {mg:Str->Option Value}
def RwsC (H:Hp) (us:List V):Prop:=∀ v∈us,∃ (a:Addr) (r:List Int),v=.ref a/\H a=some (.lst (r.map V.int))/\Row r/\r.length<=60
theorem RwsC.add {Hx Hy:Hp} {us:List V} {r:List Int} {p l5:Addr} (e5:Hx l5=some (.lst us)) (hR:RwsC Hx us) (hp:Hx p=none) (g:Same Hx Hy) (ep:Hy p=some (.lst (r.map V.int))) (hrr:Row r) (hr40:r.length<=60) :
 RwsC (upd Hy l5 (.lst (us++[V.ref p]))) (us++[V.ref p]):=fun v hv=>by
 rcases aB9.mp hv with h | h
 ·obtain⟨a,r',rfl,e,x⟩:=hR v h;refine⟨a,r',rfl,?_,x⟩;rw[aC fun z=>?_]
  ·exact g _ _ e
  ·rw[z,e5]at e;have e2:=Option.some.inj e;have e3:us=r'.map V.int:=by injection e2
   rw[e3]at h;obtain⟨n,_,hn⟩:=aBa.mp h;cases hn
 ·rw[aB1.mp h];refine⟨p,r,rfl,?_,hrr,hr40⟩;rw[aC fun z=>by rw[z,e5]at hp;cases hp];exact ep
end
end CW
namespace CW
end CW
namespace CW
open PySem L2
def rr (S:Int):Trs->List Int
 | []=>[]
 | q :: B=>rnn (q.2+2 * S+q.1+1) q.1.toNat++rr (S+q.1) B
theorem G8 (ps:Trs):∃ qs:Trs,qs.Perm ps/\qs.Pairwise ple:=by
 induction ps with
 | nil=>exact⟨[],.refl _,.nil⟩
 | cons a r ih =>
  obtain⟨qs,h1,h2⟩:=ih;have ins:∀ qs:Trs,qs.Pairwise ple->∃ t:Trs,t.Perm (a :: qs)/\t.Pairwise ple:=by
   intro qs
   induction qs with
   | nil=>intro _;exact⟨[a],.refl _,by simp⟩
   | cons b t ih2 =>
    intro h;obtain⟨k1,k2⟩:=List.pairwise_cons.mp h
    by_cases c:ple a b
    ·refine⟨a :: b :: t,.refl _,List.pairwise_cons.mpr ⟨fun x hx=>?_,h⟩⟩;rcases aB8.mp hx with e | e
     ·rw[e];exact c
     ·have:=k1 x e;unfold ple at *;omega
    ·obtain⟨u,u1,u2⟩:=ih2 k2;refine⟨b :: u,(u1.cons b).trans (List.Perm.swap _ _ _),List.pairwise_cons.mpr ⟨fun x hx=>?_,u2⟩⟩;rcases aB8.mp (u1.mem_iff.mp hx)with e | e
     ·rw[e];unfold ple at *;omega
     ·exact k1 x e
  obtain⟨t,t1,t2⟩:=ins qs h2;exact⟨t,t1.trans (h1.cons a),t2⟩
theorem wN:∀ {ps:Trs} (f:Int×Int->Int),ps≠[]->∃ q∈ps,(∀ x∈ps,f x<=f q)/\∀ x∈ps,x.1<q.1->f x<f q
 | [],_,h=>absurd rfl h
 | [q],f,_=>⟨q,aAw,fun x hx=>by rw[aB1.mp hx];exact Int.le_refl _,fun x hx h=>by rw[aB1.mp hx]at h;exact absurd h (Int.lt_irrefl _)⟩
 | p :: q :: ps,f,_=>by
  obtain⟨m,hm,h1,h2⟩:=wN (ps:=q :: ps) f (by simp)
  by_cases c:f m<f p\/(f m=f p/\p.1<=m.1)
  ·refine⟨p,aAw,fun x h=>?_,fun x h hl=>?_⟩
   ·rcases aB8.mp h with e | e
    ·rw[e];exact Int.le_refl _
    ·have:=h1 x e;omega
   ·rcases aB8.mp h with e | e
    ·rw[e]at hl;exact absurd hl (Int.lt_irrefl _)
    ·have a:=h1 x e;rcases c with c | ⟨c,d⟩
     ·omega
     ·have:=h2 x e (by omega);omega
  ·refine⟨m,aAx _ hm,fun x h=>?_,fun x h hl=>?_⟩
   ·rcases aB8.mp h with e | e
    ·rw[e];omega
    ·exact h1 x e
   ·rcases aB8.mp h with e | e
    ·rw[e]at hl ⊢;omega
    ·exact h2 x e hl
theorem Tak.ex {ps:Trs} (hne:ps≠[]) (hp:∀ q∈ps,1<=q.1):∃ p qs,Tak ps p qs/\siz qs=siz ps - 1/\∀ q∈qs,1<=q.1:=by
 obtain⟨q,hq,h1,h2⟩:=wN (fun q=>q.2+2 * les ps q.1) hne;have hq1:=hp q hq;have e:(q.1,(q.2+2 * les ps q.1) - 2 * les ps q.1)=q:=Prod.ext rfl (by show _ - _=q.2;omega);have hper:ps.Perm ((q.1,(q.2+2 * les ps q.1) - 2 * les ps q.1) :: ps.erase q):=by rw[e];exact List.perm_cons_erase hq
 by_cases c:q.1=1
 ·refine⟨q.2+2 * les ps q.1,ps.erase q,⟨q.1,ps.erase q,hq1,hper,h1,h2,?_⟩,?_,fun x hx=>hp x (List.mem_of_mem_erase hx)⟩
  ·exact .inl ⟨c,.refl _⟩
  ·rw[iD hper,gG];omega
 ·refine⟨q.2+2 * les ps q.1,(q.1 - 1,(q.2+2 * les ps q.1) - 1 - 2 * les (ps.erase q) (q.1 - 1) - 2 * (q.1 - 1)) :: ps.erase q,⟨q.1,ps.erase q,hq1,hper,h1,h2,?_⟩,?_,fun x hx=>?_⟩
  ·exact .inr ⟨by omega,.refl _⟩
  ·rw[iD hper,gG,gG];omega
  ·rcases aB8.mp hx with e | e
   ·rw[e];show 1<=q.1 - 1;omega
   ·exact hp x (List.mem_of_mem_erase e)
theorem Lst.exr:∀ (n:Nat) (ps:Trs),siz ps=(n:Int)->(∀ q∈ps,1<=q.1)->∃ r,Lst r ps
 | 0,ps,h,hp=>by
  have:ps=[]:=by
   cases ps with
   | nil=>rfl
   | cons q ps =>
    have:=dA hp;unfold szs at this;unfold siz at h;simp at this h;omega
  rw[this];exact⟨[],.nil⟩
 | n+1,ps,h,hp=>by
  have hne:ps≠[]:=fun e=>by rw[e]at h;simp[siz]at h;omega
  obtain⟨p,qs,t,hs,hq⟩:=Tak.ex hne hp;obtain⟨r,hr⟩:=Lst.exr n qs (by omega) hq;refine⟨r++[p],hr.tak t hp fun x hx=>?_⟩;have hb:=(t.add hp).1;have:=(hr.highS (p - 1)).mp (fun q hq=>(hb q hq).2) x hx;omega
theorem wO (room:Int) (k:Nat) (l:Int):∀ m:Nat,sw room k l (m+1)=chO k (room - l)+sw room k (l+1) m
 | 0=>by show 0+chO k (room - (l+((0:Nat):Int)))=chO k (room - l)+0;rw[show room - (l+((0:Nat):Int))=room - l by omega];omega
 | m+1=>by
  show sw room k l (m+1)+chO k (room - (l+((m+1:Nat):Int)))=chO k (room - l)+(sw room k (l+1) m+chO k (room - (l+1+(m:Int))));rw[wO room k l m,show room - (l+((m+1:Nat):Int))=room - (l+1+(m:Int))by omega];omega
theorem wP {room l:Int} {o:Int} {os:List Int} (h:l+1<=o):rk room l (o :: os)=chO os.length (room - l)+rk room (l+1) (o :: os):=by
 show sw room os.length l (o - l).toNat+rk room o os=_+(sw room os.length (l+1) (o - (l+1)).toNat+rk room o os);rw[show (o - l).toNat=(o - (l+1)).toNat+1 by omega,wO];omega
theorem aAq:∀ (c:Nat) (d:Nat) (room l N:Int),(room - l).toNat=d->l<=room->0<=N->N<(cb (room - l).toNat c:Int)->∃ os:List Int,os.length=c/\Vld room l os/\rk room l os=N:=by
 intro c
 induction c with
 | zero =>
  intro d room l N _ _ h0 h1;rw[fF]at h1;exact⟨[],rfl,trivial,by show (0:Int)=N;omega⟩
 | succ c ihc =>
  intro d
  induction d with
  | zero =>
   intro room l N hd hl h0 h1;rw[hd,eN]at h1;obtain⟨os,a,b,e⟩:=ihc 0 room l N hd hl h0 (by rw[hd,eN];exact h1);refine⟨l :: os,by rw[aBY,a],⟨Int.le_refl _,hl,b⟩,?_⟩;show sw room os.length l (l - l).toNat+rk room l os=N;rw[Int.sub_self,e];show 0+N=N;omega
  | succ d ihd =>
   intro room l N hd hl h0 h1
   by_cases c1:N<(cb (room - l).toNat c:Int)
   ·obtain⟨os,a,b,e⟩:=ihc _ room l N rfl hl h0 c1;refine⟨l :: os,by rw[aBY,a],⟨Int.le_refl _,hl,b⟩,?_⟩;show sw room os.length l (l - l).toNat+rk room l os=N;rw[Int.sub_self,e];show 0+N=N;omega
   ·have hs:cb (room - l).toNat (c+1)=cb (room - (l+1)).toNat (c+1)+cb (room - l).toNat c:=by
     rw[show (room - l).toNat=(room - (l+1)).toNat+1 by omega,eO]
    rw[hs]at h1;obtain⟨os,a,b,e⟩:=ihd room (l+1) (N - (cb (room - l).toNat c:Int)) (by omega) (by omega) (by omega) (by omega);cases os with
    | nil=>simp at a
    | cons o os =>
     refine⟨o :: os,a,⟨by have:=b.1;omega,b.2.1,b.2.2⟩,?_⟩;rw[wP b.1,e,fR (by omega),show os.length=c by simpa using a];omega
theorem gM {room:Int}:∀ {os:List Int} {l:Int},Vld room l os->os.Pairwise (·<=·)/\∀ o∈os,l<=o/\o<=room
 | [],_,_=>⟨.nil,fun o h=>by cases h⟩
 | o :: os,l,⟨h1,h2,h3⟩=>by
  obtain⟨a,b⟩:=gM h3;refine⟨List.pairwise_cons.mpr ⟨fun x hx=>(b x hx).1,a⟩,fun x hx=>?_⟩;rcases aB8.mp hx with e | e
  ·rw[e];exact⟨h1,h2⟩
  ·exact⟨Int.le_trans h1 (b x e).1,(b x e).2⟩
def nmG (niches:Int) (ns:List Int) (ps:Trs) (ms:List Int):Int:=ms.foldl (fun a m=>a * chO (ns.count m) (aI niches ns m)+rk (aI niches ns m) 0 (aS ps m)) 0
theorem wQ (niches:Int) (ns:List Int) (ps:Trs) (ms:List Int) (m:Int):nmG niches ns ps (ms++[m])=nmG niches ns ps ms * chO (ns.count m) (aI niches ns m)+rk (aI niches ns m) 0 (aS ps m):=by
 unfold nmG;rw[List.foldl_append];rfl
theorem kD {niches:Int} {ns:List Int} {ps qs:Trs}:∀ {ms:List Int},(∀ m∈ms,aS ps m=aS qs m)->∀ a:Int,ms.foldl (fun a m=>a * chO (ns.count m) (aI niches ns m)+rk (aI niches ns m) 0 (aS ps m)) a=ms.foldl (fun a m=>a * chO (ns.count m) (aI niches ns m)+rk (aI niches ns m) 0 (aS qs m)) a
 | [],_,a=>rfl
 | m :: ms,h,a=>by
  rw[aBW,aBW,h m aAw];exact kD (fun x hx=>h x (aAx _ hx)) _
theorem T0 {niches:Int} {ns:List Int}:∀ (k:Nat) (ms:List Int),ms.length=k->ms.Nodup->∀ N:Int,0<=N->N<bF niches ns ms->∃ ps:Trs,(∀ m∈ms,(aS ps m).length=ns.count m/\Vld (aI niches ns m) 0 (aS ps m))/\(∀ p∈ps,p.1∈ms)/\nmG niches ns ps ms=N:=by
 intro k
 induction k with
 | zero =>
  intro ms hk _ N h0 h1;have:ms=[]:=aB2 hk;subst this;have h1':N<1:=h1;exact⟨[],fun m hm=>(nomatch hm),fun p hp=>(nomatch hp),by show (0:Int)=N;omega⟩
 | succ k ih =>
  intro ms hk hnd N h0 h1;have hne:ms≠[]:=fun e=>by rw[e]at hk;cases hk
  obtain⟨ms',m,rfl⟩:∃ ms' m,ms=ms'++[m]:=⟨ms.dropLast,ms.getLast hne,(List.dropLast_concat_getLast hne).symm⟩;have hnd':=List.nodup_append.mp hnd;have hmn:m∉ms':=fun z=>hnd'.2.2 m z m (by simp) rfl;rw[sI]at h1;have hcp:0<chO (ns.count m) (aI niches ns m):=by
   apply Decidable.byContradiction
   intro c;have hnn:0<=chO (ns.count m) (aI niches ns m):=by
    by_cases r:aI niches ns m<0
    ·unfold chO;rw[if_pos r];exact Int.le_refl 0
    ·rw[fR (by omega)];omega
   have:chO (ns.count m) (aI niches ns m)=0:=by omega
   rw[this,Int.mul_zero]at h1;omega
  have hr0:0<=aI niches ns m:=by
   apply Decidable.byContradiction
   intro c;unfold chO at hcp;rw[if_pos (by omega)]at hcp;exact absurd hcp (Int.lt_irrefl 0)
  generalize hc:chO (ns.count m) (aI niches ns m)=c at h1 hcp;have hdiv:N / c<bF niches ns ms':=Int.ediv_lt_of_lt_mul hcp h1;obtain⟨ps,hp1,hp2,hp3⟩:=ih ms' (by simpa using hk) hnd'.1 (N / c) (Int.ediv_nonneg h0 (by omega)) hdiv;have hmod:=Int.emod_lt_of_pos N hcp;have hmod0:=Int.emod_nonneg N (show c≠0 by omega);rw[fR hr0]at hc;obtain⟨os,ho1,ho2,ho3⟩:=aAq (ns.count m) _ (aI niches ns m) 0 (N % c) rfl hr0 hmod0 (by rw[Int.sub_zero,hc];exact hmod);have hno:aS ps m=[]:=by
   apply Decidable.byContradiction
   intro z;obtain⟨p,hp,e⟩:=qA.mp z;exact hmn (e ▸ hp2 p hp)
  have hof:∀ x,aS (ps++os.map fun o=>(m,o)) x=if x=m then os else aS ps x:=fun x=>by
   rw[gZ,S6]
   by_cases e:m=x
   ·rw[if_pos e,if_pos e.symm,<- e,hno,List.nil_append]
   ·rw[if_neg e,if_neg (fun z=>e z.symm),List.append_nil]
  refine⟨ps++os.map fun o=>(m,o),fun x hx=>?_,fun p hp=>?_,?_⟩
  ·rw[hof];rcases aB9.mp hx with z | z
   ·rw[if_neg (fun(e:x=m)=>hmn (e ▸ z))];exact hp1 x z
   ·rw[aB1]at z;rw[if_pos z,z];exact⟨ho1,ho2⟩
  ·rcases aB9.mp hp with z | z
   ·exact aBO _ (hp2 p z)
   ·obtain⟨o,_,rfl⟩:=aBa.mp z;exact aAy _ (by simp)
  ·rw[wQ,hof,if_pos rfl,ho3];have e:nmG niches ns (ps++os.map fun o=>(m,o)) ms'=nmG niches ns ps ms':=kD (fun x hx=>by rw[hof,if_neg (fun(e:x=m)=>hmn (e ▸ hx))]) 0;rw[e,hp3,fR hr0,hc];have:=Int.ediv_mul_add_emod N c;omega
def cmb:Nat->Nat->List (List Int)
 | 0,0=>[[]]
 | 0,_+1=>[]
 | _+1,0=>[[]]
 | n+1,k+1=>cmb n (k+1)++(cmb n k).map fun r=>r++[(n:Int)+1]
theorem mD:∀ (n k:Nat),n<k->cmb n k=[]
 | 0,k+1,_=>by rw[cmb]
 | n+1,k+1,h=>by rw[cmb,mD n (k+1) (by omega),mD n k (by omega)];rfl
theorem uB:∀ (n k:Nat),k<=n->(cmb n k).length=cb (n - k) k
 | 0,0,_=>by rw[cmb,fF];rfl
 | n+1,0,_=>by rw[cmb,fF];rfl
 | n+1,k+1,h=>by
  rw[cmb,aBD,aAu,uB n k (by omega)]
  by_cases c:k=n
  ·subst c;rw[mD k (k+1) (by omega),Nat.sub_self,Nat.sub_self,eN,eN];rfl
  ·rw[uB n (k+1) (by omega)];have e:n+1 - (k+1)=(n - (k+1))+1:=by omega
   have e2:n - k=(n - (k+1))+1:=by omega
   rw[e,e2,eO]
theorem uC:∀ (n k:Nat) (r:List Int),r.length=k->Row r->(∀ x∈r,1<=x/\x<=(n:Int))->r∈cmb n k
 | 0,0,r,hl,_,_=>by rw[cmb,aB2 hl];simp
 | 0,k+1,r,hl,_,hx=>by
  cases r with
  | nil=>simp at hl
  | cons x r=>have:=hx x aAw;omega
 | n+1,0,r,hl,_,_=>by rw[cmb,aB2 hl];simp
 | n+1,k+1,r,hl,hr,hx=>by
  have hne:r≠[]:=fun e=>by rw[e]at hl;simp at hl
  rw[cmb,aB9];have hd:=List.dropLast_concat_getLast hne;have hlast:=hx _ (List.getLast_mem hne)
  by_cases c:r.getLast hne=(n:Int)+1
  ·right
   refine aBa.mpr ⟨r.dropLast,?_,by rw[<- c,hd]⟩;rw[<- hd]at hr;obtain⟨h1,_,h2⟩:=List.pairwise_append.mp hr;refine uC n k _ (by rw[List.length_dropLast];omega) h1 fun x hx'=>⟨(hx x ((List.dropLast_sublist r).subset hx')).1,?_⟩;have:=h2 x hx' (r.getLast hne) (by simp);omega
  ·left
   refine uC n (k+1) r hl hr fun x hx'=>⟨(hx x hx').1,?_⟩;rw[<- hd]at hr hx';obtain⟨_,_,h2⟩:=List.pairwise_append.mp hr;rcases aB9.mp hx' with z | z
   ·have:=h2 x z (r.getLast hne) (by simp);omega
   ·rw[aB1.mp z];omega
theorem A8 (n:Nat):∀ {r s:Nat},r<=s->cb r n<=cb s n:=by
 intro r s h;obtain⟨d,rfl⟩:=Nat.exists_eq_add_of_le h;clear h
 induction d with
 | zero=>exact Nat.le_refl _
 | succ d ih =>
  refine Nat.le_trans ih ?_;rw[show r+(d+1)=(r+d)+1 from rfl];cases n with
  | zero=>rw[fF,fF];exact Nat.le_refl _
  | succ n=>rw[eO];omega
theorem u5:(List.range 61).all (fun k=>decide (chW (((200 - k:Nat):Int)) k<10 ^ 55))=true:=by decide +kernel
theorem T1 {niches:Int} {ns ms:List Int} (h0:0<=niches) (h1:niches<=200) (hz:SzOk ns) (d:Dst ns ms):bF niches ns ms<10 ^ 55:=by
 apply Decidable.byContradiction
 intro hbig;have hpos:0<bF niches ns ms:=by
  have:(0:Int)<10 ^ 55:=by decide
  omega
 have hnd:ms.Nodup:=d.up.imp fun h=>Int.ne_of_lt h;have hrow:∀ N:Nat,(N:Int)<bF niches ns ms->∃ r:List Int,r∈cmb niches.toNat ns.sum.toNat/\∃ ps,Lst r ps/\ps.Pairwise ple/\nmG niches ns ps ms=(N:Int):=fun N hN=>by
  obtain⟨ps,a,b,e⟩:=T0 (niches:=niches) (ns:=ns) _ ms rfl hnd (N:Int) (by omega) hN;have hsz:(ps.map (·.1)).Perm ns:=by
   rw[List.perm_iff_count];intro x;rw[<- gL]
   by_cases hx:x∈ms
   ·exact(a x hx).1
   ·have h2:aS ps x=[]:=by
     apply Decidable.byContradiction
     intro z;obtain⟨p,hp,ep⟩:=qA.mp z;exact hx (ep ▸ b p hp)
    rw[h2,List.count_eq_zero.mpr (fun z=>hx (d.mem.mpr z))];rfl
  have hp1:∀ q∈ps,1<=q.1:=fun q hq=>hz.pos _ (hsz.mem_iff.mp (aBa.mpr ⟨q,hq,rfl⟩));have hs:siz ps=ns.sum:=by
   have h:∀ {a b:List Int},a.Perm b->a.sum=b.sum:=fun h=>by
    induction h with
    | nil=>rfl
    | cons x _ ih=>rw[aBX,aBX,ih]
    | swap x y l=>simp only[aBX];omega
    | trans _ _ h1 h2=>exact h1.trans h2
   exact h hsz
  have hs0:0<=siz ps:=u3 hp1;obtain⟨r,hr⟩:=Lst.exr (siz ps).toNat ps (by omega) hp1;have hin:AllIn niches ps:=fun q hq=>by
   have hm:=b q hq;have hv:=(gM (a q.1 hm).2).2 q.2 (aBa.mpr ⟨q,aBb.mpr ⟨hq,by simp⟩,rfl⟩);refine⟨hv.1,?_⟩;have e2:aI niches (ps.map (·.1)) q.1=aI niches ns q.1:=by
    unfold aI nW
    congr 2
    have h:∀ {a b:List Int},a.Perm b->a.sum=b.sum:=fun h=>by
     induction h with
     | nil=>rfl
     | cons x _ ih=>rw[aBX,aBX,ih]
     | swap x y l=>simp only[aBX];omega
     | trans _ _ h1 h2=>exact h1.trans h2
    exact h (hsz.map _)
   rw[e2];exact hv.2
  obtain⟨hsob,hle⟩:=(hr.sober niches).mp hin;have hrl:=hr.sizx;obtain⟨qs,hqs,hqp⟩:∃ qs:Trs,qs.Perm ps/\qs.Pairwise ple:=G8 ps;refine⟨r,uC _ _ r (by omega) hr.rowp fun x hx=>⟨?_,by have:=hle x hx;omega⟩,qs,hr.perm hqs.symm,hqp,?_⟩
  ·obtain⟨i,hi,e⟩:=List.getElem_of_mem hx;have:=hsob i x (by rw[aBE hi,e]);omega
  ·rw[<- e];refine kD (fun m hm=>?_) 0;exact hX (G6 hqs m) (hJ hqp m) (gM (a m hm).2).1
 let f:Nat->List Int:=fun N=>if h:(N:Int)<bF niches ns ms then Classical.choose (hrow N h)else []
 have hf:∀ N:Nat,(N:Int)<bF niches ns ms->f N∈cmb niches.toNat ns.sum.toNat/\∃ ps,Lst (f N) ps/\ps.Pairwise ple/\nmG niches ns ps ms=(N:Int):=fun N h=>by
  show (if h:_ then _ else _)∈_/\_;simp only[f,dif_pos h];exact Classical.choose_spec (hrow N h)
 have hlen:((List.range (bF niches ns ms).toNat).map f).length<=(cmb niches.toNat ns.sum.toNat).length:=by
  refine List.Nodup.length_le_of_subset ?_ fun r hr=>?_
  ·refine List.pairwise_map.mpr ?_;refine(List.nodup_range).imp_of_mem fun {a b} ha hb hab e=>hab ?_;have ha':((a:Nat):Int)<bF niches ns ms:=by have:=List.mem_range.mp ha;omega
   have hb':((b:Nat):Int)<bF niches ns ms:=by have:=List.mem_range.mp hb;omega
   obtain⟨_,ps,l1,s1,n1⟩:=hf a ha';obtain⟨_,qs,l2,s2,n2⟩:=hf b hb';rw[e]at l1;have:ps=qs:=vX (l1.uniq l2) s1 s2;rw[this]at n1;omega
  ·obtain⟨N,hN,rfl⟩:=aBa.mp hr;exact(hf N (by have:=List.mem_range.mp hN;omega)).1
 rw[aAu,List.length_range]at hlen;have h60:ns.sum.toNat<=60:=by have:=hz.sum;omega
 have hc:((cmb niches.toNat ns.sum.toNat).length:Int)<10 ^ 55:=by
  by_cases c:ns.sum.toNat<=niches.toNat
  ·rw[uB _ _ c];have h2:=A8 ns.sum.toNat (show niches.toNat - ns.sum.toNat<=200 - ns.sum.toNat by omega);have h3:=of_decide_eq_true (List.all_eq_true.mp u5 ns.sum.toNat (List.mem_range.mpr (by omega)));rw[uA]at h3;omega
  ·rw[mD _ _ (by omega)]
   decide
 omega
def aAW (n:Int):Prop:=n<0\/200<n
instance (n:Int):Decidable (aAW n):=by unfold aAW;exact inferInstance
section
variable {P:Program} {w:World} {K:PySem.W.Frag} {mg:Str->Option Value} {base:Heap}
section
variable {X:S4 K mg} {H:Hp} {Q:VK} {lh t0:Addr}
end
end
inductive mE (vs:List V) (H:Hp) (Q:VK) (E_:XK):Prop
 | mk (many:Nat) (room N:Int) (h0_:vs=[.int many,.int room,.int N]) (h1_:many<=60) (h2_:0<=room) (h3_:room<=200) (h4_:0<=N) (h5_:N<(cb room.toNat many:Int)) (h6_:∀ os:List Int,os.length=many->Vld room 0 os->rk room 0 os=N->o7 H Q os):mE vs H Q E_
inductive u6 (H0:Hp) (many:Nat) (room N:Int) (lo:Addr) (m:Nat) (σ:St) (Hx:Hp):Prop
 | mk (os:List Int) (l r:Int) (v6:Option V) (h0_:σ=[some (.int many),some (.int room),some (.int N),some (.ref lo),some (.int l),some (.int r),v6]) (h1_:Same H0 Hx) (h2_:Hx lo=some (.lst (os.map V.int))) (h3_:os.length<=many) (h4_:0<=l) (h5_:l<=room) (h6_:0<=r) (h7_:r<(cb (room - l).toNat (many - os.length):Int))
  (h8_:∀ tl:List Int,tl.length=many - os.length->Vld room l tl->Vld room 0 (os++tl)/\rk room 0 (os++tl)=N - r+rk room l tl) (h9_:m=(many - os.length)+(room - l).toNat):u6 H0 many room N lo m σ Hx
theorem G9 {room l o:Int} {os:List Int} (h:Vld room (l+1) (o :: os)):Vld room l (o :: os):=⟨by have:=h.1;omega,h.2.1,h.2.2⟩
theorem T3 {room l o o':Int} {os os':List Int} (h:Vld room l (o :: os)) (h':Vld room l (o' :: os')) (hl:os.length=os'.length) (hlt:o<o'):rk room l (o :: os)<rk room l (o' :: os'):=by
 obtain⟨a1,a2,a3⟩:=h;obtain⟨b1,b2,b3⟩:=h';obtain⟨_,u⟩:=wL a2 a3;obtain⟨v,_⟩:=wL b2 b3;show sw room os.length l (o - l).toNat+rk room o os<sw room os'.length l (o' - l).toNat+rk room o' os';have e1:=A6 (room:=room) os.length (l:=l) (o - l).toNat (by omega);have e2:=A6 (room:=room) os.length (l:=l) (o' - l).toNat (by omega);rw[show (room - l - ((o - l).toNat:Int)).toNat=(room - o).toNat by omega]at e1;rw[show (room - l - ((o' - l).toNat:Int)).toNat=(room - o').toNat by omega]at e2;rw[<- hl];have e3:cb (room - o).toNat (os.length+1)=cb (room - (o+1)).toNat (os.length+1)+cb (room - o).toNat os.length:=by
  rw[show (room - o).toNat=(room - (o+1)).toNat+1 by omega,eO]
 have e4:=A8 (os.length+1) (show (room - o').toNat<=(room - (o+1)).toNat by omega);omega
theorem yQ {room:Int}:∀ {os os':List Int} {l:Int},Vld room l os->Vld room l os'->os.length=os'.length->rk room l os=rk room l os'->os=os'
 | [],[],_,_,_,_,_=>rfl
 | [],_ :: _,_,_,_,h,_=>by simp at h
 | _ :: _,[],_,_,_,h,_=>by simp at h
 | o :: os,o' :: os',l,h,h',hl,e=>by
  have hl':os.length=os'.length:=by simpa using hl
  rcases Int.lt_trichotomy o o' with c | c | c
  ·have:=T3 h h' hl' c;omega
  ·subst c;have e':sw room os.length l (o - l).toNat+rk room o os=sw room os'.length l (o - l).toNat+rk room o os':=e;rw[hl']at e';rw[yQ h.2.2 h'.2.2 hl' (by omega)]
  ·have:=T3 h' h hl'.symm c;omega
end CW
namespace L2
open PySem PySem.Spec PyProof.Rows
section
variable {X:Cx}
def CDivB (j:Int):Prop:=0<j/\j<2 ^ 9000
theorem CDivB.log {j:Int} (h:CDivB j):j.natAbs.log2<9000:=by
 have h0:(0:Int)<=j:=Int.le_of_lt h.1;have h2:j.natAbs<2 ^ 9000:=by
  have e:((j.natAbs:Nat):Int)<((2 ^ 9000:Nat):Int):=by
   rw[Int.natAbs_of_nonneg h0,Int.natCast_pow];exact h.2
  exact Int.ofNat_lt.mp e
 have hne:j.natAbs≠0:=fun e=>by
  have e0:j=0:=Int.natAbs_eq_zero.mp e;have:=h.1;rw[e0]at this;exact absurd this (by decide)
 exact(Nat.log2_lt hne).mpr h2
theorem CDivB.ne {j:Int} (h:CDivB j):j≠0:=fun e=>by
 have:=h.1;rw[e]at this;exact absurd this (by decide)
def aAr:TIp:=fun x y H Q=>∃ i j,x=.int i/\y=.int j/\CDivB j/\Q (.int (i / j)) H
theorem T4:PIp X .FloorDiv aAr:=by
 intro pins s σ H x y v u Q I r1 r2 h;obtain⟨i,j,e1,e2,hc,q⟩:=h;subst e1;subst e2;obtain⟨t,rfl⟩:=r1;obtain⟨t',rfl⟩:=r2;refine ifloordiv_int hc.ne ?_ (.inl (PyProof.noPylong_of_log2 hc.log));rw[Int.fdiv_eq_ediv_of_nonneg i (Int.le_of_lt hc.1)];exact⟨.int _,H,I.tok _,⟨_,rfl⟩,q⟩
theorem uD:eS X (.builtin "divmod") (fun xs H Q=>∃ i j,xs=[.int i,.int j]/\CDivB j/\∀ p,H p=none->Q (.ref p) (upd H p (.tup [.int (i / j),.int (i % j)]))):=by
 intro pins s σ H xs us Q I r h;obtain⟨i,j,rfl,hc,q⟩:=h;obtain⟨u,w',rfl,⟨t,rfl⟩,⟨t',rfl⟩⟩:=L3 r;refine divmod_int hc.ne ?_ (.inl (PyProof.noPylong_of_log2 hc.log));rw[Int.fdiv_eq_ediv_of_nonneg i (Int.le_of_lt hc.1),Int.fmod_eq_emod_of_nonneg i (Int.le_of_lt hc.1)];have hn:H s.heap.objs.size=none:=I.hok.fresh (Nat.le_refl _);refine⟨.ref s.heap.objs.size,_,?_,rfl,q _ hn⟩;refine I.laid (fun b o e=>aAv _ e) (Nat.le_refl _) ⟨by simp only[aBY,List.length_nil];rw[sizeLine_eq];decide,[.int (i / j) s.toks,.int (i % j) (s.toks+1)],.cons ⟨_,rfl⟩ (.cons ⟨_,rfl⟩ .nil),?_⟩;exact⟨_,aBB s.heap rfl,rfl,0,rfl⟩
end
structure Bt5 (mg:Str->Option Value):Prop where
 divmod:mg "divmod"=none
end L2
namespace CW
open PySem L2
theorem mW {niches:Int} {ns:List Int}:∀ (ms:List Int) (a:Int),ms.foldl (fun a m=>a * chO (ns.count m) (aI niches ns m)) a=a * bF niches ns ms
 | [],a=>by unfold bF;simp
 | m :: ms,a=>by
  unfold bF;rw[aBW,aBW,mW ms,mW ms,Int.one_mul,Int.mul_assoc]
theorem eW (niches:Int) (ns:List Int) (m:Int) (ms:List Int):bF niches ns (m :: ms)=chO (ns.count m) (aI niches ns m) * bF niches ns ms:=by
 rw[show bF niches ns (m :: ms)=ms.foldl (fun a m=>a * chO (ns.count m) (aI niches ns m)) (1 * chO (ns.count m) (aI niches ns m)) from rfl,mW,Int.one_mul]
theorem yR (n:Nat) (room:Int):0<=chO n room:=by
 by_cases r:room<0
 ·unfold chO;rw[if_pos r];exact Int.le_refl 0
 ·rw[fR (by omega)];omega
theorem kE (niches:Int) (ns:List Int):∀ ms:List Int,0<=bF niches ns ms
 | []=>by unfold bF;simp
 | m :: ms=>by rw[eW];exact Int.mul_nonneg (yR _ _) (kE niches ns ms)
theorem wR (m:Int):∀ os:List Int,aS (os.map fun o=>(m,o)) m=os
 | []=>rfl
 | o :: os=>by rw[aBU,iH,if_pos rfl,wR m os]
theorem qC {m m':Int} (h:m≠m'):∀ os:List Int,aS (os.map fun o=>(m,o)) m'=[]
 | []=>rfl
 | o :: os=>by rw[aBU,iH,if_neg h,qC h os]
theorem mX {ps:Trs} {m:Int} (h:∀ p∈ps,p.1≠m):aS ps m=[]:=by
 unfold aS;rw[List.filter_eq_nil_iff.mpr fun p hp=>by simpa using h p hp];rfl
structure NumI (niches N:Int) (ns pre suf:List Int) (ps:Trs) (rest:Int):Prop where
 sub:∀ p∈ps,p.1∈pre
 ok:∀ m∈pre,(aS ps m).length=ns.count m/\Vld (aI niches ns m) 0 (aS ps m)
 r0:0<=rest
 r1:rest<bF niches ns suf
 few:bF niches ns suf<10 ^ 55
 sm:nmG niches ns ps pre * bF niches ns suf+rest=N
 srt:ps.Pairwise ple
 fl:ps=pre.flatMap fun m=>(aS ps m).map fun o=>(m,o)
theorem NumI.parts {niches N:Int} {ns pre suf:List Int} {ps:Trs} {rest m:Int} (I:NumI niches N ns pre (m :: suf) ps rest) :
 0<chO (ns.count m) (aI niches ns m)/\0<bF niches ns suf/\bF niches ns (m :: suf) / chO (ns.count m) (aI niches ns m)=bF niches ns suf/\chO (ns.count m) (aI niches ns m)<10 ^ 55/\bF niches ns suf<10 ^ 55/\0<=aI niches ns m/\0<=rest / bF niches ns suf/\rest / bF niches ns suf<(cb (aI niches ns m).toNat (ns.count m):Int):=by
 have h1:=I.r1;have h0:=I.r0;have hf:=I.few;rw[eW]at h1 hf ⊢;have c0:=yR (ns.count m) (aI niches ns m);have m0:=kE niches ns suf;have hroom:chO (ns.count m) (aI niches ns m)≠0->0<=aI niches ns m:=fun z=>by
  apply Decidable.byContradiction
  intro r;exact z (by unfold chO;rw[if_pos (by omega)])
 have hcb:0<=aI niches ns m->chO (ns.count m) (aI niches ns m)=(cb (aI niches ns m).toNat (ns.count m):Int):=fun z=>fR z _;generalize chO (ns.count m) (aI niches ns m)=c at *;generalize bF niches ns suf=M at *;have hc:c≠0:=fun z=>by rw[z,Int.zero_mul]at h1;omega
 have hM:M≠0:=fun z=>by rw[z,Int.mul_zero]at h1;omega
 have hcp:0<c:=by omega
 have hMp:0<M:=by omega
 refine⟨hcp,hMp,Int.mul_ediv_cancel_left M hc,?_,?_,hroom hc,Int.ediv_nonneg h0 m0,?_⟩
 ·refine Int.lt_of_le_of_lt ?_ hf;have:=Int.mul_le_mul_of_nonneg_left (show 1<=M by omega) c0;rw[Int.mul_one]at this;exact this
 ·refine Int.lt_of_le_of_lt ?_ hf;have:=Int.mul_le_mul_of_nonneg_right (show 1<=c by omega) m0;rw[Int.one_mul]at this;exact this
 ·rw[<- hcb (hroom hc)];exact Int.ediv_lt_of_lt_mul hMp h1
theorem NumI.step {niches N:Int} {ns pre suf:List Int} {ps:Trs} {rest m:Int} (I:NumI niches N ns pre (m :: suf) ps rest) (hlt:∀ x∈pre,x<m) {os:List Int} (hl:os.length=ns.count m) (hv:Vld (aI niches ns m) 0 os) (hr:rk (aI niches ns m) 0 os=rest / bF niches ns suf) :
 NumI niches N ns (pre++[m]) suf (ps++os.map fun o=>(m,o)) (rest % bF niches ns suf):=by
 obtain⟨hc,hM,_,_,hf,_,_,_⟩:=I.parts;have hne:∀ p∈ps,p.1≠m:=fun p hp z=>by have:=hlt _ (I.sub p hp);omega
 have eo:aS (ps++os.map fun o=>(m,o)) m=os:=by rw[gZ,mX hne,wR];rfl
 have eo':∀ x∈pre,aS (ps++os.map fun o=>(m,o)) x=aS ps x:=fun x hx=>by
  rw[gZ,qC (fun z=>by have:=hlt x hx;omega),List.append_nil]
 refine⟨fun p hp=>?_,fun x hx=>?_,Int.emod_nonneg _ (by omega),Int.emod_lt_of_pos _ hM,hf,?_,?_,?_⟩
 ·rcases aB9.mp hp with hp | hp
  ·exact aBO _ (I.sub p hp)
  ·obtain⟨o,_,rfl⟩:=aBa.mp hp;exact aAy _ (aB1.mpr rfl)
 ·rcases aB9.mp hx with hx | hx
  ·rw[eo' x hx];exact I.ok x hx
  ·obtain rfl:=aB1.mp hx;rw[eo];exact⟨hl,hv⟩
 ·rw[wQ,eo,hr,show nmG niches ns (ps++os.map fun o=>(m,o)) pre=nmG niches ns ps pre from kD eo' 0];have h:=I.sm;rw[eW]at h;have e:=Int.mul_ediv_add_emod rest (bF niches ns suf);generalize chO (ns.count m) (aI niches ns m)=c at *;generalize bF niches ns suf=M at *;generalize nmG niches ns ps pre=A at *;rw[Int.add_mul,Int.mul_assoc,Int.mul_comm (rest / M) M,Int.add_assoc,e];exact h
 ·rw[List.pairwise_append];refine⟨I.srt,?_,fun p hp q hq=>?_⟩
  ·rw[List.pairwise_map];exact(gM hv).1.imp fun h=>.inr ⟨rfl,h⟩
  ·obtain⟨o,_,rfl⟩:=aBa.mp hq;exact .inl (hlt _ (I.sub p hp))
 ·rw[List.flatMap_append];have e1:(pre.flatMap fun x=>(aS (ps++os.map fun o=>(m,o)) x).map fun o=>(x,o))=ps:=by
   rw[List.flatMap_def,List.map_congr_left fun x hx=>by rw[eo' x hx],<- List.flatMap_def];exact I.fl.symm
  have e2:([m].flatMap fun x=>(aS (ps++os.map fun o=>(m,o)) x).map fun o=>(x,o))=os.map fun o=>(m,o):=by
   rw[List.flatMap_cons,List.flatMap_nil,List.append_nil,eo]
  rw[e1,e2]
end CW
namespace L2
open PySem PySem.Spec PyProof.Rows
section
variable {prog:Program} {w:World} {A:Around} {E:Value->Shared->Prop} {s:Shared}
end
end L2
namespace CW
open PySem L2
inductive Szs (row ss:List Int):Prop
 | mk (ps:Trs) (h0_:Lst row ps) (h1_:ss.Perm (ps.map (·.1))) (h2_:ss.Pairwise (·<=·)):Szs row ss
theorem T5 {a b:List Int} (h:a.Perm b) (k:Int):geN a k=geN b k:=(h.filter _).length_eq
def u7 (ss:List Int) (n:Nat):List Int:=(List.range n).map fun k:Nat=>(geN ss ((k:Int)+1):Int)
theorem Szs.pos {row ss:List Int} (h:Szs row ss):∀ s∈ss,1<=s:=fun s hs=>by
 obtain⟨ps,h,hp,_⟩:=h;obtain⟨q,hq,rfl⟩:=aBa.mp (hp.mem_iff.mp hs);exact h.pos q hq
theorem Szs.up {row ss:List Int} (h:Szs row ss):ss.Pairwise (·<=·):=by
 obtain⟨ps,_,_,h⟩:=h;exact h
theorem qD {a b:List Int} (h:a.Perm b):a.sum=b.sum:=by
 induction h with
 | nil=>rfl
 | cons x _ ih=>rw[aBX,aBX,ih]
 | swap x y l=>rw[aBX,aBX,aBX,aBX];omega
 | trans _ _ h1 h2=>exact h1.trans h2
theorem A9 (c:Int):∀ ps:Trs,((ps.map (·.1)).map fun s=>min c s).sum=les ps c
 | []=>rfl
 | q :: ps=>by
  rw[aBU,aBU,aBX,A9 c ps,aO]
theorem Szs.car {row ss:List Int} (h:Szs row ss) {c:Int} (hc:1<=c):(tG row c:Int)=(ss.map fun s=>min c s).sum:=by
 obtain⟨ps,h,hp,_⟩:=h;rw[h.car hc,qD (hp.map _),A9]
theorem T6 {f:Int×Int->Int} (ps:Trs):(ps.map fun q=>(q.1,f q)).map (·.1)=ps.map (·.1):=by
 rw[aBZ];rfl
theorem Szs.walk {row ss:List Int} (h:Szs row ss) {c:Int} (hc:1<=c):Szs (lG row c) ss:=by
 obtain⟨ps,h,hp,hs⟩:=h;exact⟨_,h.walks hc,by unfold shn;rw[T6];exact hp,hs⟩
theorem Szs.load {row ss:List Int} (h:Szs row ss) (k:Nat):(tG row ((k:Int)+1):Int)=(u7 ss (k+1)).sum:=by
 obtain⟨ps,h,hp,_⟩:=h;rw[h.car (by omega)];have go:∀ n:Nat,les ps (n:Int)=(u7 ss n).sum:=by
  intro n
  induction n with
  | zero=>exact E4 h.pos
  | succ n ih =>
   have e:=Q3 (n:Int) ps;unfold u7 at *;rw[List.range_succ,aBJ,List.sum_append,<- ih];show les ps ((n+1:Nat):Int)=les ps n+([(geN ss ((n:Int)+1):Int)]:List Int).sum;rw[aBX,List.sum_nil,T5 hp,<- e,show ((n+1:Nat):Int)=(n:Int)+1 by omega];omega
 rw[<- go,show ((k+1:Nat):Int)=(k:Int)+1 by omega]
inductive jJ (vs:List V) (H:Hp) (Q:VK) (E_:XK):Prop
 | mk (a:Addr) (niches:Int) (ns:List Int) (h0_:vs=[.int niches,.ref a]) (h1_:H a=some (.lst (ns.map V.int))) (h2_:SzOk ns)
  (h3_:∀ ms (l:Addr) us H',Dst ns ms->Same H H'->H l=none->H' l=some (.lst us)->Prs H' us (ms.map (rmM niches ns))->Q (.ref l) H'):jJ vs H Q E_
theorem I0 {vs:List V} {H:Hp} {Q:VK} {E_:XK} (h:lX vs H Q E_):jJ vs H Q E_:=by
 obtain⟨a,n,ns,h0,h1,h2,h3⟩:=h;exact⟨a,n,ns,h0,h1,h2,fun ms l us H' d g _ e p=>h3 ms l us H' d g e p⟩
inductive mF (vs:List V) (H:Hp) (Q:VK) (E_:XK):Prop
 | mk (niches:Int) (a:Addr) (ns:List Int) (N:Int) (h0_:vs=[.int niches,.ref a,.int N]) (h1_:H a=some (.lst (ns.map V.int))) (h2_:SzOk ns) (h3_:0<=niches) (h4_:niches<=200)
  (h5_:∀ ms,Dst ns ms->0<=N/\N<bF niches ns ms) (h6_:∀ ms ps r,Dst ns ms->NumI niches N ns ms [] ps 0->Trn ps->Lst r ps->o7 H Q r):mF vs H Q E_
inductive rnW (H0:Hp) (niches N:Int) (a lp l:Addr) (ns ms:List Int) (us:List V) (i:Nat) (σ:St) (Hx:Hp):Prop
 | mk (ps:Trs) (ws:List V) (rest:Int) (v6 v7 v8 v9:Option V) (h0_:σ=[some (.int niches),some (.ref a),some (.int N),some (.int (bF niches ns (ms.drop i))),some (.ref lp),some (.int rest),v6,v7,v8,v9]) (h1_:Same H0 Hx) (h2_:Hx l=some (.lst us)) (h3_:Prs Hx us (ms.map (rmM niches ns))) (h4_:Hx lp=some (.lst ws)) (h5_:Prs Hx ws ps) (h6_:NumI niches N ns (ms.take i) (ms.drop i) ps rest):rnW H0 niches N a lp l ns ms us i σ Hx
theorem sK {j:Int} (h:0<j) (h1:j<10 ^ 55):CDivB j:=⟨h,Int.lt_trans h1 (by
 have e:(10:Int) ^ 55<2 ^ 200:=by decide
 exact Int.lt_of_lt_of_le e (A1 (by decide)))⟩
theorem NumI.sizes {niches N:Int} {ns ms:List Int} {ps:Trs} {rest:Int} (I:NumI niches N ns ms [] ps rest) (d:Dst ns ms):(ps.map (·.1)).Perm ns:=by
 rw[List.perm_iff_count];intro m;rw[<- gL]
 by_cases hm:m∈ms
 ·exact(I.ok m hm).1
 ·rw[mX (m:=m) fun p hp z=>hm (by rw[<- z];exact I.sub p hp),List.count_eq_zero_of_not_mem fun z=>hm (d.mem.mpr z)];rfl
theorem NumI.trn {niches N:Int} {ns ms:List Int} {ps:Trs} {rest:Int} (I:NumI niches N ns ms [] ps rest) (d:Dst ns ms) (hz:SzOk ns):Trn ps:=by
 have p:=I.sizes d;refine⟨fun q hq=>hz.pos _ (p.mem_iff.mp (List.mem_map_of_mem hq)),?_⟩;have e:(szs ps).sum=ns.sum:=by
  unfold szs;exact qD p
 rw[e];exact hz.sum
theorem kL:∀ {l l':List Int},(∀ m,l.count m<=l'.count m)->l.length<=l'.length
 | [],_,_=>Nat.zero_le _
 | x :: t,l',h=>by
  have hx:x∈l':=List.count_pos_iff.mp (aBL (List.count_pos_iff.mpr aAw) (h x));have ih:=kL (l:=t) (l':=l'.erase x) fun m=>by
   have z:=h m;rw[List.count_cons]at z;rw[List.count_erase];omega
  rw[List.length_erase_of_mem hx]at ih;have:=List.length_pos_of_mem hx;rw[aBY];omega
theorem NumI.len {niches N:Int} {ns pre suf:List Int} {ps:Trs} {rest:Int} (I:NumI niches N ns pre suf ps rest):ps.length<=ns.length:=by
 rw[<- aAu (f:=(·.1)) (as:=ps)];refine kL fun m=>?_;rw[<- gL]
 by_cases hm:m∈pre
 ·exact Nat.le_of_eq (I.ok m hm).1
 ·rw[mX (m:=m) fun p hp z=>hm (by rw[<- z];exact I.sub p hp)];exact Nat.zero_le _
end CW
namespace L2
open PySem PySem.Spec PyProof.Rows
open PySem.SeqAt
open PySem.AutoSeq1 (wpAny_loadPart')
open PySem.MeetsSeq PySem.MeetsSeq2 PySem.MeetsSeq3
def gN:List (Int×Int)->List (Int×Int)->Bool
 | [],[]=>false
 | [],_ :: _=>true
 | _ :: _,[]=>false
 | p :: ps,q :: qs=>if p=q then gN ps qs else plt p q
theorem yS (p q:Int×Int):HT.lexLt [p.1,p.2] [q.1,q.2]=plt p q:=by
 rw[HT.lexLt_cons,HT.lexLt_cons,HT.lexLt_nil_nil]
 by_cases h1:p.1=q.1
 ·rw[if_pos h1]
  by_cases h2:p.2=q.2
  ·rw[if_pos h2];symm;rw[eJ];omega
  ·rw[if_neg h2,Bool.eq_iff_iff,dH];simp;omega
 ·rw[if_neg h1,Bool.eq_iff_iff,dH];simp;omega
theorem yT {A:Around} {s:Shared} {x y:Value} {p q:Int×Int} (hx:PairV s.heap x p) (hy:PairV s.heap y q) (hu:A.units<cLine) (prog:Program) (w:World) (E:Value->Shared->Prop) (Q:Value->Shared->Prop) (h:Q (.bool (plt p q)) s) :
 wpAny (model prog w) A (richCompare .Lt x y) Q E s:=by
 obtain⟨t,o,n,k1,k2,rfl,ho,hc,hd⟩:=hx;obtain⟨t',o',n',k1',k2',rfl,ho',hc',hd'⟩:=hy;exact HT.lt_tupInts (items:=#[Value.int p.1 k1,Value.int p.2 k2]) (items2:=#[Value.int q.1 k1',Value.int q.2 k2']) (ns:=[p.1,p.2]) (ms:=[q.1,q.2]) ⟨o,ho,hc,n,hd⟩ ⟨o',ho',hc',n',hd'⟩ (.cons _ _ (.cons _ _ .nil)) (.cons _ _ (.cons _ _ .nil)) hu (by rw[yS];exact h)
theorem gO {h:Heap} {items:Array Value} {ps:List (Int×Int)} (r:Paired (PairV h) items.toList ps):items.size=ps.length:=by
 have:=r.length;simpa using this
theorem sL {h:Heap} {items:Array Value} {ps:List (Int×Int)} (r:Paired (PairV h) items.toList ps) {i:Nat} (hi:i<ps.length):∃ x,items[i]?=some x/\PairV h x ps[i]:=by
 have hs:=gO r;refine⟨items[i]'(by omega),by simp[hs,hi],?_⟩;have:=aW (x:=Value.none) (y:=((0:Int),(0:Int))) r (i:=i) (by simpa[hs]using hi);simpa[List.getD,hi,hs]using this
theorem T7 (l b:Addr) (items items2:Array Value) (n n2:Nat) (ps qs:List (Int×Int)) (k:Nat) :
 ∀ i:Nat,ps.length - i=k->i<=ps.length->i<=qs.length->Meets (Builtin.«list.__eq__.loop» ⟨[.ref l,.ref b,rawInt i,rawInt 0],[]⟩)
  (fun A R s=>s.heap.get? l=some { cls:=.type "list",dict:=none,data:=.seq items n,slots:=#[] }/\s.heap.get? b=some { cls:=.type "list",dict:=none,data:=.seq items2 n2,slots:=#[] } /\
   Paired (PairV s.heap) items.toList ps/\Paired (PairV s.heap) items2.toList qs/\A.in1.units+1<cLine /\
   R (.ok (.ret (.bool (gN (ps.drop i) (qs.drop i))))) s):=by
 induction k with
 | zero =>
  intro i hk hi hi' prog w A R s h;obtain⟨hp,g,d,tk,os⟩:=s;obtain⟨hl,hb,r1,r2,hu,h⟩:=h;have z1:=gO r1;have z2:=gO r2
  wp_walk using wpAny_loadPart' hl,wpAny_loadPart' hb
  have hi1:items[((i:Nat):Int).toNat]?=none:=by simp;omega
  rw[hi1]
  wp_walk using wpAny_loadPart' hl,wpAny_loadPart' hb
  show R (.ok (.ret (.bool (decide (items.size<items2.size))))) _;have e:gN (ps.drop i) (qs.drop i)=decide (items.size<items2.size):=by
   rw[List.drop_eq_nil_of_le (show ps.length<=i by omega)];cases hq:qs.drop i with
   | nil =>
    have:=List.drop_eq_nil_iff.mp hq;exact(aBQ (by omega)).symm
   | cons q t =>
    have:i<qs.length:=by
     apply Decidable.byContradiction
     intro z;rw[List.drop_eq_nil_of_le (by omega)]at hq;cases hq
    exact(aBR (by omega)).symm
  rw[e]at h;exact h
 | succ k ih =>
  intro i hk hi hi' prog w A R s h;obtain⟨hp,g,d,tk,os⟩:=s;obtain⟨hl,hb,r1,r2,hu,h⟩:=h;have z1:=gO r1;have z2:=gO r2;have hlt:i<ps.length:=by omega
  obtain⟨x,ex,vx⟩:=sL r1 hlt;have ex':items[((i:Nat):Int).toNat]?=some x:=by rw[Int.toNat_natCast];exact ex
  have hc:((i:Int)+1)=((i+1:Nat):Int):=by push_cast;rfl
  by_cases hlt2:i<qs.length
  ·obtain⟨y,ey,vy⟩:=sL r2 hlt2;have ey':items2[((i:Nat):Int).toNat]?=some y:=by rw[Int.toNat_natCast];exact ey
   have hd:gN (ps.drop i) (qs.drop i)=if ps[i]=qs[i]then gN (ps.drop (i+1)) (qs.drop (i+1))else plt ps[i] qs[i]:=by
    rw[List.drop_eq_getElem_cons hlt,List.drop_eq_getElem_cons hlt2];rfl
   rw[hd]at h
   wp_walk using wpAny_loadPart' hl,wpAny_loadPart' hb
   rw[ex',ey'];refine aAs (EqAt.pairs (A:=A.in1) vx vy hu prog w _ _ ?_)
   by_cases hpq:ps[i]=qs[i]
   ·rw[if_pos hpq]at h;rw[aBR hpq]
    wp_walk
    rw[hc];exact⟨plainId_quiet plain_eq_loop _,codeAny_builtin entry_eq_loop (by
     rw[aBG plain_eq_loop _];exact ih (i+1) (by omega) (by omega) (by omega) prog w A R _ ⟨hl,hb,r1,r2,hu,h⟩)⟩
   ·rw[if_neg hpq]at h;rw[aBQ hpq];have hri:=yT (A:=A.in1) (s:=⟨hp,g,d,tk,os⟩) vx vy (by omega) prog w
    wp_walk using wpAny_loadPart' hl,wpAny_loadPart' hb
    rw[ex',ey']
    wp_walk using hri
    exact h
  ·have ey':items2[((i:Nat):Int).toNat]?=none:=by simp;omega
   wp_walk using wpAny_loadPart' hl,wpAny_loadPart' hb
   rw[ex',ey']
   wp_walk using wpAny_loadPart' hl,wpAny_loadPart' hb
   show R (.ok (.ret (.bool (decide (items.size<items2.size))))) _;have e:gN (ps.drop i) (qs.drop i)=decide (items.size<items2.size):=by
    rw[List.drop_eq_nil_of_le (show qs.length<=i by omega),List.drop_eq_getElem_cons hlt];exact(aBQ (by omega)).symm
   rw[e]at h;exact h
theorem T8 (l b:Addr) (items items2:Array Value) (n n2:Nat) (ps qs:List (Int×Int)) :
 Meets (Builtin.«list.__lt__» ⟨[.ref l,.ref b],[]⟩)
  (fun A R s=>s.heap.get? l=some { cls:=.type "list",dict:=none,data:=.seq items n,slots:=#[] }/\s.heap.get? b=some { cls:=.type "list",dict:=none,data:=.seq items2 n2,slots:=#[] } /\
   Paired (PairV s.heap) items.toList ps/\Paired (PairV s.heap) items2.toList qs/\A.in1.units+1<cLine /\
   R (.ok (.ret (.bool (gN ps qs)))) s):=by
 intro prog w A R s h;obtain⟨hp,g,d,tk,os⟩:=s;obtain⟨hl,hb,r1,r2,hu,h⟩:=h;have f3:=AutoSeq1.sub_list_list
 wp_walk using wpAny_loadPart' hl,wpAny_loadPart' hb
 exact⟨plainId_quiet plain_eq_loop _,codeAny_builtin entry_eq_loop (by
  rw[aBG plain_eq_loop _];exact T7 l b items items2 n n2 ps qs _ 0 rfl (Nat.zero_le _) (Nat.zero_le _) prog w A R _ ⟨hl,hb,r1,r2,hu,h⟩)⟩
section
variable {X:Cx}
end
end L2
namespace CW
open PySem L2
theorem wS (a b c:Trs):gN (a++b) (a++c)=gN b c:=by
 induction a with
 | nil=>rfl
 | cons p a ih=>rw[List.cons_append,List.cons_append,gN,if_pos rfl,ih]
theorem wT {room m:Int}:∀ {os os':List Int} {l:Int} {X Y:Trs},Vld room l os->Vld room l os'->os.length=os'.length->rk room l os<rk room l os'->gN ((os.map fun o=>(m,o))++X) ((os'.map fun o=>(m,o))++Y)=true
 | [],[],_,_,_,_,_,_,h=>by exact absurd h (Int.lt_irrefl _)
 | [],_ :: _,_,_,_,_,_,h,_=>by simp at h
 | _ :: _,[],_,_,_,_,_,h,_=>by simp at h
 | o :: os,o' :: os',l,X,Y,v,v',hl,h=>by
  have hl':os.length=os'.length:=by simpa using hl
  rw[aBU,aBU,List.cons_append,List.cons_append,gN];rcases Int.lt_trichotomy o o' with c | c | c
  ·rw[if_neg (fun e=>by have:=congrArg Prod.snd e;simp at this;omega),dH];exact .inr ⟨rfl,c⟩
  ·subst c;rw[if_pos rfl];have e:sw room os.length l (o - l).toNat+rk room o os<sw room os'.length l (o - l).toNat+rk room o os':=h;rw[hl']at e;exact wT v.2.2 v'.2.2 hl' (by omega)
  ·have:=T3 v' v hl'.symm c;omega
def flt (ps:Trs) (ms:List Int):Trs:=ms.flatMap fun m=>(aS ps m).map fun o=>(m,o)
theorem qE {niches:Int} {ns:List Int} {ps:Trs}:∀ (ms:List Int) (a:Int),ms.foldl (fun a m=>a * chO (ns.count m) (aI niches ns m)+rk (aI niches ns m) 0 (aS ps m)) a=a * bF niches ns ms+nmG niches ns ps ms
 | [],a=>by unfold bF nmG;simp
 | m :: ms,a=>by
  unfold nmG;rw[aBW,aBW,qE ms,qE ms,eW,Int.zero_mul,Int.zero_add,Int.add_mul,Int.mul_assoc,Int.add_assoc]
theorem jK (niches:Int) (ns:List Int) (ps:Trs) (m:Int) (ms:List Int):nmG niches ns ps (m :: ms)=rk (aI niches ns m) 0 (aS ps m) * bF niches ns ms+nmG niches ns ps ms:=by
 rw[show nmG niches ns ps (m :: ms)=ms.foldl (fun a m=>a * chO (ns.count m) (aI niches ns m)+rk (aI niches ns m) 0 (aS ps m)) (0 * chO (ns.count m) (aI niches ns m)+rk (aI niches ns m) 0 (aS ps m)) from rfl,qE,Int.zero_mul,Int.zero_add]
def OkS (niches:Int) (ns:List Int) (ps:Trs) (ms:List Int):Prop:=∀ m∈ms,(aS ps m).length=ns.count m/\Vld (aI niches ns m) 0 (aS ps m)/\0<=aI niches ns m
theorem aAX {niches:Int} {ns:List Int} {ps:Trs} {m:Int} (h:(aS ps m).length=ns.count m/\Vld (aI niches ns m) 0 (aS ps m)/\0<=aI niches ns m):0<=rk (aI niches ns m) 0 (aS ps m)/\rk (aI niches ns m) 0 (aS ps m)<chO (ns.count m) (aI niches ns m):=by
 have:=wL h.2.2 h.2.1;rw[Int.sub_zero,h.1,<- fR h.2.2]at this;exact this
theorem qF {niches:Int} {ns:List Int} {ps:Trs}:∀ {ms:List Int},OkS niches ns ps ms->0<=nmG niches ns ps ms/\nmG niches ns ps ms<bF niches ns ms
 | [],_=>by unfold nmG bF;simp
 | m :: ms,h=>by
  obtain⟨i1,i2⟩:=qF (ms:=ms) fun x hx=>h x (aAx _ hx);obtain⟨r1,r2⟩:=aAX (h m aAw);rw[jK,eW];have m0:=kE niches ns ms;refine⟨Int.add_nonneg (Int.mul_nonneg r1 m0) i1,?_⟩;have:=Int.mul_le_mul_of_nonneg_right (show rk (aI niches ns m) 0 (aS ps m)+1<=chO (ns.count m) (aI niches ns m)by omega) m0;rw[Int.add_mul,Int.one_mul]at this;omega
theorem T9 {niches:Int} {ns:List Int} {ps qs:Trs}:∀ {ms:List Int},OkS niches ns ps ms->OkS niches ns qs ms->nmG niches ns ps ms<nmG niches ns qs ms->gN (flt ps ms) (flt qs ms)=true
 | [],_,_,h=>by exact absurd h (Int.lt_irrefl _)
 | m :: ms,hp,hq,h=>by
  have hp':OkS niches ns ps ms:=fun x hx=>hp x (aAx _ hx);have hq':OkS niches ns qs ms:=fun x hx=>hq x (aAx _ hx);have ap:=hp m aAw;have aq:=hq m aAw;obtain⟨i1,i2⟩:=qF hp';obtain⟨j1,j2⟩:=qF hq';have m0:=kE niches ns ms;rw[jK,jK]at h;show gN ((aS ps m).map (fun o=>(m,o))++flt ps ms) ((aS qs m).map (fun o=>(m,o))++flt qs ms)=true;rcases Int.lt_trichotomy (rk (aI niches ns m) 0 (aS ps m)) (rk (aI niches ns m) 0 (aS qs m))with c | c | c
  ·exact wT ap.2.1 aq.2.1 (ap.1.trans aq.1.symm) c
  ·rw[yQ ap.2.1 aq.2.1 (ap.1.trans aq.1.symm) c,wS];rw[c]at h;exact T9 hp' hq' (by omega)
  ·have:=Int.mul_le_mul_of_nonneg_right (show rk (aI niches ns m) 0 (aS qs m)+1<=rk (aI niches ns m) 0 (aS ps m)by omega) m0;rw[Int.add_mul,Int.one_mul]at this;omega
theorem NumI.lex {niches N N':Int} {ns ms:List Int} {ps qs:Trs} (I:NumI niches N ns ms [] ps 0) (J:NumI niches N' ns ms [] qs 0) (hr:∀ m∈ms,0<=aI niches ns m) (h:N<N'):gN ps qs=true:=by
 have e1:=I.sm;have e2:=J.sm;rw[show bF niches ns []=1 from rfl,Int.mul_one,Int.add_zero]at e1 e2;rw[I.fl,J.fl];exact T9 (fun m hm=>⟨(I.ok m hm).1,(I.ok m hm).2,hr m hm⟩) (fun m hm=>⟨(J.ok m hm).1,(J.ok m hm).2,hr m hm⟩) (by rw[e1,e2];exact h)
theorem J0 {a b:List Int} (h:a.Perm b) (m:Int):nW a m=nW b m:=by
 unfold nW;exact qD (h.map _)
theorem qG {niches:Int} {a b:List Int} (h:a.Perm b) (m:Int):aI niches a m=aI niches b m:=by
 unfold aI;rw[J0 h]
theorem sM {niches:Int} {ns:List Int}:∀ {ms:List Int},0<bF niches ns ms->∀ m∈ms,0<=aI niches ns m
 | [],_,m,hm=>(nomatch hm)
 | x :: ms,h,m,hm=>by
  rw[eW]at h;have c0:=yR (ns.count x) (aI niches ns x);have m0:=kE niches ns ms;have hM:0<bF niches ns ms:=by
   apply Decidable.byContradiction
   intro z;have:bF niches ns ms=0:=by omega
   rw[this,Int.mul_zero]at h;omega
  rcases aB8.mp hm with e | hm
  ·subst e;apply Decidable.byContradiction
   intro r;have:chO (ns.count m) (aI niches ns m)=0:=by unfold chO;rw[if_pos (by omega)]
   rw[this,Int.zero_mul]at h;omega
  ·exact sM hM m hm
theorem qH {f g:Int->Int->Int}:∀ {ms:List Int},(∀ a,∀ m∈ms,f a m=g a m)->∀ a,ms.foldl f a=ms.foldl g a
 | [],_,_=>rfl
 | m :: ms,h,a=>by
  rw[aBW,aBW,h a m aAw];exact qH (fun a x hx=>h a x (aAx _ hx)) _
section
variable {niches N:Int} {ns ms:List Int} {ps:Trs}
theorem NumI.nm (I:NumI niches N ns ms [] ps 0) (d:Dst ns ms):nmM niches ps ms=N:=by
 have e1:=I.sm;rw[show bF niches ns []=1 from rfl,Int.mul_one,Int.add_zero]at e1;rw[<- e1];unfold nmM nmG;refine qH (fun a m hm=>?_) 0;rw[qG (I.sizes d),(I.ok m hm).1]
theorem NumI.dst (I:NumI niches N ns ms [] ps 0) (d:Dst ns ms) {ms':List Int} (d':Dst (ps.map (·.1)) ms'):ms'=ms:=d'.eq d fun m=>(I.sizes d).mem_iff
theorem NumI.inn (I:NumI niches N ns ms [] ps 0) (d:Dst ns ms):AllIn niches ps:=fun q hq=>by
 rw[qG (I.sizes d)];have hm:=I.sub q hq;exact(gM (I.ok q.1 hm).2).2 q.2 (by
  unfold aS;exact aBa.mpr ⟨q,aBb.mpr ⟨hq,by simp⟩,rfl⟩)
theorem NumI.sob (I:NumI niches N ns ms [] ps 0) (d:Dst ns ms) {r:List Int} (h:Lst r ps):Sob r/\∀ x∈r,x<=niches:=(h.sober niches).mp (I.inn d)
theorem NumI.own (I:NumI niches N ns ms [] ps 0) {r:List Int} (h:Lst r ps) {qs:Trs} (hq:Lst r qs) (hs:qs.Pairwise ple):qs=ps:=vX (hq.uniq h) hs I.srt
end
section
variable {P:Program} {w:World} {K:PySem.W.Frag} {mg:Str->Option Value} {base:Heap}
end
theorem Z1 {r:List Int} {ps:Trs} (h:Lst r ps) (T:Trn ps):r.length<=60:=by
 have e:=h.sizx;have:=T.few;unfold szs at this;unfold siz at e;omega
theorem U0 {niches:Int} {ns:List Int} {ps qs:Trs}:∀ {ms:List Int},OkS niches ns ps ms->OkS niches ns qs ms->nmG niches ns ps ms=nmG niches ns qs ms->flt ps ms=flt qs ms
 | [],_,_,h=>rfl
 | m :: ms,hp,hq,h=>by
  have hp':OkS niches ns ps ms:=fun x hx=>hp x (aAx _ hx);have hq':OkS niches ns qs ms:=fun x hx=>hq x (aAx _ hx);have ap:=hp m aAw;have aq:=hq m aAw;obtain⟨i1,i2⟩:=qF hp';obtain⟨j1,j2⟩:=qF hq';have m0:=kE niches ns ms;rw[jK,jK]at h;rcases Int.lt_trichotomy (rk (aI niches ns m) 0 (aS ps m)) (rk (aI niches ns m) 0 (aS qs m))with c | c | c
  ·have:=Int.mul_le_mul_of_nonneg_right (show rk (aI niches ns m) 0 (aS ps m)+1<=rk (aI niches ns m) 0 (aS qs m)by omega) m0;rw[Int.add_mul,Int.one_mul]at this;omega
  ·rw[c]at h;have e:=U0 hp' hq' (by omega);show (aS ps m).map (fun o=>(m,o))++flt ps ms=(aS qs m).map (fun o=>(m,o))++flt qs ms;rw[yQ ap.2.1 aq.2.1 (ap.1.trans aq.1.symm) c,e]
  ·have:=Int.mul_le_mul_of_nonneg_right (show rk (aI niches ns m) 0 (aS qs m)+1<=rk (aI niches ns m) 0 (aS ps m)by omega) m0;rw[Int.add_mul,Int.one_mul]at this;omega
theorem NumI.eq {niches N:Int} {ns ms:List Int} {ps qs:Trs} (I:NumI niches N ns ms [] ps 0) (J:NumI niches N ns ms [] qs 0) (hr:∀ m∈ms,0<=aI niches ns m):ps=qs:=by
 have e1:=I.sm;have e2:=J.sm;rw[show bF niches ns []=1 from rfl,Int.mul_one,Int.add_zero]at e1 e2;rw[I.fl,J.fl];exact U0 (fun m hm=>⟨(I.ok m hm).1,(I.ok m hm).2,hr m hm⟩) (fun m hm=>⟨(J.ok m hm).1,(J.ok m hm).2,hr m hm⟩) (by rw[e1,e2])
end CW
namespace L2
open PySem PySem.W PySem.Spec PyProof.Rows
structure B0 (prog:Program) (w:World) (A:Around) (O:KeyOrd) (key:Nat->O.α) (ks:List Value) (κ:SortKind) (s:Shared):Prop where
 kind:2<=ks.length->∀ (E:Value->Shared->Prop) (Q:SortKind->Shared->Prop),Q κ s->wpAny (model prog w) A (keyKind' ks.toArray) Q E s
 ans:Ans O key ks.length (kas_ask prog w A κ ks) s
section
variable {prog:Program} {w:World} {A:Around} {E:Value->Shared->Prop} {s:Shared} {O:KeyOrd} {key:Nat->O.α} {κ:SortKind}
theorem wU {n:Nat} (h:n<2) {p:Array Nat}:Up O key p n:=fun i j hij hj=>by
 have:i=j:=by omega
 subst this;exact KeyOrd.kle_refl _
theorem yU {a:Addr} {vs:List Value} {n:Nat} {P:Fin->Shared->Prop} (ho:s.heap.get? a=some (seqObj "list" vs.toArray n)) (h64:vs.length<64)
 (hC:∀ h6:Heap,(∀ b o,b≠a->s.heap.get? b=some o->h6.get? b=some o)->B0 prog w A O key vs κ { s with heap:=h6 })
 (h:∀ p:Array Nat,p.Perm (List.range vs.length).toArray->Up O key p vs.length->P (.done (.ret .none)) { s with heap:=sortedHeap s.heap a vs (fQ vs p).toArray }) :
 wpAny (model prog w) A (Builtin.«list.sort» ⟨[.ref a],[]⟩) P E s:=by
 have ha:a<s.heap.objs.size:=aBA ho;have hbig:vs.length<=sizeLine:=Nat.le_trans (Nat.le_of_lt h64) (by decide);rw[list_sort_plain];refine aAs (listItems_at ho rfl (aAs (listUpdate_at ho rfl ?_ (by rw[aBC];omega) (Nat.zero_le _))));obtain⟨e1,ho1⟩:∃ e1,(s.heap.update a (Obj.mapSeq fun _=>(#[]:Array Value))).get? a=some (seqObj "list" #[] e1):=⟨_,get?_update_seq ho _⟩;refine aAs (seqEpoch_at ho1 rfl (aAs (wpAny_newTuple (aAs (wpAny_newList (wpAny_holding ?_) (Nat.zero_le _))) (by show vs.length<=_;exact hbig))));have k6:∀ b o,b≠a->s.heap.get? b=some o->(((s.heap.update a (Obj.mapSeq fun _=>(#[]:Array Value))).push (seqObj "tuple" vs.toArray 0)).push (seqObj "list" #[] 0)).get? b=some o:=fun b o hb q =>
  aAv _ (aAv _ ((Heap.get?_update_ne _ _ _ _ hb).trans q))
 have ho6:(((s.heap.update a (Obj.mapSeq fun _=>(#[]:Array Value))).push (seqObj "tuple" vs.toArray 0)).push (seqObj "list" #[] 0)).get? a=some (seqObj "list" #[] e1):=aAv _ (aAv _ ho1);have C6:=hC _ k6;show wpAny (model prog w) A _ P E { s with heap:=((s.heap.update a (Obj.mapSeq fun _=>(#[]:Array Value))).push (seqObj "tuple" vs.toArray 0)).push (seqObj "list" #[] 0) };have fin:∀ p:Array Nat,p.Perm (List.range vs.length).toArray->Up O key p vs.length->P (.done (.ret .none)) { s with heap:=sortedHeap s.heap a vs (fQ vs p).toArray }:=h;clear h hC k6;unfold sortedHeap at fin;generalize ((s.heap.update a (Obj.mapSeq fun _=>(#[]:Array Value))).push (seqObj "tuple" vs.toArray 0)).push (seqObj "list" #[] 0)=h6 at ho6 C6 fin;dsimp only
 by_cases h2:vs.toArray.size<2
 ·rw[if_pos h2,if_pos h2];refine aAs (aAt ?_);rw[StateT.run_pure];refine aAs (aAt ?_);dsimp only;have eo:fQ vs (List.range vs.length).toArray=vs:=mN (by simpa using h2);have ea:(arrOf (SortSt.mk' general' (vs.toArray.zip vs.toArray) #[] 7 none)).map (·.2)=vs.toArray:=by
   show (vs.toArray.zip vs.toArray).map (·.2)=vs.toArray;apply Array.toList_inj.mp
   simp;exact List.map_snd_zip (Nat.le_refl _)
  rw[ea];refine aAs (seqEpoch_at ho6 rfl (aAs (listUpdate_at ho6 rfl ?_ (Nat.zero_le _) (by rw[aBC];omega))));simp only[bne_self_eq_false,Bool.false_eq_true,if_false];have f:=fin (List.range vs.length).toArray (Array.Perm.refl _) (wU (by simpa using h2));rw[eo]at f;exact aAt f
 ·rw[if_neg h2,if_neg h2];have hl2:2<=vs.length:=by simp at h2;omega
  refine aAs (C6.kind hl2 _ _ ?_);refine aAs (wpAny_mono (kat_run (s:={ s with heap:=h6 }) (κ:=κ) (ks:=vs) (vs:=vs) (Q:=fun st' s'=>s'={ s with heap:=h6 }/\failedOf st'=none/\∃ p:Array Nat,p.Perm (List.range vs.length).toArray/\Up O key p vs.length/\(arrOf st').map (·.2)=(fQ vs p).toArray)
   (G:=fun p s'=>s'={ s with heap:=h6 }/\p.Perm (List.range vs.length).toArray/\Up O key p vs.length) rfl hl2 h64 (fun p st' s' g1 g2 g3 ⟨g4,g5,g6⟩=>⟨g4,g3,p,g5,g6,kat_snds rfl g2⟩) (tF C6.ans (by omega) fun p e u=>⟨rfl,e,u⟩)) ?_ fun _ _ e=>e)
  rintro ⟨⟨⟩,st'⟩ s' ⟨rfl,hf',p,e,u,ea⟩;dsimp only;rw[ea,hf'];have hsz:(fQ vs p).toArray.size<=sizeLine:=by
   have:=e.size_eq;simp only[aBC,List.length_range]at this;rw[aBC,aAu,Array.length_toList,this];exact hbig
  refine aAs (seqEpoch_at ho6 rfl (aAs (listUpdate_at ho6 rfl ?_ (Nat.zero_le _) (by omega))));simp only[bne_self_eq_false,Bool.false_eq_true,if_false];exact aAt (fin p e u)
theorem Z2 {l:Addr} {vs:List Value} {Q:Value->Shared->Prop} (hl:s.heap.IsList l vs.toArray) (h64:vs.length<64)
 (hC:∀ h6:Heap,(∀ b o,s.heap.get? b=some o->h6.get? b=some o)->B0 prog w A.in1.in1 O key vs κ { s with heap:=h6 })
 (h:∀ p:Array Nat,p.Perm (List.range vs.length).toArray->Up O key p vs.length->Q (.ref (s.heap.objs.size+1)) { s with heap:=sortedAll s.heap vs (fQ vs p).toArray }) :
 wpAny (model prog w) A (call (.builtin "sorted") [.ref l]) Q E s:=by
 have hbig:vs.length<=sizeLine:=Nat.le_trans (Nat.le_of_lt h64) (by decide);refine Calls.call_function_entry kind_sorted plain_sorted entry_sorted (args_sorted1 _) ?_;unfold Builtin.«sorted»;refine aAs (m:=checkCount "sorted" 1 1 _) (aAt (aAs (collect_list hl (aAs (wpAny_newList ?_ hbig)) hbig)));unfold sortedAll at h;have z1:((s.heap.push (seqObj "list" #[] 0)).update s.heap.objs.size (Obj.mapSeq (·++vs.toArray))).objs.size=s.heap.objs.size+1:=by rw[Heap.size_update,size_push']
 have oL:(((s.heap.push (seqObj "list" #[] 0)).update s.heap.objs.size (Obj.mapSeq (·++vs.toArray))).push (seqObj "list" vs.toArray 0)).get? (s.heap.objs.size+1)=some (seqObj "list" vs.toArray 0):=z1 ▸ aBB _ rfl;have kp:∀ b o,s.heap.get? b=some o->(((s.heap.push (seqObj "list" #[] 0)).update s.heap.objs.size (Obj.mapSeq (·++vs.toArray))).push (seqObj "list" vs.toArray 0)).get? b=some o:=fun b o q =>
  aAv _ ((Heap.get?_update_ne _ _ _ _ (aBS (aBA q))).trans (aAv _ q))
 show wpAny _ _ _ _ _ { s with heap:=((s.heap.push (seqObj "list" #[] 0)).update s.heap.objs.size (Obj.mapSeq (·++vs.toArray))).push (seqObj "list" vs.toArray 0) };rw[z1];generalize ((s.heap.push (seqObj "list" #[] 0)).update s.heap.objs.size (Obj.mapSeq (·++vs.toArray))).push (seqObj "list" vs.toArray 0)=h2 at oL kp h;refine aAs (wpAny_holding (wpAny_call_entry slot_list_sort ⟨_,oL,rfl⟩ entry_list_sort (yU (s:={ s with heap:=h2 }) (O:=O) (key:=key) (κ:=κ) oL h64 (fun h6 k6=>hC h6 fun b o q=>k6 b o (aBS (Nat.lt_succ_of_lt (aBA q))) (kp b o q)) fun p e u=>⟨_,rfl,?_⟩) (args_list_sort _)));exact aAt ⟨_,rfl,h p e u⟩
end
section
variable {X:Cx}
def wV (X:Cx) (H:Hp) (us:List V) (O:KeyOrd) (key:Nat->O.α) (κ:SortKind):Prop :=
 ∀ (pins:List (Addr×Obj)) (σ:St) (s:Shared) (vs:List Value),Inv X pins σ H s->Vals us vs->B0 X.prog X.w X.A.in1.in1 O key vs κ s
abbrev jL (us:List V) (p:List Nat):List V:=p.map fun i=>us.getD i V.non
theorem qI {us:List V} {vs:List Value} (r:Vals us vs):∀ {q:List Nat},(∀ i∈q,i<vs.length)->Vals (jL us q) (q.map fun i=>vs.getD i Value.none)
 | [],_=>.nil
 | i :: q,h=>.cons (aW r (by rw[r.length];exact h i aAw)) (qI r fun j hj=>h j (aAx _ hj))
theorem uE:eS X (.builtin "sorted") (fun xs H Q=>∃ (a:Addr) (us:List V) (O:KeyOrd) (key:Nat->O.α) (κ:SortKind),xs=[.ref a]/\H a=some (.lst us)/\us.length<64/\wV X H us O key κ /\
 ∀ (l:Addr) (p:Array Nat),H l=none->p.toList.Perm (List.range us.length)->Up O key p us.length->Q (.ref l) (upd H l (.lst (jL us p.toList)))):=by
 intro pins s σ H xs us Q I r h;obtain⟨a,us0,O,key,κ,rfl,ha,h64,hC,q⟩:=h;obtain⟨u,rfl,rx⟩:=iA r;cases rx;obtain⟨its,rv,pl,hz⟩:=I.list (SqL.of ha);have l2:us0.length=its.length:=rv.length;refine Z2 (O:=O) (key:=key) (κ:=κ) pl.isList (by omega) (fun h6 k6=>hC pins σ _ its (I.kept (t':=s.toks) k6) rv) fun p e u=>?_;have pl':p.toList.Perm (List.range its.length):=by
  have:=e.toList;simpa using this
 have pmem:∀ i∈p.toList,i<its.length:=fun i hi=>by
  have:=pl'.mem_iff.mp hi;simpa using this
 have psz:p.toList.length=its.length:=by rw[pl'.length_eq,List.length_range]
 obtain⟨e0,at0⟩:=sortedAll_at s.heap its (fQ its p).toArray;have hn:H (s.heap.objs.size+1)=none:=I.hok.fresh (Nat.le_succ _);refine⟨.ref (s.heap.objs.size+1),_,I.laid (t':=s.toks) (o:=.lst (jL us0 p.toList)) (fun b o e=>sortedAll_old e) (Nat.le_succ _) ⟨?_,fQ its p,e0,qI rv pmem,at0⟩,rfl,q _ p hn (by rw[l2];exact pl') (by rw[l2];exact u)⟩;rw[aAu,psz];exact Nat.le_trans (show its.length<=64 by omega) (by decide)
end
end L2
namespace L2
open PySem PySem.Spec PyProof.Rows
def LamX (f:Addr) (qual:Str) (params:Arguments) (body:Expr) (scope:Scope) (c:Addr):HO:=.ext fun h=>∃ pm ctv,h.get? f=some (PySem.W.kla_obj "<lambda>" qual params body scope [] pm c ctv)
theorem LamX.mk {P:Program} {w:World} {H:Hp} {h:Heap} {f c:Addr} {qual:Str} {params:Arguments} {body:Expr} {scope:Scope} {pm ctv:Value} (h1:h.get? f=some (PySem.W.kla_obj "<lambda>" qual params body scope [] pm c ctv)):ObjOk P w H h f (LamX f qual params body scope c) :=
 ⟨⟨pm,ctv,h1⟩,⟨_,h1⟩,fun g1 g2 ⟨pm,ctv,a⟩ k=>⟨pm,ctv,k _ a⟩⟩
def aAY (qual:Str) (P:Addr) (lpos:Pos) (params:Arguments) (body:Expr) (scope:Scope):TE:=fun σ H Q=>∃ ps,H P=some (.tbl ps)/\TriplesOk ps.toList /\
 ((codeAmong lpos ps.toList=none/\∀ c' f,H c'=none->H f=none->f≠c'->Q (.ref f) (upd (upd (upd H P (.tbl (ps++#[rawInt lpos.line,rawInt lpos.col,.ref c']))) c' (CodeX c' qual)) f (LamX f qual params body scope c'))) \/
 (∃ c',codeAmong lpos ps.toList=some (.ref c')/\H c'=some (CodeX c' qual)/\∀ f,H f=none->Q (.ref f) (upd H f (LamX f qual params body scope c'))))
section
variable {X:Cx}
theorem u8 {params:Arguments} {body:Expr} {scope:Scope} {lpos:Pos} {c P:Addr} (Bd:Body X) (hcode:X.env.code=.ref c) (hC:PySem.W.CodeHd X.base c P) (hbm:lZ X.mg X.base) (hdef:defaultsOf params X.env=([],[])) (hcl:closureFor scope X.env=pure []) :
 PE X (.Lambda params body scope lpos) (aAY (X.env.qual++"<lambda>") P lpos params body scope):=by
 intro pins s σ H Q I h;obtain⟨ps,hPH,htr,h⟩:=h;have hP:s.heap.get? P=some (PySem.W.tabObj ps):=I.hok P _ hPH;obtain⟨bm,ob,b1,b2,b3,b4,b5,b6⟩:=hbm;have hgs:=I.mod.glob.keeps I.bk;have hgP:mainGlobals≠P:=fun z=>by
  obtain⟨o,es,ep,e,hd,_⟩:=hgs;rw[z,hP]at e;cases e;cases hd
 have hbP:bm≠P:=fun z=>by
  have e:=I.bk _ _ b3;rw[z,hP]at e;cases e;cases b4
 have hbG:bm≠mainGlobals:=fun z=>by
  obtain⟨o,es,ep,e,hd,_⟩:=I.mod.glob;rw[z,e]at b3;cases b3;rw[hd]at b6;cases b6
 rcases h with ⟨hnf,h⟩ | ⟨c',hfd,hcH,h⟩
 ·refine PySem.W.kla_eval hdef (PySem.W.kla_makeFunction (mg:=X.mg) hcl I.ok.glob hgs hcode (hC.keeps I.bk) hP htr hnf hgP ⟨bm,ob,b1,b2,hbG,hbP,I.bk _ _ b3,b4,b5,b6⟩ fun c' ctv h' tk ext hge hlt hrec htb=>?_);obtain⟨c₂,oc,vs,t,e2,hoc,hocd,hocv⟩:=hrec;cases e2;generalize hfo:PySem.W.kla_obj "<lambda>" (X.env.qual++"<lambda>") params body scope [] ((X.mg "__name__").getD .none) c' ctv=fo;have kp:∀ b o,b≠P->s.heap.get? b=some o->(h'.push fo).get? b=some o:=fun b o n e=>aAv _ (ext b o n e);have hP':(h'.push fo).get? P=some (PySem.W.tabObj (ps++#[rawInt lpos.line,rawInt lpos.col,.ref c'])):=aAv _ htb;have nP:∀ b,H b=none->b≠P:=fun b q z=>by rw[z,hPH]at q;cases q
  have nT:∀ b u,H b=some u->(∀ qs,u≠.tbl qs)->b≠P:=fun b u q n z=>by rw[z,hPH]at q;cases q;exact n _ rfl
  have un:Un X.fs [] H (upd H P (.tbl (ps++#[rawInt lpos.line,rawInt lpos.col,.ref c']))) s.heap (h'.push fo):=by
   refine⟨fun b o q n _ _=>kp b o (nP b n) q,fun b o q n _ _=>⟨o.slots,kp b o (nP b n) q⟩,fun b o q n _=>by rw[aC (nP b n)];exact n,fun b o q _=>?_,fun b xs q=>?_,fun b o u q=>?_,fun b qs q=>?_⟩
   ·by_cases hb':b=P
    ·rw[hb'];exact⟨_,hP'⟩
    ·exact⟨o,kp b o hb' q⟩
   ·rw[aC (nT b _ q fun _ z=>by cases z)];exact q
   ·rw[aC (nT b _ q fun _ z=>by cases z)];exact q
   ·by_cases hb':b=P
    ·subst hb';rw[hPH]at q;cases q;exact⟨_,aB⟩
    ·exact⟨#[],by rw[aC hb',q];simp⟩
  have hok:HOk X.prog X.w (upd H P (.tbl (ps++#[rawInt lpos.line,rawInt lpos.col,.ref c']))) (h'.push fo):=fun b u q=>by
   by_cases hb':b=P
   ·subst hb';rw[aB]at q;cases q;exact hP'
   ·rw[aC hb']at q;refine(I.hok b u q).stay (fun d v hd' z=>kp d v (fun z'=>?_) z) (fun d z=>by rw[aC (nT d _ z fun _ z=>by cases z)];exact z) fun d xs z=>by rw[aC (nT d _ z fun _ z=>by cases z)];exact z
    subst z';rcases hd' with z1 | z1
    ·exact hb' z1.symm
    ·rw[hPH]at z1;cases z1
  have I1:=I.un (t':=tk) un hok;have hPs:P<s.heap.objs.size:=aBA hP;have hle:s.heap.objs.size<=h'.objs.size:=Nat.le_trans hge (Nat.le_of_lt hlt);have hHP:∀ b,s.heap.objs.size<=b->upd H P (.tbl (ps++#[rawInt lpos.line,rawInt lpos.col,.ref c'])) b=none:=fun b hb'=>by
   rw[aC (aBV (aBL hPs hb'))];exact I.hok.fresh hb'
  have hne:h'.objs.size≠c':=aBV hlt;have tr:∀ {H':Hp} {b:Addr} {φ:Heap->Prop},Inv X pins σ H' { s with heap:=h'.push fo,toks:=tk }->s.heap.objs.size<=b->H' b=none->ObjOk X.prog X.w (upd H' b (.ext φ)) (h'.push fo) b (.ext φ)->Inv X pins σ (upd H' b (.ext φ)) { s with heap:=h'.push fo,toks:=tk }:=fun {H' b φ} J hb hn ho=>by
   have nw:∀ d o,s.heap.get? d=some o->d≠b:=fun d o e z=>by rw[z]at e;exact absurd (aBA e) (Nat.not_lt.mpr hb)
   refine Inv.trackX J hn ho (fun o e _ _=>?_) ?_ (fun x d e z=>?_) (fun p hp z=>?_)
   ·obtain⟨o',e'⟩:=I.base.there b o e (by rw[Bd.ex];simp);exact nw _ _ e' rfl
   ·obtain⟨m,⟨o,es,ep,ho,_⟩,_⟩:=I.loc;exact Ne.symm (nw _ _ ho)
   ·obtain⟨u',o,ho,_⟩:=I.cell x d e;exact nw _ _ ho z
   ·exact nw _ _ (I.pin p hp).1 z
  have I2:=tr I1 hge (hHP _ hge) (CodeX.mk (P:=X.prog) (w:=X.w) (qual:=X.env.qual++"<lambda>") (aAv _ hoc) hocd hocv);have I3:=tr I2 hle (by show upd (upd H P _) c' _ _=none;rw[aC hne];exact hHP _ hle) (LamX.mk (P:=X.prog) (w:=X.w) (params:=params) (body:=body) (scope:=scope) (qual:=X.env.qual++"<lambda>") (c:=c') (pm:=(X.mg "__name__").getD .none) (ctv:=ctv) (by rw[<- hfo];exact aBB _ rfl));exact⟨.ref h'.objs.size,_,I3,rfl,h c' _ (I.hok.fresh hge) (I.hok.fresh hle) hne⟩
 ·refine PySem.W.kla_eval hdef (PySem.W.kla_makeFunctionHit (mg:=X.mg) hcl I.ok.glob hgs hcode (hC.keeps I.bk) hP htr hfd ⟨bm,ob,b1,b2,hbG,hbP,I.bk _ _ b3,b4,b5,b6⟩ fun ctv h' tk ext hle=>?_);exact⟨.ref h'.objs.size,_,I.laid (t':=tk) (fun b o e=>aAv _ (ext b o e)) hle (LamX.mk (aBB _ rfl)),rfl,h _ (I.hok.fresh hle)⟩
theorem Z3 {CX:CXT} {P:Program} {w:World} {K:PySem.W.Frag} {mg:Str->Option Value} {base:Heap} {k:Nat} {f c:Addr} {qual x:Str} {params:Arguments} {body:Expr} {scope:Scope} {N:List Str} {tb:Around->Shared->TE} (S:aV N [x] scope)
 (hb:∀ pm c' ctv u,bindArgs (PySem.W.kla_fn "<lambda>" qual params body scope [] pm (.ref c') ctv) ⟨[u],[]⟩=pure [(x,u)])
 {A:Around} {outer:List Env} {s:Shared} {H:Hp} {v:V} {u:Value} {Q:VK} {E:XK} (hr:Room (k+1) A) (e0:Env0 P w K mg base A outer s H) (hf:H f=some (LamX f qual params body scope c)) (hc:H c=some (CodeX c qual)) (rv:RelV v u)
 (hbody:∃ te,PE (mL CX P w K mg base N qual scope f (.ref c) A outer s H E) body te/\te (fS N [v]) H Q) :
 codeAny (model P w) A (.call (.ref f) ⟨[u],[]⟩) (CR CX outer P w H s Q E) s:=by
 have kp:∀ b o,base.get? b=some o->s.heap.get? b=some o:=fun b o e=>(e0.bs b o e).1;obtain⟨⟨pm,ctv,hfo⟩,_⟩:=e0.hok f _ hf;obtain⟨⟨oc,vs,t,hoc,hd,hv⟩,_⟩:=e0.hok c _ hc;refine PySem.W.kla_callFunE hr.depth hfo rfl S.co S.gen rfl ⟨c,oc,vs,t,rfl,hoc,hd,hv⟩ ?_;rw[hb];refine aAt (wpAny_newFunctionEnv_cells S.kind (fun y hy=>?_) fun env he s1 x1=>?_)
 ·rw[aB1.mp hy];exact(S.par x aAw).imp (fun q=>q) fun q=>⟨q,PySem.W.cellsFrom_some _ _ _ (.inl q)⟩
 subst he;obtain⟨te,ht,hq⟩:=hbody;have I:Inv (mL CX P w K mg base N qual scope f (.ref c) A outer s H E) [] (fS N [v]) H s1:=rM (us:=[u]) S hr.hd e0 rfl (.cons rv .nil) x1;refine⟨(e0.mod.nolimit.keeps kp).keeps x1.toInCall.keep,PySem.W.kla_codeExpr (wpAny_mono (ht [] s1 (fS N [v]) H _ I hq) (fun u' s' hs=>?_) fun _ _ hs=>hs)⟩;obtain⟨v',H',J,rv',q⟩:=hs;exact⟨v',H',J.os,J.bare,J.base,J.hok,rv',q⟩
end
open PySem.W
def mY (tb:TE) (N:List Str) (f c ao kS:Addr) (LX CXo EX:HO):List V->List V->Hp->(List V->Hp->Prop)->Prop
 | [],kus,H,K=>K kus H
 | v :: r,kus,H,K=>tb (fS N [v]) H fun k H'=>H' f=some LX/\H' c=some CXo/\H' ao=some EX/\H' kS=some (.lst kus)/\mY tb N f c ao kS LX CXo EX r (kus++[k]) (upd H' kS (.lst (kus++[k]))) K
def EmpX (a:Addr) (e:Nat):HO:=.ext fun h=>h.get? a=some (seqObj "list" #[] e)
theorem EmpX.mk {P:Program} {w:World} {H:Hp} {h:Heap} {a:Addr} {e:Nat} (h1:h.get? a=some (seqObj "list" #[] e)):ObjOk P w H h a (EmpX a e):=⟨h1,⟨_,h1⟩,fun g1 g2 x k=>k _ x⟩
def u9 (X:Cx) (qual:Str) (params:Arguments) (body:Expr) (scope:Scope) (N:List Str) (tb:TE) (x y:V) (H2:Hp) (Q:VK):Prop:=∃ (a:Addr) (us:List V) (f c:Addr),x=.ref a/\y=.ref f/\H2 a=some (.lst us)/\us.length<64 /\
 H2 f=some (LamX f qual params body scope c)/\H2 c=some (CodeX c qual)/\∀ ao kS EX,H2 ao=none->H2 kS=none->ao≠kS->mY tb N f c ao kS (LamX f qual params body scope c) (CodeX c qual) EX us [] (upd (upd H2 ao EX) kS (.lst [])) fun ks H3 =>
  H3 ao=some EX/\H3 kS=some (.lst ks)/\∃ (O:KeyOrd) (key:Nat->O.α) (κ:SortKind),wV X H3 ks O key κ/\∀ p:Array Nat,p.toList.Perm (List.range us.length)->Up O key p us.length->Q (.ref ao) (upd (upd H3 kS (.lst [])) ao (.lst (jL us p.toList)))
def d8 (X:Cx) (qual:Str) (params:Arguments) (body:Expr) (scope:Scope) (N:List Str) (tb te tl:TE):TE:=fun σ H Q=>te σ H fun x H1=>tl σ H1 fun y H2=>u9 X qual params body scope N tb x y H2 Q
theorem nL:∀ {a:List V} {b:List Value} {a':List V} {b':List Value},Vals a b->Vals a' b'->Vals (a++a') (b++b')
 | _,_,_,_,.nil,h=>h
 | _,_,_,_,.cons r t,h=>.cons r (nL t h)
section
variable {X:Cx}
theorem J3 {k:Nat} {f c:Addr} {qual x:Str} {params:Arguments} {body:Expr} {scope:Scope} {N:List Str} {tb:TE} (S:aV N [x] scope)
 (hb:∀ pm c' ctv u,bindArgs (PySem.W.kla_fn "<lambda>" qual params body scope [] pm (.ref c') ctv) ⟨[u],[]⟩=pure [(x,u)])
 (hbody:∀ (f c:Addr) (A:Around) (outer:List Env) (s:Shared) (H:Hp) (E:XK),Room k (A.deeper (envOfC qual scope s.heap.objs.size f (.ref c)))->PE (mL CX0 X.prog X.w X.K X.mg X.base N qual scope f (.ref c) A outer s H E) body tb)
 (hr:Room (k+3) X.A) {pins:List (Addr×Obj)} {s:Shared} {σ:St} {H:Hp} {Q:VK} (I:Inv X pins σ H s) {l:Addr} {us:List V} (hl:H l=some (.lst us)) (h64:us.length<64)
 (hf:H f=some (LamX f qual params body scope c)) (hc:H c=some (CodeX c qual))
 (h:∀ ao kS EX,H ao=none->H kS=none->ao≠kS->mY tb N f c ao kS (LamX f qual params body scope c) (CodeX c qual) EX us [] (upd (upd H ao EX) kS (.lst [])) fun ks H3 =>
  H3 ao=some EX/\H3 kS=some (.lst ks)/\∃ (O:KeyOrd) (key:Nat->O.α) (κ:SortKind),wV X H3 ks O key κ/\∀ p:Array Nat,p.toList.Perm (List.range us.length)->Up O key p us.length->Q (.ref ao) (upd (upd H3 kS (.lst [])) ao (.lst (jL us p.toList)))) :
 wpAny (model X.prog X.w) X.A (call (.builtin "sorted") [.ref l] [(Str.ofString "key",.ref f)]) (EP X pins σ Q) X.xe s:=by
 obtain⟨vs,rv,pl,hz⟩:=I.list (SqL.of hl);have l2:us.length=vs.length:=rv.length;have h64s:(64:Nat)<=sizeLine:=by decide
 have hbig:vs.length<=sizeLine:=Nat.le_trans (show vs.length<=64 by omega) (by decide);refine call_function_entry_kw kind_sorted plain_sorted entry_sorted (ksk_s1 _ _) ?_;unfold Builtin.«sorted»;refine aAs (m:=checkCount "sorted" 1 1 _) (aAt ?_);refine aAs (collect_list pl.isList ?_ hbig);refine aAs (wpAny_newList ?_ hbig);have z1:((s.heap.push (seqObj "list" #[] 0)).update s.heap.objs.size (Obj.mapSeq (·++vs.toArray))).objs.size=s.heap.objs.size+1:=by rw[Heap.size_update,size_push']
 have oL:(((s.heap.push (seqObj "list" #[] 0)).update s.heap.objs.size (Obj.mapSeq (·++vs.toArray))).push (seqObj "list" vs.toArray 0)).get? (s.heap.objs.size+1)=some (seqObj "list" vs.toArray 0):=z1 ▸ aBB _ rfl;have kp:∀ b o,s.heap.get? b=some o->(((s.heap.push (seqObj "list" #[] 0)).update s.heap.objs.size (Obj.mapSeq (·++vs.toArray))).push (seqObj "list" vs.toArray 0)).get? b=some o:=fun b o q =>
  aAv _ ((Heap.get?_update_ne _ _ _ _ (aBS (aBA q))).trans (aAv _ q))
 show wpAny _ _ _ _ _ { s with heap:=((s.heap.push (seqObj "list" #[] 0)).update s.heap.objs.size (Obj.mapSeq (·++vs.toArray))).push (seqObj "list" vs.toArray 0) };rw[z1];generalize ((s.heap.push (seqObj "list" #[] 0)).update s.heap.objs.size (Obj.mapSeq (·++vs.toArray))).push (seqObj "list" vs.toArray 0)=h2 at oL kp;obtain⟨ao,hao⟩:∃ ao,s.heap.objs.size+1=ao:=⟨_,rfl⟩;have hlo:s.heap.objs.size<=ao:=by omega
 rw[hao]at oL ⊢;clear hao z1;refine aAs (wpAny_holding (wpAny_call_entry_kw slot_list_sort ⟨_,oL,rfl⟩ entry_list_sort ?body (ksk_l1 _ _)))
 case body =>
  show wpAny (model X.prog X.w) X.A.in1.in1 (Builtin.«list.sort» ⟨[.ref ao],[(Str.ofString "key",.ref f)]⟩) _ _ _;rw[ksk_t1];unfold ksk_tree;refine aAs (listItems_at oL rfl ?_);refine aAs (listUpdate_at oL rfl ?_ (by rw[aBC];omega) (Nat.zero_le _));obtain⟨e1,ho1⟩:∃ e1,(h2.update ao (Obj.mapSeq fun _=>(#[]:Array Value))).get? ao=some (seqObj "list" #[] e1):=⟨_,get?_update_seq oL _⟩;refine aAs (seqEpoch_at ho1 rfl ?_);refine aAs (wpAny_newTuple ?_ (by show vs.length<=_;exact hbig));refine aAs (wpAny_newList ?_ (Nat.zero_le _));refine wpAny_holding ?_;have nao:∀ b o,s.heap.get? b=some o->b≠ao:=fun b o q z=>by rw[z]at q;exact absurd (aBA q) (Nat.not_lt.mpr hlo)
  have k3:∀ b o,s.heap.get? b=some o->((h2.update ao (Obj.mapSeq fun _=>(#[]:Array Value))).push (seqObj "tuple" vs.toArray 0)).get? b=some o:=fun b o q =>
   aAv _ ((Heap.get?_update_ne _ _ _ _ (nao b o q)).trans (kp b o q))
  have ho3:((h2.update ao (Obj.mapSeq fun _=>(#[]:Array Value))).push (seqObj "tuple" vs.toArray 0)).get? ao=some (seqObj "list" #[] e1):=aAv _ ho1;show wpAny _ _ _ _ _ { s with heap:=((h2.update ao (Obj.mapSeq fun _=>(#[]:Array Value))).push (seqObj "tuple" vs.toArray 0)).push (seqObj "list" #[] 0) };generalize (h2.update ao (Obj.mapSeq fun _=>(#[]:Array Value))).push (seqObj "tuple" vs.toArray 0)=h3 at k3 ho3;have I3:Inv X pins σ (upd H ao (EmpX ao e1)) { s with heap:=h3,toks:=s.toks }:=I.laid k3 hlo (EmpX.mk ho3);have hks:s.heap.objs.size<=h3.objs.size:=Nat.le_of_lt (Nat.lt_of_le_of_lt hlo (aBA ho3));have hna:H ao=none:=I.hok.fresh hlo;have hnk:H h3.objs.size=none:=I.hok.fresh hks;have hne:ao≠h3.objs.size:=aBS (aBA ho3);have I4:Inv X pins σ (upd (upd H ao (EmpX ao e1)) h3.objs.size (.lst [])) { s with heap:=h3.push (seqObj "list" #[] 0),toks:=s.toks }:=I3.laid (fun b o q=>aAv _ q) (Nat.le_refl _) ⟨Nat.zero_le _,[],0,.nil,aBB _ rfl⟩;have h':=h ao h3.objs.size (EmpX ao e1) (I.hok.fresh hlo) (I.hok.fresh hks) hne;generalize h3.objs.size=kS at I4 h' hne hnk ⊢;unfold ksk_rest;refine aAs (wpAny_rule ?_)
  first
   | rw[List.forIn_toArray]
   | (rw[<- Array.forIn_toList];simp only[List.toList_toArray])
   | rw[<- Array.forIn_toList]
  refine aAs (ksk_fold (fun i s'=>∃ (H':Hp) (kus:List V),Inv X pins σ H' s'/\kus.length=i/\H' kS=some (.lst kus)/\H' f=some (LamX f qual params body scope c)/\H' c=some (CodeX c qual)/\H' ao=some (EmpX ao e1) /\
   mY tb N f c ao kS (LamX f qual params body scope c) (CodeX c qual) (EmpX ao e1) (us.drop i) kus H' fun ks H3 =>
    H3 ao=some (EmpX ao e1)/\H3 kS=some (.lst ks)/\∃ (O:KeyOrd) (key:Nat->O.α) (κ:SortKind),wV X H3 ks O key κ/\∀ p:Array Nat,p.toList.Perm (List.range us.length)->Up O key p us.length->Q (.ref ao) (upd (upd H3 kS (.lst [])) ao (.lst (jL us p.toList)))) vs 0 _ ?start ?step ?done)
  case start=>exact⟨_,[],I4,rfl,aB,by rw[aC (aN hf hnk),aC (aN hf hna)];exact hf,by rw[aC (aN hc hnk),aC (aN hc hna)];exact hc,by rw[aC hne];exact aB,h'⟩
  case step =>
   rintro j v s' hj ⟨H',kus,J,hkl,ek,ef,ec,ea,run⟩;simp only[Nat.zero_add]at hkl run ⊢;have hjl:j<us.length:=by rw[l2];exact(aB7.mp hj).1
   have hv:v=vs.getD j Value.none:=by rw[List.getD_eq_getElem?_getD,hj];rfl
   have rvu:RelV (us.getD j V.non) v:=by rw[hv];exact aW rv hjl
   have dj:us.drop j=us.getD j V.non :: us.drop (j+1):=by
    rw[List.drop_eq_getElem_cons hjl];simp[hjl]
   rw[dj]at run;have call1:wpAny (model X.prog X.w) X.A.in1.in1 (call (.ref f) [v]) (EP X pins σ fun k H'=>H' f=some (LamX f qual params body scope c)/\H' c=some (CodeX c qual)/\H' ao=some (EmpX ao e1)/\H' kS=some (.lst kus) /\
    mY tb N f c ao kS (LamX f qual params body scope c) (CodeX c qual) (EmpX ao e1) (us.drop (j+1)) (kus++[k]) (upd H' kS (.lst (kus++[k]))) fun ks H3 =>
    H3 ao=some (EmpX ao e1)/\H3 kS=some (.lst ks)/\∃ (O:KeyOrd) (key:Nat->O.α) (κ:SortKind),wV X H3 ks O key κ/\∀ p:Array Nat,p.toList.Perm (List.range us.length)->Up O key p us.length->Q (.ref ao) (upd (upd H3 kS (.lst [])) ao (.lst (jL us p.toList)))) (fun _ _=>False) s' :=
    wpAny_call (codeAny_mono (Z3 (k:=k) (CX:=CX0) (tb:=fun _ _=>tb) (E:=fun _ _ _=>False) S hb hr.in1.in1 J.env0.in1.in1 ef ec rvu ⟨tb,hbody _ _ _ _ _ _ _ ((hr.in1.in1).deeper _),run⟩) fun r s'' hq=>by
     cases r with
     | error ev=>exact hq
     | ok fl =>
      cases fl with
      | ret u=>exact J.after hq
      | next=>exact hq.elim
      | brk=>exact hq.elim
      | cont=>exact hq.elim)
   clear run;refine aAs (wpAny_attempt (wpAny_mono call1 (fun u s'' he=>?_) fun _ _ hF=>hF.elim));obtain⟨k1,H1,J1,r1,f1,c1,a1,ek1,run⟩:=he
   try dsimp only
   obtain⟨z1,its,n1,ri,hil,hg⟩:=J1.lstM ek1;have hkj:its.length=j:=by omega
   obtain⟨c2,hc2⟩:∃ c2,(s''.heap.update kS (Obj.mapSeq (·.push u))).get? kS=some (seqObj "list" (its.toArray.push u) c2):=⟨_,get?_update_seq hg (·.push u)⟩;refine aAs (listUpdate_at hg rfl ?_ (by rw[aBC];omega) (by rw[Array.size_push,aBC];have:=h64s;omega));refine aAt ⟨rfl,upd H1 kS (.lst (kus++[k1])),kus++[k1],J1.write (t':=s''.toks) (by rw[ek1];trivial) (.inl rfl) (fun b o hb e=>(Heap.get?_update_ne _ _ _ _ hb).trans e) ⟨_,hc2⟩ ⟨?_,its++[u],c2,nL ri (.cons r1 .nil),?_⟩,by simp[hkl],aB,by rw[aC (aN hf hnk)];exact f1,by rw[aC (aN hc hnk)];exact c1,by rw[aC hne];exact a1,run⟩
   ·rw[aBD,hkl];show j+1<=_;omega
   ·rw[hc2];simp[seqObj]
  case done =>
   rintro s' ⟨H',kus,J,hkl,ek,ef,ec,ea,run⟩;rw[Nat.zero_add,<- l2,List.drop_length]at run;rw[Nat.zero_add]at hkl;obtain⟨_,_,O,key,κ,hC,hQ⟩:=run
   try dsimp only
   obtain⟨z1,ks,n1,ri,hil,hg⟩:=J.lstM ek;obtain⟨hga,_⟩:=J.hok ao _ ea;refine aAs (listItems_at hg rfl ?_);have hkv:ks.length=vs.length:=by omega
   have hCo:B0 X.prog X.w X.A.in1.in1 O key ks κ s':=hC pins σ s' ks J ri;have tail:∀ (st:SortSt) (p:Array Nat),failedOf st=none->(arrOf st).map (·.2)=(fQ vs p).toArray->p.toList.Perm (List.range vs.length)->Up O key p us.length->wpAny (model X.prog X.w) X.A.in1.in1 (ksk_tail ao false e1 (.ref kS) st) (fun r s=>∃ v,r=.done (.ret v)/\wpAny (model X.prog X.w) X.A.in1 (ret (.ref ao)) (fun r s=>∃ v,r=.done (.ret v)/\EP X pins σ Q v s) X.xe s) X.xe s':=fun st p hfl hsn hp hup=>by
    unfold ksk_tail
    try dsimp only
    obtain⟨c2,hc2⟩:∃ c2,(s'.heap.update kS (Obj.mapSeq fun _=>(#[]:Array Value))).get? kS=some (seqObj "list" #[] c2):=⟨_,get?_update_seq hg fun _=>#[]⟩;have J2:Inv X pins σ (upd H' kS (.lst [])) { s' with heap:=s'.heap.update kS (Obj.mapSeq fun _=>(#[]:Array Value)),toks:=s'.toks }:=J.write (by rw[ek];trivial) (.inl rfl) (fun b o hb e=>(Heap.get?_update_ne _ _ _ _ hb).trans e) ⟨_,hc2⟩ ⟨Nat.zero_le _,[],c2,.nil,hc2⟩;have hga2:(s'.heap.update kS (Obj.mapSeq fun _=>(#[]:Array Value))).get? ao=some (seqObj "list" #[] e1):=(Heap.get?_update_ne _ _ _ _ hne).trans hga;have hpl:p.toList.length=vs.length:=by rw[hp.length_eq,List.length_range]
    have hsz:(fQ vs p).toArray.size<=sizeLine:=by
     rw[aBC,aAu,hpl];exact hbig
    rw[hsn,hfl];refine aAs (listUpdate_at hg rfl ?_ (by rw[aBC];omega) (Nat.zero_le _));refine aAs (wpAny_letGo ?_);refine aAs (seqEpoch_at hga2 rfl ?_);simp only[Bool.false_eq_true,if_false];refine aAs (listUpdate_at hga2 rfl ?_ (Nat.zero_le _) (Nat.le_succ_of_le hsz));simp only[bne_self_eq_false,Bool.false_eq_true,if_false];obtain⟨c3,hc3⟩:∃ c3,((s'.heap.update kS (Obj.mapSeq fun _=>(#[]:Array Value))).update ao (Obj.mapSeq fun _=>(fQ vs p).toArray)).get? ao=some (seqObj "list" (fQ vs p).toArray c3):=⟨_,get?_update_seq hga2 fun _=>(fQ vs p).toArray⟩;refine aAt ⟨_,rfl,aAt ⟨_,rfl,.ref ao,upd (upd H' kS (.lst [])) ao (.lst (jL us p.toList)),J2.write (t':=s'.toks) (by rw[aC hne,ea];trivial) (.inl rfl) (fun b o hb e=>(Heap.get?_update_ne _ _ _ _ hb).trans e) ⟨_,hc3⟩ ⟨?_,fQ vs p,c3,qI rv (fun i hi=>?_),hc3⟩,rfl,hQ p (by rw[l2];exact hp) hup⟩⟩
    ·rw[aAu,hpl];exact hbig
    ·have:=hp.mem_iff.mp hi;simpa using this
   unfold ksk_end
   try dsimp only
   simp only[Bool.false_eq_true,if_false]
   by_cases h2':vs.toArray.size<2
   ·rw[if_pos h2',if_pos h2'];refine aAs (aAt ?_);refine aAs (aAt ?_)
    try dsimp only
    have h2'':vs.length<2:=by simpa using h2'
    have ea:(arrOf (SortSt.mk' general' (ks.toArray.zip vs.toArray) #[] 7 none)).map (·.2)=(fQ vs (List.range vs.length).toArray).toArray:=by
     rw[mN h2''];show (ks.toArray.zip vs.toArray).map (·.2)=vs.toArray;apply Array.toList_inj.mp
     simp;exact List.map_snd_zip (Nat.le_of_eq hkv.symm)
    refine wpAny_mono (tail _ (List.range vs.length).toArray rfl ea (by simp) (wU (by omega))) (fun _ _ z=>z) fun _ _ z=>z
   ·rw[if_neg h2',if_neg h2'];have hl2:2<=vs.length:=by simp at h2';omega
    refine aAs (hCo.kind (by omega) _ _ ?_);refine aAs (wpAny_mono (kat_run (s:=s') (κ:=κ) (ks:=ks) (vs:=vs) (Q:=fun st' s''=>s''=s'/\failedOf st'=none/\∃ p:Array Nat,p.Perm (List.range vs.length).toArray/\Up O key p vs.length/\(arrOf st').map (·.2)=(fQ vs p).toArray)
     (G:=fun p s''=>s''=s'/\p.Perm (List.range vs.length).toArray/\Up O key p vs.length) hkv hl2 (by omega) (fun p st' s'' g1 g2 g3 ⟨g4,g5,g6⟩=>⟨g4,g3,p,g5,g6,kat_snds hkv g2⟩) (tF (n:=vs.length) (by rw[<- hkv];exact hCo.ans) (by omega) fun p e u=>⟨rfl,e,u⟩)) ?_ fun _ _ e=>e)
    rintro ⟨⟨⟩,st'⟩ s'' ⟨rfl,hf',p,e,u,ea⟩
    try dsimp only
    refine wpAny_mono (tail _ p hf' ea (by have:=e.toList;simpa using this) (by rw[l2];exact u)) (fun _ _ z=>z) fun _ _ z=>z
end
section
variable {X:Cx} {e lam:Expr} {te tl:TE} {p pos kp:Pos}
theorem U1 {k j:Nat} {qual x:Str} {params:Arguments} {body:Expr} {scope:Scope} {N:List Str} {tb:TE} (hr:Room j X.A) (hg:Gl X "sorted") (hm:X.mg "sorted"=none) (he:PE X e te) (hl:PE X lam tl) (S:aV N [x] scope)
 (hb:∀ pm c' ctv u,bindArgs (PySem.W.kla_fn "<lambda>" qual params body scope [] pm (.ref c') ctv) ⟨[u],[]⟩=pure [(x,u)])
 (hbody:∀ (f c:Addr) (A:Around) (outer:List Env) (s:Shared) (H:Hp) (E:XK),Room k (A.deeper (envOfC qual scope s.heap.objs.size f (.ref c)))->PE (mL CX0 X.prog X.w X.K X.mg X.base N qual scope f (.ref c) A outer s H E) body tb)
 (hj:k+3<=j:=by decide)
 (hs:starEach [e] X.env=(false,eval e X.env) :: starEach [] X.env:=by rfl) (he1:backTo pos (starEach [e] X.env)=(false,eval e X.env) :: backTo pos (starEach [] X.env):=by rfl) (hp1:(backTo pos (starEach [e] X.env)).any (·.1)=false:=by rfl)
 (ha1:(backToKw pos (keywordEach [⟨some "key",lam,kp⟩] X.env)).all (·.1.isSome)=true:=by rfl) (hk1:(backToKw pos (keywordEach [⟨some "key",lam,kp⟩] X.env)).any (·.1.isNone)=false:=by rfl) (hks:(backToKw pos (keywordEach [⟨some "key",lam,kp⟩] X.env)).filterMap (·.1)=([Str.ofString "key"]:List Str):=by rfl) :
 PE X (.Call (.Name "sorted" p) [e] [⟨some "key",lam,kp⟩] pos) (d8 X qual params body scope N tb te tl):=by
 intro pins s σ H Q I h;refine wpAny_Call_Name_kw (hU I hg hm cH ?_);refine callWith_kw ?_ he1 hp1 ha1 hk1;refine thn ((aA he aD hs) pos pins s σ H (fun vs H1=>match vs with | [x]=>tl σ H1 fun y H2=>u9 X qual params body scope N tb x y H2 Q | _=>False) I h) fun us s1 ⟨vs,H1,I1,r1,q1⟩=>?_;obtain⟨x,rfl⟩:∃ x,vs=[x]:=by
  rcases vs with _ | ⟨x,_ | ⟨_,_⟩⟩
  ·exact q1.elim
  ·exact⟨x,rfl⟩
  ·exact q1.elim
 refine thn ((zF hl L4) pos pins s1 σ H1 (fun ks H2=>match ks with | [y]=>u9 X qual params body scope N tb x y H2 Q | _=>False) I1 q1) fun ws s2 ⟨zs,H2,I2,r2,q2⟩=>?_;obtain⟨y,rfl⟩:∃ y,zs=[y]:=by
  rcases zs with _ | ⟨x,_ | ⟨_,_⟩⟩
  ·exact q2.elim
  ·exact⟨x,rfl⟩
  ·exact q2.elim
 obtain⟨a,us,f,c,rfl,rfl,ha,h64,hf,hc,q2⟩:=q2;obtain⟨u,rfl,ru⟩:=r1.one;obtain⟨v,rfl,rv⟩:=r2.one;cases ru;cases rv;rw[hks];exact J3 (k:=k) S hb hbody (hr.mono hj) I2 ha h64 hf hc q2
theorem U2 {k j:Nat} {x:Str} {params:Arguments} {body:Expr} {scope:Scope} {lpos:Pos} {c P:Addr} {N:List Str} {tb:TE} (hr:Room j X.A) (hg:Gl X "sorted") (hm:X.mg "sorted"=none) (he:PE X e te)
 (Bd:Body X) (hcode:X.env.code=.ref c) (hC:PySem.W.CodeHd X.base c P) (hbm:lZ X.mg X.base) (hdef:defaultsOf params X.env=([],[])) (hcl:closureFor scope X.env=pure []) (S:aV N [x] scope)
 (hb:∀ pm c' ctv u,bindArgs (PySem.W.kla_fn "<lambda>" (X.env.qual++"<lambda>") params body scope [] pm (.ref c') ctv) ⟨[u],[]⟩=pure [(x,u)])
 (hbody:∀ (f c:Addr) (A:Around) (outer:List Env) (s:Shared) (H:Hp) (E:XK),Room k (A.deeper (envOfC (X.env.qual++"<lambda>") scope s.heap.objs.size f (.ref c)))->PE (mL CX0 X.prog X.w X.K X.mg X.base N (X.env.qual++"<lambda>") scope f (.ref c) A outer s H E) body tb)
 (hj:k+3<=j:=by decide)
 (hs:starEach [e] X.env=(false,eval e X.env) :: starEach [] X.env:=by rfl) (he1:backTo pos (starEach [e] X.env)=(false,eval e X.env) :: backTo pos (starEach [] X.env):=by rfl) (hp1:(backTo pos (starEach [e] X.env)).any (·.1)=false:=by rfl)
 (ha1:(backToKw pos (keywordEach [⟨some "key",.Lambda params body scope lpos,kp⟩] X.env)).all (·.1.isSome)=true:=by rfl) (hk1:(backToKw pos (keywordEach [⟨some "key",.Lambda params body scope lpos,kp⟩] X.env)).any (·.1.isNone)=false:=by rfl) (hks:(backToKw pos (keywordEach [⟨some "key",.Lambda params body scope lpos,kp⟩] X.env)).filterMap (·.1)=([Str.ofString "key"]:List Str):=by rfl) :
 PE X (.Call (.Name "sorted" p) [e] [⟨some "key",.Lambda params body scope lpos,kp⟩] pos) (d8 X (X.env.qual++"<lambda>") params body scope N tb te (aAY (X.env.qual++"<lambda>") P lpos params body scope)) :=
 U1 hr hg hm he (u8 Bd hcode hC hbm hdef hcl) S hb hbody hj hs he1 hp1 ha1 hk1 hks
end
open PySem.MeetsSeq PySem.SeqAt
def nX:KeyOrd where
 α:=Int
 blt a b:=decide (a<b)
 irrefl a:=by simp
 trans a b c h1 h2:=by simp at *;omega
 negTrans a b c h:=by simp at *;omega
 total a b h1 h2:=by simp at *;omega
section
variable {X:Cx} {H:Hp}
def IsLp (H:Hp) (v:V) (ps:List (Int×Int)):Prop:=∃ l us,v=.ref l/\H l=some (.lst us)/\CW.Prs H us ps
def Z4 (H:Hp) (v:V) (p:Int×List (Int×Int)):Prop:=∃ t x,v=.ref t/\H t=some (.tup [.int p.1,x])/\IsLp H x p.2
theorem IsLp.eq {pins:List (Addr×Obj)} {σ:St} {s:Shared} {A:Around} {x y:V} {u v:Value} {ps:List (Int×Int)} (I:Inv X pins σ H s) (hu:A.units+64<cLine) (hx:IsLp H x ps) (hy:IsLp H y ps) (rx:RelV x u) (ry:RelV y v):EqAt A s u v true:=by
 obtain⟨l,us,rfl,h1,h2⟩:=hx;obtain⟨l',us',rfl,h1',h2'⟩:=hy;cases rx;cases ry
 by_cases e:l=l'
 ·subst e;exact EqAt.same _
 ·obtain⟨as,r1⟩:=(Den.lst h1 (CW.Prs.dens h2)).reads I.hok (u:=.ref l) rfl;obtain⟨bs,r2⟩:=(Den.lst h1' (CW.Prs.dens h2')).reads I.hok (u:=.ref l') rfl;refine EqAt.of_refs e fun prog w E Q hq=>?_;refine eq_dataH r1 r2 (CW.shaped_pairs ps) (CW.shaped_pairs ps) hu ?_;rw[CW.eqv_self (CW.shaped_pairs ps)];exact hq
theorem IsLp.lt {pins:List (Addr×Obj)} {σ:St} {s:Shared} {A:Around} {x y:V} {u v:Value} {ps qs:List (Int×Int)} (I:Inv X pins σ H s) (hu:A.units+64<cLine) (hx:IsLp H x ps) (hy:IsLp H y qs) (rx:RelV x u) (ry:RelV y v) {E:Value->Shared->Prop} {Q:Bool->Shared->Prop} (hq:Q (gN ps qs) s) :
 wpAny (model X.prog X.w) A (oneLt' true u v) Q E s:=by
 obtain⟨l,us,rfl,h1,h2⟩:=hx;obtain⟨l',us',rfl,h1',h2'⟩:=hy;cases rx;cases ry;obtain⟨z,its,n,r,hl,e⟩:=I.lstM h1;obtain⟨z2,its2,n2,r2,hl2,e2⟩:=I.lstM h1';have hv:=jE I r h2;have hv2:=jE I r2 h2';rw[oneLt'_eq];simp only[if_true];refine aAs (wpAny_cRoomFor (by omega) ?_);refine aAs (wpAny_callSpecialIfBound?_slot ⟨_,e,rfl⟩ PySem.F.slot_list_lt (call_meets PySem.F.slot_list_lt ⟨_,e,rfl⟩ PySem.F.entry_list_lt (PySem.F.args_list_lt_2 _ _) (T8 l l' its.toArray its2.toArray n n2 ps qs) ⟨e,e2,hv,hv2,by show A.units+1+1<cLine;omega,?_⟩));exact wpAny_truthy_bool hq
theorem kU {α β:Type} {F:α->β->Prop}:∀ {l:List α} {m:List β},Paired F l m->∀ x∈l,∃ y∈m,F x y
 | _,_,.cons r t,x,h=>by
  rcases aB8.mp h with rfl | h
  ·exact⟨_,aAw,r⟩
  ·obtain⟨y,hy,hf⟩:=kU t x h;exact⟨y,aAx _ hy,hf⟩
theorem aAZ {ks:List V} {ns:List Int} {pss:List (List (Int×Int))} (hu:X.A.units+70<cLine) (h:Paired (IsLp H) ks pss) (ho:∀ i j,i<ks.length->j<ks.length->gN (pss.getD i []) (pss.getD j [])=decide (ns.getD i 0<ns.getD j 0)):wV X H ks nX (fun i=>ns.getD i 0) oneType':=by
 intro pins σ s vs I r;have hl:=r.length;refine⟨fun h2 E Q hq=>?_,fun i j C hi hj hC=>?_⟩
 ·refine kas_kind (T:=.type "list") h2 (fun v hv=>?_) rfl rfl hq;obtain⟨x,hx,rx⟩:∃ x∈ks,RelV x v:=by
   obtain⟨i,hi,e⟩:=List.getElem_of_mem hv;refine⟨ks[i]'(by omega),List.getElem_mem _,?_⟩;have:=aW (x:=V.non) (y:=Value.none) r (i:=i) (by omega);simpa[List.getD,hi,hl ▸ hi,e]using this
  obtain⟨ps,_,l,us,rfl,h1,_⟩:=kU h x hx;cases rx;obtain⟨z,its,n,r,hl,e⟩:=I.lstM h1;exact(Looks.ld e).andThen .now
 ·unfold kas_ask;rw[keyLt'_oneType];have a1:=aW (x:=V.non) (y:=Value.none) r (i:=i) (by omega);have a2:=aW (x:=V.non) (y:=Value.none) r (i:=j) (by omega);have b1:=aW (x:=V.non) (y:=([]:List (Int×Int))) h (i:=i) (by omega);have b2:=aW (x:=V.non) (y:=([]:List (Int×Int))) h (i:=j) (by omega);refine IsLp.lt I (by show X.A.units+1+1+64<cLine;omega) b1 b2 a1 a2 ?_;rw[ho i j (by omega) (by omega)];exact hC
theorem v0 {us:List V} {its:List (Int×List (Int×Int))} (hu:X.A.units+70<cLine) (h:Paired (Z4 H) us its) (hs:∀ p∈its,∀ q∈its,p.1=q.1->p.2=q.2):wV X H us nX (fun i=>(its.getD i (0,[])).1) (tuples' true):=by
 intro pins σ s vs I r;have hl:=r.length;have at1:∀ {x:V} {v:Value} {p:Int×List (Int×Int)},RelV x v->Z4 H x p->∃ t o n k1 w y,v=.ref t/\s.heap.get? t=some o/\o.cls=.type "tuple"/\o.data=.seq #[.int p.1 k1,w] n/\RelV y w/\IsLp H y p.2:=fun {x v p} rx hx=>by
  obtain⟨t,y,rfl,h1,h2⟩:=hx;cases rx;obtain⟨_,its',rv',o,ho,hc,n,hd⟩:=(show ObjOk X.prog X.w H s.heap t (.tup [.int _,y]) from I.hok t _ h1);obtain⟨u1,u2,rfl,⟨k1,rfl⟩,r2⟩:=rv'.two;exact⟨t,o,n,k1,u2,y,rfl,ho,hc,hd,r2,h2⟩
 refine⟨fun h2 E Q hq=>?_,fun i j C hi hj hC=>?_⟩
 ·have fs:∀ {us:List V} {vs:List Value} {its:List (Int×List (Int×Int))},Vals us vs->Paired (Z4 H) us its->∃ fs:List Value,KatTups s.heap vs fs/\fs.length=vs.length/\∀ v∈fs,∃ i t,v=Value.int i t:=by
   intro us
   induction us with
   | nil=>intro vs its a b;cases a;exact⟨[],.nil,rfl,fun v hv=>(by cases hv)⟩
   | cons x us ih =>
    intro vs its a b;cases a with
    | cons a1 a2 =>
     cases b with
     | cons b1 b2 =>
      obtain⟨fs,f1,f2,f3⟩:=ih a2 b2;obtain⟨t,o,n,k1,w,y,rfl,ho,hc,hd,_,_⟩:=at1 a1 b1;refine⟨.int _ k1 :: fs,.cons ho hc hd rfl f1,by simp[f2],fun v hv=>?_⟩;rcases aB8.mp hv with z | z
      ·exact⟨_,_,z⟩
      ·exact f3 v z
  obtain⟨fs,f1,f2,f3⟩:=fs r h;refine kat_kind (T:=.type "int") f1 (by omega) (fun v hv=>?_) rfl hq;obtain⟨i,t,rfl⟩:=f3 v hv;exact Looks.now
 ·unfold kas_ask;have a1:=aW (x:=V.non) (y:=Value.none) r (i:=i) (by omega);have a2:=aW (x:=V.non) (y:=Value.none) r (i:=j) (by omega);have b1:=aW (x:=V.non) (y:=((0:Int),([]:List (Int×Int)))) h (i:=i) (by omega);have b2:=aW (x:=V.non) (y:=((0:Int),([]:List (Int×Int)))) h (i:=j) (by omega);have hm:∀ i,i<vs.length->its.getD i (0,[])∈its:=fun i hi=>by
   have:=h.length;have hi':i<its.length:=by omega
   rw[List.getD_eq_getElem?_getD,aBE hi'];exact List.getElem_mem _
  have hs':=hs _ (hm i hi) _ (hm j hj);have hC':C (decide ((its.getD i (0,[])).1<(its.getD j (0,[])).1)) s:=hC;clear hC hm;generalize its.getD i (0,[])=p at b1 hs' hC';generalize its.getD j (0,[])=q at b2 hs' hC';obtain⟨t,o,n,k1,w,y,e1,ho,hc,hd,ry,hy⟩:=at1 a1 b1;obtain⟨t',o',n',k1',w',y',e1',ho',hc',hd',ry',hy'⟩:=at1 a2 b2;rw[e1,e1'];refine kat_lt ho hd ho' hd' ?_;refine kat_cons (wpAny_eqBool_int ?_)
  by_cases g1:p.1=q.1
  ·rw[show (p.1 == q.1)=true by simpa using g1];refine kat_yes (kat_cons ?_);rw[<- hs' g1]at hy';refine IsLp.eq I (by show X.A.units+1+1+64<cLine;omega) hy hy' ry ry' _ _ _ _ ?_;refine kat_yes (kat_nil ?_);rw[show decide (p.1<q.1)=false by simp;omega]at hC';exact hC'
  ·rw[show (p.1 == q.1)=false by simpa using g1];exact kat_no (oneLt_int hC')
end
end L2
namespace CW
open PySem L2
theorem qJ:∀ {l:List Int},(∀ s∈l,s<=12)->l.sum<=12 * (l.length:Int)
 | [],_=>by simp
 | x :: l,h=>by
  have h1:=h x aAw;have h2:=qJ (l:=l) fun s hs=>h s (aAx _ hs);rw[aBX,aBY];omega
theorem B1:∀ (ns:List Int) (m:Int),nW ns m<=ns.sum
 | [],_=>by simp[nW]
 | n :: ns,m=>by
  have:=B1 ns m;unfold nW at *;rw[aBU,aBX,aBX];split <;> omega
theorem Z5 {n:Nat} {room:Int} (h:0<=room):0<chO n room:=by
 unfold chO;rw[if_neg (by omega)];obtain⟨r,rfl⟩:∃ r:Nat,room=(r:Int):=⟨room.toNat,by omega⟩;rw[uA];have:=yO r n;omega
theorem sN {niches:Int} {ns:List Int} (h:2 * ns.sum<=niches):∀ ms:List Int,0<bF niches ns ms
 | []=>by show (0:Int)<1;decide
 | m :: ms=>by
  rw[eW];refine Int.mul_pos (Z5 ?_) (sN h ms);have:=B1 ns m;unfold aI;omega
theorem wW:∀ ps:Trs,gN ps ps=false
 | []=>rfl
 | p :: ps=>by rw[gN,if_pos rfl];exact wW ps
theorem sO:∀ {ps qs:Trs},gN ps qs=true->gN qs ps=false
 | [],[],h=>by cases h
 | [],_ :: _,_=>rfl
 | _ :: _,[],h=>by cases h
 | p :: ps,q :: qs,h=>by
  rw[gN]at h ⊢
  by_cases e:p=q
  ·rw[if_pos e]at h;rw[if_pos e.symm];exact sO h
  ·rw[if_neg e]at h;rw[if_neg (Ne.symm e)];rw[dH]at h;rw[eJ];omega
def NlN (lm:Addr) (H:Hp) (v:V) (p:Int×Trs):Prop:=∃ t l us,v=.ref t/\H t=some (.tup [.int p.1,.ref l])/\l≠lm/\H l=some (.lst us)/\Prs H us p.2
theorem NlN.nl {lm:Addr} {H:Hp} {v:V} {p:Int×Trs} (h:NlN lm H v p):Z4 H v p:=by
 obtain⟨t,l,us,e,h1,_,h2,h3⟩:=h;exact⟨t,.ref l,e,h1,l,us,rfl,h2,h3⟩
theorem NlN.same {lm:Addr} {H H':Hp} {v:V} {p:Int×Trs} (g:Same H H') (h:NlN lm H v p):NlN lm H' v p:=by
 obtain⟨t,l,us,e,h1,h0,h2,h3⟩:=h;exact⟨t,l,us,e,g _ _ h1,h0,g _ _ h2,h3.mono (TupS.same g)⟩
theorem NlN.upd {lm:Addr} {H:Hp} {v:V} {p:Int×Trs} {xs ys:List V} (hl:H lm=some (.lst xs)) (h:NlN lm H v p):NlN lm (L2.upd H lm (.lst ys)) v p:=by
 obtain⟨t,l,us,e,h1,h0,h2,h3⟩:=h;exact⟨t,l,us,e,by rw[aC (fH h1 hl (fun z=>by cases z))];exact h1,h0,by rw[aC h0];exact h2,h3.mono (TupS.lst hl)⟩
def nlD (p:Int×Trs):PyData:=.tuple [.int p.1,.list (p.2.map pD)]
theorem NlN.den {lm:Addr} {H:Hp} {v:V} {p:Int×Trs} (h:NlN lm H v p):Den H v (nlD p):=by
 obtain⟨t,l,us,rfl,h1,h0,h2,h3⟩:=h;exact .tup h1 (.cons (.int _) (.cons (.lst h2 h3.dens) .nil))
theorem J4 (ps:List (Int×Trs)):PyData.canLayAll0 (ps.map nlD)=true:=by
 induction ps with
 | nil=>rfl
 | cons p r ih=>simp[PyData.canLayAll0,PyData.canLay0,nlD,ih,lH]
theorem U3 (ps:List (Int×Trs)):PyData.depthAll (ps.map nlD)<=3:=by
 induction ps with
 | nil=>simp[PyData.depthAll]
 | cons p r ih =>
  have:=nD p.2;simp[PyData.depthAll,nlD,PyData.depth];omega
theorem mZ (ps:List (Int×Trs)):SeqAt.shaped (.list (ps.map nlD))=true:=by
 have h:=U3 ps;simp only[SeqAt.shaped,PyData.canLay0,J4,PyData.depth,Bool.true_and];exact aBR (by omega)
theorem Z6 {x y:Int} (h:nX.kle x y):x<=y:=by
 have z:decide (y<x)=false:=h;exact Int.not_lt.mp (of_decide_eq_false z)
theorem U4 {its:List (Int×Trs)} {p:Array Nat} {n:Nat} (hp:p.toList.length=n) (up:Up nX (fun i=>(its.getD i (0,[])).1) p n):(p.toList.map fun i=>(its.getD i (0,[])).1).Pairwise (·<=·):=by
 rw[List.pairwise_iff_getElem];intro i j hi hj hij;simp only[aAu]at hi hj;have z:=up i j (Nat.le_of_lt hij) (by omega);have gd:∀ (k:Nat) (hk:k<p.toList.length),(p.toList.map fun i=>(its.getD i (0,[])).1)[k]'(by simpa using hk)=KP nX (fun i=>(its.getD i (0,[])).1) p k:=fun k hk=>by
  unfold KP;rw[List.getElem_map,Array.getElem_toList,Array.getD,dif_pos (by simpa using hk)];rfl
 rw[gd i hi,gd j hj];generalize KP nX (fun i=>(its.getD i (0,[])).1) p j=x at z;generalize KP nX (fun i=>(its.getD i (0,[])).1) p i=y at z;exact Z6 z
theorem w4 {its:List (Int×Trs)} {p q:Array Nat} (hs:∀ p∈its,∀ q∈its,p.1=q.1->p.2=q.2) (hp:p.toList.Perm (List.range its.length)) (hq:q.toList.Perm (List.range its.length)) (up:Up nX (fun i=>(its.getD i (0,[])).1) p its.length) (uq:Up nX (fun i=>(its.getD i (0,[])).1) q its.length) :
 p.toList.map (fun i=>its.getD i (0,[]))=q.toList.map (fun i=>its.getD i (0,[])):=by
 have lp:p.toList.length=its.length:=by rw[hp.length_eq,List.length_range]
 have lq:q.toList.length=its.length:=by rw[hq.length_eq,List.length_range]
 have e:(p.toList.map fun i=>(its.getD i (0,[])).1)=q.toList.map fun i=>(its.getD i (0,[])).1 :=
  ((hp.map _).trans (hq.map _).symm).eq_of_pairwise (le:=(·<=·)) (fun _ _ _ _ h1 h2=>Int.le_antisymm h1 h2) (U4 lp up) (U4 lq uq)
 have mem:∀ {r:List Nat},r.Perm (List.range its.length)->∀ i∈r,its.getD i (0,[])∈its:=fun hr i hi=>by
  have:=List.mem_range.mp (hr.mem_iff.mp hi);rw[List.getD_eq_getElem?_getD,aBE this];exact List.getElem_mem _
 refine List.ext_getElem (by simp[lp,lq]) fun k h1 h2=>?_;simp only[aAu]at h1 h2;rw[List.getElem_map,List.getElem_map];have ek:(its.getD (p.toList[k]) (0,[])).1=(its.getD (q.toList[k]) (0,[])).1:=by
  have:=congrArg (fun l=>l[k]?) e;simp only[aBT,aBE h1,aBE h2,Option.map_some,Option.some.injEq]at this;exact this
 exact Prod.ext ek (hs _ (mem hp _ (List.getElem_mem _)) _ (mem hq _ (List.getElem_mem _)) ek)
theorem qK {lm:Addr} {H:Hp} {us:List V} {its:List (Int×Trs)} (h:Paired (NlN lm H) us its):∀ {q:List Nat},(∀ i∈q,i<us.length)->Dens H (jL us q) ((q.map fun i=>its.getD i (0,[])).map nlD)
 | [],_=>.nil
 | i :: q,hq=>.cons (aW (x:=V.non) (y:=((0:Int),([]:Trs))) h (hq i aAw)).den (qK h fun j hj=>hq j (aAx _ hj))
theorem qL {tb:TE} {N:List Str} {f c ao kS:Addr} {LX CXo EX:HO} {R:Hp->V->V->Prop} {K:List V->Hp->Prop} (nf:f≠kS) (nc:c≠kS) (na:ao≠kS) (monoR:∀ H1 H2 v k,SameP kS H1 H2->R H1 v k->R H2 v k) :
 ∀ (us kus:List V) (H:Hp),H f=some LX->H c=some CXo->H ao=some EX->H kS=some (.lst kus) ->
  (∀ v∈us,∀ (H':Hp) (Q:VK),SameP kS H H'->(∀ k H'',Same H' H''->R H'' v k->Q k H'')->tb (fS N [v]) H' Q) ->
  (∀ ks H',Paired (R H') us ks->SameP kS H H'->H' kS=some (.lst (kus++ks))->K (kus++ks) H')->mY tb N f c ao kS LX CXo EX us kus H K
 | [],kus,H,hf,hc,ha,hk,_,fin=>by
  have:=fin [] H .nil (fun _ _ _ e=>e) (by rw[List.append_nil];exact hk);rw[List.append_nil]at this;exact this
 | v :: us,kus,H,hf,hc,ha,hk,step,fin=>by
  refine step v aAw H _ (fun _ _ _ e=>e) fun k H1 g r=>⟨g _ _ hf,g _ _ hc,g _ _ ha,g _ _ hk,?_⟩;have g2:SameP kS H (upd H1 kS (.lst (kus++[k]))):=fun b o n e=>by rw[aC n];exact g _ _ e
  refine qL nf nc na monoR us (kus++[k]) _ (g2 _ _ nf hf) (g2 _ _ nc hc) (g2 _ _ na ha) aB (fun v hv H' Q g' hQ=>step v (aAx _ hv) H' Q (g2.trans g') hQ) fun ks H' pr g' ek=>?_;rw[List.append_assoc]at ek ⊢;exact fin (k :: ks) H' (.cons (monoR _ _ _ _ ((SameP.tbl (o:=.lst (kus++[k]))).trans g') r) pr) (g2.trans g') ek
theorem NlN.sameP {lm PT:Addr} {H H':Hp} {v:V} {p:Int×Trs} {ps:Array Value} (hP:H PT=some (.tbl ps)) (g:SameP PT H H') (h:NlN lm H v p):NlN lm H' v p:=by
 obtain⟨t,l,us,e,h1,h0,h2,h3⟩:=h;exact⟨t,l,us,e,g _ _ (tY hP h1 fun _ z=>by cases z) h1,h0,g _ _ (tY hP h2 fun _ z=>by cases z) h2,h3.mono fun b xs e=>g _ _ (tY hP e fun _ z=>by cases z) e⟩
theorem w6 {X:Cx} {H:Hp} {ks:List V} {its:List (Int×Trs)} (hu:X.A.units+70<cLine) (h:Paired (IsLp H) ks (its.map (·.2))) (ho:∀ i j,i<ks.length->j<ks.length->gN (its.getD i (0,[])).2 (its.getD j (0,[])).2=decide ((its.getD i (0,[])).1<(its.getD j (0,[])).1)) :
 wV X H ks nX (fun i=>(its.getD i (0,[])).1) PyProof.Rows.oneType':=by
 have e1:∀ i,(its.map (·.1)).getD i 0=(its.getD i (0,[])).1:=fun i=>by
  simp only[List.getD_eq_getElem?_getD,aBT];cases its[i]? <;> rfl
 have e2:∀ i,(its.map (·.2)).getD i []=(its.getD i (0,[])).2:=fun i=>by
  simp only[List.getD_eq_getElem?_getD,aBT];cases its[i]? <;> rfl
 have:=aAZ (ns:=its.map (·.1)) hu h fun i j hi hj=>by rw[e1,e1,e2,e2];exact ho i j hi hj
 rw[show (fun i=>(its.map (·.1)).getD i 0)=fun i=>(its.getD i (0,[])).1 from funext e1]at this;exact this
theorem B2 {lm:Addr} {H H':Hp} (g:Same H H'):∀ {us ks:List V} {its:List (Int×Trs)},Paired (NlN lm H) us its->Paired (fun v k=>∃ t n,v=.ref t/\H t=some (.tup [.int n,k])) us ks->Paired (IsLp H') ks (its.map (·.2))
 | _,_,_,.nil,.nil=>.nil
 | _,_,_,.cons ⟨t,l,us,e,h1,h0,h2,h3⟩ r,.cons ⟨t',n,e',h1'⟩ r'=>by
  subst e;cases e';rw[h1]at h1';cases h1';exact .cons ⟨l,us,rfl,g _ _ h2,h3.mono (TupS.same g)⟩ (B2 g r r')
inductive uF (vs:List V) (H:Hp) (Q:VK) (E_:XK):Prop
 | mk (niches:Int) (a:Addr) (row:List Int) (h0_:vs=[.int niches,.ref a]) (h1_:H a=some (.lst (row.map V.int))) (h2_:Row row) (h3_:row.length<=60) (h4_:0<=niches) (h5_:niches<=200) (h6_:∀ ps,Lst row ps->AllIn niches ps)
  (h7_:∀ ps ms,Lst row ps->ps.Pairwise ple->Dst (ps.map (·.1)) ms->AllIn niches ps->∀ H',Same H H'->Q (.int (nmM niches ps ms)) H'):uF vs H Q E_
def top (i:Nat):Stmt:=PySem.Challenge.pw_creelway_k38_great_niches_numbered.main.body.getD i (.Pass ⟨0,0,0,0⟩)
section
variable {P:Program} {w:World} {K:PySem.W.Frag} {mg:Str->Option Value} {base:Heap}
abbrev eX:Stmt:=top 9
theorem nM:aV ["row","at"] ["row"] (aE eX):=⟨rfl,rfl,rfl,by decide +kernel,rfl,by decide +kernel,by decide +kernel⟩
theorem Z7 {f:Addr} {fd:FuncData} {tC:Tok} (F:Fun K "look_row" "look_row" eX f fd) (B:Bt mg) (C:Cn mg tC):FnOk P w K mg base CX0 1 f fd ["row"] oY:=by
 refine F.ok nM (fun vs H Q E h=>?_) (fun cdv A outer s H vs Q E hr h=>?_)
 ·obtain⟨a,r,rfl,_⟩:=h;rfl
 ·obtain⟨a,row,rfl,ha,hrow,hlen,k⟩:=h;refine⟨_,(aF (cY (aX iT (aJ bD (by rfl) B.len PySem.boot_len (aA (pv 0) aD)) (nY (v:=.int 60) rfl C.MOST_STONES ⟨_,rfl⟩) (aZ _))
 (aH eA)
 bS)
 (aH (cK PassesOwn.never rfl (jR rfl B.range (aA aG (aA (aJ bD (by rfl) B.len PySem.boot_len (aA (pv 0) aD)) aD))) (aK (i:=1) nM.nd rfl (Or.inl rfl))
 (aH (cY (aX K9 (fI eE (pv 0) (pv 1) (fun _ _=>rfl)) (fI eE (pv 0) (aL cD (pv 1) aG) (fun _ _=>rfl)) (aZ _))
 (aH eA)
 bS))))),?_⟩
  refine⟨_,rfl,a,_,rfl,.inl (SqL.of ha),_,_,rfl,rfl,_,rfl,eF (by rw[aAu];omega) ?_⟩;refine⟨_,rfl,a,_,rfl,.inl (SqL.of ha),_,_,rfl,⟨by decide,by decide,by omega,by rw[aAu];omega⟩,dS (lo:=1) (fun i σ H2=>∃ v,σ=[some (.ref a),v]/\H2=H) ⟨none,rfl,rfl⟩ ?_ ?_⟩
  ·rintro i σ H2 hi ⟨v,rfl,rfl⟩;rw[aAu]at hi;obtain⟨x,_,hx,ex⟩:=hW (ns:=row) (i:=1+(i:Int)) (by omega) (by omega);obtain⟨y,_,hy,ey⟩:=hW (ns:=row) (i:=1+(i:Int) - 1) (by omega) (by omega);refine⟨_,rfl,_,rfl,a,_,_,_,rfl,rfl,SqL.of ha,ex,_,rfl,_,rfl,_,_,rfl,rfl,a,_,_,_,rfl,rfl,SqL.of ha,ey,_,_,rfl,rfl,_,rfl,eF ?_ ⟨_,rfl,rfl⟩⟩;have:=hrow.lt (show (1+(i:Int) - 1).toNat<(1+(i:Int)).toNat by omega) hy hx;omega
  ·rintro σ H2 ⟨v,rfl,rfl⟩;exact k
abbrev cJ:Stmt:=top 11
theorem eP:aV ["trains","at","size","offset"] ["trains"] (aE cJ):=⟨rfl,rfl,rfl,by decide +kernel,rfl,by decide +kernel,by decide +kernel⟩
theorem qM {f:Addr} {fd:FuncData} {tC:Tok} (F:Fun K "look_trains" "look_trains" cJ f fd) (B:Bt mg) (C:Cn mg tC):FnOk P w K mg base CX0 1 f fd ["trains"] oB:=by
 refine F.ok eP (fun vs H Q E h=>?_) (fun cdv A outer s H vs Q E hr h=>?_)
 ·obtain⟨a,r,rfl,_⟩:=h;rfl
 ·obtain⟨a,ps,rfl,⟨us,ha,pr⟩,ht,k⟩:=h;have hul:us.length<=60:=by rw[pr.len];exact ht.len
  refine⟨_,(aF (cK PassesOwn.never rfl (tE rfl B.enumerate (aA (pv 0) aD)) (gD rfl (aP (aK (i:=1) eP.nd rfl (Or.inl rfl)) (aP (gD rfl (aP (aK (i:=2) eP.nd rfl (Or.inl rfl)) (aP (aK (i:=3) eP.nd rfl (Or.inl rfl)) cF))) cF)))
 (aH (cY (aX iX (pv 2) aG (aZ _))
 (aH eA)
 bS)))
 (aH (cY (aX iT (aJ (eI rfl) (by rfl) B.sum eG (aA (fE ["size","offset"] [] [] rfl (.of (show cZ (aE cJ) _ ["trains","at","size","offset"] [] []=true by decide +kernel)) (bW (pv 0)) (fun _ _ _=>(gU (n:=2) K rfl rfl (aP (aK (i:=0) (show (["size","offset"]:List Str).Nodup by decide +kernel) rfl (Or.inl rfl)) (aP (aK (i:=1) (show (["size","offset"]:List Str).Nodup by decide +kernel) rfl (Or.inl rfl)) cF)))) (iZ (bZ (by decide) (bZ (by decide) gT))) (fun _ _ _=>cP) (fun _ _ _=>(pv 0))) aD)) (nY (v:=.int 60) rfl C.MOST_STONES ⟨_,rfl⟩) (aZ _))
 (aH eA)
 bS))),?_⟩
  refine⟨_,rfl,a,_,rfl,SqL.of ha,pC (K:=K) (a:=a) (xs:=us) (fun i σ H2=>∃ v1 v2 v3,σ=[some (.ref a),v1,v2,v3]/\Same H H2) ⟨none,none,none,rfl,Same.refl _⟩ (fun i σ H2 _ ⟨_,_,_,_,sm⟩=>SqL.of (sm _ _ ha)) ?_ ?_⟩
  ·rintro i x σ H2 t hi ⟨v1,v2,v3,rfl,sm⟩ hn;obtain⟨p,t',hp,rfl,et⟩:=cM pr hi;have sm2:Same H (upd H2 t (.tup [.int i,.ref t'])):=sm.trans (Same.upd hn);have e1:=sm2 _ _ et;refine⟨t,_,rfl,SqT.of aB,rfl,_,_,rfl,_,_,rfl,⟨t',_,rfl,SqT.of e1,rfl,_,_,rfl,_,_,rfl,rfl,rfl,?_⟩⟩;have:=ht.pos p (aBF hp);exact⟨_,rfl,_,_,rfl,rfl,_,rfl,eF (by omega) ⟨_,_,_,rfl,sm2⟩⟩
  ·rintro σ H2 ⟨v1,v2,v3,rfl,sm⟩;refine⟨_,rfl,a,rfl,⟨_,SqL.of (sm _ _ ha)⟩,cU (K:=K) (a:=a) (xs:=us) (fun i ys H3=>H3=H2/\ys=((ps.take i).map (·.1)).map V.int) ⟨rfl,rfl⟩ ?_ ?_ ?_⟩
   ·rintro i ys H3 hi ⟨rfl,rfl⟩;exact⟨SqL.of (sm _ _ ha),vC _ _ (by omega) _⟩
   ·rintro i x ys H3 hi ⟨rfl,rfl⟩;obtain⟨p,t',hp,rfl,et⟩:=cM pr hi;exact⟨t',_,rfl,SqT.of (sm _ _ et),rfl,_,_,rfl,_,_,rfl,rfl,_,rfl,rfl,kP (·.1) hp⟩
   ·rintro ys H3 ⟨rfl,rfl⟩ D hD;have e:us.length=ps.length:=pr.len;refine⟨D,szs ps,rfl,by rw[aB,e,aBI];rfl,_,_,rfl,rfl,_,rfl,eF ?_ (k _ (sm.trans (Same.upd hD)))⟩;have:=ht.few;omega
abbrev gB:Stmt:=top 12
theorem iO:aV ["trains","offsets","size","offset"] ["trains"] (aE gB):=⟨rfl,rfl,rfl,by decide +kernel,rfl,by decide +kernel,by decide +kernel⟩
inductive qN (H:Hp) (a:Addr) (d:Addr) (l:Addr) (us':List V) (qs:Trs) (i:Nat) (σ:St) (H3:Hp):Prop
 | mk (gs:List Grp) (v1 v2:Option V) (k0_:σ=[some (.ref a),some (.ref d),v1,v2]) (k1_:Same H H3) (k2_:H3 l=some (.lst us')) (k3_:Prs H3 us' qs) (k4_:DG H3 d gs) (k5_:(∀ g∈gs,H g.2.1=none/\g.2.1≠l/\g.2.1≠d)) (k6_:((bB gs).Perm (qs.take i)/\Asc gs)) (k7_:gs.length<=i) (k8_:∀ g∈gs,g.2.2.length<=i/\g.2.2≠[]):qN H a d l us' qs i σ H3
theorem yV {f:Addr} {fd:FuncData} (F:Fun K "by_size" "by_size" gB f fd) (B:Bt mg):FnOk P w K mg base CX0 1 f fd ["trains"] kB:=by
 refine F.ok iO (fun vs H Q E h=>?_) (fun cdv A outer s H vs Q E hr h=>?_)
 ·obtain⟨a,r,rfl,_⟩:=h;rfl
 ·obtain⟨a,ps,rfl,⟨us,ha,pr⟩,hpl,k⟩:=h;refine⟨_,(aF (aQ (i:=1) iO.nd rfl (Or.inl rfl) pH)
 (aF (cK PassesOwn.never rfl (bW (aJ lK (by rfl) B.sorted cH (aA (pv 0) aD))) (gD rfl (aP (aK (i:=2) iO.nd rfl (Or.inl rfl)) (aP (aK (i:=3) iO.nd rfl (Or.inl rfl)) cF)))
 (aH (bN (gS aB3 aB4 aB5 dF (zN (pv 1) (pv 2) (hV aD) ⟨rfl,rfl,rfl,rfl⟩) (aA (pv 3) aD)))))
 (aH (bQ (pv 1))))),?_⟩
  refine fun d hd=>?_;have g1:=Same.upd (o:=.dK []) hd;have ed:(upd H d (.dK [])) d=some (.dK (kvG [])):=aB;generalize upd H d (.dK [])=H1 at g1 ed ⊢;refine⟨_,rfl,a,us,ps,rfl,g1 _ _ ha,pr.mono (TupS.same g1),by omega,fun l us' qs hl pr' hperm hsort=>?_⟩;have g2:=Same.upd (o:=.lst us') hl;have el:(upd H1 l (.lst us')) l=some (.lst us'):=aB;have pr2:=pr'.mono (TupS.same g2);have ed2:=g2 _ _ ed;generalize upd H1 l (.lst us')=H2 at g2 el pr2 ed2 ⊢;have eu:us'.length=ps.length:=by rw[pr2.len,hperm.length_eq]
  have hld:l≠d:=fH el ed2 (by intro z;cases z);have g12:=g1.trans g2;have hHl:H l=none:=g1.free hl;refine⟨l,rfl,⟨_,SqL.of el⟩,eC (K:=K) (a:=l) (xs:=us') (qN H a d l us' qs)
   ⟨[],none,none,rfl,g12,el,pr2,⟨ed2,fun g hg=>(nomatch hg),List.Pairwise.nil,List.Pairwise.nil⟩,fun g hg=>(nomatch hg),⟨.refl _,fun g hg=>(nomatch hg)⟩,Nat.le_refl _,fun g hg=>(nomatch hg)⟩ (fun i σ H3 _ z_=>by obtain⟨_,_,_,_,_,e,_⟩:=z_;exact SqL.of e) ?_ ?_⟩
  ·rintro i x σ H3 hi ⟨gs,v1,v2,rfl,sm,el3,pr3,dg,hfr,⟨hw,hac⟩,hgl,hgn⟩;obtain⟨p,t',hp,rfl,et⟩:=cM pr3 hi;have hple:∀ q∈bB gs,q.1=p.1->q.2<=p.2:=fun q hq e=>by
    obtain⟨k',hk',hqk⟩:=List.mem_iff_getElem.mp (hw.mem_iff.mp hq);have hki:k'<i:=by rw[aBK]at hk';omega
    have hkq:k'<qs.length:=by rw[aBK]at hk';omega
    have hpi:=(aB7.mp hp);have h3:=List.pairwise_iff_getElem.mp hsort k' i hkq hpi.1 hki;rw[hpi.2]at h3;rw[List.getElem_take]at hqk;rw[hqk]at h3;unfold ple at h3;omega
   have htk:∀ l:Trs,l.Perm (p :: bB gs)->l.Perm (qs.take (i+1)):=fun l hl=>by
    rw[aB0,hp];refine hl.trans ((hw.cons p).trans ?_);exact(List.perm_append_comm (l₁:=qs.take i) (l₂:=[p])).symm
   have hil:i<us'.length:=(aB7.mp hi).1;refine⟨t',_,rfl,SqT.of et,rfl,_,_,rfl,_,_,rfl,rfl,_,rfl,d,rfl,.inl ⟨_,.inl dg.at_⟩,_,rfl,by decide,fun z hz=>?_⟩;have g4:=Same.upd (o:=.lst []) hz;have ez:(upd H3 z (.lst [])) z=some (.lst []):=aB;have hHz:H z=none:=sm.free hz;have nzl:z≠l:=fun e=>by rw[e,el3]at hz;cases hz
   have nzd:z≠d:=fun e=>by rw[e,dg.at_]at hz;cases hz
   generalize upd H3 z (.lst [])=H4 at g4 ez ⊢;have sm4:=sm.trans g4;have el4:=g4 _ _ el3;have pr4:=pr3.mono (TupS.same g4);have lst4:∀ g∈gs,H4 g.2.1=some (.lst (g.2.2.map V.int)):=fun g hg=>g4 _ _ (dg.lst g hg);have nz:∀ g∈gs,g.2.1≠z:=fun g hg e=>by have:=dg.lst g hg;rw[e,hz]at this;cases this
   refine⟨kvG gs,Sum.inl p.1,g4 _ _ dg.at_,rfl,by simp only[kvG,aAu];exact bC (by omega),fun v hv=>?_,fun hv=>?_⟩
   ·-- the size is there
    rw[eK]at hv;obtain⟨g,hg,rfl⟩:=aB6.mp hv;have hgm:=List.mem_of_find?_eq_some hg;have hgk:g.1=p.1:=by simpa using List.find?_some hg
    have eg:=lst4 g hgm;have hgo:=hfr g hgm;refine⟨.inl ⟨rfl,_,SqL.of eg⟩,_,rfl,g.2.1,_,_,rfl,rfl,eg,(by rw[aAu];exact bC (by have:=(hgn g hgm).1;omega)),?_⟩;have hmem:∀ g'∈dZ p.1 p.2 gs,∃ g0∈gs,g'.2.1=g0.2.1/\g'.1=g0.1/\(g'.2.2=if g0.1=p.1 then g0.2.2++[p.2]else g0.2.2):=fun g' hg'=>by
     obtain⟨g0,h0,rfl⟩:=aBa.mp hg';refine⟨g0,h0,?_⟩
     by_cases hk:g0.1=p.1
     ·rw[if_pos hk,if_pos hk];exact⟨rfl,rfl,rfl⟩
     ·rw[if_neg hk,if_neg hk];exact⟨rfl,rfl,rfl⟩
    have hpu:pK H4 p.1 p.2 gs (dZ p.1 p.2 gs):=.inl ⟨⟨g,hgm,hgk⟩,rfl⟩;have uniq:∀ g0∈gs,g0.2.1=g.2.1->g0=g:=fun g0 h0 e=>cB (f:=fun g:Grp=>g.2.1) dg.adr h0 hgm e;refine⟨dZ p.1 p.2 gs,_,_,rfl,Same.upd' hgo.1 sm4,by rw[aC (Ne.symm hgo.2.1)];exact el4,pr4.mono (TupS.lst eg),⟨by rw[vJ,aC (Ne.symm hgo.2.2)];exact g4 _ _ dg.at_,fun g' hg'=>?_,by rw[vK];exact dg.adr,by rw[vL];exact dg.key⟩,fun g' hg'=>?_,⟨htk _ (fZ dg.key hpu),hac.puts hpu hple⟩,by rw[O1];omega,fun g' hg'=>?_⟩
    ·obtain⟨g0,h0,e1,e2,e3⟩:=hmem g' hg';rw[e1]
     by_cases hadr:g0.2.1=g.2.1
     ·have:=uniq g0 h0 hadr;subst this;rw[aB,e3,if_pos hgk,aBJ];rfl
     ·have hk:g0.1≠p.1:=fun e=>hadr (by rw[cB (f:=fun g:Grp=>g.1) dg.key h0 hgm (e.trans hgk.symm)]);rw[aC hadr,e3,if_neg hk];exact lst4 g0 h0
    ·obtain⟨g0,h0,e1,_,_⟩:=hmem g' hg';rw[e1];exact hfr g0 h0
    ·obtain⟨g0,h0,_,_,e3⟩:=hmem g' hg';have:=hgn g0 h0;rw[e3];split
     ·exact⟨by rw[aBD,List.length_singleton];omega,by simp⟩
     ·exact⟨by omega,this.2⟩
   ·-- the size is new
    rw[eK]at hv;have hno:∀ g∈gs,g.1≠p.1:=fun g hg e=>by
     have:=List.find?_eq_none.mp (Option.map_eq_none_iff.mp hv) g hg;exact this (by simpa using e)
    have hpu:pK H3 p.1 p.2 gs (gs++[(p.1,z,[p.2])]):=.inr ⟨hno,z,hz,rfl⟩;rw[vF (V.ref z) (by rw[eK];exact hv)];have ez5:(upd H4 d (.dK (kvG gs++[((Sum.inl p.1:Key),V.ref z)]))) z=some (.lst []):=by rw[aC nzd];exact ez
    refine⟨.inl ⟨rfl,_,SqL.of ez5⟩,_,rfl,z,_,_,rfl,rfl,ez5,(show 0<sizeLine by decide),?_⟩;have hk6:∀ b o,b≠d->b≠z->H4 b=some o->(upd (upd H4 d (.dK (kvG gs++[((Sum.inl p.1:Key),V.ref z)]))) z (.lst ([]++[V.int p.2]))) b=some o:=fun b o n1 n2 e=>by rw[aC n2,aC n1];exact e
    refine⟨gs++[(p.1,z,[p.2])],_,_,rfl,Same.upd' hHz (Same.upd' hd sm4),hk6 _ _ hld (Ne.symm nzl) el4,pr4.mono (fun t xs e=>hk6 _ _ (fH e (g4 _ _ dg.at_) (by intro z;cases z)) (fH e ez (by intro z;cases z)) e),⟨?_,fun g hg=>?_,?_,?_⟩,fun g hg=>?_,⟨htk _ (fZ dg.key hpu),hac.puts hpu hple⟩,by rw[aBD,List.length_singleton];omega,fun g hg=>?_⟩
    ·rw[aC (Ne.symm nzd),aB];unfold kvG;rw[aBJ];rfl
    ·rcases aB9.mp hg with h | h
     ·exact hk6 _ _ (hfr g h).2.2 (nz g h) (lst4 g h)
     ·rw[aB1.mp h];exact aB
    ·rw[aBJ,List.nodup_append];refine⟨dg.adr,by simp,fun x hx y hy=>?_⟩;obtain⟨g,hg,rfl⟩:=aBa.mp hx;have hy':y=z:=by simpa using hy
     rw[hy'];exact nz g hg
    ·rw[aBJ,List.nodup_append];refine⟨dg.key,by simp,fun x hx y hy=>?_⟩;obtain⟨g,hg,rfl⟩:=aBa.mp hx;have hy':y=p.1:=by simpa using hy
     rw[hy'];exact hno g hg
    ·rcases aB9.mp hg with h | h
     ·exact hfr g h
     ·rw[aB1.mp h];exact⟨hHz,nzl,nzd⟩
    ·rcases aB9.mp hg with h | h
     ·have:=hgn g h;exact⟨by omega,this.2⟩
     ·rw[aB1.mp h];exact⟨by show 1<=i+1;omega,by simp⟩
  ·rintro σ H3 ⟨gs,v1,v2,rfl,sm,el3,pr3,dg,hfr,⟨hw,hac⟩,hgl,hgn⟩;refine⟨_,rfl,k d gs H3 hd sm dg ?_ hac fun g hg=>⟨(hgn g hg).2,(hfr g hg).1⟩⟩;rw[show us'.length=qs.length from pr3.len,aBI]at hw;exact hw.trans hperm
abbrev iP:Stmt:=top 13
theorem U5:aV ["offsets","size"] ["offsets","size"] (aE iP):=⟨rfl,rfl,rfl,by decide +kernel,rfl,by decide +kernel,by decide +kernel⟩
theorem U6 {f:Addr} {fd:FuncData} (F:Fun K "crowd" "crowd" iP f fd) (B:Bt mg):FnOk P w K mg base CX0 1 f fd ["offsets","size"] lO:=by
 refine F.ok U5 (fun vs H Q E h=>?_) (fun cdv A outer s H vs Q E hr h=>?_)
 ·obtain⟨d,r,j,rfl,_⟩:=h;rfl
 ·obtain⟨d,gs,j,rfl,dg,hl,hgn,k⟩:=h;refine⟨_,(aH (bQ (aL cL aG (aJ (eI rfl) (by rfl) B.sum eG (aA (tI (fE ["other","some"] ["size"] [1] rfl (.of (show cZ (aE iP) _ ["offsets","size"] [1] ["size"]=true by decide +kernel)) (pI (pv 0)) (fun _ _ _=>(gU (n:=2) K rfl rfl (aP (aK (i:=0) (show (["other","some","size"]:List Str).Nodup by decide +kernel) rfl (Or.inl rfl)) (aP (aK (i:=1) (show (["other","some","size"]:List Str).Nodup by decide +kernel) rfl (Or.inl rfl)) cF)))) (iZ (bZ (by decide) (bZ (by decide) gT))) (fun _ _ _=>cP) (fun _ _ _=>(aL cL (aJ (jS rfl) (by rfl) B.min lE (aA (pv 2) (aA (pv 0) aD))) (aJ (kI K rfl) (by rfl) B.len PySem.boot_len (aA (pv 1) aD)))))) aD))))),?_⟩;refine⟨d,kvG gs,dg.at_,_,rfl,d,kvG gs,rfl,dg.at_,fun od=>?_⟩;have gd:SameD d H (upd H d (.frz od (.dK (kvG gs)))):=fun b o n e=>by rw[aC n];exact e
  have ed:(upd H d (.frz od (.dK (kvG gs)))) d=some (.frz od (.dK (kvG gs))):=aB;have hlst:∀ g∈gs,(upd H d (.frz od (.dK (kvG gs)))) g.2.1=some (.lst (g.2.2.map V.int)):=fun g hg=>gd _ _ (fH (dg.lst g hg) dg.at_ (by intro z;cases z)) (dg.lst g hg);generalize upd H d (.frz od (.dK (kvG gs)))=H1 at gd ed hlst ⊢;have hkl:(kvG gs).length=gs.length:=by simp[kvG]
  refine kQ (d:=d) (od:=od) (kvs:=kvG gs) (fun i ys H2=>Same H1 H2/\ys=((gs.take i).map (fun g:Grp=>fU j g.1 * (g.2.2.length:Int))).map V.int) ⟨Same.refl _,rfl⟩ ?_ ?_ ?_
  ·rintro i ys H2 hi ⟨g2,rfl⟩;exact⟨g2 _ _ ed,by simp only[aAu,aBK];exact bC (by omega)⟩
  ·rintro i ky x ys H2 t hx ⟨g2,rfl⟩ ht;obtain⟨g,hg,hgx⟩:∃ g,gs[i]?=some g/\((Sum.inl g.1:Key),V.ref g.2.1)=(ky,x):=by
    unfold kvG at hx;rw[aBT]at hx;obtain⟨g,h1,h2⟩:=aB6.mp hx;exact⟨g,h1,h2⟩
   cases hgx;have hgm:=aBF hg;have g3:=g2.trans (Same.upd (o:=.tup [kV (Sum.inl g.1),V.ref g.2.1]) ht);refine⟨t,_,rfl,SqT.of aB,rfl,_,_,rfl,_,_,rfl,rfl,_,rfl,_,rfl,_,_,rfl,_,rfl,g.2.1,_,rfl,.inl (SqL.of (g3 _ _ (hlst g hgm))),_,_,rfl,rfl,.inr ⟨?_,?_⟩,g3,?_⟩
   ·have:=hgn g hgm;rw[aAu];omega
   ·have:=hgn g hgm;rw[aAu];omega
   ·rw[aB0,hg];simp[fU]
  ·rintro ys H2 ⟨g2,rfl⟩ D hD;have hnD:D≠d:=fun z=>by rw[z,g2 _ _ ed]at hD;cases hD
   refine⟨od,by rw[aC (Ne.symm hnD)];exact g2 _ _ ed,D,gs.map (fun g:Grp=>fU j g.1 * (g.2.2.length:Int)),rfl,by rw[aC hnD,aB,hkl,aBI],_,_,rfl,rfl,.inl ⟨by decide,by decide⟩,k _ fun b o e=>?_⟩
   by_cases hb:b=d
   ·subst hb;rw[aB,<- dg.at_];exact e
   ·rw[aC hb];exact(g2.trans (Same.upd hD)) _ _ (gd b o hb e)
abbrev gP:Stmt:=top 14
theorem dJ:aV ["offsets","found","longer","total","below","size"] ["offsets"] (aE gP):=⟨rfl,rfl,rfl,by decide +kernel,rfl,by decide +kernel,by decide +kernel⟩
inductive sP (H:Hp) (d:Addr) (e:Addr) (l:Addr) (gs:List Grp) (ms:List Int) (i:Nat) (σ:St) (H6:Hp):Prop
 | mk (kvs:List (Key×V)) (b:Int) (v:Option V) (k0_:σ=[some (.ref d),some (.ref e),some (.int (lng b gs)),some (.int (2 * wgt (fU b) gs)),some (.int b),v]) (k1_:Same H H6) (k2_:H6 l=some (.lst (ms.map V.int))) (k3_:H6 e=some (.dK kvs)) (k4_:kvs.length<=i) (k5_:(∀ g∈gs,b<g.1->g.1∈ms.drop i)) (k6_:(∀ m∈ms.drop i,b<m)) (k7_:∀ m∈ms.take i,dI kvs (Sum.inl m:Key)=some (.int (2 * wgt (fU m) gs))):sP H d e l gs ms i σ H6
theorem J5 {f:Addr} {fd:FuncData} (F:Fun K "crowds" "crowds" gP f fd) (B:Bt mg):FnOk P w K mg base CX0 1 f fd ["offsets"] iG:=by
 refine F.ok dJ (fun vs H Q E h=>?_) (fun cdv A outer s H vs Q E hr h=>?_)
 ·obtain⟨d,gs,rfl,_⟩:=h;rfl
 ·obtain⟨d,gs,rfl,dg,gd0,hl,hgn,k⟩:=h;have hu1:=uV hr;refine⟨_,(aF (aQ (i:=1) dJ.nd rfl (Or.inl rfl) pH)
 (aF (aQ (i:=2) dJ.nd rfl (Or.inl rfl) (aJ (eI rfl) (by rfl) B.sum eG (aA (tI (fE ["some"] [] [] rfl (.of (show cZ (aE gP) _ ["offsets","found","longer","total","below","size"] [] []=true by decide +kernel)) (D8 (pv 0)) (fun _ _ _=>(aK (i:=0) (show (["some"]:List Str).Nodup by decide +kernel) rfl (Or.inl rfl))) (fT (by decide)) (fun _ _ _=>cP) (fun _ _ _=>(aJ (kI K rfl) (by rfl) B.len PySem.boot_len (aA (pv 0) aD))))) aD)))
 (aF (aQ (i:=3) dJ.nd rfl (Or.inl rfl) aG)
 (aF (aQ (i:=4) dJ.nd rfl (Or.inl rfl) aG)
 (aF (cK PassesOwn.never rfl (bW (aJ (lL rfl) (by rfl) B.sorted cH (aA (pv 0) aD))) (aK (i:=5) dJ.nd rfl (Or.inl rfl))
 (aF (iW (i:=3) dJ.nd rfl (Or.inl rfl) (aL cL (aL cL aG (pv 2)) (aL cD (pv 5) (pv 4))) sR)
 (aF (W7 hu1 (pv 1) (pv 5) (pv 3) rfl)
 (aF (iW (i:=2) dJ.nd rfl (Or.inl rfl) (aJ bD (by rfl) B.len PySem.boot_len (aA (jY hu1 (pv 0) (pv 5) (fun _ _=>rfl)) aD)) K4)
 (aH (aQ (i:=4) dJ.nd rfl (Or.inl rfl) (pv 5)))))))
 (aH (bQ (pv 1)))))))),?_⟩
  refine fun e he=>?_;have g1:=Same.upd (o:=.dK []) he;have ee:(upd H e (.dK [])) e=some (.dK []):=aB;have hed:e≠d:=fun z=>by rw[z,dg.at_]at he;cases he
  generalize upd H e (.dK [])=H1 at g1 ee ⊢;have dg1:DG H1 d gs:=⟨g1 _ _ dg.at_,fun g hg=>g1 _ _ (dg.lst g hg),dg.adr,dg.key⟩;refine⟨d,kvG gs,dg1.at_,_,rfl,d,kvG gs,rfl,dg1.at_,fun od=>?_⟩;have gd:SameD d H1 (upd H1 d (.frz od (.dK (kvG gs)))):=fun b o n e=>by rw[aC n];exact e
  have ed:(upd H1 d (.frz od (.dK (kvG gs)))) d=some (.frz od (.dK (kvG gs))):=aB;have hlst:∀ g∈gs,(upd H1 d (.frz od (.dK (kvG gs)))) g.2.1=some (.lst (g.2.2.map V.int)):=fun g hg=>gd _ _ (fH (dg1.lst g hg) dg1.at_ (by intro z;cases z)) (dg1.lst g hg);generalize upd H1 d (.frz od (.dK (kvG gs)))=H2 at gd ed hlst ⊢;have hkl:(kvG gs).length=gs.length:=by simp[kvG]
  refine vP (d:=d) (od:=od) (kvs:=kvG gs) (fun i ys H3=>H3=H2/\ys=((gs.take i).map (fun g:Grp=>(g.2.2.length:Int))).map V.int) ⟨rfl,rfl⟩ ?_ ?_ ?_
  ·rintro i ys H3 hi ⟨rfl,rfl⟩;exact⟨ed,by simp only[aAu,aBK];exact bC (by omega)⟩
  ·rintro i ky x ys H3 hx ⟨rfl,rfl⟩;obtain⟨g,hg,hgx⟩:∃ g,gs[i]?=some g/\((Sum.inl g.1:Key),V.ref g.2.1)=(ky,x):=by
    unfold kvG at hx;rw[aBT]at hx;obtain⟨g,h1,h2⟩:=aB6.mp hx;exact⟨g,h1,h2⟩
   cases hgx;have hgm:=aBF hg;refine⟨_,rfl,g.2.1,_,rfl,.inl (SqL.of (hlst g hgm)),rfl,?_⟩;rw[aB0,hg];simp
  ·rintro ys H3 ⟨rfl,rfl⟩ D hD;have hnD:D≠d:=fun z=>by rw[z,ed]at hD;cases hD
   refine⟨od,by rw[aC (Ne.symm hnD)];exact ed,D,gs.map (fun g:Grp=>(g.2.2.length:Int)),rfl,by rw[aC hnD,aB,hkl,aBI],?_⟩;have g4:Same H1 (upd (upd H3 D (.lst (((gs.take (kvG gs).length).map (fun g:Grp=>(g.2.2.length:Int))).map V.int))) d (.dK (kvG gs))):=fun b o q=>by
    by_cases hb:b=d
    ·subst hb;rw[aB,<- dg1.at_];exact q
    ·rw[aC hb];exact(Same.upd hD) _ _ (gd b o hb q)
   generalize upd (upd H3 D (.lst (((gs.take (kvG gs).length).map (fun g:Grp=>(g.2.2.length:Int))).map V.int))) d (.dK (kvG gs))=H4 at g4 ⊢;have hks:vN (kvG gs) (gs.map (·.1)):=by unfold vN kvG;simp[Function.comp]
   have dg4:DG H4 d gs:=⟨g4 _ _ dg1.at_,fun g hg=>g4 _ _ (dg1.lst g hg),dg.adr,dg.key⟩;have ee4:=g4 _ _ ee;have sm4:=g1.trans g4;have hL0:=O9 gd0;rw[<- hL0];refine⟨_,rfl,d,kvG gs,gs.map (·.1),rfl,dg4.at_,hks,by rw[aAu];omega,fun l ms hnl hp hs=>?_⟩;have g5:=Same.upd (o:=.lst (ms.map V.int)) hnl;have el:(upd H4 l (.lst (ms.map V.int))) l=some (.lst (ms.map V.int)):=aB;have hHl:H l=none:=sm4.free hnl;have nle:l≠e:=fun z=>by rw[z,ee4]at hnl;cases hnl
   generalize upd H4 l (.lst (ms.map V.int))=H5 at g5 el ⊢;have sm5:=sm4.trans g5;have ee5:=g5 _ _ ee4;have hml:ms.length=gs.length:=by rw[hp.length_eq,aAu]
   have hst:=sE hp hs dg.key;refine⟨l,rfl,⟨_,SqL.of el⟩,eC (K:=K) (a:=l) (xs:=ms.map V.int) (sP H d e l gs ms)
    ⟨[],0,none,by rw[P0 gd0];rfl,sm5,el,ee5,Nat.le_refl _,fun g hg _=>hp.mem_iff.mpr (aBa.mpr ⟨g,hg,rfl⟩),fun m hm=>by
     obtain⟨g,hg,e⟩:=aBa.mp (hp.mem_iff.mp hm);have:=(gd0 g hg).1;have e':g.1=m:=e;omega,fun m hm=>by simp at hm⟩ (fun i σ H6 _ z_=>by obtain⟨_,_,_,_,_,q,_⟩:=z_;exact SqL.of q) ?_ ?_⟩
   ·rintro i x σ H6 hi ⟨kvs,b,v,rfl,sm6,el6,ee6,hkl6,hin,hab,hall⟩;rw[aBT]at hi;obtain⟨m,hm,rfl⟩:=aB6.mp hi;have hil:i<ms.length:=(aB7.mp hm).1;obtain⟨g,hg,hgm⟩:=aBa.mp (hp.mem_iff.mp (aBF hm));have hgm:g.1=m:=hgm;subst hgm;have hdr:ms.drop i=g.1 :: ms.drop (i+1):=by
     rw[List.drop_eq_getElem_cons hil];rw[aBE hil]at hm;rw[Option.some.inj hm]
    have hbm:b<g.1:=hab g.1 (by rw[hdr];exact aAw);have hstd:(g.1 :: ms.drop (i+1)).Pairwise (·<·):=by rw[<- hdr];exact hst.sublist (List.drop_sublist _ _)
    have hnx:∀ x∈gs,b<x.1->g.1<=x.1:=fun x hx hb=>by
     have:=hin x hx hb;rw[hdr]at this;rcases aB8.mp this with e | e
     ·omega
     ·have:=(List.pairwise_cons.mp hstd).1 _ e;omega
    have e1:=xV (Int.le_of_lt hbm) hnx;have e2:=O8 hbm hnx dg.key hg rfl;obtain⟨hb1,hb2⟩:=P3 (b:=b) hgn;have dg6:DG H6 d gs:=⟨sm6 _ _ dg.at_,fun g hg=>sm6 _ _ (dg.lst g hg),dg.adr,dg.key⟩;have e3:2 * wgt (fU b) gs+2 * lng b gs * (g.1 - b)=2 * wgt (fU g.1) gs:=by
     rw[e1,Int.mul_add,Int.mul_assoc,Int.mul_comm (lng b gs)]
    refine⟨_,rfl,_,rfl,_,_,rfl,rfl,.inl ⟨by decide,by decide⟩,_,rfl,_,rfl,_,_,rfl,rfl,_,_,rfl,rfl,.inl ⟨by omega,by omega⟩,?_⟩;refine⟨_,_,rfl,rfl,?_⟩;refine⟨_,rfl,_,rfl,_,rfl,e,_,rfl,DPut.k (k:=Sum.inl g.1) ee6 (bC (by omega)),?_⟩;have dg7:DG (upd H6 e (.dK (iV kvs (Sum.inl g.1:Key) (V.int (2 * wgt (fU b) gs+2 * lng b gs * (g.1 - b)))))) d gs:=⟨by rw[aC (Ne.symm hed)];exact dg6.at_,fun x hx=>by rw[aC (fH (dg6.lst x hx) ee6 (by intro z;cases z))];exact dg6.lst x hx,dg.adr,dg.key⟩;refine⟨_,rfl,_,rfl,_,rfl,d,_,rfl,dg7.get hg,g.2.1,_,rfl,.inl (SqL.of (dg7.lst g hg)),?_⟩;refine⟨_,_,rfl,rfl,?_⟩;refine⟨_,rfl,?_⟩;refine⟨iV kvs (Sum.inl g.1:Key) (V.int (2 * wgt (fU b) gs+2 * lng b gs * (g.1 - b))),g.1,_,by rw[e2,<- e3,<- aAu (as:=g.2.2) V.int];rfl,Same.upd' he sm6,by rw[aC nle];exact el6,aB,Nat.le_trans (gW ..) (by omega),fun x hx hgt=>?_,fun m' hm'=>(List.pairwise_cons.mp hstd).1 m' hm',fun m' hm'=>?_⟩
    ·have:=hin x hx (by omega);rw[hdr]at this;rcases aB8.mp this with e | e
     ·omega
     ·exact e
    rw[N7]
    by_cases hmk:(Sum.inl m':Key)=Sum.inl g.1
    ·rw[if_pos hmk,e3];rw[Sum.inl.inj hmk]
    ·rw[if_neg hmk];rw[aB0,hm]at hm';rcases aB9.mp hm' with h | h
     ·exact hall m' h
     ·exact absurd (by have:m'=g.1:=by simpa using h
                       rw[this]) hmk
   ·rintro σ H6 ⟨kvs,b,v,rfl,sm6,el6,ee6,hkl6,_,_,hall⟩;refine⟨_,rfl,k e kvs H6 he sm6 ee6 fun g hg=>?_⟩;rw[aAu,aBI]at hall;rw[hall g.1 (hp.mem_iff.mpr (aBa.mpr ⟨g,hg,rfl⟩)),tK]
abbrev dW:Stmt:=top 17
theorem uG:aV ["offsets","size"] ["offsets","size"] (aE dW):=⟨rfl,rfl,rfl,by decide +kernel,rfl,by decide +kernel,by decide +kernel⟩
theorem uH {f:Addr} {fd:FuncData} (F:Fun K "drop_last" "drop_last" dW f fd) (B:Bt mg):FnOk P w K mg base CX0 1 f fd ["offsets","size"] gF:=by
 refine F.ok uG (fun vs H Q E h=>?_) (fun cdv A outer s H vs Q E hr h=>?_)
 ·obtain⟨d,gs,g,rfl,_⟩:=h;rfl
 ·obtain⟨d,gs,g,rfl,dg,hg,hne,k⟩:=h;have hu1:=uV hr;refine⟨_,(aF (bN (n6 aB3 PySem.F.slot_list_pop PySem.F.type_list_pop n8 (jY hu1 (pv 0) (pv 1) (fun _ _=>rfl))))
 (aH (cY (xB (kY (jY hu1 (pv 0) (pv 1) (fun _ _=>rfl)) (fun _=>rfl)))
 (aH (W8 (pv 0) (pv 1)))
 bS))),?_⟩
  have hnn:g.2.2.map V.int≠[]:=by simpa using hne
  have hlast:(g.2.2.map V.int)[(g.2.2.map V.int).length - 1]?=some ((g.2.2.map V.int).getLast hnn):=by rw[<- List.getLast?_eq_getElem?];exact List.getLast?_eq_getLast hnn
  refine⟨_,rfl,_,rfl,d,_,rfl,dg.get hg,.inl ⟨rfl,_,SqL.of (dg.lst g hg)⟩,g.2.1,_,_,rfl,rfl,dg.lst g hg,hlast,?_⟩;rw[<- List.map_dropLast];have dg2:=dg.pops hg;have st2:StayG d gs H (upd H g.2.1 (.lst (g.2.2.dropLast.map V.int))):=fun b o _ n e=>by rw[aC (n g hg)];exact e
  generalize upd H g.2.1 (.lst (g.2.2.dropLast.map V.int))=H2 at dg2 st2 ⊢;have hg':(g.1,g.2.1,g.2.2.dropLast)∈pops g.1 gs:=aBa.mpr ⟨g,hg,if_pos rfl⟩;have hget:DGet H2 d (.int g.1) (some (.ref g.2.1)):=dg2.get (g:=(g.1,g.2.1,g.2.2.dropLast)) hg';have hls:H2 g.2.1=some (.lst (g.2.2.dropLast.map V.int)):=dg2.lst (g.1,g.2.1,g.2.2.dropLast) hg';refine⟨_,rfl,_,rfl,d,_,rfl,hget,_,.inl ⟨_,SqL.of hls,rfl⟩,?_⟩;have hany:((pops g.1 gs).any (fun x=>decide (x.1=g.1) && x.2.2.isEmpty))=g.2.2.dropLast.isEmpty:=by
   cases hE:g.2.2.dropLast.isEmpty with
   | true=>exact List.any_eq_true.mpr ⟨_,hg',by simp[hE]⟩
   | false =>
    rw[List.any_eq_false];intro x hx;simp only[Bool.and_eq_true,decide_eq_true_eq,not_and];intro e;have:x=(g.1,g.2.1,g.2.2.dropLast):=cB (f:=fun g:Grp=>g.1) dg2.key hx hg' e;rw[this];simp[hE]
  have hm:(g.2.2.dropLast.map V.int).isEmpty=g.2.2.dropLast.isEmpty:=by rw[List.isEmpty_map]
  simp only[hm];cases hE:g.2.2.dropLast.isEmpty with
  | true =>
   refine⟨_,rfl,_,rfl,d,_,Sum.inl g.1,rfl,dg2.at_,rfl,?_,k _ (fun b o n1 n2 e=>by rw[aC n1];exact st2 b o n1 n2 e) ?_⟩
   ·rw[eK,lN dg2.key hg'];rfl
   ·unfold shr;rw[hany,hE,if_pos rfl];exact dg2.outs g.1
  | false =>
   refine k _ st2 ?_;unfold shr;rw[hany,hE,if_neg aBH];exact dg2
abbrev dX:Stmt:=top 18
theorem mG:aV ["offsets","size","place","offset"] ["offsets","size","place"] (aE dX):=⟨rfl,rfl,rfl,by decide +kernel,rfl,by decide +kernel,by decide +kernel⟩
theorem uI {f:Addr} {fd:FuncData} (F:Fun K "add_train" "add_train" dX f fd) (B:Bt mg) (F_crowd:bG P w K mg base "crowd" 1 ["offsets","size"] lO):FnOk P w K mg base CX0 2 f fd ["offsets","size","place"] fL:=by
 refine F.ok mG (fun vs H Q E h=>?_) (fun cdv A outer s H vs Q E hr h=>?_)
 ·obtain⟨d,gs,k,p,rfl,_⟩:=h;rfl
 ·obtain⟨d,gs,k,p,rfl,dg,hl,hgn,kk⟩:=h;refine⟨_,(aF (aQ (i:=3) mG.nd rfl (Or.inl rfl) (aL cD (aL cD (pv 2) (bM F_crowd hr rfl (aA (pv 0) (aA (pv 1) aD)))) (aL cL aG (pv 1))))
 (aH (bN (gS aB3 aB4 aB5 dF (zN (pv 0) (pv 1) (hV aD) ⟨rfl,rfl,rfl,rfl⟩) (aA (pv 3) aD))))),?_⟩
  refine⟨_,rfl,_,rfl,_,rfl,d,gs,k,rfl,dg,hl,hgn,fun H3 sm=>?_⟩;refine⟨_,_,rfl,rfl,_,rfl,_,_,rfl,rfl,.inl ⟨by decide,by decide⟩,_,_,rfl,rfl,?_⟩;have dg3:DG H3 d gs:=⟨sm _ _ dg.at_,fun g hg=>sm _ _ (dg.lst g hg),dg.adr,dg.key⟩;refine⟨_,rfl,d,rfl,.inl ⟨_,.inl dg3.at_⟩,_,rfl,by decide,fun z hz=>?_⟩;have g4:=Same.upd (o:=.lst []) hz;have ez:(upd H3 z (.lst [])) z=some (.lst []):=aB;have hHz:H z=none:=sm.free hz;have nzd:z≠d:=fun e=>by rw[e,dg3.at_]at hz;cases hz
  generalize upd H3 z (.lst [])=H4 at g4 ez ⊢;have sm4:=sm.trans g4;have lst4:∀ g∈gs,H4 g.2.1=some (.lst (g.2.2.map V.int)):=fun g hg=>g4 _ _ (dg3.lst g hg);have nz:∀ g∈gs,g.2.1≠z:=fun g hg e=>by have:=dg3.lst g hg;rw[e,hz]at this;cases this
  have hgd:∀ g∈gs,g.2.1≠d:=fun g hg=>fH (dg3.lst g hg) dg3.at_ (by intro z;cases z);refine⟨kvG gs,Sum.inl k,g4 _ _ dg3.at_,rfl,by simp only[kvG,aAu];exact bC (by omega),fun v hv=>?_,fun hv=>?_⟩
  ·rw[eK]at hv;obtain⟨g,hg,rfl⟩:=aB6.mp hv;have hgm:=List.mem_of_find?_eq_some hg;have hgk:g.1=k:=by simpa using List.find?_some hg
   have eg:=lst4 g hgm;refine⟨.inl ⟨rfl,_,SqL.of eg⟩,_,rfl,g.2.1,_,_,rfl,rfl,eg,(by rw[aAu];exact bC (by have:=hgn g hgm;omega)),?_⟩;have hmem:∀ g'∈dZ k (p - 2 * wgt (fU k) gs - 2 * k) gs,∃ g0∈gs,g'.2.1=g0.2.1/\g'.1=g0.1/\(g'.2.2=if g0.1=k then g0.2.2++[(p - 2 * wgt (fU k) gs - 2 * k)]else g0.2.2):=fun g' hg'=>by
    obtain⟨g0,h0,rfl⟩:=aBa.mp hg';refine⟨g0,h0,?_⟩
    by_cases hk:g0.1=k
    ·rw[if_pos hk,if_pos hk];exact⟨rfl,rfl,rfl⟩
    ·rw[if_neg hk,if_neg hk];exact⟨rfl,rfl,rfl⟩
   have uniq:∀ g0∈gs,g0.2.1=g.2.1->g0=g:=fun g0 h0 e=>cB (f:=fun g:Grp=>g.2.1) dg.adr h0 hgm e;refine kk (dZ k (p - 2 * wgt (fU k) gs - 2 * k) gs) _ (fun b u n1 n2 e=>by rw[aC (n2 g hgm)];exact sm4 b u e) ⟨by rw[vJ,aC (Ne.symm (hgd g hgm))];exact g4 _ _ dg3.at_,fun g' hg'=>?_,by rw[vK];exact dg.adr,by rw[vL];exact dg.key⟩ (.inl ⟨⟨g,hgm,hgk⟩,rfl⟩);obtain⟨g0,h0,e1,e2,e3⟩:=hmem g' hg';rw[e1]
   by_cases hadr:g0.2.1=g.2.1
   ·have:=uniq g0 h0 hadr;subst this;rw[aB,e3,if_pos hgk,aBJ];rfl
   ·have hk:g0.1≠k:=fun e=>hadr (by rw[cB (f:=fun g:Grp=>g.1) dg.key h0 hgm (e.trans hgk.symm)]);rw[aC hadr,e3,if_neg hk];exact lst4 g0 h0
  ·rw[eK]at hv;have hno:∀ g∈gs,g.1≠k:=fun g hg e=>by
    have:=List.find?_eq_none.mp (Option.map_eq_none_iff.mp hv) g hg;exact this (by simpa using e)
   rw[vF (V.ref z) (by rw[eK];exact hv)];have ez5:(upd H4 d (.dK (kvG gs++[((Sum.inl k:Key),V.ref z)]))) z=some (.lst []):=by rw[aC nzd];exact ez
   refine⟨.inl ⟨rfl,_,SqL.of ez5⟩,_,rfl,z,_,_,rfl,rfl,ez5,(show 0<sizeLine by decide),?_⟩;have hk6:∀ b u,b≠d->b≠z->H4 b=some u->(upd (upd H4 d (.dK (kvG gs++[((Sum.inl k:Key),V.ref z)]))) z (.lst ([]++[V.int (p - 2 * wgt (fU k) gs - 2 * k)]))) b=some u:=fun b u n1 n2 e=>by rw[aC n2,aC n1];exact e
   refine kk (gs++[(k,z,[(p - 2 * wgt (fU k) gs - 2 * k)])]) _ (fun b u n1 n2 e=>hk6 b u n1 (fun e'=>by rw[e',hHz]at e;cases e) (sm4 b u e)) ⟨?_,fun g hg=>?_,?_,?_⟩ (.inr ⟨hno,z,hHz,rfl⟩)
   ·rw[aC (Ne.symm nzd),aB];unfold kvG;rw[aBJ];rfl
   ·rcases aB9.mp hg with h | h
    ·exact hk6 _ _ (hgd g h) (nz g h) (lst4 g h)
    ·rw[aB1.mp h];exact aB
   ·rw[aBJ,List.nodup_append];refine⟨dg.adr,by simp,fun x hx y hy=>?_⟩;obtain⟨g,hg,rfl⟩:=aBa.mp hx;have hy':y=z:=by simpa using hy
    rw[hy'];exact nz g hg
   ·rw[aBJ,List.nodup_append];refine⟨dg.key,by simp,fun x hx y hy=>?_⟩;obtain⟨g,hg,rfl⟩:=aBa.mp hx;have hy':y=k:=by simpa using hy
    rw[hy'];exact hno g hg
abbrev dB:Stmt:=top 16
theorem fV:aV ["offsets","place","crowded","ready","size"] ["offsets","place"] (aE dB):=⟨rfl,rfl,rfl,by decide +kernel,rfl,by decide +kernel,by decide +kernel⟩
theorem uJ {f:Addr} {fd:FuncData} (F:Fun K "add_stone" "add_stone" dB f fd) (B:Bt mg) (F_crowds:bG P w K mg base "crowds" 1 ["offsets"] iG)
 (F_drop_last:bG P w K mg base "drop_last" 1 ["offsets","size"] gF) (F_add_train:bG P w K mg base "add_train" 2 ["offsets","size","place"] fL):FnOk P w K mg base CX0 3 f fd ["offsets","place"] iK:=by
 refine F.ok fV (fun vs H Q E h=>?_) (fun cdv A outer s H vs Q E hr h=>?_)
 ·obtain⟨d,gs,p,H0,rfl,_⟩:=h;rfl
 ·obtain⟨d,gs,p,H0,rfl,dg,gd,ac,hsto,bd,smH,hHd,hfr,k⟩:=h;have hu1:=uV hr;obtain⟨hb1,hb2⟩:=GoodG.bound gd;refine⟨_,(aF (aQ (i:=2) fV.nd rfl (Or.inr rfl) (bM F_crowds hr rfl (aA (pv 0) aD)))
 (aF (X4 (lC (i:=3) ["size","some"] ["place","crowded"] [1,2] rfl fV.nd rfl rfl (.of (show cZ (aE dB) _ ["offsets","place","crowded","ready","size"] [1,2] ["place","crowded"]=true by decide +kernel)) (pI (pv 0)) (fun _ _ _=>(gU (n:=2) K rfl rfl (aP (aK (i:=0) (show (["size","some","place","crowded"]:List Str).Nodup by decide +kernel) rfl (Or.inl rfl)) (aP (aK (i:=1) (show (["size","some","place","crowded"]:List Str).Nodup by decide +kernel) rfl (Or.inl rfl)) cF)))) (iZ (bZ (by decide) (bZ (by decide) gT))) (fun _ _ _=>sY (aX oW (fI (jA K rfl) (pv 1) (rF mI aG) (fun _ _=>rfl)) (aL cD (aL cD (pv 2) aG) (jY hu1 (pv 3) (pv 0) (fun _ _=>rfl))) (aZ _))) (fun _ _ _=>(pv 0)) (by first | rfl | decide +kernel)))
 (aF (aQ (i:=4) fV.nd rfl (Or.inl rfl) (rS rfl rfl B.max (pv 3) aG))
 (sZ (cY (aX iT (pv 4) aG (aZ _))
 (aH (bN (bM F_drop_last hr rfl (aA (pv 0) (aA (pv 4) aD)))))
 bS)
 (aH (bN (bM F_add_train hr rfl (aA (pv 0) (aA (aL bX (pv 4) aG) (aA (pv 1) aD)))))))))),?_⟩
  refine⟨_,rfl,d,gs,rfl,dg,gd,by omega,fun g hg=>by have:=hb2 g hg;omega,fun e kvs H5 he sm5 ee hall=>?_⟩;have dg5:DG H5 d gs:=⟨sm5 _ _ dg.at_,fun g hg=>sm5 _ _ (dg.lst g hg),dg.adr,dg.key⟩;have hed:e≠d:=fun z=>by rw[z,dg.at_]at he;cases he
  refine⟨d,kvG gs,dg5.at_,_,rfl,d,kvG gs,rfl,dg5.at_,fun od=>?_⟩;have sd:SameD d H5 (upd H5 d (.frz od (.dK (kvG gs)))):=fun b o n e=>by rw[aC n];exact e
  have ed:(upd H5 d (.frz od (.dK (kvG gs)))) d=some (.frz od (.dK (kvG gs))):=aB;have hlst:∀ g∈gs,(upd H5 d (.frz od (.dK (kvG gs)))) g.2.1=some (.lst (g.2.2.map V.int)):=fun g hg=>sd _ _ (fH (dg5.lst g hg) dg5.at_ (by intro z;cases z)) (dg5.lst g hg);have ee6:(upd H5 d (.frz od (.dK (kvG gs)))) e=some (.dK kvs):=sd _ _ hed ee;generalize upd H5 d (.frz od (.dK (kvG gs)))=H6 at sd ed hlst ee6 ⊢;have hkl:(kvG gs).length=gs.length:=by simp[kvG]
  refine kQ (d:=d) (od:=od) (kvs:=kvG gs) (fun i ys H7=>Same H6 H7/\ys.length<=i/\∃ ns:List Int,ys=ns.map V.int/\(∀ n∈ns,∃ g∈gs,∃ hne:g.2.2≠[],n=g.1/\g.2.2.getLast hne=p - 1 - 2 * les (bB gs) g.1)/\(∀ g∈gs.take i,∀ hne:g.2.2≠[],g.2.2.getLast hne=p - 1 - 2 * les (bB gs) g.1->g.1∈ns)) ⟨Same.refl _,Nat.le_refl _,[],rfl,fun n hn=>(nomatch hn),fun g hg=>by simp at hg⟩ ?_ ?_ ?_
  ·rintro i ys H7 hi ⟨g7,hyl,_⟩;exact⟨g7 _ _ ed,bC (by omega)⟩
  ·rintro i ky x ys H7 t hx ⟨g7,hyl,ns,rfl,hn1,hn2⟩ htn;obtain⟨g,hg,hgx⟩:∃ g,gs[i]?=some g/\((Sum.inl g.1:Key),V.ref g.2.1)=(ky,x):=by
    unfold kvG at hx;rw[aBT]at hx;obtain⟨g,h1,h2⟩:=aB6.mp hx;exact⟨g,h1,h2⟩
   cases hgx;have hgm:=aBF hg;have g8:=g7.trans (Same.upd (o:=.tup [kV (Sum.inl g.1),V.ref g.2.1]) htn);have et8:(upd H7 t (.tup [kV (Sum.inl g.1),V.ref g.2.1])) t=some (.tup [kV (Sum.inl g.1),V.ref g.2.1]):=aB;generalize upd H7 t (.tup [kV (Sum.inl g.1),V.ref g.2.1])=H8 at g8 et8 ⊢;refine⟨t,_,rfl,SqT.of et8,rfl,_,_,rfl,_,_,rfl,rfl,?_⟩;have hne2:g.2.2≠[]:=(gd g hgm).2;have hv:atI (g.2.2.map V.int) (-1)=some (V.int (g.2.2.getLast hne2)):=tN hne2;have hget:DGet H8 e (.int g.1) (some (.int (2 * les (bB gs) g.1))):=by rw[<- hall g hgm];exact DGet.k (k:=(Sum.inl g.1:Key)) (g8 _ _ ee6)
   refine⟨_,rfl,_,rfl,g.2.1,_,_,_,rfl,rfl,SqL.of (g8 _ _ (hlst g hgm)),hv,_,rfl,_,_,rfl,rfl,_,rfl,_,rfl,e,_,rfl,hget,_,_,rfl,rfl,_,_,rfl,rfl,_,rfl,?_⟩;have htk:∀ x∈gs.take (i+1),x∈gs.take i\/x=g:=fun x hx=>by
    rw[aB0,hg]at hx;rcases aB9.mp hx with h | h
    ·exact .inl h
    ·exact .inr (by simpa using h)
   refine lF (fun hc=>?_) (fun hc=>?_)
   ·refine⟨_,rfl,g8,by rw[aBD,List.length_singleton];omega,ns++[g.1],by rw[aBJ];rfl,fun n hn=>?_,fun x hx hne hl=>?_⟩
    ·rcases aB9.mp hn with h | h
     ·exact hn1 n h
     ·exact⟨g,hgm,hne2,by simpa using h,by omega⟩
    ·rcases htk x hx with h | h
     ·exact aBO _ (hn2 x h hne hl)
     ·rw[h];exact aAy _ (by simp)
   ·refine⟨g8,by omega,ns,rfl,hn1,fun x hx hne hl=>?_⟩;rcases htk x hx with h | h
    ·exact hn2 x h hne hl
    ·subst h;exact absurd (by omega) hc
  ·rintro ys H7 ⟨g7,hyl,ns,rfl,hn1,hn2⟩ D hD;have hnD:D≠d:=fun z=>by rw[z,g7 _ _ ed]at hD;cases hD
   have edD:(upd H7 D (.lst (ns.map V.int))) d=some (.frz od (.dK (kvG gs))):=by rw[aC (Ne.symm hnD)];exact g7 _ _ ed
   have eD:(upd (upd H7 D (.lst (ns.map V.int))) d (.dK (kvG gs))) D=some (.lst (ns.map V.int)):=by rw[aC hnD,aB]
   have sm9:Same H5 (upd (upd H7 D (.lst (ns.map V.int))) d (.dK (kvG gs))):=fun b o q=>by
    by_cases hb:b=d
    ·subst hb;rw[aB,<- dg5.at_];exact q
    ·rw[aC hb];exact(g7.trans (Same.upd hD)) _ _ (sd b o hb q)
   refine⟨od,edD,?_⟩;generalize upd (upd H7 D (.lst (ns.map V.int))) d (.dK (kvG gs))=H9 at eD sm9 ⊢;have dg9:DG H9 d gs:=⟨sm9 _ _ dg5.at_,fun g hg=>sm9 _ _ (dg5.lst g hg),dg.adr,dg.key⟩;have smH9:=(smH.trans sm5).trans sm9;rw[hkl,aBI]at hn2;obtain⟨s0,es,hs0,hcase,htop⟩:=E3 gd hn1 hn2;refine⟨_,rfl,D,ns,rfl,SqL.of eD,?_⟩;rw[es];refine⟨fun σ' H'=>∃ gs1,σ'=[some (.ref d),some (.int p),some (.ref e),some (.ref D),some (.int s0)]/\Same H0 H'/\DG H' d gs1/\GoodG gs1/\sto gs1<=59/\(∀ g∈gs1,H0 g.2.1=none)/\(s0=0/\gs1=gs\/1<=s0/\∃ g∈gs,∃ hne:g.2.2≠[],g.1=s0/\g.2.2.getLast hne=p - 1 - 2 * les (bB gs) s0/\gs1=shr s0 gs),?_,?_⟩
   ·refine⟨_,rfl,_,_,rfl,rfl,_,rfl,?_⟩;refine lF (fun hc=>?_) (fun hc=>?_)
    ·rcases hcase with hz | ⟨hz,g,hg,hne,e1,e2⟩
     ·omega
     ·subst e1;refine⟨_,rfl,_,rfl,d,gs,g,rfl,dg9,hg,hne,fun H11 st11 dg11=>⟨shr g.1 gs,rfl,fun b o q=>st11 b o (fun z=>by rw[z,hHd]at q;cases q) (fun x hx z=>by rw[z,hfr x hx]at q;cases q) (smH9 b o q),dg11,gd.shr _,?_,fun x hx=>?_,.inr ⟨hz,g,hg,hne,rfl,e2,rfl⟩⟩⟩
      ·have:sto (shr g.1 gs)=sto gs - g.1:=zO _ dg.key hg hne;omega
      ·obtain⟨y,hy,ez⟩:=zP hx;rw[ez];exact hfr y hy
    ·rcases hcase with hz | ⟨hz,_⟩
     ·exact⟨gs,rfl,smH9,dg9,gd,hsto,hfr,.inl ⟨hz,rfl⟩⟩
     ·omega
   ·rintro σ' H10 ⟨gs1,rfl,sm10,dg10,gd10,hst10,hfr10,hs⟩;obtain⟨hc1,hc2⟩:=GoodG.bound gd10;refine⟨_,rfl,_,rfl,_,_,rfl,rfl,_,rfl,d,gs1,s0+1,p,rfl,dg10,by omega,fun x hx=>by have:=hc2 x hx;omega,fun gs' H12 st12 dg12 hpu=>?_⟩;rw[tK]at hpu;obtain⟨ha,hA,hG⟩:=xU dg.key gd ac bd hs htop hpu;refine k gs' H12 (fun b o q=>st12 b o (fun z=>by rw[z,hHd]at q;cases q) (fun x hx z=>by rw[z,hfr10 x hx]at q;cases q) (sm10 b o q)) dg12 hG hA ha fun x hx=>?_;rcases vS hpu hx with ⟨y,hy,ez⟩ | hz
    ·rw[ez];exact hfr10 y hy
    ·exact sm10.free hz
abbrev eY:Stmt:=top 15
theorem kW:aV ["row","offsets","place"] ["row"] (aE eY):=⟨rfl,rfl,rfl,by decide +kernel,rfl,by decide +kernel,by decide +kernel⟩
inductive qO (H:Hp) (a:Addr) (d:Addr) (row:List Int) (i:Nat) (σ:St) (H3:Hp):Prop
 | mk (gs:List Grp) (v:Option V) (k0_:σ=[some (.ref a),some (.ref d),v]) (k1_:Same H H3) (k2_:DG H3 d gs) (k3_:GoodG gs) (k4_:Asc gs) (k5_:Lst (row.take i) (bB gs)) (k6_:∀ g∈gs,H g.2.1=none):qO H a d row i σ H3
theorem yW {f:Addr} {fd:FuncData} (F:Fun K "list_of" "list_of" eY f fd) (B:Bt mg) (F_look_row:bG P w K mg base "look_row" 1 ["row"] oY) (F_add_stone:bG P w K mg base "add_stone" 3 ["offsets","place"] iK):FnOk P w K mg base CX0 4 f fd ["row"] lQ:=by
 refine F.ok kW (fun vs H Q E h=>?_) (fun cdv A outer s H vs Q E hr h=>?_)
 ·obtain⟨a,row,rfl,_⟩:=h;rfl
 ·obtain⟨a,row,rfl,ha,hrow,hrl,k⟩:=h;have hu1:=uV hr;refine⟨_,(aF (bN (bM F_look_row hr rfl (aA (pv 0) aD)))
 (aF (aQ (i:=1) kW.nd rfl (Or.inr rfl) pH)
 (aF (cK PassesOwn.never rfl (bW (pv 0)) (aK (i:=2) kW.nd rfl (Or.inl rfl))
 (aH (bN (bM F_add_stone hr rfl (aA (pv 1) (aA (pv 2) aD))))))
 (aH (bQ (P1 ["size"] ["offset"] ["offsets"] [1] rfl (.of (show cZ (aE eY) _ ["row","offsets","place"] [1] ["offsets"]=true by decide +kernel)) (bW (aJ (lL rfl) (by rfl) B.sorted cH (aA (pv 1) aD))) (fun _ _ _=>(aK (i:=0) (show (["size","offset","offsets"]:List Str).Nodup by decide +kernel) rfl (Or.inl rfl))) (fT (by decide)) (fun _ _ _=>cP) (fun _ _ _=>(vW K rfl (jY hu1 (pv 2) (pv 0) (fun _ _=>rfl)))) (fun _ _ _=>(aK (i:=1) (show (["size","offset","offsets"]:List Str).Nodup by decide +kernel) rfl (Or.inl rfl))) (X3 (by decide) (by decide)) (fun _ _ _=>cP) (fun _ _ _=>(iJ (aA (pv 0) (aA (pv 1) aD)))))))))),?_⟩
  refine⟨_,rfl,a,row,rfl,ha,hrow,hrl,?_⟩;refine fun d hd=>?_;have g1:=Same.upd (o:=.dK []) hd;have ed:(upd H d (.dK [])) d=some (.dK (kvG [])):=aB;generalize upd H d (.dK [])=H1 at g1 ed ⊢;refine⟨_,rfl,a,rfl,⟨_,SqL.of (g1 _ _ ha)⟩,eC (K:=K) (a:=a) (xs:=row.map V.int) (qO H a d row)
   ⟨[],none,rfl,g1,⟨ed,fun g hg=>(nomatch hg),List.Pairwise.nil,List.Pairwise.nil⟩,fun g hg=>(nomatch hg),fun g hg=>(nomatch hg),.nil,fun g hg=>(nomatch hg)⟩ (fun i σ H3 _ z_=>by obtain⟨_,_,_,sm,_⟩:=z_;exact SqL.of (sm _ _ ha)) ?_ ?_⟩
  ·rintro i x σ H3 hi ⟨gs,v,rfl,sm,dg,gd,ac,hl,hfr⟩;obtain⟨z,rfl,hz⟩:=int_at hi;have hil:i<row.length:=(aB7.mp hz).1;have htk:row.take (i+1)=row.take i++[z]:=by rw[aB0,hz];rfl
   have hlt:∀ x∈row.take i,x<z:=fun x hx=>by
    have hp:(row.take i++[z]).Pairwise (·<·):=by rw[<- htk];exact List.Pairwise.sublist (List.take_sublist _ _) hrow
    exact(List.pairwise_append.mp hp).2.2 x hx z (by simp)
   have hsz:sto gs=(i:Int):=by
    rw[oE,hl.sizx,aBK];omega
   refine⟨_,rfl,_,rfl,d,gs,z,H,rfl,dg,gd,ac,by omega,hl.bd fun x hx=>by have:=hlt x hx;omega,sm,hd,hfr,fun gs' H' sm' dg' gd' ac' hadd hfr'=>?_⟩;exact⟨gs',_,rfl,sm',dg',gd',ac',by rw[htk];exact .snoc hl hlt hadd,hfr'⟩
  ·rintro σ H3 ⟨gs,v,rfl,sm,dg,gd,ac,hl,hfr⟩;rw[aAu,aBI]at hl;obtain⟨hb1,hb2⟩:=GoodG.bound gd;have hsz:sto gs=(row.length:Int):=by rw[oE,hl.sizx]
   have hks:vN (kvG gs) (gs.map (·.1)):=by unfold vN kvG;simp[Function.comp]
   refine⟨_,rfl,d,kvG gs,gs.map (·.1),rfl,dg.at_,hks,by rw[aAu];omega,fun l ms hnl hp hs=>?_⟩;have g5:=Same.upd (o:=.lst (ms.map V.int)) hnl;have el:(upd H3 l (.lst (ms.map V.int))) l=some (.lst (ms.map V.int)):=aB;generalize upd H3 l (.lst (ms.map V.int))=H5 at g5 el ⊢;have hst:=sE hp hs dg.key;have dg5:DG H5 d gs:=⟨g5 _ _ dg.at_,fun g hg=>g5 _ _ (dg.lst g hg),dg.adr,dg.key⟩;have hsize:∀ i,(laid (ms.take i) gs).length<=60:=fun i=>by
    have h1:(laid (ms.take i) gs).length<=(laid ms gs).length:=by
     conv=>rhs;rw[<- List.take_append_drop i ms,nF,aBD]
     omega
    have h2:=(sC gs hp).length_eq;rw[sD dg.key]at h2;have h3:=dA hl.pos;have h4:(szs (bB gs)).sum=siz (bB gs):=rfl;have h5:=oE gs;omega
   refine⟨l,rfl,⟨_,SqL.of el⟩,xZ (K:=K) (a:=l) (xs:=ms.map V.int) (fun i ys H6=>Same H5 H6/\Prs H6 ys (laid (ms.take i) gs)) ⟨Same.refl _,.nil⟩ ?_ ?_ ?_⟩
   ·rintro i ys H6 hi ⟨sm6,pr6⟩;exact⟨SqL.of (sm6 _ _ el),by rw[pr6.len];exact bC (by have:=hsize i;omega)⟩
   ·rintro i x ys H6 hi ⟨sm6,pr6⟩;obtain⟨m,rfl,hm⟩:=int_at hi;obtain⟨g,hg,hgm⟩:=aBa.mp (hp.mem_iff.mp (aBF hm));have hgm:g.1=m:=hgm;subst hgm;have dg6:DG H6 d gs:=⟨sm6 _ _ dg5.at_,fun g hg=>sm6 _ _ (dg5.lst g hg),dg.adr,dg.key⟩;have htk:laid (ms.take (i+1)) gs=laid (ms.take i) gs++g.2.2.map fun o=>(g.1,o):=by
     rw[aB0,hm,nF]
     congr 1
     exact P4 dg.key hg
    have hgl:=hsize (i+1);rw[htk,aBD,aAu]at hgl;refine⟨_,rfl,_,rfl,d,_,rfl,dg6.get hg,g.2.1,rfl,⟨_,SqL.of (dg6.lst g hg)⟩,yA (K:=K) (a:=g.2.1) (xs:=g.2.2.map V.int) (fun j ys H7=>Same H6 H7/\Prs H7 ys (laid (ms.take i) gs++(g.2.2.take j).map fun o=>(g.1,o))) ⟨Same.refl _,by rw[List.take_zero,List.map_nil,List.append_nil];exact pr6⟩ ?_ ?_ ?_⟩
    ·rintro j ys H7 hj ⟨sm7,pr7⟩;refine⟨SqL.of (sm7 _ _ (dg6.lst g hg)),?_⟩;rw[pr7.len,aBD,aAu,aBK];exact bC (by omega)
    ·rintro j x ys H7 hj ⟨sm7,pr7⟩;obtain⟨o,rfl,ho⟩:=int_at hj;refine⟨_,rfl,_,rfl,(show 2<=sizeLine by decide),fun t ht=>⟨sm7.trans (Same.upd ht),?_⟩⟩;rw[aB0,ho,aBJ,<- List.append_assoc];exact Paired.append' (pr7.mono (TupS.new ht)) (.cons ⟨t,rfl,aB⟩ .nil)
    ·rintro ys H7 ⟨sm7,pr7⟩;rw[aAu,aBI]at pr7;rw[htk];exact⟨sm6.trans sm7,pr7⟩
   ·rintro ys H6 ⟨sm6,pr6⟩ D hD;rw[aAu,aBI]at pr6;have hpm:(laid ms gs).Perm (bB gs):=by rw[<- sD dg.key];exact sC gs hp
    have sm36:=(sm.trans g5).trans sm6;exact k (laid ms gs) (hl.perm hpm.symm) (nG ac hst) D ys _ (sm36.free hD) (sm36.trans (Same.upd hD)) aB (pr6.mono (TupS.new hD))
abbrev gQ:Stmt:=top 19
theorem eZ:aV ["trains","offsets","row","crowded","place","shortest","size"] ["trains"] (aE gQ):=⟨rfl,rfl,rfl,by decide +kernel,rfl,by decide +kernel,by decide +kernel⟩
theorem J6 {f:Addr} {fd:FuncData} (F:Fun K "row_of" "row_of" gQ f fd) (B:Bt mg) (F_look_trains:bG P w K mg base "look_trains" 1 ["trains"] oB) (F_by_size:bG P w K mg base "by_size" 1 ["trains"] kB) (F_crowds:bG P w K mg base "crowds" 1 ["offsets"] iG)
 (F_drop_last:bG P w K mg base "drop_last" 1 ["offsets","size"] gF) (F_add_train:bG P w K mg base "add_train" 2 ["offsets","size","place"] fL):FnOk P w K mg base CX0 3 f fd ["trains"] lR:=by
 refine F.ok eZ (fun vs H Q E h=>?_) (fun cdv A outer s H vs Q E hr h=>?_)
 ·obtain⟨a,ps,rfl,_⟩:=h;rfl
 ·obtain⟨a,ps,rfl,hps,ht,k⟩:=h;have hu1:=uV hr;have hu:=hr.units;refine⟨_,(aF (bN (bM F_look_trains hr rfl (aA (pv 0) aD)))
 (aF (aQ (i:=1) eZ.nd rfl (Or.inl rfl) (bM F_by_size hr rfl (aA (pv 0) aD)))
 (aF (aQ (i:=2) eZ.nd rfl (Or.inl rfl) (hV aD))
 (aF (kX PassesOwn.never (E2 (pv 1) (fun _=>rfl))
 (aF (aQ (i:=3) eZ.nd rfl (Or.inr rfl) (bM F_crowds hr rfl (aA (pv 1) aD)))
 (aF (xC (aJ (E1 rfl hu) (by rfl) B.max oV (aA (tI (fE ["size","some"] ["crowded"] [3] rfl (.of (show cZ (aE gQ) _ ["trains","offsets","row","crowded","place","shortest","size"] [3] ["crowded"]=true by decide +kernel)) (pI (pv 1)) (fun _ _ _=>(gU (n:=2) K rfl rfl (aP (aK (i:=0) (show (["size","some","crowded"]:List Str).Nodup by decide +kernel) rfl (Or.inl rfl)) (aP (aK (i:=1) (show (["size","some","crowded"]:List Str).Nodup by decide +kernel) rfl (Or.inl rfl)) cF)))) (iZ (bZ (by decide) (bZ (by decide) gT))) (fun _ _ _=>cP) (fun _ _ _=>(iJ (aA (aL bX (fI (jA K rfl) (pv 1) (rF mI aG) (fun _ _=>rfl)) (jY hu1 (pv 2) (pv 0) (fun _ _=>rfl))) (aA (rF mI (pv 0)) aD)))))) aD)) (gD rfl (aP (aK (i:=4) eZ.nd rfl (Or.inl rfl)) (aP (aK (i:=5) eZ.nd rfl (Or.inl rfl)) cF))))
 (aF (aQ (i:=6) eZ.nd rfl (Or.inl rfl) (rF mI (pv 5)))
 (aF (bN (gS aB3 aB4 aB5 dF (pv 2) (aA (pv 4) aD)))
 (aF (bN (bM F_drop_last hr rfl (aA (pv 1) (aA (pv 6) aD))))
 (aH (cY (aX iT (pv 6) aG (aZ _))
 (aH (bN (bM F_add_train hr rfl (aA (pv 1) (aA (aL cD (pv 6) aG) (aA (aL cD (pv 4) aG) aD))))))
 bS))))))))
 (aH (bQ (aJ tH (by rfl) B.sorted cH (aA (pv 2) aD)))))))),?_⟩
  refine⟨_,rfl,a,ps,rfl,hps,ht,fun H1 g1=>?_⟩;refine⟨_,rfl,a,ps,rfl,hps.mono g1,ht.len,fun d gs H2 hd sm2 dg hfp hac hne=>?_⟩;refine⟨by decide,fun r hrn=>?_⟩;have g3:=Same.upd (o:=.lst []) hrn;have er:(upd H2 r (.lst [])) r=some (.lst []):=aB;have sm3:=(g1.trans sm2).trans g3;have hHr:H r=none:=(g1.trans sm2).free hrn;have hHd:H d=none:=g1.free hd;generalize upd H2 r (.lst [])=H3 at g3 er sm3 ⊢;have dg3:DG H3 d gs:=⟨g3 _ _ dg.at_,fun g hg=>g3 _ _ (dg.lst g hg),dg.adr,dg.key⟩;have gd:GoodG gs:=fun g hg=>⟨by
   have hm:=List.getLast_mem (hne g hg).1;exact ht.pos (g.1,g.2.2.getLast (hne g hg).1) (hfp.mem_iff.mp (fK.mpr ⟨g,hg,rfl,hm⟩)),(hne g hg).1⟩
  have hst:sto gs=(szs ps).sum:=by rw[oE,iD hfp];rfl
  have hlo:0<=sto gs:=by have:=(GoodG.bound gd).1;omega
  refine⟨r9 H ps a d r,⟨(sto gs).toNat,gs,[],_,_,_,_,rfl,sm3,dg3,gd,hac,er,fun g hg=>⟨g1.free (hne g hg).2,fun e=>?_⟩,by omega,by have:=ht.few;simp only[List.length_nil];omega,fun r' hr'=>by simpa using hr'.perm hfp⟩,?_⟩
  ·have:=dg.lst g hg;rw[e,hrn]at this;cases this
  clear hst hlo gd dg3 sm3 er g3 hne hfp hac dg sm2 g1;rintro m σ H4 ⟨gs,row,v3,v4,v5,v6,rfl,sm,dg,gd,ac,er,hfr,hm,hcount,fin⟩;obtain⟨hb1,hb2⟩:=GoodG.bound gd;have hpos:∀ q∈bB gs,1<=q.1:=fun q hq=>by
   obtain⟨x,hx,e1,_⟩:=fK.mp hq;rw[<- e1];exact(gd x hx).1
  refine⟨_,rfl,d,kvG gs,rfl,dg.at_,?_⟩
  by_cases hgs:gs=[]
  ·subst hgs;have hfin:Lst row.reverse ps:=by simpa using fin [] .nil
   refine⟨_,rfl,r,row,rfl,er,by omega,fun l ms hl hpm hsm=>?_⟩;have em:=yC hpm hsm hfin.rowp;subst em;exact k row.reverse hfin l _ (sm.free hl) (sm.trans (Same.upd hl)) aB
  have hne:(!(kvG gs).isEmpty)=true:=by
   cases gs with
   | nil=>exact absurd rfl hgs
   | cons _ _=>rfl
  rw[hne];show (if true=true then _ else _);rw[if_pos rfl];refine⟨fun σ' H'=>∃ m',m'<m/\r9 H ps a d r m' σ' H',fun _ _ h=>h,?_⟩;refine⟨_,rfl,d,gs,rfl,dg,gd,by omega,fun g hg=>by have:=hb2 g hg;omega,fun e kvs H5 he sm5 ee hall=>?_⟩;have dg5:DG H5 d gs:=⟨sm5 _ _ dg.at_,fun g hg=>sm5 _ _ (dg.lst g hg),dg.adr,dg.key⟩;refine⟨d,kvG gs,dg5.at_,_,rfl,d,kvG gs,rfl,dg5.at_,fun od=>?_⟩;have hed:e≠d:=fun z=>by rw[z,dg.at_]at he;cases he
  have sd:SameD d H5 (upd H5 d (.frz od (.dK (kvG gs)))):=fun b o n e=>by rw[aC n];exact e
  have ed:(upd H5 d (.frz od (.dK (kvG gs)))) d=some (.frz od (.dK (kvG gs))):=aB;have hlst:∀ g∈gs,(upd H5 d (.frz od (.dK (kvG gs)))) g.2.1=some (.lst (g.2.2.map V.int)):=fun g hg=>sd _ _ (fH (dg5.lst g hg) dg5.at_ (by intro z;cases z)) (dg5.lst g hg);have ee6:(upd H5 d (.frz od (.dK (kvG gs)))) e=some (.dK kvs):=sd _ _ hed ee;generalize upd H5 d (.frz od (.dK (kvG gs)))=H6 at sd ed hlst ee6 ⊢;have hkl:(kvG gs).length=gs.length:=by simp[kvG]
  refine kQ (d:=d) (od:=od) (kvs:=kvG gs) (fun i ys H7=>Same H6 H7/\ys.length=i/\∃ qs:List (Int×Int),Prs H7 ys qs/\(∀ q∈qs,∃ g∈gs,∃ hne:g.2.2≠[],q=(g.2.2.getLast hne+2 * les (bB gs) g.1,-g.1))/\∀ g∈gs.take i,∀ hne:g.2.2≠[],(g.2.2.getLast hne+2 * les (bB gs) g.1,-g.1)∈qs) ⟨Same.refl _,rfl,[],.nil,fun q hq=>(nomatch hq),fun g hg=>by simp at hg⟩ ?_ ?_ ?_
  ·rintro i ys H7 hi ⟨g7,hyl,_⟩;exact⟨g7 _ _ ed,bC (by omega)⟩
  ·rintro i ky x ys H7 t hx ⟨g7,hyl,qs,pr,hq,hq2⟩ htn;obtain⟨g,hg,hgx⟩:∃ g,gs[i]?=some g/\((Sum.inl g.1:Key),V.ref g.2.1)=(ky,x):=by
    unfold kvG at hx;rw[aBT]at hx;obtain⟨g,h1,h2⟩:=aB6.mp hx;exact⟨g,h1,h2⟩
   cases hgx;have hgm:=aBF hg;have g8:=g7.trans (Same.upd (o:=.tup [kV (Sum.inl g.1),V.ref g.2.1]) htn);have pr8:=pr.mono (TupS.same (Same.upd (o:=.tup [kV (Sum.inl g.1),V.ref g.2.1]) htn));have et8:(upd H7 t (.tup [kV (Sum.inl g.1),V.ref g.2.1])) t=some (.tup [kV (Sum.inl g.1),V.ref g.2.1]):=aB;generalize upd H7 t (.tup [kV (Sum.inl g.1),V.ref g.2.1])=H8 at g8 pr8 et8 ⊢;refine⟨t,_,rfl,SqT.of et8,rfl,_,_,rfl,_,_,rfl,rfl,?_⟩;have hne2:g.2.2≠[]:=(gd g hgm).2;have hv:atI (g.2.2.map V.int) (-1)=some (V.int (g.2.2.getLast hne2)):=tN hne2;have hget:DGet H8 e (.int g.1) (some (.int (2 * les (bB gs) g.1))):=by rw[<- hall g hgm];exact DGet.k (k:=(Sum.inl g.1:Key)) (g8 _ _ ee6)
   refine⟨_,rfl,_,rfl,g.2.1,_,_,_,rfl,rfl,SqL.of (g8 _ _ (hlst g hgm)),hv,_,rfl,_,rfl,e,_,rfl,hget,_,_,rfl,rfl,_,rfl,_,rfl,by show 2<=sizeLine;decide,fun t2 ht2=>?_⟩;refine⟨g8.trans (Same.upd ht2),by rw[aBD,hyl];rfl,qs++[(g.2.2.getLast hne2+2 * les (bB gs) g.1,-g.1)],Paired.snoc (pr8.mono (TupS.same (Same.upd ht2))) ⟨t2,rfl,aB⟩,fun q hq'=>?_,fun x hx hnx=>?_⟩
   ·rcases aB9.mp hq' with h | h
    ·exact hq q h
    ·rw[aB1.mp h];exact⟨g,hgm,hne2,rfl⟩
   ·rw[aB0,hg]at hx;rcases aB9.mp hx with h | h
    ·exact aBO _ (hq2 x h hnx)
    ·have:x=g:=by simpa using h
     subst this;exact aAy _ (by simp)
  ·rintro ys H7 ⟨g7,hyl,qs,pr,hq,hq2⟩ D hD;rw[hkl,aBI]at hq2;have hnD:D≠d:=fun z=>by rw[z,g7 _ _ ed]at hD;cases hD
   have edD:(upd H7 D (.lst ys)) d=some (.frz od (.dK (kvG gs))):=by rw[aC (Ne.symm hnD)];exact g7 _ _ ed
   have eD:(upd (upd H7 D (.lst ys)) d (.dK (kvG gs))) D=some (.lst ys):=by rw[aC hnD,aB]
   have pr9:Prs (upd (upd H7 D (.lst ys)) d (.dK (kvG gs))) ys qs:=(pr.mono (TupS.same (Same.upd hD))).mono fun t xs q=>by
    rw[aC (fH q edD (by intro z;cases z))];exact q
   have sm9:Same H5 (upd (upd H7 D (.lst ys)) d (.dK (kvG gs))):=fun b o q=>by
    by_cases hb:b=d
    ·subst hb;rw[aB,<- dg5.at_];exact q
    ·rw[aC hb];exact(g7.trans (Same.upd hD)) _ _ (sd b o hb q)
   refine⟨od,edD,D,ys,qs,rfl,eD,pr9,fun z=>?_,fun j x htop hx=>?_⟩
   ·rw[z]at hyl;rw[hkl]at hyl;exact hgs (List.length_eq_zero_iff.mp hyl.symm)
   generalize upd (upd H7 D (.lst ys)) d (.dK (kvG gs))=H9 at pr9 sm9 ⊢;obtain⟨p,t',hp,rfl,et⟩:=cM pr9 hx;obtain⟨g,hg,hgne,hpg,hplace,hbest⟩:=yD gd htop hp hq hq2;have dg9:DG H9 d gs:=⟨sm9 _ _ dg5.at_,fun g hg=>sm9 _ _ (dg5.lst g hg),dg.adr,dg.key⟩;have er9:=sm9 _ _ (sm5 _ _ er);have smH:=(sm.trans sm5).trans sm9;refine⟨t',_,rfl,SqT.of et,rfl,_,_,rfl,_,_,rfl,rfl,?_⟩;refine⟨_,rfl,_,rfl,?_⟩;refine⟨_,rfl,.inl ⟨rfl,_,SqL.of er9⟩,_,rfl,r,_,_,rfl,rfl,er9,by rw[aAu];exact bC (by omega),?_⟩;have hrd:r≠d:=fH er9 dg9.at_ (by intro z;cases z);have dg10:DG (upd H9 r (.lst (row.map V.int++[V.int p.1]))) d gs:=⟨by rw[aC (Ne.symm hrd)];exact dg9.at_,fun g hg=>by rw[aC (hfr g hg).2];exact dg9.lst g hg,dg.adr,dg.key⟩;have er10:(upd H9 r (.lst (row.map V.int++[V.int p.1]))) r=some (.lst ((row++[p.1]).map V.int)):=by rw[aB,aBJ];rfl
   have sm10:Same H (upd H9 r (.lst (row.map V.int++[V.int p.1]))):=Same.upd' hHr smH;generalize upd H9 r (.lst (row.map V.int++[V.int p.1]))=H10 at dg10 er10 sm10 ⊢;have hg1:=(gd g hg).1;have hnn:-p.2=g.1:=by omega
   refine⟨_,rfl,_,rfl,d,gs,g,by show [V.ref d,V.int (-p.2)]=_;rw[hnn],dg10,hg,hgne,fun H11 st11 dg11=>?_⟩;have sm11:Same H H11:=st11.same sm10 hHd hfr;have er11:=st11 _ _ hrd (fun x hx z=>(hfr x hx).2 z.symm) er10;have gd11:GoodG (shr g.1 gs):=gd.shr g.1;have hw11:sto (shr g.1 gs)=sto gs - g.1:=zO _ dg.key hg hgne;have hfr11:∀ x∈shr g.1 gs,H x.2.1=none/\x.2.1≠r:=fun x hx=>by
    obtain⟨y,hy,e⟩:=zP hx;rw[e];exact hfr y hy
   obtain⟨hc1,hc2⟩:=GoodG.bound gd11;refine⟨_,rfl,_,_,rfl,rfl,_,rfl,?_⟩
   by_cases h1:1<g.1
   ·have hd1:decide ((1:Int) < -p.2)=true:=by rw[hnn];exact aBR h1
    show (if decide ((1:Int) < -p.2)=true then _ else _);rw[hd1,if_pos rfl];refine⟨_,rfl,_,rfl,_,_,rfl,rfl,_,rfl,_,_,rfl,rfl,d,shr g.1 gs,-p.2 - 1,p.1 - 1,rfl,dg11,by omega,fun x hx=>by have:=hc2 x hx;omega,fun gs' H12 st12 dg12 hputs=>?_⟩;rw[tK,hnn]at hputs;have hpu:pK H11 (g.1 - 1) (p.1 - 1 - 2 * les (bB (shr g.1 gs)) (g.1 - 1) - 2 * (g.1 - 1)) (shr g.1 gs) gs':=hputs;obtain⟨hTak,hAsc,hGood⟩:=pN dg.key gd ac hg hgne hplace hbest (.inr ⟨by omega,hpu⟩);have hw12:sto gs'=sto (shr g.1 gs)+(g.1 - 1):=O7 _ dg11.key hpu;have er12:=st12 _ _ hrd (fun x hx z=>(hfr11 x hx).2 z.symm) er11;refine⟨m - 1,by omega,gs',row++[p.1],_,_,_,_,rfl,st12.same sm11 hHd hfr11,dg12,hGood,hAsc,er12,fun x hx=>?_,by omega,by rw[aBD,List.length_singleton];omega,by rw[List.reverse_append];exact vY hTak hpos fin⟩;rcases vS hpu hx with ⟨y,hy,e⟩ | hz
    ·rw[e];exact hfr11 y hy
    ·exact⟨sm11.free hz,fun e=>by rw[e,er11]at hz;cases hz⟩
   ·have hd1:decide ((1:Int) < -p.2)=false:=by rw[hnn];exact aBQ h1
    show (if decide ((1:Int) < -p.2)=true then _ else _);rw[hd1,if_neg aBH];obtain⟨hTak,hAsc,hGood⟩:=pN (H:=H11) dg.key gd ac hg hgne hplace hbest (.inl ⟨by omega,rfl⟩);exact⟨m - 1,by omega,shr g.1 gs,row++[p.1],_,_,_,_,rfl,sm11,dg11,gd11,hAsc,er11,hfr11,by omega,by rw[aBD,List.length_singleton];omega,by rw[List.reverse_append];exact vY hTak hpos fin⟩
abbrev cV:Stmt:=top 22
theorem qP:aV ["niches"] ["niches"] (aE cV):=⟨rfl,rfl,rfl,by decide +kernel,rfl,by decide +kernel,by decide +kernel⟩
theorem qQ {f:Addr} {fd:FuncData} {tC:Tok} (F:Fun K "look_niches" "look_niches" cV f fd) (B:Bt mg) (C2:Cn2 mg tC):FnOk P w K mg base CX0 1 f fd ["niches"] lW:=by
 refine F.ok qP (fun vs H Q E h=>?_) (fun cdv A outer s H vs Q E hr h=>?_)
 ·obtain⟨n,rfl,_⟩:=h;rfl
 ·obtain⟨n,rfl,h0,h1,k⟩:=h;refine⟨_,(aH (cY (PW.pt (oM (aX iX (pv 0) aG (aZ _)) (kM (aX iT (pv 0) (nY (v:=.int 200) rfl C2.MOST_NICHES ⟨_,rfl⟩) (aZ _)))))
 (aH eA)
 bS)),?_⟩
  exact⟨_,rfl,_,_,rfl,rfl,_,rfl,eF (by omega) ⟨_,rfl,_,_,rfl,rfl,_,rfl,eF (by omega) k⟩⟩
abbrev dL:Stmt:=top 23
theorem hZ:aV ["sizes","at","size"] ["sizes"] (aE dL):=⟨rfl,rfl,rfl,by decide +kernel,rfl,by decide +kernel,by decide +kernel⟩
theorem rA {f:Addr} {fd:FuncData} {tC:Tok} (F:Fun K "look_sizes" "look_sizes" dL f fd) (B:Bt mg) (C:Cn mg tC):FnOk P w K mg base CX0 1 f fd ["sizes"] oF:=by
 refine F.ok hZ (fun vs H Q E h=>?_) (fun cdv A outer s H vs Q E hr h=>?_)
 ·obtain⟨a,ns,rfl,_⟩:=h;rfl
 ·obtain⟨a,ns,rfl,ha,hz,k⟩:=h;refine⟨_,(aF (cK PassesOwn.never rfl (tE rfl B.enumerate (aA (pv 0) aD)) (gD rfl (aP (aK (i:=1) hZ.nd rfl (Or.inl rfl)) (aP (aK (i:=2) hZ.nd rfl (Or.inl rfl)) cF)))
 (aH (cY (aX iX (pv 2) aG (aZ _))
 (aH eA)
 bS)))
 (aH (cY (aX iT (aJ (eI rfl) (by rfl) B.sum eG (aA (pv 0) aD)) (nY (v:=.int 60) rfl C.MOST_STONES ⟨_,rfl⟩) (aZ _))
 (aH eA)
 bS))),?_⟩
  refine⟨_,rfl,a,_,rfl,SqL.of ha,pC (K:=K) (a:=a) (xs:=ns.map V.int) (fun i σ H2=>∃ v1 v2,σ=[some (.ref a),v1,v2]/\Same H H2) ⟨none,none,rfl,Same.refl _⟩ (fun i σ H2 _ ⟨_,_,_,sm⟩=>SqL.of (sm _ _ ha)) ?_ ?_⟩
  ·rintro i x σ H2 t hi ⟨v1,v2,rfl,sm⟩ hn;obtain⟨z,rfl,hzz⟩:=int_at hi;have sm2:Same H (upd H2 t (.tup [.int i,.int z])):=sm.trans (Same.upd hn);have:=hz.pos z (aBF hzz);exact⟨t,_,rfl,SqT.of aB,rfl,_,_,rfl,_,_,rfl,rfl,_,rfl,_,_,rfl,rfl,_,rfl,eF (by omega) ⟨_,_,rfl,sm2⟩⟩
  ·rintro σ H2 ⟨v1,v2,rfl,sm⟩;have:=hz.sum;exact⟨_,rfl,a,ns,rfl,sm _ _ ha,_,_,rfl,rfl,_,rfl,eF (by omega) (k _ sm)⟩
abbrev iQ:Stmt:=top 25
theorem U7:aV ["niches","sizes"] ["niches","sizes"] (aE iQ):=⟨rfl,rfl,rfl,by decide +kernel,rfl,by decide +kernel,by decide +kernel⟩
theorem J7 {f:Addr} {fd:FuncData} (F:Fun K "rooms" "rooms" iQ f fd) (B:Bt mg):FnOk P w K mg base CX0 1 f fd ["niches","sizes"] jJ:=by
 refine F.ok U7 (fun vs H Q E h=>?_) (fun cdv A outer s H vs Q E hr h=>?_)
 ·obtain⟨a,niches,ns,rfl,_⟩:=h;rfl
 ·obtain⟨a,niches,ns,rfl,ha,hz,k⟩:=h;refine⟨_,(aH (bQ (Q6 ["size"] ["niches","sizes"] [0,1] rfl (.of (show tV (aE iQ) _ ["niches","sizes"] [0,1] ["niches","sizes"]=true by decide +kernel)) (bW (lV rfl (by rfl) B.sorted cH (by rfl) B.set uZ (aA (pv 1) aD))) (fun _ _ _=>(aK (i:=0) (show (["size","niches","sizes"]:List Str).Nodup by decide +kernel) rfl (Or.inr rfl))) (fT (by decide)) (fun _ _ _=>cP) (fun _ _ _=>(iJ (aA (pv 0) (aA (aL cD (pv 1) (aL cL aG (aJ (eI rfl) (by rfl) B.sum eG (aA (fE ["other"] ["size"] [0] rfl (.of (by rfl)) (vW K rfl (pv 2)) (fun _ _ _=>(aK (i:=0) (show (["other","size"]:List Str).Nodup by decide +kernel) rfl (Or.inl rfl))) (fT (by decide)) (fun _ _ _=>cP) (fun _ _ _=>(aJ (jS rfl) (by rfl) B.min lE (aA (pv 1) (aA (pv 0) aD))))) aD)))) aD))))))),?_⟩;refine⟨_,rfl,a,ns,rfl,ha,hz.few,fun l ms hl hp hup=>?_⟩;have d:Dst ns ms:=⟨hp,hup⟩;have h18:=d.len hz;have hlen:=hz.len;have g1:=Same.upd (o:=.lst (ms.map V.int)) hl;have el:(upd H l (.lst (ms.map V.int))) l=some (.lst (ms.map V.int)):=aB;generalize upd H l (.lst (ms.map V.int))=H1 at g1 el ⊢;refine⟨l,rfl,⟨_,SqL.of el⟩,cU (K:=K) (a:=l) (xs:=ms.map V.int) (fun i ys H2=>Same H1 H2/\Prs H2 ys ((ms.take i).map (rmM niches ns))/\ys.length=i) ⟨Same.refl _,.nil,rfl⟩ ?_ ?_ ?_⟩
  ·rintro i ys H2 hi ⟨sm,pr,hyl⟩;rw[aAu]at hi;exact⟨SqL.of (sm _ _ el),by rw[hyl];exact bC (by omega)⟩
  ·rintro i x ys H2 hi ⟨sm,pr,hyl⟩;obtain⟨m,rfl,hm⟩:=int_at hi;have ha2:=sm _ _ (g1 _ _ ha);refine⟨_,rfl,_,rfl,_,rfl,a,rfl,⟨_,SqL.of ha2⟩,cU (K:=K) (a:=a) (xs:=ns.map V.int) (fun j zs H3=>H3=H2/\zs=((ns.take j).map fun o=>if o<m then o else m).map V.int) ⟨rfl,rfl⟩ ?_ ?_ ?_⟩
   ·rintro j zs H3 hj ⟨rfl,rfl⟩;exact⟨SqL.of ha2,by rw[aAu,aAu,aBK];exact bC (by omega)⟩
   ·rintro j y zs H3 hj ⟨rfl,rfl⟩;obtain⟨o,rfl,ho⟩:=int_at hj;exact⟨_,rfl,_,rfl,_,_,rfl,rfl,vB (fun o=>if o<m then o else m) ho⟩
   rintro zs H3 ⟨rfl,rfl⟩ D hD;rw[aAu,aBI];refine⟨D,ns.map fun o=>if o<m then o else m,rfl,aB,_,_,rfl,rfl,.inl ⟨by decide,by decide⟩,_,_,rfl,rfl,(show 2<=sizeLine by decide),fun p hp2=>?_⟩;have g2:=Same.upd (o:=.lst ((ns.map fun o=>if o<m then o else m).map V.int)) hD;have g3:=Same.upd (o:=.tup [V.int m,V.int (aI niches ns m)]) hp2;have ep:(upd (upd H3 D (.lst ((ns.map fun o=>if o<m then o else m).map V.int))) p (.tup [V.int m,V.int (aI niches ns m)])) p=some (.tup [V.int m,V.int (aI niches ns m)]):=aB;have g4:=g2.trans g3;refine⟨sm.trans g4,?_,by rw[aBD,hyl];rfl⟩;rw[aB0,hm,aBJ];exact Paired.snoc (Prs.mono (TupS.same g4) pr) ⟨p,rfl,ep⟩
  rintro ys H2 ⟨sm,pr,hyl⟩ D hD;rw[aAu,aBI]at pr;have g5:=Same.upd (o:=.lst ys) hD;exact k ms D ys _ d ((g1.trans sm).trans g5) ((g1.trans sm).free hD) aB (Prs.mono (TupS.same g5) pr)
abbrev gC:Stmt:=top 26
theorem iR:aV ["many","room","ways","taken"] ["many","room"] (aE gC):=⟨rfl,rfl,rfl,by decide +kernel,rfl,by decide +kernel,by decide +kernel⟩
theorem yX {f:Addr} {fd:FuncData} (F:Fun K "choices" "choices" gC f fd) (B:Bt mg):FnOk P w K mg base CX0 1 f fd ["many","room"] dU:=by
 refine F.ok iR (fun vs H Q E h=>?_) (fun cdv A outer s H vs Q E hr h=>?_)
 ·obtain⟨n,room,rfl,_⟩:=h;rfl
 ·obtain⟨n,room,rfl,hn,hr2,k⟩:=h;refine⟨_,(aF (cY (aX iX (pv 1) aG (aZ _))
 (aH (bQ aG))
 bS)
 (aF (aQ (i:=2) iR.nd rfl (Or.inl rfl) aG)
 (aF (cK PassesOwn.never rfl (jR rfl B.range (aA aG (aA (aL bX (pv 0) aG) aD))) (aK (i:=3) iR.nd rfl (Or.inl rfl))
 (aH (aQ (i:=2) iR.nd rfl (Or.inl rfl) (aL nZ (aL cL (pv 2) (aL bX (pv 1) (pv 3))) (pv 3)))))
 (aH (bQ (pv 2)))))),?_⟩
  refine⟨_,rfl,_,_,rfl,rfl,_,rfl,lF (fun c=>?_) (fun c=>?_)⟩
  ·unfold chO at k;rw[if_pos c]at k;exact k
  ·unfold chO at k;rw[if_neg c]at k;refine⟨_,rfl,_,_,rfl,rfl,_,_,rfl,⟨by decide,by decide,by omega,by omega⟩,dS (lo:=1) (fun i σ H2=>∃ v,σ=[some (.int n),some (.int room),some (.int (chW room i)),v]/\H2=H) ⟨none,rfl,rfl⟩ ?_ ?_⟩
   ·rintro i σ H2 hi ⟨v,rfl,rfl⟩;refine⟨_,rfl,_,rfl,_,rfl,_,_,rfl,rfl,_,_,rfl,rfl,.inr ⟨by omega,by omega⟩,_,rfl,_,_,rfl,rfl,⟨by omega,by omega⟩,some (V.int (1+(i:Int))),?_,rfl⟩;show _=[some (V.int n),some (V.int room),some (V.int (chW room i * (room+((i:Int)+1)) / ((i:Int)+1))),_];rw[show (1:Int)+i=(i:Int)+1 by omega];rfl
   ·rintro σ H2 ⟨v,rfl,rfl⟩;have e:((n:Int)+1 - 1).toNat=n:=by omega
    rw[e];exact⟨_,rfl,k⟩
abbrev fA:Stmt:=top 24
theorem fN:aV ["niches","sizes","many","size","room"] ["niches","sizes"] (aE fA):=⟨rfl,rfl,rfl,by decide +kernel,rfl,by decide +kernel,by decide +kernel⟩
theorem wX {f:Addr} {fd:FuncData} (F:Fun K "how_many" "how_many" fA f fd) (B:Bt mg) (F_look_niches:bG P w K mg base "look_niches" 1 ["niches"] lW) (F_look_sizes:bG P w K mg base "look_sizes" 1 ["sizes"] oF)
 (F_rooms:bG P w K mg base "rooms" 1 ["niches","sizes"] lX) (F_choices:bG P w K mg base "choices" 1 ["many","room"] dU):FnOk P w K mg base CX0 2 f fd ["niches","sizes"] pY:=by
 refine F.ok fN (fun vs H Q E h=>?_) (fun cdv A outer s H vs Q E hr h=>?_)
 ·obtain⟨a,niches,ns,rfl,_⟩:=h;rfl
 ·obtain⟨a,niches,ns,rfl,ha,hz,hn0,hn1,k⟩:=h;refine⟨_,(aF (bN (bM F_look_niches hr rfl (aA (pv 0) aD)))
 (aF (bN (bM F_look_sizes hr rfl (aA (pv 1) aD)))
 (aF (aQ (i:=2) fN.nd rfl (Or.inl rfl) aG)
 (aF (cK PassesOwn.never rfl (bW (bM F_rooms hr rfl (aA (pv 0) (aA (pv 1) aD)))) (gD rfl (aP (aK (i:=3) fN.nd rfl (Or.inl rfl)) (aP (aK (i:=4) fN.nd rfl (Or.inl rfl)) cF)))
 (aH (iW (i:=2) fN.nd rfl (Or.inl rfl) (bM F_choices hr rfl (aA (gS aB3 PySem.F.slot_list_count PySem.F.type_list_count mV (pv 1) (aA (pv 3) aD)) (aA (pv 4) aD))) Y3)))
 (aH (bQ (pv 2))))))),?_⟩
  refine⟨_,rfl,niches,rfl,hn0,hn1,?_⟩;refine⟨_,rfl,a,ns,rfl,ha,hz,fun H1 g1=>?_⟩;have ha1:=g1 _ _ ha;refine⟨_,rfl,_,rfl,a,niches,ns,rfl,ha1,hz,fun ms l us H2 d g2 el pr=>?_⟩;have ha2:=g2 _ _ ha1;have hul:us.length=ms.length:=by rw[pr.len,aAu]
  refine⟨l,rfl,⟨_,SqL.of el⟩,eC (K:=K) (a:=l) (xs:=us) (fun i σ Hx=>∃ v1 v2,σ=[some (.int niches),some (.ref a),some (.int (bF niches ns (ms.take i))),v1,v2]/\Hx=H2) ⟨none,none,rfl,rfl⟩ (fun i σ Hx _ ⟨_,_,_,e⟩=>by rw[e];exact SqL.of el) ?_ ?_⟩
  ·rintro i x σ Hx hi ⟨v1,v2,rfl,rfl⟩;obtain⟨p,t',hp,rfl,et⟩:=cM pr hi;rw[aBT]at hp;obtain⟨m,hm,rfl⟩:∃ m,ms[i]?=some m/\rmM niches ns m=p:=by
    cases hq:ms[i]? with
    | none=>rw[hq]at hp;cases hp
    | some m=>rw[hq]at hp;exact⟨m,rfl,Option.some.inj hp⟩
   have hi':i<ms.length:=(aB7.mp hm).1;have h1:=d.pos hz m (aBF hm);have hc:ns.count m<=60:=Nat.le_trans List.count_le_length hz.len;have hb:=yN (i:=i) hn1 hz.pos hz.len (d.pos hz) (d.len hz) (by omega) h1;refine⟨t',_,rfl,SqT.of et,rfl,_,_,rfl,_,_,rfl,rfl,?_⟩;refine⟨_,rfl,_,rfl,.inl ⟨rfl,_,SqL.of ha2⟩,_,rfl,a,ns,m,rfl,rfl,ha2,_,rfl,ns.count m,aI niches ns m,rfl,hc,gK hn1 hz.pos h1,_,_,rfl,rfl,hb,some (V.int m),some (V.int (aI niches ns m)),?_,rfl⟩;rw[kC hm];rfl
  ·rintro σ Hx ⟨v1,v2,rfl,rfl⟩;rw[hul,aBI];exact⟨_,rfl,k ms _ d (g1.trans g2)⟩
abbrev bU:Stmt:=top 28
theorem bI:aV ["many","room","number","offsets","least","rest","ways"] ["many","room","number"] (aE bU):=⟨rfl,rfl,rfl,by decide +kernel,rfl,by decide +kernel,by decide +kernel⟩
theorem kG {f:Addr} {fd:FuncData} (F:Fun K "offsets_numbered" "offsets_numbered" bU f fd) (B:Bt mg) (F_choices:bG P w K mg base "choices" 1 ["many","room"] dU):FnOk P w K mg base CX0 2 f fd ["many","room","number"] mE:=by
 refine F.ok bI (fun vs H Q E h=>?_) (fun cdv A outer s H vs Q E hr h=>?_)
 ·obtain⟨many,room,N,rfl,_⟩:=h;rfl
 ·obtain⟨many,room,N,rfl,hm,hr0,hr1,hN0,hN1,k⟩:=h;refine⟨_,(aF (aQ (i:=3) bI.nd rfl (Or.inl rfl) (hV aD))
 (aF (aQ (i:=4) bI.nd rfl (Or.inl rfl) aG)
 (aF (aQ (i:=5) bI.nd rfl (Or.inl rfl) (pv 2))
 (aF (kX PassesOwn.never (aX iX (aJ bD (by rfl) B.len PySem.boot_len (aA (pv 3) aD)) (pv 0) (aZ _))
 (aF (aQ (i:=6) bI.nd rfl (Or.inl rfl) (bM F_choices hr rfl (aA (aL cD (aL cD (pv 0) (aJ bD (by rfl) B.len PySem.boot_len (aA (pv 3) aD))) aG) (aA (aL cD (pv 1) (pv 4)) aD))))
 (aH (cY (aX iX (pv 5) (pv 6) (aZ _))
 (aH (bN (gS aB3 aB4 aB5 dF (pv 3) (aA (pv 4) aD))))
 (aF (iW (i:=5) bI.nd rfl (Or.inl rfl) (pv 6) K4)
 (aH (iW (i:=4) bI.nd rfl (Or.inl rfl) aG sR)))))))
 (aH (bQ (pv 3))))))),?_⟩
  refine⟨by decide,fun lo hlo=>?_⟩;have g1:=Same.upd (o:=.lst []) hlo;have el:(upd H lo (.lst [])) lo=some (.lst (([]:List Int).map V.int)):=aB;generalize upd H lo (.lst [])=H1 at g1 el ⊢;refine⟨_,rfl,?_⟩;refine⟨u6 H many room N lo,⟨_,[],0,N,none,rfl,g1,el,Nat.zero_le _,Int.le_refl 0,hr0,hN0,by rw[Int.sub_zero];exact hN1,fun tl _ hv=>⟨hv,by rw[List.nil_append];omega⟩,rfl⟩,?_⟩;rintro m σ Hx ⟨os,l,r,v6,rfl,sm,elx,hle,hl0,hlr,hr0',hrc,hall,hmeas⟩;refine⟨_,rfl,lo,_,rfl,.inl (SqL.of elx),_,rfl,_,_,rfl,rfl,_,rfl,?_⟩;rw[aAu]
  by_cases c:(os.length:Int)<(many:Int)
  ·refine vA c ?_;have hk:many - os.length=(many - os.length - 1)+1:=by omega
   generalize hkk:many - os.length - 1=k0 at hk;rw[hk]at hrc hall hmeas;have hvs:[V.int ((many:Int) - ((os.map V.int).length:Int) - 1),V.int (room - l)]=[V.int ((k0:Nat):Int),V.int (room - l)]:=by
    rw[aAu]
    congr 2
    omega
   refine⟨fun σ' H'=>∃ m',m'<m/\u6 H many room N lo m' σ' H',fun _ _ h=>h,?_⟩;refine⟨_,rfl,_,rfl,lo,_,rfl,.inl (SqL.of elx),_,_,rfl,rfl,_,_,rfl,rfl,_,rfl,_,rfl,_,_,rfl,rfl,k0,_,hvs,by omega,by omega,?_⟩;rw[fR (by omega)];refine⟨_,rfl,_,rfl,_,_,rfl,rfl,_,rfl,lF (fun c2=>?_) (fun c2=>?_)⟩
   ·refine⟨_,rfl,.inl ⟨rfl,_,SqL.of elx⟩,_,rfl,lo,_,_,rfl,rfl,elx,by rw[aAu];exact bC (by omega),?_⟩;refine⟨k0+(room - l).toNat,by omega,os++[l],l,r,_,rfl,Same.upd' hlo sm,by rw[aB,aBJ];rfl,by rw[aBD];simp;omega,hl0,hlr,hr0',?_,fun tl htl hv=>?_,?_⟩
    ·rw[aBD,List.length_singleton,show many - (os.length+1)=k0 by omega];exact c2
    ·rw[aBD,List.length_singleton,show many - (os.length+1)=k0 by omega]at htl;obtain⟨a1,a2⟩:=hall (l :: tl) (by rw[aBY,htl]) ⟨Int.le_refl _,hlr,hv⟩;rw[List.append_assoc];refine⟨a1,?_⟩;rw[show [l]++tl=l :: tl from rfl,a2];show N - r+(sw room tl.length l (l - l).toNat+rk room l tl)=_;rw[Int.sub_self];show N - r+(0+rk room l tl)=_;omega
    ·rw[aBD,List.length_singleton];omega
   ·have hR:l+1<=room:=by
     apply Decidable.byContradiction
     intro z;have:(room - l).toNat=0:=by omega
     rw[this,eN]at hrc c2;omega
    have hs:cb (room - l).toNat (k0+1)=cb (room - (l+1)).toNat (k0+1)+cb (room - l).toNat k0:=by
     rw[show (room - l).toNat=(room - (l+1)).toNat+1 by omega,eO]
    rw[hs]at hrc;refine⟨_,rfl,_,rfl,_,_,rfl,rfl,_,rfl,_,_,rfl,rfl,?_⟩;refine⟨(k0+1)+(room - (l+1)).toNat,by omega,os,l+1,r - (cb (room - l).toNat k0:Int),_,rfl,sm,elx,hle,by omega,hR,by omega,by rw[hk];omega,fun tl htl hv=>?_,by rw[hk]⟩;rw[hk]at htl;cases tl with
    | nil=>simp at htl
    | cons o tl =>
     obtain⟨a1,a2⟩:=hall (o :: tl) htl (G9 hv);refine⟨a1,?_⟩;rw[a2,wP hv.1,fR (by omega),show tl.length=k0 by simpa using htl];omega
  ·refine eF c ?_;have he:many - os.length=0:=by omega
   rw[he,fF]at hrc;obtain⟨a1,a2⟩:=hall [] (by rw[he];rfl) trivial;rw[List.append_nil]at a1 a2;refine⟨_,rfl,k os (by omega) a1 (by rw[a2];show N - r+0=N;omega) lo Hx hlo sm elx⟩
abbrev cE:Stmt:=top 27
theorem bE:aV ["niches","sizes","number","many","pairs","rest","size","room","count","chosen"] ["niches","sizes","number"] (aE cE):=⟨rfl,rfl,rfl,by decide +kernel,rfl,by decide +kernel,by decide +kernel⟩
theorem nA {f:Addr} {fd:FuncData} (F:Fun K "row_numbered" "row_numbered" cE f fd) (B:Bt mg) (B5:Bt5 mg) (F_how_many:bG P w K mg base "how_many" 2 ["niches","sizes"] pY) (F_rooms:bG P w K mg base "rooms" 1 ["niches","sizes"] jJ) (F_choices:bG P w K mg base "choices" 1 ["many","room"] dU)
 (F_offsets_numbered:bG P w K mg base "offsets_numbered" 2 ["many","room","number"] mE) (F_row_of:bG P w K mg base "row_of" 3 ["trains"] lR):FnOk P w K mg base CX0 4 f fd ["niches","sizes","number"] mF:=by
 refine F.ok bE (fun vs H Q E h=>?_) (fun cdv A outer s H vs Q E hr h=>?_)
 ·obtain⟨n,a,ns,N,rfl,_⟩:=h;rfl
 ·obtain⟨niches,a,ns,N,rfl,ha,hz,hn0,hn1,hN,k⟩:=h;refine⟨_,(aF (aQ (i:=3) bE.nd rfl (Or.inl rfl) (bM F_how_many hr rfl (aA (pv 0) (aA (pv 1) aD))))
 (aF (cY (PW.pt (oM (aX iX (pv 2) aG (aZ _)) (kM (aX z0 (pv 2) (pv 3) (aZ _)))))
 (aH eA)
 bS)
 (aF (aQ (i:=4) bE.nd rfl (Or.inl rfl) (hV aD))
 (aF (aQ (i:=5) bE.nd rfl (Or.inl rfl) (pv 2))
 (aF (cK PassesOwn.never rfl (bW (bM F_rooms hr rfl (aA (pv 0) (aA (pv 1) aD)))) (gD rfl (aP (aK (i:=6) bE.nd rfl (Or.inr rfl)) (aP (aK (i:=7) bE.nd rfl (Or.inl rfl)) cF)))
 (aF (aQ (i:=8) bE.nd rfl (Or.inl rfl) (gS aB3 PySem.F.slot_list_count PySem.F.type_list_count mV (pv 1) (aA (pv 6) aD)))
 (aF (iW (i:=3) bE.nd rfl (Or.inl rfl) (bM F_choices hr rfl (aA (pv 8) (aA (pv 7) aD))) T4)
 (aF (xC (aJ uD (by rfl) B5.divmod PyProof.Rows.boot_divmod (aA (pv 5) (aA (pv 3) aD))) (gD rfl (aP (aK (i:=9) bE.nd rfl (Or.inl rfl)) (aP (aK (i:=5) bE.nd rfl (Or.inl rfl)) cF))))
 (aH (bN (gS aB3 PySem.F.slot_list_extend PySem.F.type_list_extend C3 (pv 4) (aA (fE ["offset"] ["size"] [6] rfl (.of (show cZ (aE cE) _ ["niches","sizes","number","many","pairs","rest","size","room","count","chosen"] [6] ["size"]=true by decide +kernel)) (bW (bM F_offsets_numbered hr rfl (aA (pv 8) (aA (pv 7) (aA (pv 9) aD))))) (fun _ _ _=>(aK (i:=0) (show (["offset","size"]:List Str).Nodup by decide +kernel) rfl (Or.inl rfl))) (fT (by decide)) (fun _ _ _=>cP) (fun _ _ _=>(iJ (aA (pv 1) (aA (pv 0) aD))))) aD))))))))
 (aH (bQ (bM F_row_of hr rfl (aA (pv 4) aD))))))))),?_⟩
  refine⟨_,rfl,_,rfl,a,niches,ns,rfl,ha,hz,hn0,hn1,fun ms H1 d g1=>?_⟩;have hN1:=hN ms d;have hfew:=T1 hn0 hn1 hz d;have hlen:=hz.len;refine⟨_,rfl,_,_,rfl,rfl,_,rfl,eF (by omega) ?_⟩;refine⟨_,rfl,_,rfl,_,_,rfl,rfl,_,rfl,eF (by omega) ?_⟩;refine⟨by decide,fun lp hlp=>?_⟩;have g2:=Same.upd (o:=.lst []) hlp;have elp:(upd H1 lp (.lst [])) lp=some (.lst []):=aB;generalize upd H1 lp (.lst [])=H2 at g2 elp ⊢;refine⟨_,rfl,?_⟩;have ha1:=g1 _ _ ha;refine⟨_,rfl,_,rfl,a,niches,ns,rfl,g2 _ _ ha1,hz,fun ms' l us H3 d' g3 hl el pr=>?_⟩;obtain rfl:ms'=ms:=d'.eq d fun _=>Iff.rfl;have hul:us.length=ms'.length:=by rw[pr.len,aAu]
  have nl:l≠lp:=fun e=>by rw[e,elp]at hl;cases hl
  refine⟨l,rfl,⟨_,SqL.of el⟩,eC (K:=K) (a:=l) (xs:=us) (rnW H1 niches N a lp l ns ms' us) ⟨[],[],N,none,none,none,none,rfl,g2.trans g3,el,pr,g3 _ _ elp,.nil,⟨fun p hp=>(nomatch hp),fun m hm=>(nomatch hm),hN1.1,hN1.2,hfew,by show 0 * _+N=N;rw[Int.zero_mul,Int.zero_add],List.Pairwise.nil,rfl⟩⟩ (fun i σ Hx _ h=>by obtain⟨_,_,_,_,_,_,_,_,_,e,_⟩:=h;exact SqL.of e) ?_ ?_⟩
  ·rintro i x σ Hx hi ⟨ps,ws,rest,v6,v7,v8,v9,rfl,sm,elx,prx,elpx,pw,I⟩;obtain⟨p,t',hp,rfl,et⟩:=cM prx hi;rw[aBT]at hp;obtain⟨m,hm,rfl⟩:∃ m,ms'[i]?=some m/\rmM niches ns m=p:=by
    cases hq:ms'[i]? with
    | none=>rw[hq]at hp;cases hp
    | some m=>rw[hq]at hp;exact⟨m,rfl,Option.some.inj hp⟩
   have hi':i<ms'.length:=(aB7.mp hm).1;have h1:=d.pos hz m (aBF hm);have hc:ns.count m<=60:=Nat.le_trans List.count_le_length hz.len;have hax:=sm _ _ ha1;have hdr:ms'.drop i=m :: ms'.drop (i+1):=tX hm;rw[hdr]at I ⊢;obtain⟨hcp,hMp,hdiv,hcf,hMf,hroom,hq0,hq1⟩:=I.parts;have hlt:∀ x∈ms'.take i,x<m:=fun x hx=>by
    have hup:=d.up;rw[<- List.take_append_drop i ms',hdr]at hup;exact(List.pairwise_append.mp hup).2.2 x hx m aAw
   refine⟨t',_,rfl,SqT.of et,rfl,_,_,rfl,_,_,rfl,rfl,?_⟩;refine⟨_,rfl,.inl ⟨rfl,_,SqL.of hax⟩,_,rfl,a,ns,m,rfl,rfl,hax,?_⟩;refine⟨_,rfl,_,rfl,_,rfl,ns.count m,aI niches ns m,rfl,hc,gK hn1 hz.pos h1,_,_,rfl,rfl,sK hcp hcf,?_⟩;rw[hdiv];refine⟨_,rfl,_,rfl,_,_,rfl,sK hMp hMf,fun td htd=>?_⟩;have g4:=Same.upd (o:=.tup [.int (rest / bF niches ns (ms'.drop (i+1))),.int (rest % bF niches ns (ms'.drop (i+1)))]) htd;have etd:(upd Hx td (.tup [.int (rest / bF niches ns (ms'.drop (i+1))),.int (rest % bF niches ns (ms'.drop (i+1)))])) td=some (.tup [.int (rest / bF niches ns (ms'.drop (i+1))),.int (rest % bF niches ns (ms'.drop (i+1)))]):=aB;generalize upd Hx td (.tup [.int (rest / bF niches ns (ms'.drop (i+1))),.int (rest % bF niches ns (ms'.drop (i+1)))])=H4 at g4 etd ⊢;refine⟨td,_,rfl,SqT.of etd,rfl,_,_,rfl,_,_,rfl,rfl,?_⟩;have elp4:=g4 _ _ elpx;refine⟨_,rfl,.inl ⟨rfl,_,SqL.of elp4⟩,_,rfl,_,rfl,_,rfl,ns.count m,aI niches ns m,_,rfl,hc,hroom,gK hn1 hz.pos h1,hq0,hq1,fun os hol hov hok lo H5 hlo g5 elo=>?_⟩;refine⟨lo,rfl,⟨_,SqL.of elo⟩,cU (K:=K) (a:=lo) (xs:=os.map V.int) (fun j ys H6=>Same H5 H6/\Prs H6 ys ((os.take j).map fun o=>(m,o))/\ys.length=j) ⟨Same.refl _,.nil,rfl⟩ ?_ ?_ ?_⟩
   ·rintro j ys H6 hj ⟨sm6,pr6,hyl⟩;rw[aAu]at hj;exact⟨SqL.of (sm6 _ _ elo),by rw[hyl];exact bC (by omega)⟩
   ·rintro j y ys H6 hj ⟨sm6,pr6,hyl⟩;obtain⟨o,rfl,ho⟩:=int_at hj;refine⟨_,rfl,_,rfl,(show 2<=sizeLine by decide),fun q hq=>?_⟩;have g7:=Same.upd (o:=.tup [V.int m,V.int o]) hq;refine⟨sm6.trans g7,?_,by rw[aBD,hyl];rfl⟩;rw[aB0,ho,aBJ];exact Paired.snoc (Prs.mono (TupS.same g7) pr6) ⟨q,rfl,aB⟩
   rintro ys H6 ⟨sm6,pr6,hyl⟩ D hD;rw[aAu,aBI]at pr6;have g8:=Same.upd (o:=.lst ys) hD;have eD:(upd H6 D (.lst ys)) D=some (.lst ys):=aB;generalize upd H6 D (.lst ys)=H7 at g8 eD ⊢;have gx:=((g4.trans g5).trans sm6).trans g8;have elp7:=gx _ _ elpx;have I':=I.step hlt hol hov hok;have hpl:ps.length+os.length<=60:=by
    have z:=I'.len;rw[aBD,aAu]at z;omega
   refine⟨lp,D,ws,ys,rfl,rfl,elp7,eD,by rw[pw.len,hyl,aAu];exact Nat.le_of_lt (bC (by omega)),?_⟩;refine⟨ps++os.map fun o=>(m,o),ws++ys,_,_,_,_,_,rfl,Same.upd' hlp (sm.trans gx),by rw[aC nl];exact gx _ _ elx,prx.mono ((TupS.same gx).trans (TupS.lst elp7)),aB,?_,?_⟩
   ·exact Paired.append' (pw.mono ((TupS.same gx).trans (TupS.lst elp7))) (pr6.mono ((TupS.same g8).trans (TupS.lst elp7)))
   ·rw[aB0,hm];exact I'
  ·rintro σ Hx ⟨ps,ws,rest,v6,v7,v8,v9,rfl,sm,elx,prx,elpx,pw,I⟩;rw[hul,aBI,List.drop_length]at I;have hr1:rest=0:=by
    have z1:=I.r0;have z2:rest<1:=I.r1;omega
   subst hr1;refine⟨_,rfl,lp,ps,rfl,⟨ws,elpx,pw⟩,I.trn d hz,fun r hr' lr Hr hlr gr er=>?_⟩;exact k ms' ps r d I (I.trn d hz) hr' lr Hr ((g1.trans sm).free hlr) ((g1.trans sm).trans gr) er
abbrev bP:Stmt:=top 30
theorem aY:aV ["offsets","room","number","least","at","offset","lesser"] ["offsets","room"] (aE bP):=⟨rfl,rfl,rfl,by decide +kernel,rfl,by decide +kernel,by decide +kernel⟩
theorem jM {f:Addr} {fd:FuncData} (F:Fun K "number_of_offsets" "number_of_offsets" bP f fd) (B:Bt mg) (F_choices:bG P w K mg base "choices" 1 ["many","room"] dU):FnOk P w K mg base CX0 2 f fd ["offsets","room"] mB:=by
 refine F.ok aY (fun vs H Q E h=>?_) (fun cdv A outer s H vs Q E hr h=>?_)
 ·obtain⟨a,os,room,rfl,_⟩:=h;rfl
 ·obtain⟨a,os,room,rfl,ha,hl,hv,hr0,hr1,k⟩:=h;refine⟨_,(aF (aQ (i:=2) aY.nd rfl (Or.inl rfl) aG)
 (aF (aQ (i:=3) aY.nd rfl (Or.inl rfl) aG)
 (aF (cK PassesOwn.never rfl (tE rfl B.enumerate (aA (pv 0) aD)) (gD rfl (aP (aK (i:=4) aY.nd rfl (Or.inl rfl)) (aP (aK (i:=5) aY.nd rfl (Or.inl rfl)) cF)))
 (aF (cK PassesOwn.never rfl (jR rfl B.range (aA (pv 3) (aA (pv 5) aD))) (aK (i:=6) aY.nd rfl (Or.inl rfl))
 (aH (iW (i:=2) aY.nd rfl (Or.inl rfl) (bM F_choices hr rfl (aA (aL cD (aL cD (aJ bD (by rfl) B.len PySem.boot_len (aA (pv 0) aD)) (pv 4)) aG) (aA (aL cD (pv 1) (pv 6)) aD))) sR)))
 (aH (aQ (i:=3) aY.nd rfl (Or.inl rfl) (pv 5)))))
 (aH (bQ (pv 2)))))),?_⟩
  refine⟨_,rfl,a,_,rfl,SqL.of ha,pC (K:=K) (a:=a) (xs:=os.map V.int) (fun i σ H2=>∃ (N l:Int) (v4 v5 v6:Option V),σ=[some (.ref a),some (.int room),some (.int N),some (.int l),v4,v5,v6]/\Same H H2/\0<=l/\l<=room/\Vld room l (os.drop i)/\N+rk room l (os.drop i)=rk room 0 os)
   ⟨0,0,none,none,none,rfl,Same.refl _,Int.le_refl 0,hr0,hv,by rw[List.drop_zero,Int.zero_add]⟩ (fun i σ H2 _ ⟨_,_,_,_,_,_,sm,_⟩=>SqL.of (sm _ _ ha)) ?_ ?_⟩
  ·rintro i x σ H2 t hi ⟨N,l,v4,v5,v6,rfl,sm,hl0,hlr,hvl,hN⟩ hn;obtain⟨o,rfl,ho⟩:=int_at hi;have hil:i<os.length:=(aB7.mp ho).1;have hdr:os.drop i=o :: os.drop (i+1):=by
    rw[List.drop_eq_getElem_cons hil]
    congr 1
    exact(aB7.mp ho).2
   rw[hdr]at hvl hN;obtain⟨w1,w2,w3⟩:=hvl;have g1:=Same.upd (o:=.tup [V.int i,V.int o]) hn;have et:(upd H2 t (.tup [V.int i,V.int o])) t=some (.tup [V.int i,V.int o]):=aB;generalize upd H2 t (.tup [V.int i,V.int o])=H3 at g1 et ⊢;have ha3:=(sm.trans g1) _ _ ha;refine⟨t,_,rfl,SqT.of et,rfl,_,_,rfl,_,_,rfl,rfl,?_⟩;have hkl:(os.drop (i+1)).length=os.length - i - 1:=by rw[List.length_drop];omega
   refine⟨_,rfl,_,rfl,_,_,rfl,⟨by omega,by omega,by omega,by omega⟩,dS (lo:=l) (n:=(o - l).toNat) (fun j σ H4=>∃ v6:Option V,σ=[some (.ref a),some (.int room),some (.int (N+sw room (os.drop (i+1)).length l j)),some (.int l),some (.int i),some (.int o),v6]/\H4=H3) ⟨v6,by show _=[_,_,some (V.int (N+0)),_,_,_,_];rw[Int.add_zero];rfl,rfl⟩ ?_ ?_⟩
   ·rintro j σ H4 hj ⟨v6,rfl,rfl⟩;refine⟨_,rfl,_,rfl,a,_,rfl,.inl (SqL.of ha3),_,rfl,_,_,rfl,rfl,_,_,rfl,rfl,_,rfl,_,rfl,_,_,rfl,rfl,?_⟩;refine⟨(os.drop (i+1)).length,room - (l+(j:Int)),?_,by omega,by omega,_,_,rfl,rfl,some (V.int (l+(j:Int))),?_,rfl⟩
    ·show [V.int (((os.map V.int).length:Int) - (i:Int) - 1),V.int (room - (l+(j:Int)))]=_;rw[aAu,hkl]
     congr 2
     omega
    ·show _=[_,_,some (V.int (N+(sw room (os.drop (i+1)).length l j+chO (os.drop (i+1)).length (room - (l+(j:Int)))))),_,_,_,_];rw[<- Int.add_assoc];rfl
   ·rintro σ H4 ⟨v6,rfl,rfl⟩;refine⟨_,rfl,_,o,_,_,_,rfl,sm.trans g1,by omega,w2,w3,?_⟩;rw[<- hN];show _=N+(sw room (os.drop (i+1)).length l (o - l).toNat+rk room o (os.drop (i+1)));omega
  ·rintro σ H2 ⟨N,l,v4,v5,v6,rfl,sm,hl0,hlr,hvl,hN⟩;rw[aAu,List.drop_length]at hN;have:N=rk room 0 os:=by rw[<- hN];show N=N+0;omega
   rw[this];exact⟨_,rfl,k _ sm⟩
abbrev cO:Stmt:=top 29
theorem cI:aV ["niches","row","pairs","number","sizes","size","room","offsets"] ["niches","row"] (aE cO):=⟨rfl,rfl,rfl,by decide +kernel,rfl,by decide +kernel,by decide +kernel⟩
theorem rB {f:Addr} {fd:FuncData} (F:Fun K "number_of" "number_of" cO f fd) (B:Bt mg) (F_look_row:bG P w K mg base "look_row" 1 ["row"] oY) (F_look_niches:bG P w K mg base "look_niches" 1 ["niches"] lW) (F_list_of:bG P w K mg base "list_of" 4 ["row"] lQ) (F_rooms:bG P w K mg base "rooms" 1 ["niches","sizes"] lX) (F_choices:bG P w K mg base "choices" 1 ["many","room"] dU) (F_number_of_offsets:bG P w K mg base "number_of_offsets" 2 ["offsets","room"] mB):FnOk P w K mg base CX0 5 f fd ["niches","row"] uF:=by
 refine F.ok cI (fun vs H Q E h=>?_) (fun cdv A outer s H vs Q E hr h=>?_)
 ·obtain⟨n,a,row,rfl,_⟩:=h;rfl
 ·obtain⟨niches,a,row,rfl,ha,hrow,hrl,hn0,hn1,k2,k1⟩:=h;refine⟨_,(aF (bN (bM F_look_row hr rfl (aA (pv 1) aD)))
 (aF (bN (bM F_look_niches hr rfl (aA (pv 0) aD)))
 (aF (aQ (i:=2) cI.nd rfl (Or.inl rfl) (bM F_list_of hr rfl (aA (pv 1) aD)))
 (aF (aQ (i:=3) cI.nd rfl (Or.inl rfl) aG)
 (aF (lC (i:=4) ["size","offset"] [] [] rfl cI.nd rfl rfl (.of (show cZ (aE cO) _ ["niches","row","pairs","number","sizes","size","room","offsets"] [] []=true by decide +kernel)) (bW (pv 2)) (fun _ _ _=>(gU (n:=2) K rfl rfl (aP (aK (i:=0) (show (["size","offset"]:List Str).Nodup by decide +kernel) rfl (Or.inl rfl)) (aP (aK (i:=1) (show (["size","offset"]:List Str).Nodup by decide +kernel) rfl (Or.inl rfl)) cF)))) (iZ (bZ (by decide) (bZ (by decide) gT))) (fun _ _ _=>cP) (fun _ _ _=>(pv 0)) (by first | rfl | decide +kernel))
 (aF (cK PassesOwn.never rfl (bW (bM F_rooms hr rfl (aA (pv 0) (aA (pv 4) aD)))) (gD rfl (aP (aK (i:=5) cI.nd rfl (Or.inr rfl)) (aP (aK (i:=6) cI.nd rfl (Or.inl rfl)) cF)))
 (aF (lC (i:=7) ["other","offset"] ["size"] [5] rfl cI.nd rfl rfl (.of (show cZ (aE cO) _ ["niches","row","pairs","number","sizes","size","room","offsets"] [5] ["size"]=true by decide +kernel)) (bW (pv 2)) (fun _ _ _=>(gU (n:=2) K rfl rfl (aP (aK (i:=0) (show (["other","offset","size"]:List Str).Nodup by decide +kernel) rfl (Or.inl rfl)) (aP (aK (i:=1) (show (["other","offset","size"]:List Str).Nodup by decide +kernel) rfl (Or.inl rfl)) cF)))) (iZ (bZ (by decide) (bZ (by decide) gT))) (fun _ _ _=>sY (aX oW (pv 0) (pv 2) (aZ _))) (fun _ _ _=>(pv 1)) (by first | rfl | decide +kernel))
 (aF (cY (PW.pt (oM (aX iX (fI eE (pv 7) aG (fun _ _=>rfl)) aG (aZ _)) (kM (aX iT (fI eE (pv 7) (rF mI aG) (fun _ _=>rfl)) (pv 6) (aZ _)))))
 (aH eA)
 bS)
 (aH (aQ (i:=3) cI.nd rfl (Or.inl rfl) (aL bX (aL A0 (pv 3) (bM F_choices hr rfl (aA (aJ bD (by rfl) B.len PySem.boot_len (aA (pv 7) aD)) (aA (pv 6) aD)))) (bM F_number_of_offsets hr rfl (aA (pv 7) (aA (pv 6) aD)))))))))
 (aH (bQ (pv 3))))))))),?_⟩
  refine⟨_,rfl,a,row,rfl,ha,hrow,hrl,?_⟩;refine⟨_,rfl,niches,rfl,hn0,hn1,?_⟩;refine⟨_,rfl,a,row,rfl,ha,hrow,hrl,fun ps hL hs l us H1 hl g1 el pr=>?_⟩;have eul:us.length=ps.length:=pr.len;have hpl:=Lst.few hL hrl;have hz:=aAV hL hrl;refine⟨_,rfl,l,rfl,⟨_,SqL.of el⟩,cU (K:=K) (a:=l) (xs:=us) (fun j ys H2=>H2=H1/\ys=((ps.take j).map (·.1)).map V.int) ⟨rfl,rfl⟩ ?_ ?_ ?_⟩
  ·rintro j ys H2 hj ⟨rfl,rfl⟩;exact⟨SqL.of el,vC _ _ (by omega) _⟩
  ·rintro j x ys H2 hj ⟨rfl,rfl⟩;obtain⟨q,t',hq,rfl,et⟩:=cM pr hj;exact⟨t',_,rfl,SqT.of et,rfl,_,_,rfl,_,_,rfl,rfl,_,rfl,rfl,kP (·.1) hq⟩
  rintro ys H2 ⟨rfl,rfl⟩ D hD;rw[eul,aBI];have g2:=Same.upd (o:=.lst ((ps.map (·.1)).map V.int)) hD;have eD:(upd H2 D (.lst ((ps.map (·.1)).map V.int))) D=some (.lst ((ps.map (·.1)).map V.int)):=aB;generalize upd H2 D (.lst ((ps.map (·.1)).map V.int))=H3 at g2 eD ⊢;have el3:=g2 _ _ el;have pr3:=pr.mono (TupS.same g2);refine⟨_,rfl,_,rfl,D,niches,ps.map (·.1),rfl,eD,hz,fun ms lr ur H4 d g4 elr prr=>?_⟩;have eur:ur.length=ms.length:=by rw[prr.len,aAu]
  have s4:=(g1.trans g2).trans g4;have el4:=g4 _ _ el3;have pr4:=pr3.mono (TupS.same g4);have hne:∀ m∈ms,aS ps m≠[]:=fun m hm=>qA.mpr (by
   obtain⟨q,hq,e⟩:=aBa.mp (d.mem.mp hm);exact⟨q,hq,e⟩)
  refine⟨lr,rfl,⟨_,SqL.of elr⟩,eC (K:=K) (a:=lr) (xs:=ur) (fun i σ Hx=>∃ v5 v6 v7:Option V,σ=[some (.int niches),some (.ref a),some (.ref l),some (.int (nmM niches ps (ms.take i))),some (.ref D),v5,v6,v7]/\Same H4 Hx/\∀ m∈ms.take i,Within niches ps m) ⟨none,none,none,rfl,Same.refl _,fun m hm=>by simp at hm⟩ (fun i σ Hx _ ⟨_,_,_,_,sm,_⟩=>SqL.of (sm _ _ elr)) ?_ ?_⟩
  ·rintro i x σ Hx hi ⟨v5,v6,v7,rfl,sm,hw⟩;obtain⟨p,t',hp,rfl,et⟩:=cM prr hi;rw[aBT]at hp;obtain⟨m,hm,rfl⟩:=aB6.mp hp;have hi':i<ms.length:=(aB7.mp hm).1;have hmm:=aBF hm;have hm1:=d.pos hz m hmm;obtain⟨b0,b1⟩:=S9 (niches:=niches) hs hne i (by omega) hw;have hcm:=Z0 hn1 hz d (by omega) hm1 b0 b1;refine⟨t',_,rfl,SqT.of (sm _ _ et),rfl,_,_,rfl,_,_,rfl,rfl,?_⟩;have elx:=sm _ _ el4;have prx:=pr4.mono (TupS.same sm);refine⟨_,rfl,l,rfl,⟨_,SqL.of elx⟩,cU (K:=K) (a:=l) (xs:=us) (fun j ys H5=>H5=Hx/\ys=(aS (ps.take j) m).map V.int/\ys.length<=j) ⟨rfl,rfl,Nat.le_refl _⟩ ?_ ?_ ?_⟩
   ·rintro j ys H5 hj ⟨rfl,rfl,hy⟩;exact⟨SqL.of elx,bC (by omega)⟩
   ·rintro j x ys H5 hj ⟨rfl,rfl,hy⟩;obtain⟨q,t2,hq,rfl,et2⟩:=cM prx hj;have so:=G7 hq m;refine⟨t2,_,rfl,SqT.of et2,rfl,_,_,rfl,_,_,rfl,rfl,_,rfl,_,rfl,_,_,rfl,rfl,_,rfl,lF (fun(c:q.1=m)=>?_) (fun(c:¬ q.1=m)=>?_)⟩
    ·refine⟨_,rfl,rfl,?_,by rw[aBD];simp at hy ⊢;omega⟩;rw[so,if_pos c,aBJ];rfl
    ·refine⟨rfl,?_,by omega⟩;rw[so,if_neg c,List.append_nil]
   rintro ys H5 ⟨rfl,rfl,hy⟩ D7 hD7;rw[eul,aBI];have g5:=Same.upd (o:=.lst ((aS ps m).map V.int)) hD7;have eD7:(upd H5 D7 (.lst ((aS ps m).map V.int))) D7=some (.lst ((aS ps m).map V.int)):=aB;generalize upd H5 D7 (.lst ((aS ps m).map V.int))=H6 at g5 eD7 ⊢;have s6:=(s4.trans sm).trans g5;have ho60:(aS ps m).length<=60:=by unfold aS;rw[aAu];exact Nat.le_trans (List.length_filter_le ..) hpl
   obtain⟨x0,x1,e0,e1,i0,i1,hb⟩:=S8 (hne m hmm) (hJ hs m);have hin:Within niches ps m:=(qB (ms:=ms) fun m=>d.mem).mpr (k2 ps hL) m hmm;refine⟨_,rfl,D7,_,_,_,rfl,rfl,SqL.of eD7,e0,_,_,rfl,rfl,_,rfl,eF (by have:=hin x0 i0;omega) ?_⟩;refine⟨_,rfl,_,rfl,D7,_,_,_,rfl,rfl,SqL.of eD7,e1,_,rfl,_,_,rfl,rfl,_,rfl,eF (show ¬ aI niches (ps.map (·.1)) m<x1 by have:=(hin x1 i1).2;omega) ?_⟩;have hr0:0<=aI niches (ps.map (·.1)) m:=by have:=hin x0 i0;omega
   have hr1:=gK (niches:=niches) (ns:=ps.map (·.1)) hn1 hz.pos hm1;have hvs:[V.int (((aS ps m).map V.int).length:Int),V.int (aI niches (ps.map (·.1)) m)]=[V.int ((aS ps m).length:Int),V.int (aI niches (ps.map (·.1)) m)]:=by rw[aAu]
   refine⟨_,rfl,_,rfl,D7,_,rfl,.inl (SqL.of eD7),_,rfl,(aS ps m).length,_,hvs,ho60,hr1,_,_,rfl,rfl,hcm,?_⟩;refine⟨_,rfl,_,rfl,D7,aS ps m,aI niches (ps.map (·.1)) m,rfl,eD7,ho60,yP (hJ hs m) fun o ho=>hin o ho,hr0,hr1,fun H7 g7=>?_⟩;refine⟨_,_,rfl,rfl,some (V.int m),some (V.int (aI niches (ps.map fun x=>x.1) m)),some (V.ref D7),?_,(sm.trans g5).trans g7,fun m' hm'=>?_⟩
   ·rw[wM hm];rfl
   ·rw[aB0,hm]at hm';rcases aB9.mp hm' with z | z
    ·exact hw m' z
    ·rw[show m'=m by simpa using z];exact hin
  ·rintro σ Hx ⟨v5,v6,v7,rfl,sm,hw⟩;rw[eur,aBI]at hw ⊢;exact⟨_,rfl,k1 ps ms hL hs d ((qB fun m=>d.mem).mp hw) Hx (s4.trans sm)⟩
abbrev cW:Stmt:=top 32
theorem bO:aV ["_law_script","_law_many","_law_row","_law_seed","_law_cell","_law_rest","_law_k"] ["_law_script","_law_many"] (aE cW):=⟨rfl,rfl,rfl,by decide +kernel,rfl,by decide +kernel,by decide +kernel⟩
inductive jN (H:Hp) (a:Addr) (l:Addr) (p:Addr) (m:Nat) (ms:List Int) (i:Nat) (σ:St) (H2:Hp):Prop
 | mk (seed:Int) (xs:List Int) (v1 v2 v3:Option V) (k0_:σ=[some (.ref a),some (.int m),some (.ref l),some (.int seed),v1,v2,v3]) (k1_:Same H H2) (k2_:H2 p=some (.lst (ms.map V.int))) (k3_:H2 l=some (.lst (xs.map V.int))) (k4_:M7 xs) (k5_:xs.length<=61 * i) (k6_:0<=seed) (k7_:seed<2147483629):jN H a l p m ms i σ H2
inductive jO (H:Hp) (a:Addr) (l:Addr) (p:Addr) (m:Nat) (ms:List Int) (i:Nat) (seed:Int) (z:Int) (v3:Option V) (σ:St) (H3:Hp):Prop
 | mk (ys:List Int) (k0_:σ=[some (.ref a),some (.int m),some (.ref l),some (.int (sd1 seed z)),some (.int z),some (.int (rs1 z)),v3]) (k1_:Same H H3) (k2_:H3 p=some (.lst (ms.map V.int))) (k3_:H3 l=some (.lst (ys.map V.int))) (k4_:M7 ys) (k5_:ys.length<=61 * i+1):jO H a l p m ms i seed z v3 σ H3
inductive jP (H:Hp) (a:Addr) (l:Addr) (p:Addr) (m:Nat) (ms:List Int) (i:Nat) (seed:Int) (z:Int) (j:Nat) (σ:St) (H4:Hp):Prop
 | mk (r:Int) (ys:List Int) (v:Option V) (k0_:σ=[some (.ref a),some (.int m),some (.ref l),some (.int (sd1 seed z)),some (.int z),some (.int r),v]) (k1_:Same H H4) (k2_:H4 p=some (.lst (ms.map V.int))) (k3_:H4 l=some (.lst (ys.map V.int))) (k4_:M7 ys) (k5_:ys.length<=61 * i+1+j):jP H a l p m ms i seed z j σ H4
inductive jQ (H:Hp) (a:Addr) (l:Addr) (m:Nat) (v1:Option V) (v2:Option V) (v3:Option V) (σ:St) (H3:Hp):Prop
 | mk (seed:Int) (ys:List Int) (k0_:σ=[some (.ref a),some (.int m),some (.ref l),some (.int seed),v1,v2,v3]) (k1_:Same H H3) (k2_:H3 l=some (.lst (ys.map V.int))) (k3_:M7 ys) (k4_:ys.length<=5000) (k5_:0<=seed) (k6_:seed<2147483629):jQ H a l m v1 v2 v3 σ H3
theorem yY {f:Addr} {fd:FuncData} (F:Fun K "_law_numbers" "_law_numbers" cW f fd) (B:Bt mg):FnOk P w K mg base CX0 1 f fd ["_law_script","_law_many"] (jX K):=by
 refine F.ok bO (fun vs H Q E h=>?_) (fun cdv A outer s H vs Q E hr h=>?_)
 ·obtain⟨a,sc,m,rfl,_⟩:=h;rfl
 ·obtain⟨a,sc,m,rfl,hS,hlen,hm,k⟩:=h;refine⟨_,(bK (aQ (i:=2) bO.nd rfl (Or.inl rfl) (hV aD))
 (bK (aQ (i:=3) bO.nd rfl (Or.inl rfl) aG)
 (bK (cK PassesOwn.never rfl (bW (oQ sW (pv 0) sS (sT aG))) (aK (i:=4) bO.nd rfl (Or.inl rfl))
 (bK (aQ (i:=3) bO.nd rfl (Or.inl rfl) (aL fP (aL bX (aL bX (aL cL (pv 3) aG) (aL fP (pv 4) aG)) aG) aG))
 (bK (aQ (i:=5) bO.nd rfl (Or.inl rfl) (aL cD (pv 4) (aL j3 aG aG)))
 (sZ (cY (aX iX (pv 5) aG (aZ _))
 (aH (bN (gS aB3 aB4 aB5 dF (pv 2) (aA (aL fP (pv 4) aG) aD))))
 bS)
 (aH (cK PassesOwn.never rfl (fX rfl B.range (aA aG aD)) (aK (i:=6) bO.nd rfl (Or.inl rfl))
 (aH (cY (aX iT (pv 5) aG (aZ _))
 (bK (bN (gS aB3 aB4 aB5 dF (pv 2) (aA (aL fP (pv 5) aG) aD)))
 (aH (aQ (i:=5) bO.nd rfl (Or.inl rfl) (aL nZ (pv 5) aG))))
 bS))))))))
 (aF (kX PassesOwn.never (aX iX (aJ bD (by rfl) B.len PySem.boot_len (aA (pv 2) aD)) (pv 1) (aZ _))
 (bK (aQ (i:=3) bO.nd rfl (Or.inl rfl) (aL fP (aL bX (aL bX (aL bX (aL cL (pv 3) (pv 3)) (aL cL aG (pv 3))) (aL cL aG (aJ bD (by rfl) B.len PySem.boot_len (aA (pv 2) aD)))) aG) aG))
 (aH (bN (gS aB3 aB4 aB5 dF (pv 2) (aA (aL fP (aL nZ (pv 3) aG) aG) aD))))))
 (aH (bQ (oQ sW (pv 2) sS (sT (pv 1))))))))),?_⟩
  refine fun M1 hM1=>?_;refine⟨by decide,fun l hl=>?_⟩;refine hM1 [some (.ref a),some (.int m),some (.ref l),none,none,none,none] _ ?_;clear hM1 M1;refine fun M1 hM1=>?_;refine hM1 [some (.ref a),some (.int m),some (.ref l),some (.int 59),none,none,none] _ ?_;clear hM1 M1;refine fun M1 hM1=>?_;refine⟨_,rfl,_,rfl,a,sc.map V.int,rfl,(Same.upd hl).seq hS,fun p hp=>?_⟩;obtain⟨ms,ec,hml,hmm⟩:=C8 sc none (some 63);rw[ec];have hpl:p≠l:=fun e=>by subst e;rw[aB]at hp;cases hp
  have hHp:H p=none:=by rw[<- hp,aC hpl]
  refine⟨p,rfl,⟨_,SqL.of aB⟩,eC (K:=K) (a:=p) (xs:=ms.map V.int) (jN H a l p m ms) ?_ ?_ ?_ ?_⟩
  ·exact⟨59,[],none,none,none,rfl,Same.upd' hHp (Same.upd hl),aB,by rw[aC (Ne.symm hpl),aB];rfl,fun _ h=>(by cases h),Nat.le_refl _,by decide,by decide⟩
  ·rintro i σ H2 _ ⟨seed,xs,v1,v2,v3,_,_,e,_⟩;exact SqL.of e
  ·rintro i x σ H2 hi ⟨seed,xs,v1,v2,v3,rfl,sm,ep,el,nx,lx,s0,s1⟩;have hil:i<ms.length:=by
    have:=(aB7.mp hi).1;simpa using this
   obtain⟨z,rfl⟩:∃ z,x=V.int z:=by
    rw[aBT]at hi;cases e:ms[i]? with
    | none=>rw[e]at hi;cases hi
    | some z=>rw[e]at hi;exact⟨z,(Option.some.inj hi).symm⟩
   clear hM1;refine fun M2 hM2=>?_;refine⟨_,rfl,_,_,rfl,rfl,.inr ⟨by decide,by decide⟩,_,rfl,_,_,rfl,rfl,(by show (0:Int)<999983;decide),_,_,rfl,rfl,_,_,rfl,rfl,_,_,rfl,rfl,(by show (0:Int)<2147483563;decide),?_⟩;have t0:0<=sd1 seed z:=Int.emod_nonneg _ (by decide);have t1:sd1 seed z<2147483563:=Int.emod_lt_of_pos _ (by decide);refine hM2 [some (.ref a),some (.int m),some (.ref l),some (.int (sd1 seed z)),some (.int z),v2,v3] _ ?_;clear hM2 M2;refine fun M2 hM2=>?_;refine⟨_,rfl,_,_,rfl,rfl,⟨by decide,by decide,by decide⟩,_,_,rfl,rfl,?_⟩;refine hM2 [some (.ref a),some (.int m),some (.ref l),some (.int (sd1 seed z)),some (.int z),some (.int (rs1 z)),v3] _ ?_;clear hM2 M2;refine⟨jO H a l p m ms i seed z v3,?_,?_⟩
   ·refine⟨_,rfl,_,_,rfl,rfl,_,rfl,lF (fun _=>?_) (fun _=>⟨xs,rfl,sm,ep,el,nx,by omega⟩)⟩;refine⟨_,rfl,.inl ⟨rfl,_,SqL.of el⟩,_,rfl,_,_,rfl,rfl,(by show (0:Int)<9967;decide),l,_,_,rfl,rfl,el,(by rw[aAu];exact bC (by omega)),?_⟩;refine⟨xs++[z % 9967],rfl,Same.upd' hl sm,by rw[aC hpl];exact ep,by rw[aB];simp,?_,by simp;omega⟩;intro n hn;rcases aB9.mp hn with h | h
    ·exact nx n h
    ·rw[aB1.mp h];exact⟨Int.emod_nonneg _ (by decide),Int.emod_lt_of_pos _ (by decide)⟩
   ·rintro σ H3 ⟨ys,rfl,sm3,ep3,el3,nx3,lx3⟩;refine⟨60,rfl,by decide,by decide,dS (lo:=0) (n:=60) (jP H a l p m ms i seed z)
     ⟨rs1 z,ys,v3,rfl,sm3,ep3,el3,nx3,by omega⟩ ?_ ?_⟩
    ·rintro j σ H4 hj ⟨r,ys,v,rfl,sm4,ep4,el4,nx4,lx4⟩;refine⟨_,rfl,_,_,rfl,rfl,_,rfl,lF (fun hr0=>?_) (fun _=>⟨r,ys,_,rfl,sm4,ep4,el4,nx4,by omega⟩)⟩;refine fun M2 hM2=>?_;refine⟨_,rfl,.inl ⟨rfl,_,SqL.of el4⟩,_,rfl,_,_,rfl,rfl,(by show (0:Int)<1013;decide),l,_,_,rfl,rfl,el4,(by rw[aAu];exact bC (by omega)),?_⟩;refine hM2 [some (.ref a),some (.int m),some (.ref l),some (.int (sd1 seed z)),some (.int z),some (.int r),some (.int (0+(j:Int)))] _ ?_;clear hM2 M2;refine⟨_,rfl,_,_,rfl,rfl,⟨by decide,by decide⟩,?_⟩;refine⟨r / 1013,ys++[r % 1013],_,rfl,Same.upd' hl sm4,by rw[aC hpl];exact ep4,by rw[aB];simp,?_,by simp;omega⟩;intro n hn;rcases aB9.mp hn with h | h
     ·exact nx4 n h
     ·rw[aB1.mp h];have a1:=Int.emod_nonneg r (show (1013:Int)≠0 by decide);have a2:=Int.emod_lt_of_pos r (show (0:Int)<1013 by decide);exact⟨a1,by omega⟩
    ·rintro σ H4 ⟨r,ys,v,rfl,sm4,ep4,el4,nx4,lx4⟩;exact⟨sd1 seed z,ys,_,_,_,rfl,sm4,ep4,el4,nx4,by omega,t0,by omega⟩
  ·rintro σ H2 ⟨seed,xs,v1,v2,v3,rfl,sm,ep,el,nx,lx,s0,s1⟩;have lx':xs.length<=61 * 63:=by
    have:(ms.map V.int).length<=63:=by rw[aAu];omega
    omega
   refine hM1 [some (.ref a),some (.int m),some (.ref l),some (.int seed),v1,v2,v3] _ ?_;clear hM1 M1;refine uS (jQ H a l m v1 v2 v3)
    (fun _ H3=>match H3 l with | some (.lst ys)=>m - ys.length | _=>0) ⟨seed,xs,rfl,sm,el,nx,by omega,s0,s1⟩ ?_ ?_
   ·rintro σ H3 ⟨seed,ys,rfl,sm3,el3,nx3,lx3,q0,q1⟩;refine⟨_,rfl,l,_,rfl,.inl (SqL.of el3),_,rfl,_,_,rfl,rfl,_,rfl,lF (fun hc=>?_) (fun hc=>?_)⟩
    ·rw[aAu]at hc;refine fun M1 hM1=>?_;refine⟨_,rfl,_,rfl,_,_,rfl,rfl,.inl ⟨by omega,by omega⟩,_,rfl,_,_,rfl,rfl,.inl ⟨by decide,by decide⟩,_,_,rfl,rfl,_,rfl,l,_,rfl,.inl (SqL.of el3),_,_,rfl,rfl,.inl ⟨by decide,by decide⟩,_,_,rfl,rfl,_,_,rfl,rfl,_,_,rfl,rfl,(by show (0:Int)<2147483629;decide),?_⟩;refine hM1 [some (.ref a),some (.int m),some (.ref l),some (.int (sd2 seed ys)),v1,v2,v3] _ ?_;clear hM1 M1;have t0:0<=sd2 seed ys:=Int.emod_nonneg _ (by decide);have t1:sd2 seed ys<2147483629:=Int.emod_lt_of_pos _ (by decide);refine⟨_,rfl,.inl ⟨rfl,_,SqL.of el3⟩,_,rfl,_,_,rfl,rfl,⟨by decide,by decide⟩,_,_,rfl,rfl,(by show (0:Int)<9967;decide),l,_,_,rfl,rfl,el3,(by rw[aAu];exact bC (by omega)),?_⟩;refine⟨⟨sd2 seed ys,ys++[sd2 seed ys / 1019 % 9967],rfl,Same.upd' hl sm3,by rw[aB,aBJ];rfl,?_,by simp;omega,t0,t1⟩,?_⟩
     ·intro n hn;rcases aB9.mp hn with h | h
      ·exact nx3 n h
      ·rw[aB1.mp h];exact⟨Int.emod_nonneg _ (by decide),Int.emod_lt_of_pos _ (by decide)⟩
     ·simp only[aB,el3,aBD,aAu,List.length_singleton];omega
    ·rw[aAu]at hc;refine⟨_,rfl,_,rfl,_,rfl,l,_,rfl,SqL.of el3,fun p2 hp2=>?_⟩;rw[o6 ys m (by omega)];exact k p2 (ys.take m) _ (by simp;omega) (fun n hn=>nx3 n (List.mem_of_mem_take hn)) (sm3.free hp2) (Same.upd' (sm3.free hp2) sm3) aB
   ·intro σ H3 Q1 Q2 hq h;obtain⟨x,e,p2,ys,e2,hq2,z,e3,i,j,e4,e5,b,e6,q⟩:=h;exact⟨x,e,p2,ys,e2,hq2,z,e3,i,j,e4,e5,b,e6,hq _ _ q⟩
abbrev dC:Stmt:=top 33
theorem wY:aV ["_law_found","_law_due"] ["_law_found","_law_due"] (aE dC):=⟨rfl,rfl,rfl,by decide +kernel,rfl,by decide +kernel,by decide +kernel⟩
theorem sQ {f:Addr} {fd:FuncData} {n k:Nat} {spR:Sp} (F:Fun K "_law_same" "_law_same" dC f fd) (B:Bt mg) (F_law_same:bG P w K mg base "_law_same" k ["_law_found","_law_due"] spR)
 (hsp:∀ m,m+1=n->∀ vs H Q E,mM m vs H Q E->spR vs H Q E):FnOk P w K mg base CX0 (k+1) f fd ["_law_found","_law_due"] (mM n):=by
 refine F.ok wY (fun vs H Q E h=>?_) (fun cdv A outer s H vs Q E hr h=>?_)
 ·obtain⟨x,y,d,rfl,_⟩:=h;rfl
 ·obtain⟨x,y,d,rfl,h1,h2,hdep,hsh,hsm,kk⟩:=h;have hu:=hr.units;refine⟨_,(aF (cY (aX L0 (pv 1) K0 (aZ _))
 (aH (bQ (iI L0 (pv 0) K0 (aZ _))))
 bS)
 (aF (cY (kY (aJ C7 (by rfl) B.isinstance bA (aA (pv 1) (aA (iJ (aA (dQ (v:=.ty "list") rfl B.list iC rfl) (aA (dQ (v:=.ty "tuple") rfl B.tuple kO rfl) aD))) aD))) (fun _=>rfl))
 (aF (cY (PW.pt (oM (aX zE (aJ dP (by rfl) B.isinstance bA (aA (pv 0) (aA (dQ (v:=.ty "list") rfl B.list iC rfl) aD))) (aJ dP (by rfl) B.isinstance bA (aA (pv 1) (aA (dQ (v:=.ty "list") rfl B.list iC rfl) aD))) (aZ _)) (kM (aX zE (aJ dP (by rfl) B.isinstance bA (aA (pv 0) (aA (dQ (v:=.ty "tuple") rfl B.tuple kO rfl) aD))) (aJ dP (by rfl) B.isinstance bA (aA (pv 1) (aA (dQ (v:=.ty "tuple") rfl B.tuple kO rfl) aD))) (aZ _)))))
 (aH (bQ yZ))
 bS)
 (aH (bQ (K2 (iI oW (aJ bD (by rfl) B.len PySem.boot_len (aA (pv 0) aD)) (aJ bD (by rfl) B.len PySem.boot_len (aA (pv 1) aD)) (aZ _)) (K1 (aJ (uW rfl) (by rfl) B.all uY (aA (fE ["_law_k"] ["_law_found","_law_due"] [0,1] rfl (.of (show cZ (aE dC) _ ["_law_found","_law_due"] [0,1] ["_law_found","_law_due"]=true by decide +kernel)) (fX rfl B.range (aA (aJ bD (by rfl) B.len PySem.boot_len (aA (pv 1) aD)) aD)) (fun _ _ _=>(aK (i:=0) (show (["_law_k","_law_found","_law_due"]:List Str).Nodup by decide +kernel) rfl (Or.inl rfl))) (fT (by decide)) (fun _ _ _=>cP) (fun _ _ _=>(bM F_law_same hr rfl (aA (fI (zI K rfl) (pv 1) (pv 0) (fun _ _=>rfl)) (aA (fI (zI K rfl) (pv 2) (pv 0) (fun _ _=>rfl)) aD)) (hj:=Nat.le_refl _)))) aD)))))))
 bS)
 (aF (cY (PW.pt (oM (aX zE (aJ dP (by rfl) B.isinstance bA (aA (pv 0) (aA (dQ (v:=.ty "bool") rfl B.bool rQ rfl) aD))) (aJ dP (by rfl) B.isinstance bA (aA (pv 1) (aA (dQ (v:=.ty "bool") rfl B.bool rQ rfl) aD))) (aZ _)) (kM (aX zE (aJ dP (by rfl) B.isinstance bA (aA (pv 0) (aA (dQ (v:=.ty "str") rfl B.str uX rfl) aD))) (aJ dP (by rfl) B.isinstance bA (aA (pv 1) (aA (dQ (v:=.ty "str") rfl B.str uX rfl) aD))) (aZ _)))))
 (aH (bQ yZ))
 bS)
 (aH (bQ (K2 (iI y9 (aJ dP (by rfl) B.isinstance bA (aA (pv 0) (aA (dQ (v:=.ty "int") rfl B.int lD rfl) aD))) (aJ dP (by rfl) B.isinstance bA (aA (pv 1) (aA (dQ (v:=.ty "int") rfl B.int lD rfl) aD))) (aZ _)) (K1 (iI (M6 hu) (pv 0) (pv 1) (aZ _))))))))),?_⟩
  cases h1 with
  | non =>
   cases h2;exact⟨_,rfl,rfl,_,rfl,vA rfl ⟨_,rfl,rfl,kk H (Same.refl H)⟩⟩
  | bl b =>
   cases h2;refine⟨_,rfl,rfl,_,rfl,eF (by intro h;cases h) ?_⟩;refine⟨_,rfl,(show 2<=sizeLine by decide),fun tp htp=>⟨_,tp,["list","tuple"],.bool b,false,rfl,aB,.bl b,rfl,false,rfl,?_⟩⟩;refine⟨_,rfl,_,"bool",.bool b,true,rfl,.bl b,rfl,_,rfl,_,"bool",.bool b,true,rfl,.bl b,rfl,rfl,_,rfl,?_⟩;refine⟨_,rfl,_,"str",.bool b,false,rfl,.bl b,rfl,_,rfl,_,"str",.bool b,false,rfl,.bl b,rfl,rfl,_,rfl,?_⟩;refine⟨_,rfl,_,"int",.bool b,true,rfl,.bl b,rfl,_,rfl,_,"int",.bool b,true,rfl,.bl b,rfl,rfl,_,rfl,?_⟩;refine⟨_,rfl,_,rfl,_,_,.bl b,.bl b,hsh,hsh,?_⟩;rw[eqv_self hsh];exact kk _ (Same.upd htp)
  | int b =>
   cases h2;refine⟨_,rfl,rfl,_,rfl,eF (by intro h;cases h) ?_⟩;refine⟨_,rfl,(show 2<=sizeLine by decide),fun tp htp=>⟨_,tp,["list","tuple"],.int b,false,rfl,aB,.int b,rfl,false,rfl,?_⟩⟩;refine⟨_,rfl,_,"bool",.int b,false,rfl,.int b,rfl,_,rfl,_,"bool",.int b,false,rfl,.int b,rfl,rfl,_,rfl,?_⟩;refine⟨_,rfl,_,"str",.int b,false,rfl,.int b,rfl,_,rfl,_,"str",.int b,false,rfl,.int b,rfl,rfl,_,rfl,?_⟩;refine⟨_,rfl,_,"int",.int b,true,rfl,.int b,rfl,_,rfl,_,"int",.int b,true,rfl,.int b,rfl,rfl,_,rfl,?_⟩;refine⟨_,rfl,_,rfl,_,_,.int b,.int b,hsh,hsh,?_⟩;rw[eqv_self hsh];exact kk _ (Same.upd htp)
  | str b =>
   cases h2;refine⟨_,rfl,rfl,_,rfl,eF (by intro h;cases h) ?_⟩;refine⟨_,rfl,(show 2<=sizeLine by decide),fun tp htp=>⟨_,tp,["list","tuple"],.str b,false,rfl,aB,.str b,rfl,false,rfl,?_⟩⟩;refine⟨_,rfl,_,"bool",.str b,false,rfl,.str b,rfl,_,rfl,_,"bool",.str b,false,rfl,.str b,rfl,rfl,_,rfl,?_⟩;refine⟨_,rfl,_,"str",.str b,true,rfl,.str b,rfl,_,rfl,_,"str",.str b,true,rfl,.str b,rfl,rfl,_,rfl,?_⟩;refine⟨_,rfl,_,"int",.str b,false,rfl,.str b,rfl,_,rfl,_,"int",.str b,false,rfl,.str b,rfl,rfl,_,rfl,?_⟩;refine⟨_,rfl,_,rfl,_,_,.str b,.str b,hsh,hsh,?_⟩;rw[eqv_self hsh];exact kk _ (Same.upd htp)
  | @lst a1 us ds ea ta =>
   cases h2 with
   | @lst a2 ws _ eb tb =>
    have hlu:=ta.length;have hlw:=tb.length;have hsm':=hsm;simp only[sml,Bool.and_eq_true,decide_eq_true_eq]at hsm';have hlen2:ws.length<=5000:=by omega
    have hln:(5000:Nat)<sizeLine:=by decide
    refine⟨_,rfl,rfl,_,rfl,eF (by intro h;cases h) ?_⟩;refine⟨_,rfl,(show 2<=sizeLine by decide),fun tp htp=>?_⟩;have sm0:=Same.upd (o:=.tup [V.ty "list",V.ty "tuple"]) htp;refine⟨_,tp,["list","tuple"],.list ds,true,rfl,aB,(Den.lst eb tb).mono sm0,rfl,true,rfl,?_⟩;generalize upd H tp (.tup [V.ty "list",V.ty "tuple"])=H0 at sm0 ⊢;have d1:=(Den.lst ea ta).mono sm0;have d2:=(Den.lst eb tb).mono sm0;refine⟨_,rfl,_,"list",.list ds,true,rfl,d1,rfl,_,rfl,_,"list",.list ds,true,rfl,d2,rfl,rfl,_,rfl,?_⟩;refine⟨_,rfl,_,"tuple",.list ds,false,rfl,d1,rfl,_,rfl,_,"tuple",.list ds,false,rfl,d2,rfl,rfl,_,rfl,?_⟩;refine⟨_,rfl,a1,_,rfl,.inl (SqL.of (sm0 _ _ ea)),_,rfl,a2,_,rfl,.inl (SqL.of (sm0 _ _ eb)),_,_,rfl,rfl,_,rfl,vA (by omega) ?_⟩;refine⟨_,rfl,a2,_,rfl,.inl (SqL.of (sm0 _ _ eb)),_,rfl,by omega,by omega,kN (lo:=0) (fun i ys H2=>Same H0 H2/\ys=List.replicate i (V.bl true)) ⟨Same.refl _,rfl⟩ ?_ ?_ ?_⟩
    ·rintro i ys H2 hi ⟨sm,rfl⟩;rw[aBP];omega
    ·rintro i ys H2 hi ⟨sm,rfl⟩;have hi':i<ds.length:=by omega
     obtain⟨v1,e1,q1⟩:=ta.get (i:=i) (d:=ds[i]) (by simp[hi']);obtain⟨v2,e2,q2⟩:=tb.get (i:=i) (d:=ds[i]) (by simp[hi']);have em:ds[i]∈ds:=List.getElem_mem hi';have sm1:Same H H2:=sm0.trans sm;have ez:(0:Int)+(i:Int)=(i:Int):=by omega
     refine⟨_,rfl,_,rfl,.inl ⟨a1,_,_,_,rfl,rfl,SqL.of (sm1 _ _ ea),(by rw[ez];exact jU e1),_,rfl,_,rfl,.inl ⟨a2,_,_,_,rfl,rfl,SqL.of (sm1 _ _ eb),(by rw[ez];exact jU e2),?_⟩⟩⟩;have hd1:=rR em;have hdd:PyData.depthAll ds+1<=n:=hdep;refine hsp (n - 1) (by omega) _ _ _ _ ⟨v1,v2,ds[i],rfl,q1.mono sm1,q2.mono sm1,by omega,?_,zJ em hsm'.2,fun H3 sm3=>⟨sm.trans sm3,by rw[List.replicate_succ']⟩⟩;have c1:PyData.canLayAll0 ds=true:=SeqAt.canLay_of_shaped hsh;have c2:=SeqAt.depth_of_shaped hsh;have c3:PyData.depthAll ds+1<=64:=c2;simp only[SeqAt.shaped,pA em c1,Bool.true_and];exact aBR (by omega)
    ·rintro ys H2 ⟨sm,rfl⟩ D hD;refine⟨D,List.replicate _ true,rfl,by rw[aB,List.map_replicate],?_⟩;have:∀ k:Nat,(List.replicate k true).all id=true:=fun k=>by simp
     rw[this];exact kk _ ((sm0.trans sm).trans (Same.upd hD))
  | @tup a1 us ds ea ta =>
   cases h2 with
   | @tup a2 ws _ eb tb =>
    have hlu:=ta.length;have hlw:=tb.length;have hsm':=hsm;simp only[sml,Bool.and_eq_true,decide_eq_true_eq]at hsm';have hlen2:ws.length<=5000:=by omega
    have hln:(5000:Nat)<sizeLine:=by decide
    refine⟨_,rfl,rfl,_,rfl,eF (by intro h;cases h) ?_⟩;refine⟨_,rfl,(show 2<=sizeLine by decide),fun tp htp=>?_⟩;have sm0:=Same.upd (o:=.tup [V.ty "list",V.ty "tuple"]) htp;refine⟨_,tp,["list","tuple"],.tuple ds,true,rfl,aB,(Den.tup eb tb).mono sm0,rfl,true,rfl,?_⟩;generalize upd H tp (.tup [V.ty "list",V.ty "tuple"])=H0 at sm0 ⊢;have d1:=(Den.tup ea ta).mono sm0;have d2:=(Den.tup eb tb).mono sm0;refine⟨_,rfl,_,"list",.tuple ds,false,rfl,d1,rfl,_,rfl,_,"list",.tuple ds,false,rfl,d2,rfl,rfl,_,rfl,?_⟩;refine⟨_,rfl,_,"tuple",.tuple ds,true,rfl,d1,rfl,_,rfl,_,"tuple",.tuple ds,true,rfl,d2,rfl,rfl,_,rfl,?_⟩;refine⟨_,rfl,a1,_,rfl,.inr (SqT.of (sm0 _ _ ea)),_,rfl,a2,_,rfl,.inr (SqT.of (sm0 _ _ eb)),_,_,rfl,rfl,_,rfl,vA (by omega) ?_⟩;refine⟨_,rfl,a2,_,rfl,.inr (SqT.of (sm0 _ _ eb)),_,rfl,by omega,by omega,kN (lo:=0) (fun i ys H2=>Same H0 H2/\ys=List.replicate i (V.bl true)) ⟨Same.refl _,rfl⟩ ?_ ?_ ?_⟩
    ·rintro i ys H2 hi ⟨sm,rfl⟩;rw[aBP];omega
    ·rintro i ys H2 hi ⟨sm,rfl⟩;have hi':i<ds.length:=by omega
     obtain⟨v1,e1,q1⟩:=ta.get (i:=i) (d:=ds[i]) (by simp[hi']);obtain⟨v2,e2,q2⟩:=tb.get (i:=i) (d:=ds[i]) (by simp[hi']);have em:ds[i]∈ds:=List.getElem_mem hi';have sm1:Same H H2:=sm0.trans sm;have ez:(0:Int)+(i:Int)=(i:Int):=by omega
     refine⟨_,rfl,_,rfl,.inr (.inl ⟨a1,_,_,_,rfl,rfl,SqT.of (sm1 _ _ ea),(by rw[ez];exact jU e1),_,rfl,_,rfl,.inr (.inl ⟨a2,_,_,_,rfl,rfl,SqT.of (sm1 _ _ eb),(by rw[ez];exact jU e2),?_⟩)⟩)⟩;have hd1:=rR em;have hdd:PyData.depthAll ds+1<=n:=hdep;refine hsp (n - 1) (by omega) _ _ _ _ ⟨v1,v2,ds[i],rfl,q1.mono sm1,q2.mono sm1,by omega,?_,zJ em hsm'.2,fun H3 sm3=>⟨sm.trans sm3,by rw[List.replicate_succ']⟩⟩;have c1:PyData.canLayAll0 ds=true:=SeqAt.canLay_of_shaped hsh;have c2:=SeqAt.depth_of_shaped hsh;have c3:PyData.depthAll ds+1<=64:=c2;simp only[SeqAt.shaped,pA em c1,Bool.true_and];exact aBR (by omega)
    ·rintro ys H2 ⟨sm,rfl⟩ D hD;refine⟨D,List.replicate _ true,rfl,by rw[aB,List.map_replicate],?_⟩;have:∀ k:Nat,(List.replicate k true).all id=true:=fun k=>by simp
     rw[this];exact kk _ ((sm0.trans sm).trans (Same.upd hD))
theorem Z8 {f:Addr} {fd:FuncData} (F:Fun K "_law_same" "_law_same" dC f fd) (B:Bt mg) (hmg:mg "_law_same"=some (.ref f)) (hb:Binds K fd ["_law_found","_law_due"] []) :
 ∀ n,FnOk P w K mg base CX0 (n+1) f fd ["_law_found","_law_due"] (mM n):=by
 intro n
 induction n with
 | zero =>
  refine sQ (k:=0) (spR:=fun _ _ _ _=>False) F B ⟨f,fd,⟨fun _ _ _ _ h=>h.elim,fun _ _ _ _ _ _ _ _ _ _ _ _ _ h=>h.elim⟩,hmg,F.kp,hb⟩ fun m hm=>?_;omega
 | succ n ih =>
  refine sQ F B ⟨f,fd,ih,hmg,F.kp,hb⟩ fun m hm vs H Q E h=>?_;obtain rfl:m=n:=by omega
  exact h
abbrev cQ:Stmt:=top 34
theorem rC:aV ["_law_found","_law_size"] ["_law_found","_law_size"] (aE cQ):=⟨rfl,rfl,rfl,by decide +kernel,rfl,by decide +kernel,by decide +kernel⟩
theorem J8 {f:Addr} {fd:FuncData} (F:Fun K "_law_lesser" "_law_lesser" cQ f fd) (B:Bt mg):FnOk P w K mg base CX0 1 f fd ["_law_found","_law_size"] lI:=by
 refine F.ok rC (fun vs H Q E h=>?_) (fun cdv A outer s H vs Q E hr h=>?_)
 ·obtain⟨a,r,j,rfl,_⟩:=h;rfl
 ·obtain⟨a,ps,j,rfl,⟨us,ha,pr⟩,hl,k⟩:=h;have e:us.length=ps.length:=pr.len;refine⟨_,(aH (bQ (aJ (eI rfl) (by rfl) B.sum eG (aA (fE ["_law_own","_law_offset"] ["_law_size"] [1] rfl (.of (show cZ (aE cQ) _ ["_law_found","_law_size"] [1] ["_law_size"]=true by decide +kernel)) (bW (pv 0)) (fun _ _ _=>(gU (n:=2) K rfl rfl (aP (aK (i:=0) (show (["_law_own","_law_offset","_law_size"]:List Str).Nodup by decide +kernel) rfl (Or.inl rfl)) (aP (aK (i:=1) (show (["_law_own","_law_offset","_law_size"]:List Str).Nodup by decide +kernel) rfl (Or.inl rfl)) cF)))) (iZ (bZ (by decide) (bZ (by decide) gT))) (fun _ _ _=>cP) (fun _ _ _=>(aJ (jS rfl) (by rfl) B.min lE (aA (pv 2) (aA (pv 0) aD))))) aD)))),?_⟩;refine⟨_,rfl,a,rfl,⟨_,SqL.of ha⟩,cU (K:=K) (a:=a) (xs:=us) (fun i ys H3=>H3=H/\ys=((ps.take i).map (W2 j)).map V.int) ⟨rfl,rfl⟩ ?_ ?_ ?_⟩
  ·rintro i ys H3 hi ⟨rfl,rfl⟩;exact⟨SqL.of ha,by simp only[aAu,aBK];exact bC (by omega)⟩
  ·rintro i x ys H3 hi ⟨rfl,rfl⟩;obtain⟨p,t',hp,rfl,et⟩:=cM pr hi;exact⟨t',_,rfl,SqT.of et,rfl,_,_,rfl,_,_,rfl,rfl,_,rfl,_,rfl,_,_,rfl,rfl,kP (W2 j) hp⟩
  ·rintro ys H3 ⟨rfl,rfl⟩ D hD;exact⟨D,ps.map (W2 j),rfl,by rw[aB,e,aBI],k _ (Same.upd hD)⟩
abbrev dR:Stmt:=top 35
theorem fO:aV ["_law_row","_law_found","_law_place","_law_ripe","_law_size"] ["_law_row"] (aE dR):=⟨rfl,rfl,rfl,by decide +kernel,rfl,by decide +kernel,by decide +kernel⟩
inductive nN (H:Hp) (a:Addr) (r:Addr) (row:List Int) (i:Nat) (σ:St) (H3:Hp):Prop
 | mk (us:List V) (ps:Trs) (v2 v3 v4:Option V) (k0_:σ=[some (.ref a),some (.ref r),v2,v3,v4]) (k1_:Same H H3) (k2_:H3 r=some (.lst us)) (k3_:Prs H3 us ps) (k4_:Lst (row.take i) ps):nN H a r row i σ H3
inductive nO (H:Hp) (a:Addr) (r:Addr) (z:Int) (D:Addr) (s0:Int) (ps:Trs) (σ':St) (H':Hp):Prop
 | mk (us1:List V) (ps1:Trs) (k0_:σ'=[some (.ref a),some (.ref r),some (.int z),some (.ref D),some (.int s0)]) (k1_:Same H H') (k2_:H' r=some (.lst us1)) (k3_:Prs H' us1 ps1) (k4_:us1.length<=60) (k5_:(s0=0/\ps1=ps\/1<=s0/\(s0,z - 1 - 2 * les ps s0)∈ps/\ps1=ps.erase (s0,z - 1 - 2 * les ps s0))):nO H a r z D s0 ps σ' H'
theorem wZ {f:Addr} {fd:FuncData} (F:Fun K "_law_list" "_law_list" dR f fd) (B:Bt mg) (F_law_lesser:bG P w K mg base "_law_lesser" 1 ["_law_found","_law_size"] lI):FnOk P w K mg base CX0 2 f fd ["_law_row"] kA:=by
 refine F.ok fO (fun vs H Q E h=>?_) (fun cdv A outer s H vs Q E hr h=>?_)
 ·obtain⟨a,r,rfl,_⟩:=h;rfl
 ·obtain⟨a,row,rfl,ha,hrow,hrl,k⟩:=h;have hu:=hr.units;refine⟨_,(aF (aQ (i:=1) fO.nd rfl (Or.inr rfl) (hV aD))
 (aF (cK PassesOwn.never rfl (bW (pv 0)) (aK (i:=2) fO.nd rfl (Or.inr rfl))
 (bK (lC (i:=3) ["_law_size","_law_offset"] ["_law_place","_law_found"] [2,1] rfl fO.nd rfl rfl (.of (show cZ (aE dR) _ ["_law_row","_law_found","_law_place","_law_ripe","_law_size"] [2,1] ["_law_place","_law_found"]=true by decide +kernel)) (bW (pv 1)) (fun _ _ _=>(gU (n:=2) K rfl rfl (aP (aK (i:=0) (show (["_law_size","_law_offset","_law_place","_law_found"]:List Str).Nodup by decide +kernel) rfl (Or.inl rfl)) (aP (aK (i:=1) (show (["_law_size","_law_offset","_law_place","_law_found"]:List Str).Nodup by decide +kernel) rfl (Or.inl rfl)) cF)))) (iZ (bZ (by decide) (bZ (by decide) gT))) (fun _ _ _=>sY (aX oW (pv 1) (aL cD (aL cD (pv 2) aG) (aL cL aG (bM F_law_lesser hr rfl (aA (pv 3) (aA (pv 0) aD))))) (aZ _))) (fun _ _ _=>(pv 0)) (by first | rfl | decide +kernel))
 (aF (aQ (i:=4) fO.nd rfl (Or.inl rfl) (rS rfl rfl B.max (pv 3) aG))
 (sZ (cY (aX iT (pv 4) aG (aZ _))
 (aH (bN (gS aB3 PySem.F.slot_list_remove PySem.F.type_list_remove (yB hu) (pv 1) (aA (iJ (aA (pv 4) (aA (aL cD (aL cD (pv 2) aG) (aL cL aG (bM F_law_lesser hr rfl (aA (pv 1) (aA (pv 4) aD))))) aD))) aD))))
 bS)
 (bK (bN (gS aB3 aB4 aB5 dF (pv 1) (aA (iJ (aA (aL bX (pv 4) aG) (aA aG aD))) aD)))
 (aH (xC (iJ (aA (aL bX (pv 4) aG) (aA (aL cD (pv 2) (aL cL aG (bM F_law_lesser hr rfl (aA (pv 1) (aA (aL bX (pv 4) aG) aD))))) aD))) (i7 (pv 1) (rF mI aG) L9))))))))
 (aH (bQ (aJ lK (by rfl) B.sorted cH (aA (pv 1) aD)))))),?_⟩
  refine⟨by decide,fun r hrn=>?_⟩;have g1:=Same.upd (o:=.lst []) hrn;have er:(upd H r (.lst [])) r=some (.lst []):=aB;generalize upd H r (.lst [])=H1 at g1 er ⊢;refine⟨_,rfl,a,rfl,⟨_,SqL.of (g1 _ _ ha)⟩,eC (K:=K) (a:=a) (xs:=row.map V.int) (nN H a r row)
   ⟨[],[],none,none,none,rfl,g1,er,.nil,.nil⟩ (fun i σ H3 _ z_=>by obtain⟨_,_,_,_,_,_,sm,_⟩:=z_;exact SqL.of (sm _ _ ha)) ?_ ?_⟩
  ·rintro i x σ H3 hi ⟨us,ps,v2,v3,v4,rfl,sm,er3,pr,hl⟩;obtain⟨z,rfl,hz⟩:=int_at hi;have hil:i<row.length:=(aB7.mp hz).1;have htk:row.take (i+1)=row.take i++[z]:=by rw[aB0,hz];rfl
   have hlt:∀ x∈row.take i,x<z:=fun x hx=>by
    have hp:(row.take i++[z]).Pairwise (·<·):=by rw[<- htk];exact List.Pairwise.sublist (List.take_sublist _ _) hrow
    exact(List.pairwise_append.mp hp).2.2 x hx z (by simp)
   have hpl:ps.length<=60:=by
    have h3:=dA hl.pos;have h4:(szs ps).sum=siz ps:=rfl;have h5:=hl.sizx;rw[aBK]at h5;omega
   have eul:us.length=ps.length:=pr.len;refine fun M1 hM1=>?_;refine⟨_,rfl,r,rfl,⟨_,SqL.of er3⟩,cU (K:=K) (a:=r) (xs:=us) (fun j ys H4=>Same H3 H4/\ys.length<=j/\∃ ns:List Int,ys=ns.map V.int/\(∀ n∈ns,∃ q∈ps,n=q.1/\q.2=z - 1 - 2 * les ps q.1)/\(∀ q∈ps.take j,q.2=z - 1 - 2 * les ps q.1->q.1∈ns)) ⟨Same.refl _,Nat.le_refl _,[],rfl,fun n hn=>(nomatch hn),fun q hq=>by simp at hq⟩ ?_ ?_ ?_⟩
   ·rintro j ys H4 hj ⟨sm4,hyl,_⟩;exact⟨SqL.of (sm4 _ _ er3),bC (by omega)⟩
   ·rintro j x ys H4 hj ⟨sm4,hyl,ns,rfl,hn1,hn2⟩;obtain⟨q,t',hq,rfl,et⟩:=cM (pr.mono (TupS.same sm4)) hj;have hqm:=aBF hq;refine⟨t',_,rfl,SqT.of et,rfl,_,_,rfl,_,_,rfl,rfl,?_⟩;refine⟨_,rfl,_,rfl,_,_,rfl,rfl,_,rfl,_,rfl,r,ps,q.1,rfl,⟨us,sm4 _ _ er3,pr.mono (TupS.same sm4)⟩,by omega,fun H5 g5=>?_⟩;refine⟨_,_,rfl,rfl,.inl ⟨by decide,by decide⟩,_,_,rfl,rfl,_,_,rfl,rfl,_,rfl,?_⟩;have htj:∀ x∈ps.take (j+1),x∈ps.take j\/x=q:=fun x hx=>by
     rw[aB0,hq]at hx;rcases aB9.mp hx with h | h
     ·exact .inl h
     ·exact .inr (by simpa using h)
    have hle:=pM ps q.1;refine lF (fun hc=>?_) (fun hc=>?_)
    ·refine⟨_,rfl,sm4.trans g5,by rw[aBD,List.length_singleton];omega,ns++[q.1],by rw[aBJ];rfl,fun n hn=>?_,fun x hx he=>?_⟩
     ·rcases aB9.mp hn with h | h
      ·exact hn1 n h
      ·exact⟨q,hqm,by simpa using h,by omega⟩
     ·rcases htj x hx with h | h
      ·exact aBO _ (hn2 x h he)
      ·rw[h];exact aAy _ (by simp)
    ·refine⟨sm4.trans g5,by omega,ns,rfl,hn1,fun x hx he=>?_⟩;rcases htj x hx with h | h
     ·exact hn2 x h he
     ·subst h;exact absurd (by omega) hc
   rintro ys H4 ⟨sm4,hyl,ns,rfl,hn1,hn2⟩ D hD;rw[eul,aBI]at hn2;have g5:=Same.upd (o:=.lst (ns.map V.int)) hD;have eD:(upd H4 D (.lst (ns.map V.int))) D=some (.lst (ns.map V.int)):=aB;generalize upd H4 D (.lst (ns.map V.int))=H5 at g5 eD ⊢;have sm35:=sm4.trans g5;have er5:=sm35 _ _ er3;have pr5:=pr.mono (TupS.same sm35);have sm5:=sm.trans sm35;obtain⟨s0,es,hs0,hcase,htop⟩:=P6 hl.pos hn1 hn2;refine hM1 _ _ ?_;refine⟨_,rfl,D,ns,rfl,SqL.of eD,?_⟩;rw[es];refine⟨nO H a r z D s0 ps,?_,?_⟩
   ·refine⟨_,rfl,_,_,rfl,rfl,_,rfl,?_⟩;refine lF (fun hc=>?_) (fun hc=>?_)
    ·rcases hcase with hz0 | ⟨hz1,hmem⟩
     ·omega
     ·refine⟨_,rfl,.inl ⟨rfl,_,SqL.of er5⟩,_,rfl,_,rfl,_,_,rfl,rfl,_,rfl,_,rfl,r,ps,s0,rfl,⟨us,er5,pr5⟩,by omega,fun H6 g6=>?_⟩;refine⟨_,_,rfl,rfl,.inl ⟨by decide,by decide⟩,_,_,rfl,rfl,(show 2<=sizeLine by decide),fun t ht=>?_⟩;have er6:=g6 _ _ er5;have g7:=Same.upd (o:=.tup [V.int s0,V.int (z - 1 - 2 * N2 ps s0)]) ht;have et:(upd H6 t (.tup [V.int s0,V.int (z - 1 - 2 * N2 ps s0)])) t=some (.tup [V.int s0,V.int (z - 1 - 2 * N2 ps s0)]):=aB;rw[pM]at g7 et ⊢;generalize upd H6 t (.tup [V.int s0,V.int (z - 1 - 2 * les ps s0)])=H7 at g7 et ⊢;have er7:=g7 _ _ er6;refine⟨r,us,ps,t,(s0,z - 1 - 2 * les ps s0),rfl,rfl,er7,pr5.mono (TupS.same (g6.trans g7)),et,hmem,fun us' pr' hul=>?_⟩;exact⟨us',_,rfl,Same.upd' hrn ((sm5.trans g6).trans g7),aB,pr'.mono (TupS.lst er7),by omega,.inr ⟨hz1,hmem,rfl⟩⟩
    ·rcases hcase with hz0 | ⟨hz1,_⟩
     ·exact⟨us,ps,rfl,sm5,er5,pr5,by omega,.inl ⟨hz0,rfl⟩⟩
     ·omega
   ·rintro σ' H8 ⟨us1,ps1,rfl,sm8,er8,pr8,hul,hs⟩;have hadd:=add_list hs0 hs htop;have hpl1:us1.length=ps1.length:=pr8.len;refine fun M2 hM2=>?_;refine⟨_,rfl,.inl ⟨rfl,_,SqL.of er8⟩,_,rfl,_,_,rfl,rfl,(show 2<=sizeLine by decide),fun t ht=>?_⟩;have g9:=Same.upd (o:=.tup [V.int (s0+1),V.int 0]) ht;have et:(upd H8 t (.tup [V.int (s0+1),V.int 0])) t=some (.tup [V.int (s0+1),V.int 0]):=aB;generalize upd H8 t (.tup [V.int (s0+1),V.int 0])=H9 at g9 et ⊢;have er9:=g9 _ _ er8;refine⟨r,us1,_,rfl,rfl,er9,bC (by omega),?_⟩;have sm9:Same H (upd H9 r (.lst (us1++[V.ref t]))):=Same.upd' hrn (sm8.trans g9);have er10:(upd H9 r (.lst (us1++[V.ref t]))) r=some (.lst (us1++[V.ref t])):=aB;have pr10:Prs (upd H9 r (.lst (us1++[V.ref t]))) us1 ps1:=(pr8.mono (TupS.same g9)).mono (TupS.lst er9);have et10:(upd H9 r (.lst (us1++[V.ref t]))) t=some (.tup [V.int (s0+1),V.int 0]):=TupS.lst er9 _ _ et;generalize upd H9 r (.lst (us1++[V.ref t]))=H10 at sm9 er10 pr10 et10 ⊢;have prA:Prs H10 (us1++[V.ref t]) (ps1++[(s0+1,0)]):=Paired.append' pr10 (.cons ⟨t,rfl,et10⟩ .nil);refine hM2 _ _ ?_;refine⟨_,rfl,_,_,rfl,rfl,_,rfl,_,rfl,_,rfl,_,_,rfl,rfl,r,ps1++[(s0+1,0)],s0+1,rfl,⟨_,er10,prA⟩,by rw[aBD,List.length_singleton];omega,fun H11 g11=>?_⟩;refine⟨_,_,rfl,rfl,.inl ⟨by decide,by decide⟩,_,_,rfl,rfl,(show 2<=sizeLine by decide),fun t2 ht2=>?_⟩;rw[pM];have er11:=g11 _ _ er10;have g12:=Same.upd (o:=.tup [V.int (s0+1),V.int (z - 2 * les (ps1++[(s0+1,0)]) (s0+1))]) ht2;have et2:(upd H11 t2 (.tup [V.int (s0+1),V.int (z - 2 * les (ps1++[(s0+1,0)]) (s0+1))])) t2=some (.tup [V.int (s0+1),V.int (z - 2 * les (ps1++[(s0+1,0)]) (s0+1))]):=aB;generalize upd H11 t2 (.tup [V.int (s0+1),V.int (z - 2 * les (ps1++[(s0+1,0)]) (s0+1))])=H12 at g12 et2 ⊢;have er12:=g12 _ _ er11;refine⟨_,rfl,_,rfl,r,_,_,_,rfl,rfl,er12,W0 _ _,?_⟩;rw[M8];refine⟨us1++[V.ref t2],ps1++[(s0+1,z - 2 * les (ps1++[(s0+1,0)]) (s0+1))],_,_,_,rfl,Same.upd' hrn ((sm9.trans g11).trans g12),aB,?_,by rw[htk];exact .snoc hl hlt hadd⟩;exact Paired.append' ((pr10.mono (TupS.same (g11.trans g12))).mono (TupS.lst er12)) (.cons ⟨t2,rfl,TupS.lst er12 _ _ et2⟩ .nil)
  ·rintro σ H3 ⟨us,ps,v2,v3,v4,rfl,sm,er3,pr,hl⟩;rw[aAu,aBI]at hl;have hpl:ps.length<=60:=by
    have h3:=dA hl.pos;have h4:(szs ps).sum=siz ps:=rfl;have h5:=hl.sizx;omega
   refine⟨_,rfl,r,us,ps,rfl,er3,pr,by omega,fun l us' qs hl' pr' hperm hsort=>?_⟩;exact k qs (hl.perm hperm.symm) hsort l us' _ (sm.free hl') (sm.trans (Same.upd hl')) aB (pr'.mono (TupS.new hl'))
abbrev dD:Stmt:=top 36
theorem fW:aV ["_law_niches","_law_row","_law_stones","_law_niche"] ["_law_niches","_law_row"] (aE dD):=⟨rfl,rfl,rfl,by decide +kernel,rfl,by decide +kernel,by decide +kernel⟩
theorem uK {f:Addr} {fd:FuncData} (F:Fun K "_law_sober" "_law_sober" dD f fd) (B:Bt mg):FnOk P w K mg base CX0 1 f fd ["_law_niches","_law_row"] mC:=by
 refine F.ok fW (fun vs H Q E h=>?_) (fun cdv A outer s H vs Q E hr h=>?_)
 ·obtain⟨n,a,r,rfl,_⟩:=h;rfl
 ·obtain⟨n,a,r,rfl,ha,hrow,hl,hn0,hn1,kk⟩:=h;refine⟨_,(aF (aQ (i:=2) fW.nd rfl (Or.inl rfl) aG)
 (aF (cK PassesOwn.never rfl (jR rfl B.range (aA aG (aA (aL bX (pv 0) aG) aD))) (aK (i:=3) fW.nd rfl (Or.inl rfl))
 (aF (iW (i:=2) fW.nd rfl (Or.inl rfl) (jT rG (by rfl) B.int lD (aA (iI C1 (pv 3) (pv 1) (by with_unfolding_all rfl)) aD)) sR)
 (aH (cY (aX iT (aL cL aG (pv 2)) (pv 3) (aZ _))
 (aH (bQ yZ))
 bS))))
 (aH (bQ (aJ (uW rfl) (by rfl) B.all uY (aA (fE ["_law_place"] ["_law_niches"] [0] rfl (.of (show cZ (aE dD) _ ["_law_niches","_law_row","_law_stones","_law_niche"] [0] ["_law_niches"]=true by decide +kernel)) (bW (pv 1)) (fun _ _ _=>(aK (i:=0) (show (["_law_place","_law_niches"]:List Str).Nodup by decide +kernel) rfl (Or.inl rfl))) (fT (by decide)) (fun _ _ _=>cP) (fun _ _ _=>(L1 K9 K9 aG (pv 0) (pv 1)))) aD)))))),?_⟩
  refine⟨_,rfl,_,_,rfl,rfl,_,_,rfl,⟨by decide,by decide,by omega,by omega⟩,dS (lo:=1) (fun i σ H2=>∃ v3:Option V,σ=[some (.int n),some (.ref a),some (.int (cS r (i:Int))),v3]/\H2=H/\∀ k:Nat,k<i->2 * (cS r ((k:Int)+1):Int)<=(k:Int)+1) ⟨none,by rw[show ((0:Nat):Int)=0 from rfl,Y9];rfl,rfl,fun k hk=>absurd hk (Nat.not_lt_zero k)⟩ ?_ ?_⟩
  ·rintro i σ H2 hi ⟨v3,rfl,rfl,hk⟩;have e1:(1:Int)+(i:Int)=(i:Int)+1:=by omega
   have st:=A7 (k:=(i:Int)) (by omega) hrow;refine⟨_,rfl,_,rfl,_,rfl,a,_,rfl,.inl (SqL.of ha),rfl,D1 r,.inr ⟨_,rfl,_,_,rfl,rfl,?_⟩⟩;have hin:inV (V.int (1+(i:Int))) (r.map V.int)=decide (((i:Int)+1)∈r):=by rw[e1];exact N1 _ r
   show _;have hnew:(cS r (i:Int):Int)+(if inV (V.int (1+(i:Int))) (r.map V.int)=true then 1 else 0)=(cS r ((i:Int)+1):Int):=by
    rw[hin,st]
    by_cases c:((i:Int)+1)∈r
    ·rw[aBR c,if_pos rfl,if_pos c]
    ·rw[aBQ c,if_neg (by decide),if_neg c]
   refine⟨_,rfl,_,_,rfl,rfl,.inl ⟨by decide,by decide⟩,_,rfl,_,_,rfl,rfl,_,rfl,?_⟩;show if decide (2 * ((cS r (i:Int):Int)+(if inV (V.int (1+(i:Int))) (r.map V.int)=true then 1 else 0)) > 1+(i:Int))=true then _ else _
   rw[hnew];refine lF (fun c=>?_) (fun c=>?_)
   ·refine kk false ⟨fun h=>(by cases h),fun h=>?_⟩ _ (Same.refl _);have:=((sJ hrow n).mpr h).1 i (by omega);omega
   ·refine⟨some (V.int (1+(i:Int))),?_,rfl,fun k hk'=>?_⟩
    ·show [_,_,some (V.int ((cS r (i:Int):Int)+(if inV (V.int (1+(i:Int))) (r.map V.int)=true then 1 else 0))),_]=_;rw[hnew];rfl
    ·rcases Nat.lt_or_ge k i with z | z
     ·exact hk k z
     ·have:k=i:=by omega
      subst this;omega
  ·rintro σ H2 ⟨v3,rfl,rfl,hk⟩;refine⟨_,rfl,a,rfl,⟨_,SqL.of ha⟩,cU (K:=K) (a:=a) (xs:=r.map V.int) (fun j ys H3=>H3=H2/\ys=((r.take j).map fun x=>decide (1<=x/\x<=n)).map V.bl) ⟨rfl,rfl⟩ ?_ ?_ ?_⟩
   ·rintro j ys H3 hj ⟨rfl,rfl⟩;rw[aAu]at hj;exact⟨SqL.of ha,by rw[aAu,aAu,aBK];exact bC (by omega)⟩
   ·rintro j x ys H3 hj ⟨rfl,rfl⟩;obtain⟨z,rfl,hz⟩:=int_at hj;have fin:∀ b:Bool,b=decide (1<=z/\z<=n)->((r.take j).map fun x=>decide (1<=x/\x<=n)).map V.bl++[V.bl b]=((r.take (j+1)).map fun x=>decide (1<=x/\x<=n)).map V.bl:=fun b hb=>by
     rw[aB0,hz,hb];simp
    refine⟨_,rfl,_,_,rfl,rfl,_,rfl,?_⟩
    by_cases c:1<=z
    ·refine vA c ⟨_,rfl,_,_,rfl,rfl,rfl,fin _ ?_⟩
     by_cases c2:z<=n
     ·rw[aBR c2,aBR ⟨c,c2⟩]
     ·rw[aBQ c2,aBQ fun h=>c2 h.2]
    ·refine eF c ⟨rfl,fin _ ?_⟩;rw[aBQ fun h=>c h.1]
   ·rintro ys H3 ⟨rfl,rfl⟩ D hD;rw[aAu,aBI];refine⟨D,_,rfl,aB,kk _ ?_ _ (Same.upd hD)⟩;rw[<- sJ hrow n,List.all_map,List.all_eq_true]
    constructor
    ·intro h;refine⟨fun k hkn=>hk k (by omega),fun x hx=>?_⟩;have:=h x hx;simpa using this
    ·rintro ⟨_,h⟩ x hx;have:=h x hx;simpa using this
abbrev dE:Stmt:=top 37
theorem uL:aV ["_law_niches","_law_sizes","_law_size"] ["_law_niches","_law_sizes","_law_size"] (aE dE):=⟨rfl,rfl,rfl,by decide +kernel,rfl,by decide +kernel,by decide +kernel⟩
theorem uM {f:Addr} {fd:FuncData} (F:Fun K "_law_space" "_law_space" dE f fd) (B:Bt mg):FnOk P w K mg base CX0 1 f fd ["_law_niches","_law_sizes","_law_size"] oG:=by
 refine F.ok uL (fun vs H Q E h=>?_) (fun cdv A outer s H vs Q E hr h=>?_)
 ·obtain⟨a,niches,m,ns,rfl,_⟩:=h;rfl
 ·obtain⟨a,niches,m,ns,rfl,ha,hlen,k⟩:=h;refine⟨_,(aH (bQ (aL cD (pv 0) (aL cL aG (aJ (eI rfl) (by rfl) B.sum eG (aA (fE ["_law_own"] ["_law_size"] [2] rfl (.of (show cZ (aE dE) _ ["_law_niches","_law_sizes","_law_size"] [2] ["_law_size"]=true by decide +kernel)) (bW (pv 1)) (fun _ _ _=>(aK (i:=0) (show (["_law_own","_law_size"]:List Str).Nodup by decide +kernel) rfl (Or.inl rfl))) (fT (by decide)) (fun _ _ _=>cP) (fun _ _ _=>(aJ (jS rfl) (by rfl) B.min lE (aA (pv 1) (aA (pv 0) aD))))) aD)))))),?_⟩;refine⟨_,rfl,_,rfl,a,rfl,⟨_,SqL.of ha⟩,cU (K:=K) (a:=a) (xs:=ns.map V.int) (fun j zs H3=>H3=H/\zs=((ns.take j).map fun o=>if o<m then o else m).map V.int) ⟨rfl,rfl⟩ ?_ ?_ ?_⟩
  ·rintro j zs H3 hj ⟨rfl,rfl⟩;exact⟨SqL.of ha,by rw[aAu,aAu,aBK];exact bC (by omega)⟩
  ·rintro j y zs H3 hj ⟨rfl,rfl⟩;obtain⟨o,rfl,ho⟩:=int_at hj;exact⟨_,rfl,_,rfl,_,_,rfl,rfl,vB (fun o=>if o<m then o else m) ho⟩
  rintro zs H3 ⟨rfl,rfl⟩ D hD;rw[aAu,aBI];exact⟨D,ns.map fun o=>if o<m then o else m,rfl,aB,_,_,rfl,rfl,.inl ⟨by decide,by decide⟩,_,_,rfl,rfl,k _ (Same.upd hD)⟩
abbrev dM:Stmt:=top 38
theorem fG:aV ["_law_many","_law_things","_law_found","_law_step"] ["_law_many","_law_things"] (aE dM):=⟨rfl,rfl,rfl,by decide +kernel,rfl,by decide +kernel,by decide +kernel⟩
theorem rD {f:Addr} {fd:FuncData} (F:Fun K "_law_choose" "_law_choose" dM f fd) (B:Bt mg):FnOk P w K mg base CX0 1 f fd ["_law_many","_law_things"] lY:=by
 refine F.ok fG (fun vs H Q E h=>?_) (fun cdv A outer s H vs Q E hr h=>?_)
 ·obtain⟨n,room,rfl,_⟩:=h;rfl
 ·obtain⟨n,room,rfl,hn,hr0,hr2,k⟩:=h;refine⟨_,(aF (aQ (i:=2) fG.nd rfl (Or.inl rfl) aG)
 (aF (cK PassesOwn.never rfl (fX rfl B.range (aA (pv 0) aD)) (aK (i:=3) fG.nd rfl (Or.inl rfl))
 (aH (aQ (i:=2) fG.nd rfl (Or.inl rfl) (aL nZ (aL cL (pv 2) (aL bX (pv 1) (pv 3))) (aL bX (pv 3) aG)))))
 (aH (bQ (pv 2))))),?_⟩
  refine⟨_,rfl,_,rfl,by omega,by omega,dS (n:=n) (fun i σ H2=>∃ v,σ=[some (.int n),some (.int (room+1)),some (.int (chW room i)),v]/\H2=H) ⟨none,rfl,rfl⟩ ?_ ?_⟩
  ·rintro i σ H2 hi ⟨v,rfl,rfl⟩;refine⟨_,rfl,_,rfl,_,rfl,_,_,rfl,rfl,_,_,rfl,rfl,.inr ⟨by omega,by omega⟩,_,rfl,_,_,rfl,rfl,_,_,rfl,rfl,⟨by omega,by omega⟩,some (V.int (0+(i:Int))),?_,rfl⟩;show _=[some (V.int n),some (V.int (room+1)),some (V.int (chW room i * (room+((i:Int)+1)) / ((i:Int)+1))),_];rw[show room+1+(0+(i:Int))=room+((i:Int)+1)by omega,show (0:Int)+(i:Int)=i by omega];rfl
  ·rintro σ H2 ⟨v,rfl,rfl⟩;exact⟨_,rfl,k⟩
abbrev dY:Stmt:=top 39
theorem eQ:aV ["_law_niches","_law_sizes","_law_found","_law_size","_law_most"] ["_law_niches","_law_sizes"] (aE dY):=⟨rfl,rfl,rfl,by decide +kernel,rfl,by decide +kernel,by decide +kernel⟩
theorem uN {f:Addr} {fd:FuncData} (F:Fun K "_law_count" "_law_count" dY f fd) (B:Bt mg) (F_law_space:bG P w K mg base "_law_space" 1 ["_law_niches","_law_sizes","_law_size"] oG) (F_law_choose:bG P w K mg base "_law_choose" 1 ["_law_many","_law_things"] lY) :
 FnOk P w K mg base CX0 2 f fd ["_law_niches","_law_sizes"] pY:=by
 refine F.ok eQ (fun vs H Q E h=>?_) (fun cdv A outer s H vs Q E hr h=>?_)
 ·obtain⟨a,niches,ns,rfl,_⟩:=h;rfl
 ·obtain⟨a,niches,ns,rfl,ha,hz,hn0,hn1,k⟩:=h;refine⟨_,(aF (aQ (i:=2) eQ.nd rfl (Or.inl rfl) aG)
 (aF (cK PassesOwn.never rfl (bW (lV rfl (by rfl) B.sorted cH (by rfl) B.set uZ (aA (pv 1) aD))) (aK (i:=3) eQ.nd rfl (Or.inl rfl))
 (aF (aQ (i:=4) eQ.nd rfl (Or.inl rfl) (bM F_law_space hr rfl (aA (pv 0) (aA (pv 1) (aA (pv 3) aD)))))
 (aH (aQ (i:=2) eQ.nd rfl (Or.inl rfl) (aL A0 (pv 2) (o5 (K3 (aX iX (pv 4) aG (aZ _)) aG (bM F_law_choose hr rfl (aA (gS aB3 PySem.F.slot_list_count PySem.F.type_list_count mV (pv 1) (aA (pv 3) aD)) (aA (aL bX (pv 4) aG) aD))))))))))
 (aH (bQ (pv 2))))),?_⟩
  refine⟨_,rfl,a,ns,rfl,ha,hz.few,fun l ms hl hp hup=>?_⟩;have d:Dst ns ms:=⟨hp,hup⟩;have g1:=Same.upd (o:=.lst (ms.map V.int)) hl;have el:(upd H l (.lst (ms.map V.int))) l=some (.lst (ms.map V.int)):=aB;generalize upd H l (.lst (ms.map V.int))=H1 at g1 el ⊢;have ha1:=g1 _ _ ha;refine⟨l,rfl,⟨_,SqL.of el⟩,eC (K:=K) (a:=l) (xs:=ms.map V.int) (fun i σ Hx=>∃ v1 v2,σ=[some (.int niches),some (.ref a),some (.int (bF niches ns (ms.take i))),v1,v2]/\Same H1 Hx) ⟨none,none,rfl,Same.refl _⟩ (fun i σ Hx _ ⟨_,_,_,e⟩=>SqL.of (e _ _ el)) ?_ ?_⟩
  ·rintro i x σ Hx hi ⟨v1,v2,rfl,sm⟩;obtain⟨m,rfl,hm⟩:=int_at hi;have hi':i<ms.length:=(aB7.mp hm).1;have h1:=d.pos hz m (aBF hm);have hc:ns.count m<=60:=Nat.le_trans List.count_le_length hz.len;have hb:=yN (i:=i) hn1 hz.pos hz.len (d.pos hz) (d.len hz) (by omega) h1;have hrl:=gK (niches:=niches) hn1 hz.pos h1;have fin:∀ Hy,Same Hx Hy->∃ v1 v2:Option V,[some (V.int niches),some (V.ref a),some (V.int (bF niches ns (ms.take i) * chO (ns.count m) (aI niches ns m))),some (V.int m),some (V.int (aI niches ns m))]=[some (V.int niches),some (V.ref a),some (V.int (bF niches ns (ms.take (i+1)))),v1,v2]/\Same H1 Hy:=fun Hy sy =>
    ⟨_,_,by rw[kC hm],sm.trans sy⟩
   refine⟨_,rfl,_,rfl,_,rfl,a,niches,m,ns,rfl,sm _ _ ha1,hz.len,fun H2 g2=>?_⟩;have ha2:=g2 _ _ (sm _ _ ha1);refine⟨_,rfl,fun v Hy=>v=V.int (chO (ns.count m) (aI niches ns m))/\Hy=H2,⟨_,rfl,_,_,rfl,rfl,_,rfl,lF (fun c=>?_) (fun c=>?_)⟩,?_⟩
   ·unfold chO;rw[if_pos c];exact⟨rfl,rfl⟩
   ·refine⟨_,rfl,.inl ⟨rfl,_,SqL.of ha2⟩,_,rfl,a,ns,m,rfl,rfl,ha2,_,rfl,_,_,rfl,rfl,ns.count m,aI niches ns m,rfl,hc,by omega,hrl,?_⟩;unfold chO;rw[if_neg c];exact⟨rfl,rfl⟩
   ·rintro v Hy ⟨rfl,rfl⟩;exact⟨_,_,rfl,rfl,hb,fin _ g2⟩
  ·rintro σ Hx ⟨v1,v2,rfl,sm⟩;rw[aAu,aBI];exact⟨_,rfl,k ms _ d (g1.trans sm)⟩
end
section
variable {P:Program} {w:World} {K:PySem.W.Frag} {mg:Str->Option Value} {base:Heap}
abbrev mH:Stmt:=top 40
theorem fB:aV ["_law_script","_law_numbers_here","_law_niches","_law_sizes","_law_count_here","_law_some","_law_k","_law_number","_law_step","_law_row"] ["_law_script"] (aE mH):=⟨rfl,rfl,rfl,by decide +kernel,rfl,by decide +kernel,by decide +kernel⟩
theorem w8 {f c PT:Addr} {fd:FuncData} (F:FunC K "law" "law" mH f fd c) (hC:PySem.W.CodeHd base c PT) (hbm:lZ mg base) (B:Bt mg)
 (F_row_numbered:bG P w K mg base "row_numbered" 4 ["niches","sizes","number"] mF) (F_number_of:bG P w K mg base "number_of" 5 ["niches","row"] uF) (F_law_numbers:bG P w K mg base "_law_numbers" 1 ["_law_script","_law_many"] (jX K)) (F_law_count:bG P w K mg base "_law_count" 2 ["_law_niches","_law_sizes"] pY) (F_law_sober:bG P w K mg base "_law_sober" 1 ["_law_niches","_law_row"] mC) (F_law_list:bG P w K mg base "_law_list" 2 ["_law_row"] kA) (F_law_same:bG P w K mg base "_law_same" 4 ["_law_found","_law_due"] (mM 3)) :
 FnOk P w K mg base CX0 11 f fd ["_law_script"] (tZ K PT):=by
 refine F.ok fB (fun vs H Q E h=>?_) (fun A outer s H vs Q E hr h=>?_)
 ·obtain⟨a,ns,rfl,_⟩:=h;rfl
 ·obtain⟨a,sc,rfl,hP,hS,hlen,kk⟩:=h;have hu:=hr.units;refine⟨_,(bK (aQ (i:=1) fB.nd rfl (Or.inr rfl) (bM F_law_numbers hr rfl (aA (pv 0) (aA aG aD))))
 (bK (aQ (i:=2) fB.nd rfl (Or.inl rfl) (aL bX aG (aL fP (fI eE (pv 1) aG (fun _ _=>rfl)) aG)))
 (bK (lC (i:=3) ["_law_k"] ["_law_numbers_here"] [1] rfl fB.nd rfl rfl (.of (show cZ (aE mH) _ ["_law_script","_law_numbers_here","_law_niches","_law_sizes","_law_count_here","_law_some","_law_k","_law_number","_law_step","_law_row"] [1] ["_law_numbers_here"]=true by decide +kernel)) (fX rfl B.range (aA (aL bX aG (aL fP (fI eE (pv 1) aG (fun _ _=>rfl)) aG)) aD)) (fun _ _ _=>(aK (i:=0) (show (["_law_k","_law_numbers_here"]:List Str).Nodup by decide +kernel) rfl (Or.inl rfl))) (fT (by decide)) (fun _ _ _=>cP) (fun _ _ _=>(aL bX aG (aL fP (fI (jA K rfl) (pv 1) (aL bX aG (pv 0)) (fun _ _=>rfl)) (fI (jA K rfl) (hV (aA aG (aA aG (aA aG aD)))) (aL fP (fI (jA K rfl) (pv 1) aG (fun _ _=>rfl)) aG) (fun _ _=>rfl))))) (by first | rfl | decide +kernel))
 (aF (kX PassesOwn.never (PW.pt (oM (aX iT (aJ (eI rfl) (by rfl) B.sum eG (aA (pv 3) aD)) aG (aZ _)) (kM (aX iT (aL cL aG (aJ (eI rfl) (by rfl) B.sum eG (aA (pv 3) aD))) (pv 2) (aZ _)))))
 (aH (aQ (i:=3) fB.nd rfl (Or.inl rfl) (aL o0 (oQ sW (pv 3) (sT aG) sS) (aL o3 (hV (aA (aJ (B8 rfl) (by rfl) B.max oV (aA aG (aA (aL cD (fI eE (pv 3) aG (fun _ _=>rfl)) aG) aD))) aD)) (jT rG (by rfl) B.int lD (aA (iI oW (aJ bD (by rfl) B.len PySem.boot_len (aA (pv 3) aD)) aG (aZ _)) aD)))))))
 (bK (aQ (i:=4) fB.nd rfl (Or.inl rfl) (bM F_law_count hr rfl (aA (pv 2) (aA (pv 3) aD))))
 (bK (aQ (i:=5) fB.nd rfl (Or.inl rfl) (hV aD))
 (aF (cK PassesOwn.never rfl (fX rfl B.range (aA aG aD)) (aK (i:=6) fB.nd rfl (Or.inl rfl))
 (bK (aQ (i:=7) fB.nd rfl (Or.inl rfl) (fI eE (pv 1) (aL bX aG (pv 6)) (fun _ _=>rfl)))
 (aF (cK PassesOwn.never rfl (fX rfl B.range (aA aG aD)) (aK (i:=8) fB.nd rfl (Or.inl rfl))
 (aH (aQ (i:=7) fB.nd rfl (Or.inl rfl) (aL bX (aL cL (pv 7) aG) (fI eE (pv 1) (aL bX aG (aL fP (aL bX (pv 6) (aL cL aG (pv 8))) aG)) (fun _ _=>rfl))))))
 (bK (aQ (i:=7) fB.nd rfl (Or.inl rfl) (aL fP (pv 7) (pv 4)))
 (bK (aQ (i:=9) fB.nd rfl (Or.inl rfl) (bM F_row_numbered hr rfl (aA (pv 2) (aA (jT lB (by rfl) B.list iC (aA (pv 3) aD)) (aA (pv 7) aD)))))
 (bK (cY (PW.pt (oM (xB (kY (bM F_law_sober hr rfl (aA (pv 2) (aA (pv 9) aD))) (fun _=>rfl))) (kM (xB (kY (bM F_law_same hr rfl (aA (bM F_number_of hr rfl (aA (pv 2) (aA (jT lB (by rfl) B.list iC (aA (pv 9) aD)) aD))) (aA (pv 7) aD))) (fun _=>rfl))))))
 (aH (bQ yZ))
 bS)
 (aH (bN (gS aB3 aB4 aB5 dF (pv 5) (aA (iJ (aA (pv 7) (aA (bM F_law_list hr rfl (aA (pv 9) aD)) aD))) aD))))))))))
 (aH (bQ (iI (M6 hu) (aJ uE (by rfl) B.sorted cH (aA (pv 5) aD)) (U2 (k:=1) (x:="_law_pair") (N:=["_law_pair"]) hr (by rfl) B.sorted (pv 5) ⟨rfl,rfl,rfl⟩ rfl hC hbm rfl rfl ⟨rfl,rfl,rfl,(show (["_law_pair"]:List Str).Nodup by decide +kernel),rfl,(fun y hy=>by rw[aB1.mp hy];exact Or.inl rfl),by decide +kernel⟩ (fun _ _ _ _=>rfl) (fun _ _ _ _ _ _ _ hr=>(fI (V7 K rfl) (pv 0) aG (fun _ _=>rfl)))) (aZ _))))))))))),?_⟩
  refine fun M1 hM1=>?_;refine⟨_,rfl,a,sc,40,rfl,hS,hlen,by decide,fun l1 nums H1 hnl hnums hl1 sm1 el1=>?_⟩;have hP1:=sm1 _ _ hP;refine hM1 [some (.ref a),some (.ref l1),none,none,none,none,none,none,none,none] _ ?_;clear hM1 M1;obtain⟨n0,m0,_,e0⟩:=hW (ns:=nums) (i:=0) (by omega) (by omega);obtain⟨n1,m1,_,e1⟩:=hW (ns:=nums) (i:=1) (by omega) (by omega);obtain⟨n2,m2,_,e2⟩:=hW (ns:=nums) (i:=2) (by omega) (by omega);refine fun M1 hM1=>?_;refine⟨_,rfl,l1,_,_,_,rfl,rfl,SqL.of el1,e0,_,_,rfl,rfl,(by show (0:Int)<160;decide),_,_,rfl,rfl,?_⟩;obtain⟨N,hNe,hN0,hN1⟩:∃ N:Int,41+n0 % 160=N/\41<=N/\N<=200:=⟨_,rfl,by omega,by omega⟩;show nB 2 (V.int (41+n0 % 160)) _ _ _;rw[hNe];refine hM1 [some (.ref a),some (.ref l1),some (.int N),none,none,none,none,none,none,none] _ ?_;clear hM1 M1;refine fun M1 hM1=>?_;have d1:=Int.emod_nonneg n2 (show (9:Int)≠0 by decide);have d2:=Int.emod_lt_of_pos n2 (show (0:Int)<9 by decide);obtain⟨kz,hkz⟩:∃ kz:Nat,1+n2 % 9=(kz:Int):=⟨(1+n2 % 9).toNat,by omega⟩;refine⟨_,rfl,l1,_,_,_,rfl,rfl,SqL.of el1,e2,_,_,rfl,rfl,(by show (0:Int)<9;decide),_,_,rfl,rfl,(kz:Int),by show [V.int (1+n2 % 9)]=_;rw[hkz],by omega,by omega,?_⟩;refine kN (lo:=0) (n:=kz) (fun i ys Hx=>Same H1 Hx/\∃ ss:List Int,ys=ss.map V.int/\ss.length=i/\∀ s∈ss,1<=s/\s<=12) ⟨Same.refl _,[],rfl,rfl,fun s hs=>(nomatch hs)⟩ ?_ ?_ ?_
  ·rintro i ys Hx hi ⟨sm,ss,rfl,hl,_⟩;rw[aAu];exact bC (by omega)
  ·rintro i ys Hx hi ⟨sm,ss,rfl,hl,hs⟩;obtain⟨y1,w1,_,ey1⟩:=hW (ns:=nums) (i:=3+(0+(i:Int))) (by omega) (by omega);have elx:=sm _ _ el1;refine⟨_,rfl,_,rfl,_,_,rfl,rfl,l1,_,_,_,rfl,rfl,SqL.of elx,ey1,(show 3<=sizeLine by decide),fun pc hpc=>?_⟩;have g2:=Same.upd (o:=.lst ([3,7,12].map V.int)) hpc;have epc:(upd Hx pc (.lst ([3,7,12].map V.int))) pc=some (.lst (([3,7,12]:List Int).map V.int)):=aB;obtain⟨q,hq,_,eq⟩:=hW (ns:=[3,7,12]) (i:=n1 % 3) (Int.emod_nonneg _ (by decide)) (Int.emod_lt_of_pos _ (by decide));have hq':0<q/\q<=12:=by simp at hq;omega
   have z1:=Int.emod_nonneg y1 (show q≠0 by omega);have z2:=Int.emod_lt_of_pos y1 hq'.1;exact⟨_,rfl,l1,_,_,_,rfl,rfl,SqL.of (g2 _ _ elx),e1,_,_,rfl,rfl,(by show (0:Int)<3;decide),pc,_,_,_,rfl,rfl,SqL.of epc,eq,_,_,rfl,rfl,hq'.1,_,_,rfl,rfl,sm.trans g2,ss++[1+y1 % q],by rw[aBJ];rfl,by rw[aBD];simp;omega,fun s h=>by
    rcases aB9.mp h with h | h
    ·exact hs s h
    ·obtain rfl:=aB1.mp h;omega⟩
  rintro ys Hx ⟨sm,ss0,rfl,hsl,hs⟩ lz hlz;have g3:=Same.upd (o:=.lst (ss0.map V.int)) hlz;have elz:(upd Hx lz (.lst (ss0.map V.int))) lz=some (.lst (ss0.map V.int)):=aB;generalize upd Hx lz (.lst (ss0.map V.int))=H3 at g3 elz ⊢;refine hM1 [some (.ref a),some (.ref l1),some (.int N),some (.ref lz),none,none,none,none,none,none] _ ?_;clear hM1 M1;have g13:=sm.trans g3;have el3:=g13 _ _ el1;have hP3:=g13 _ _ hP1;refine uS (fun σ Hy=>∃ (lz':Addr) (ss:List Int),σ=[some (.ref a),some (.ref l1),some (.int N),some (.ref lz'),none,none,none,none,none,none]/\Same H3 Hy/\Hy lz'=some (.lst (ss.map V.int))/\1<=ss.length/\ss.length<=9/\∀ s∈ss,1<=s/\s<=12) (fun σ Hy=>match σ with | [_,_,_,some (.ref l),_,_,_,_,_,_]=>(match Hy l with | some (.lst xs)=>xs.length | _=>0) | _=>0) ⟨lz,ss0,rfl,Same.refl _,elz,by omega,by omega,hs⟩ ?_ ?_
  ·rintro σ Hy ⟨lz',ss,rfl,gy,ely,hl1',hl9,hb⟩;have hsum:=qJ (l:=ss) fun s h=>(hb s h).2;refine⟨_,rfl,lz',ss,rfl,ely,_,_,rfl,rfl,_,rfl,lF (fun c=>?A) (fun c=>⟨_,rfl,lz',ss,rfl,ely,_,_,rfl,rfl,.inl ⟨by decide,by decide⟩,_,rfl,_,_,rfl,rfl,_,rfl,lF (fun c=>?B) (fun c2=>?C)⟩)⟩
   case' A=>have h21:21<=ss.sum:=by omega
   case' B=>have h21:21<=ss.sum:=by omega
   case A | B =>
    clear c;obtain⟨s0,s1,tl,rfl⟩:∃ s0 s1 tl,ss=s0 :: s1 :: tl:=by
     rcases ss with _ | ⟨s0,_ | ⟨s1,tl⟩⟩
     ·simp at hl1'
     ·have:=(hb s0 aAw).2;simp at h21;omega
     ·exact⟨s0,s1,tl,rfl⟩
    refine⟨_,rfl,_,rfl,lz',_,rfl,SqL.of ely,fun c2 hc2=>?_⟩;rw[show oS ((s0 :: s1 :: tl).map V.int) (some 1) none=(s1 :: tl).map V.int from D3 ((s0 :: s1 :: tl).map V.int) 1];have k1:=Same.upd (o:=.lst ((s1 :: tl).map V.int)) hc2;have ec2:(upd Hy c2 (.lst ((s1 :: tl).map V.int))) c2=some (.lst ((s1 :: tl).map V.int)):=aB;generalize upd Hy c2 (.lst ((s1 :: tl).map V.int))=Ha at k1 ec2 ⊢;have elya:=k1 _ _ ely;refine⟨_,rfl,lz',_,_,_,rfl,rfl,SqL.of elya,jU (xs:=(s0 :: s1 :: tl).map V.int) (j:=0) rfl,_,_,rfl,rfl,1,s0 - 5,rfl,(show 1<=sizeLine by decide),fun c3 hc3=>?_⟩;generalize (if s0 - 5 > 1 then s0 - 5 else 1)=mx;have k2:=Same.upd (o:=.lst [V.int mx]) hc3;have ec3:(upd Ha c3 (.lst [V.int mx])) c3=some (.lst [V.int mx]):=aB;generalize upd Ha c3 (.lst [V.int mx])=Hb at k2 ec3 ⊢;refine⟨_,rfl,lz',_,rfl,.inl (SqL.of (k2 _ _ elya)),_,_,rfl,rfl,.inr ⟨_,rfl,?_⟩⟩;have hne1:decide ((((s0 :: s1 :: tl).map V.int).length:Int)=1)=false:=by
     rw[aAu];exact aBQ (by simp;omega)
    rw[hne1];refine⟨c3,0,_,rfl,rfl,ec3,by decide,by decide,by simp,fun c4 hc4=>?_⟩;have k3:=Same.upd (o:=.lst (List.replicate (0:Int).toNat [V.int mx]).flatten) hc4;have ec4:(upd Hb c4 (.lst (List.replicate (0:Int).toNat [V.int mx]).flatten)) c4=some (.lst []):=aB;generalize upd Hb c4 (.lst (List.replicate (0:Int).toNat [V.int mx]).flatten)=Hc at k3 ec4 ⊢;refine⟨c2,c4,_,_,rfl,rfl,(k2.trans k3) _ _ ec2,ec4,bC (by simp at hl9 ⊢;omega),fun c5 hc5=>?_⟩;rw[List.append_nil];have k4:=Same.upd (o:=.lst ((s1 :: tl).map V.int)) hc5;have ec5:(upd Hc c5 (.lst ((s1 :: tl).map V.int))) c5=some (.lst ((s1 :: tl).map V.int)):=aB;generalize upd Hc c5 (.lst ((s1 :: tl).map V.int))=Hd at k4 ec5 ⊢;refine⟨⟨c5,s1 :: tl,rfl,gy.trans ((k1.trans k2).trans (k3.trans k4)),ec5,by simp,by simp at hl9 ⊢;omega,fun s h=>hb s (aAx _ h)⟩,?_⟩;show (match Hd c5 with | some (.lst xs)=>xs.length | _=>0)<(match Hy lz' with | some (.lst xs)=>xs.length | _=>0);rw[ec5,ely];simp
   case C =>
    have hz:SzOk ss:=Y6 (fun s h=>by have:=hb s h;omega) (by omega) (by omega);clear hsum hl1';have h2N:2 * ss.sum<=N:=by omega
    have ely1:=gy _ _ el3;have hPy:=gy _ _ hP3;refine fun M1 hM1=>?_;refine⟨_,rfl,_,rfl,lz',N,ss,rfl,ely,hz,by omega,hN1,fun ms H4 d g4=>?_⟩;obtain⟨C,hC0⟩:∃ C:Int,bF N ss ms=C:=⟨_,rfl⟩;rw[hC0];refine hM1 [some (.ref a),some (.ref l1),some (.int N),some (.ref lz'),some (.int C),none,none,none,none,none] _ ?_;clear hM1 M1;have el4:=g4 _ _ ely1;have elz4:=g4 _ _ ely;have hP4:=g4 _ _ hPy;have hCn:0<C:=by rw[<- hC0];exact sN h2N ms
    have hrp:∀ m∈ms,0<=aI N ss m:=sM (by omega);clear ely1 hPy;refine fun M1 hM1=>?_;refine⟨by decide,fun lm hlm=>?_⟩;have g5:=Same.upd (o:=.lst []) hlm;have elm:(upd H4 lm (.lst [])) lm=some (.lst []):=aB;have n1m:l1≠lm:=aN el4 hlm;have nzm:lz'≠lm:=aN elz4 hlm;have nPm:PT≠lm:=aN hP4 hlm;generalize upd H4 lm (.lst [])=H5 at g5 elm ⊢;refine hM1 [some (.ref a),some (.ref l1),some (.int N),some (.ref lz'),some (.int C),some (.ref lm),none,none,none,none] _ ?_;clear hM1 M1;have el5:=g5 _ _ el4;have elz5:=g5 _ _ elz4;have hP5:=g5 _ _ hP4;refine⟨3,rfl,by decide,by decide,dS (lo:=0) (n:=3) (fun i σ Hx=>∃ (us:List V) (its:List (Int×Trs)) (v6 v7 v8 v9:Option V),σ=[some (.ref a),some (.ref l1),some (.int N),some (.ref lz'),some (.int C),some (.ref lm),v6,v7,v8,v9]/\(∀ y o,y≠lm->H5 y=some o->Hx y=some o)/\Hx lm=some (.lst us)/\Paired (NlN lm Hx) us its/\its.length=i/\∀ p∈its,NumI N p.1 ss ms [] p.2 0) ⟨[],[],none,none,none,none,rfl,fun y o _ e=>e,elm,.nil,rfl,fun p hp=>by cases hp⟩ ?_ ?_⟩
    ·rintro j σ Hx hj ⟨us,its,v6,v7,v8,v9,rfl,kp,eus,pr,hil,hits⟩;have hul:us.length=j:=by rw[Paired.length pr,hil]
     have elx:=kp _ _ n1m el5;have elzx:=kp _ _ nzm elz5;obtain⟨y0,w0,_,ey0⟩:=hW (ns:=nums) (i:=20+(0+(j:Int))) (by omega) (by omega);refine fun M2 hM2=>?_;refine⟨_,rfl,_,rfl,_,_,rfl,rfl,l1,_,_,_,rfl,rfl,SqL.of elx,ey0,?_⟩;refine hM2 [some (.ref a),some (.ref l1),some (.int N),some (.ref lz'),some (.int C),some (.ref lm),some (.int (0+(j:Int))),some (.int y0),v8,v9] _ ?_;clear hM2 M2;refine⟨6,rfl,by decide,by decide,dS (lo:=0) (n:=6) (fun i σ Hz=>Hz=Hx/\∃ (x:Int) (v8:Option V),σ=[some (.ref a),some (.ref l1),some (.int N),some (.ref lz'),some (.int C),some (.ref lm),some (.int (0+(j:Int))),some (.int x),v8,v9]) ⟨rfl,y0,v8,rfl⟩ ?_ ?_⟩
     ·rintro i σ Hz hi ⟨rfl,x,v8,rfl⟩;have z1:=Int.emod_nonneg ((0+(j:Int))+3 * (0+(i:Int))) (show (16:Int)≠0 by decide);have z2:=Int.emod_lt_of_pos ((0+(j:Int))+3 * (0+(i:Int))) (show (0:Int)<16 by decide);obtain⟨y1,w1,_,ey1⟩:=hW (ns:=nums) (i:=24+((0+(j:Int))+3 * (0+(i:Int))) % 16) (by omega) (by omega);exact⟨_,rfl,_,_,rfl,rfl,.inr ⟨by decide,by decide⟩,_,rfl,_,rfl,_,rfl,_,_,rfl,rfl,.inl ⟨by decide,by decide⟩,_,_,rfl,rfl,_,_,rfl,rfl,(by show (0:Int)<16;decide),_,_,rfl,rfl,l1,_,_,_,rfl,rfl,SqL.of elx,ey1,_,_,rfl,rfl,rfl,_,_,rfl⟩
     rintro σ Hz ⟨rfl,x,v8',rfl⟩;refine fun M2 hM2=>?_;refine⟨_,rfl,_,rfl,_,_,rfl,rfl,hCn,?_⟩;obtain⟨nb,hnb,hn0,hn1⟩:∃ nb:Int,x % C=nb/\0<=nb/\nb<C:=⟨_,rfl,Int.emod_nonneg _ (by omega),Int.emod_lt_of_pos _ hCn⟩;show nB 7 (V.int (x % C)) _ _ _;rw[hnb];refine hM2 [some (.ref a),some (.ref l1),some (.int N),some (.ref lz'),some (.int C),some (.ref lm),some (.int (0+(j:Int))),some (.int nb),v8',v9] _ ?_;clear hM2 M2;refine fun M2 hM2=>?_;refine⟨_,rfl,_,rfl,lz',_,rfl,.inl (SqL.of elzx),fun lc hlc=>?_⟩;have g6:=Same.upd (o:=.lst (ss.map V.int)) hlc;have elc:(upd Hz lc (.lst (ss.map V.int))) lc=some (.lst (ss.map V.int)):=aB;generalize upd Hz lc (.lst (ss.map V.int))=H6 at g6 elc ⊢;refine⟨_,rfl,N,lc,ss,_,rfl,elc,hz,by omega,hN1,fun ms' d'=>by
      obtain rfl:=d'.eq d fun _=>Iff.rfl;omega,fun ms' ps r d' I T L lr H7 hlr g7 er=>?_⟩
     obtain rfl:=d'.eq d fun _=>Iff.rfl;have hrow:=L.rowp;have hrl:=Z1 L T;refine hM2 [some (.ref a),some (.ref l1),some (.int N),some (.ref lz'),some (.int C),some (.ref lm),some (.int (0+(j:Int))),some (.int nb),v8',some (.ref lr)] _ ?_;clear hM2 M2;have g67:=g6.trans g7;refine fun M2 hM2=>?_;refine⟨_,rfl,_,rfl,N,lr,r,rfl,er,hrow,hrl,by omega,by omega,fun b hb H8 g8=>?_⟩;obtain rfl:b=true:=hb.mpr (I.sob d L);refine⟨true,rfl,?_⟩;have er8:=g8 _ _ er;refine⟨_,rfl,_,rfl,lr,_,rfl,.inl (SqL.of er8),fun lk hlk=>?_⟩;have g9:=Same.upd (o:=.lst (r.map V.int)) hlk;have elk:(upd H8 lk (.lst (r.map V.int))) lk=some (.lst (r.map V.int)):=aB;generalize upd H8 lk (.lst (r.map V.int))=H9 at g9 elk ⊢;refine⟨N,lk,r,rfl,elk,hrow,hrl,by omega,hN1,fun ps2 L2=>AllIn.perm (L.uniq L2) (I.inn d),fun ps2 ms2 L2 s2 d2 in2 H10 g10=>?_⟩;obtain rfl:=I.own L L2 s2;obtain rfl:=I.dst d d2;rw[I.nm d];refine⟨_,rfl,_,_,_,rfl,Den.int _,Den.int _,(show PyData.depth (.int 0)<=3 by decide),rfl,rfl,fun H11 g11=>⟨true,rfl,?_⟩⟩;have g711:=(g8.trans g9).trans (g10.trans g11);refine hM2 [some (.ref a),some (.ref l1),some (.int N),some (.ref lz'),some (.int C),some (.ref lm),some (.int (0+(j:Int))),some (.int nb),v8',some (.ref lr)] _ ?_;clear hM2 M2;have er11:=g711 _ _ er;have gx11:=g67.trans g711;have eus11:=gx11 _ _ eus;refine⟨_,rfl,.inl ⟨rfl,_,SqL.of eus11⟩,_,rfl,_,rfl,lr,r,rfl,er11,hrow,hrl,fun qs hq hs lt us2 H12 hlt g12 elt prt=>?_⟩;obtain rfl:=I.own L hq hs;refine⟨(show 2<=sizeLine by decide),fun tt htt=>?_⟩;have g13:=Same.upd (o:=.tup [V.int nb,V.ref lt]) htt;have ett:(upd H12 tt (.tup [V.int nb,V.ref lt])) tt=some (.tup [V.int nb,V.ref lt]):=aB;generalize upd H12 tt (.tup [V.int nb,V.ref lt])=H13 at g13 ett ⊢;have gx13:=gx11.trans (g12.trans g13);have eus13:=gx13 _ _ eus;have nlt:lt≠lm:=fun e=>by rw[e,eus11]at hlt;cases hlt
     refine⟨lm,us,_,rfl,rfl,eus13,bC (by omega),us++[V.ref tt],its++[(nb,qs)],_,_,_,_,rfl,fun y o h e=>by rw[aC h];exact gx13 _ _ (kp y o h e),aB,?_,by simp[hil],fun p hp=>?_⟩
     ·exact Paired.append' (Paired.mapP pr fun v p h=>(h.same gx13).upd eus13) (.cons (NlN.upd eus13 ⟨tt,lt,us2,rfl,ett,nlt,g13 _ _ elt,prt.mono (TupS.same g13)⟩) .nil)
     ·rcases aB9.mp hp with h | h
      ·exact hits p h
      ·rw[aB1.mp h];exact I
    rintro σ Hx ⟨us,its,v6,v7,v8,v9,rfl,kp,eus,pr,hil,hits⟩;have hul:us.length=its.length:=Paired.length pr;have hPx:=kp _ _ nPm hP5;have hsame:∀ p∈its,∀ q∈its,p.1=q.1->p.2=q.2:=fun p hp q hq e=>by
     have:=hits p hp;rw[e]at this;exact this.eq (hits q hq) hrp
    have hu70:A.units+3+70<cLine:=by have:=hr.un;show _<_;exact Nat.lt_of_le_of_lt (show A.units+3+70<=A.units+3+16 * 10+200 by omega) this
    refine⟨_,rfl,lm,us,nX,(fun i=>(its.getD i (0,[])).1),PyProof.Rows.tuples' true,rfl,eus,by omega,v0 hu70 (Paired.mapP pr fun _ _ h=>h.nl) hsame,fun ls p hls hp hup=>?_⟩;have k1:=Same.upd (o:=.lst (jL us p.toList)) hls;have els:(upd Hx ls (.lst (jL us p.toList))) ls=some (.lst (jL us p.toList)):=aB;generalize upd Hx ls (.lst (jL us p.toList))=Ha at k1 els ⊢;have hPa:=k1 _ _ hPx;refine⟨_,rfl,_,hPa,True.intro,.inl ⟨rfl,fun c' f' hc' hf' hfc=>?_⟩⟩;have ncP:c'≠PT:=fun e=>by rw[e,hPa]at hc';cases hc'
    have nfP:f'≠PT:=fun e=>by rw[e,hPa]at hf';cases hf'
    generalize HO.tbl _=TB;generalize hLX:LamX f' _ _ _ _ c'=LX;generalize hCX:CodeX c' _=CXo;have k2:SameP PT Ha (upd (upd (upd Ha PT TB) c' CXo) f' LX):=fun b o n e=>by
     rw[aC (aN e hf'),aC (aN e hc'),aC n];exact e
    have eLX:(upd (upd (upd Ha PT TB) c' CXo) f' LX) f'=some LX:=aB;have eCX:(upd (upd (upd Ha PT TB) c' CXo) f' LX) c'=some CXo:=by rw[aC (Ne.symm hfc)];exact aB
    generalize upd (upd (upd Ha PT TB) c' CXo) f' LX=Hb at k2 eLX eCX ⊢;have nlmP:lm≠PT:=Ne.symm nPm;have eusb:=k2 _ _ nlmP (k1 _ _ eus);refine⟨lm,us,f',c',rfl,rfl,eusb,by omega,by rw[hLX];exact eLX,by rw[hCX];exact eCX,fun ao kS EX hao hkS hne=>?_⟩;rw[hLX,hCX];have prb:Paired (NlN lm Hb) us its:=Paired.mapP pr fun v p h=>(h.same k1).sameP hPa k2;have elsb:=k2 _ _ (tY hPa els fun _ z=>by cases z) els;have nfk:f'≠kS:=aN eLX hkS;have nck:c'≠kS:=aN eCX hkS;have up1:Same Hb (upd (upd Hb ao EX) kS (.lst [])):=fun b o e=>by rw[aC (aN e hkS),aC (aN e hao)];exact e
    have up2:∀ {H':Hp},SameP kS (upd (upd Hb ao EX) kS (.lst [])) H'->Same Hb H':=fun g b o e=>g _ _ (aN e hkS) (up1 _ _ e);refine qL (R:=fun _ v k=>∃ t n,v=.ref t/\Hb t=some (.tup [.int n,k])) nfk nck hne (fun _ _ _ _ _ h=>h) us [] _ (up1 _ _ eLX) (up1 _ _ eCX) (by rw[aC hne];exact aB) aB (fun v hv H' Q' g hQ=>?_) fun ks H' prk g ek=>?_
    ·obtain⟨p',_,t,l,us',rfl,ht,_,hl,_⟩:=kU prb v hv;exact⟨_,rfl,t,_,_,_,rfl,rfl,SqT.of (up2 g _ _ ht),rfl,hQ _ _ (Same.refl _) ⟨t,_,rfl,ht⟩⟩
    ·rw[List.nil_append]at ek ⊢;refine⟨g _ _ hne (by rw[aC hne];exact aB),ek,nX,(fun i=>(its.getD i (0,[])).1),PyProof.Rows.oneType',w6 hu70 (B2 (up2 g) prb prk) (fun i j hi hj=>?_),fun q hq huq=>?_⟩
     ·have hkl:ks.length=its.length:=by rw[<- Paired.length prk];exact hul
      have mem:∀ i,i<its.length->its.getD i (0,[])∈its:=fun i hi=>by
       rw[List.getD_eq_getElem?_getD,aBE hi];exact List.getElem_mem _
      have i1:=hits _ (mem i (by omega));have i2:=hits _ (mem j (by omega));have hs:=hsame _ (mem i (by omega)) _ (mem j (by omega));generalize its.getD i (0,[])=x1 at i1 hs ⊢;generalize its.getD j (0,[])=x2 at i2 hs ⊢;rcases Int.lt_trichotomy x1.1 x2.1 with c | c | c
      ·rw[i1.lex i2 hrp c,aBR c]
      ·rw[hs c,wW,aBQ (by omega)]
      ·rw[sO (i2.lex i1 hrp c),aBQ (by omega)]
     ·have gf:Same Hb (upd (upd H' kS (.lst [])) ao (.lst (jL us q.toList))):=fun b o e=>by rw[aC (aN e hao),aC (aN e hkS)];exact up2 g _ _ e
      have eao:(upd (upd H' kS (.lst [])) ao (.lst (jL us q.toList))) ao=some (.lst (jL us q.toList)):=aB;generalize upd (upd H' kS (.lst [])) ao (.lst (jL us q.toList))=Hf at gf eao ⊢;have prf:Paired (NlN lm Hf) us its:=Paired.mapP prb fun v p h=>h.same gf;have pm:∀ {r:List Nat},r.Perm (List.range us.length)->∀ i∈r,i<us.length:=fun hr i hi=>List.mem_range.mp (hr.mem_iff.mp hi);refine⟨_,_,.lst (gf _ _ elsb) (qK prf (pm hp)),.lst eao (qK prf (pm hq)),mZ _,mZ _,?_⟩;rw[hul]at hp hup hq huq;rw[w4 hsame hp hq hup huq,eqv_self (mZ _)];exact kk _
  ·rintro σ H Q Q' hQ ⟨v,hv,p,ns,e1,e2,i,j,h1,h2,k,hk,h⟩;refine⟨v,hv,p,ns,e1,e2,i,j,h1,h2,k,hk,?_⟩;cases k with
   | true=>exact hQ _ _ h
   | false =>
    obtain⟨v,hv,p,ns,e1,e2,i,j,h1,h2,hm,w,hw,i',j',h1',h2',k,hk,h⟩:=h;exact⟨v,hv,p,ns,e1,e2,i,j,h1,h2,hm,w,hw,i',j',h1',h2',k,hk,hQ _ _ h⟩
end
theorem all_mk {l:PySem.W.OpenLaw} {w:World} {K:PySem.W.Frag} {h:Heap} {mg:Str->Option Value} {fa:Addr} {ts:List Addr} {PT:Addr} (hts:PT∈ts) (X:K.In h) (G:h.Ns mainGlobals mg) (hfa:mg "law"=some (.ref fa))
 {f0:Addr} {od0 an0:Option Addr} {sl0:Array (Option Value)} {oc0 kV0 dc0 pm0 ct0:Value} {cd0:Value}
 {f1:Addr} {od1 an1:Option Addr} {sl1:Array (Option Value)} {oc1 kV1 dc1 pm1 ct1:Value} {cd1:Value}
 {f2:Addr} {od2 an2:Option Addr} {sl2:Array (Option Value)} {oc2 kV2 dc2 pm2 ct2:Value} {cd2:Value}
 {f3:Addr} {od3 an3:Option Addr} {sl3:Array (Option Value)} {oc3 kV3 dc3 pm3 ct3:Value} {cd3:Value}
 {f4:Addr} {od4 an4:Option Addr} {sl4:Array (Option Value)} {oc4 kV4 dc4 pm4 ct4:Value} {cd4:Value}
 {f5:Addr} {od5 an5:Option Addr} {sl5:Array (Option Value)} {oc5 kV5 dc5 pm5 ct5:Value} {cd5:Value}
 {f6:Addr} {od6 an6:Option Addr} {sl6:Array (Option Value)} {oc6 kV6 dc6 pm6 ct6:Value} {cd6:Value}
 {f7:Addr} {od7 an7:Option Addr} {sl7:Array (Option Value)} {oc7 kV7 dc7 pm7 ct7:Value} {cd7:Value}
 {f8:Addr} {od8 an8:Option Addr} {sl8:Array (Option Value)} {oc8 kV8 dc8 pm8 ct8:Value} {cd8:Value}
 {f9:Addr} {od9 an9:Option Addr} {sl9:Array (Option Value)} {oc9 kV9 dc9 pm9 ct9:Value} {cd9:Value}
 {f10:Addr} {od10 an10:Option Addr} {sl10:Array (Option Value)} {oc10 kV10 dc10 pm10 ct10:Value} {cd10:Value}
 {f11:Addr} {od11 an11:Option Addr} {sl11:Array (Option Value)} {oc11 kV11 dc11 pm11 ct11:Value} {cd11:Value}
 {f12:Addr} {od12 an12:Option Addr} {sl12:Array (Option Value)} {oc12 kV12 dc12 pm12 ct12:Value} {cd12:Value}
 {f13:Addr} {od13 an13:Option Addr} {sl13:Array (Option Value)} {oc13 kV13 dc13 pm13 ct13:Value} {cd13:Value}
 {f14:Addr} {od14 an14:Option Addr} {sl14:Array (Option Value)} {oc14 kV14 dc14 pm14 ct14:Value} {cd14:Value}
 {f15:Addr} {od15 an15:Option Addr} {sl15:Array (Option Value)} {oc15 kV15 dc15 pm15 ct15:Value} {cd15:Value}
 {f16:Addr} {od16 an16:Option Addr} {sl16:Array (Option Value)} {oc16 kV16 dc16 pm16 ct16:Value} {cd16:Value}
 {f17:Addr} {od17 an17:Option Addr} {sl17:Array (Option Value)} {oc17 kV17 dc17 pm17 ct17:Value} {cd17:Value}
 {f18:Addr} {od18 an18:Option Addr} {sl18:Array (Option Value)} {oc18 kV18 dc18 pm18 ct18:Value} {cd18:Value}
 {f19:Addr} {od19 an19:Option Addr} {sl19:Array (Option Value)} {oc19 kV19 dc19 pm19 ct19:Value} {cd19:Value}
 {f20:Addr} {od20 an20:Option Addr} {sl20:Array (Option Value)} {oc20 kV20 dc20 pm20 ct20:Value} {cd20:Value}
 {f21:Addr} {od21 an21:Option Addr} {sl21:Array (Option Value)} {oc21 kV21 dc21 pm21 ct21:Value} {cd21:Value}
 {f22:Addr} {od22 an22:Option Addr} {sl22:Array (Option Value)} {oc22 kV22 dc22 pm22 ct22:Value} {cd22:Value}
 {f23:Addr} {od23 an23:Option Addr} {sl23:Array (Option Value)} {oc23 kV23 dc23 pm23 ct23:Value} {cd23:Value}
 {f24:Addr} {od24 an24:Option Addr} {sl24:Array (Option Value)} {oc24 kV24 dc24 pm24 ct24:Value} {cd24:Value}
 {f25:Addr} {od25 an25:Option Addr} {sl25:Array (Option Value)} {oc25 kV25 dc25 pm25 ct25:Value} {cd25:Value}
 {f26:Addr} {od26 an26:Option Addr} {sl26:Array (Option Value)} {oc26 kV26 dc26 pm26 ct26:Value} {cd26:Value}
 {cC:Addr}
 {f27:Addr} {od27 an27:Option Addr} {sl27:Array (Option Value)} {oc27 kV27 dc27 pm27 ct27:Value}
 {t_MOST_STONES:Tok}
 {t_MOST_NICHES:Tok}
 (z_divmod:PySem.W.nsIn K mainGlobals "divmod"=some none)
 (a0:PySem.W.nsIn K mainGlobals "look_row"=some (some (.ref f0)))
 (l0:K.lookup f0=some ⟨oc0,od0,.func (PySem.W.fnOf "look_row" "look_row" (aU eX) (aR eX) (aE eX) .none kV0 dc0 pm0 an0 cd0 ct0),sl0⟩)
 (c0:PySem.W.codeIn K cd0 "look_row"=true)
 (k0:PySem.W.keepIn K (.ref f0)=true)
 (a1:PySem.W.nsIn K mainGlobals "look_trains"=some (some (.ref f1)))
 (l1:K.lookup f1=some ⟨oc1,od1,.func (PySem.W.fnOf "look_trains" "look_trains" (aU cJ) (aR cJ) (aE cJ) .none kV1 dc1 pm1 an1 cd1 ct1),sl1⟩)
 (c1:PySem.W.codeIn K cd1 "look_trains"=true)
 (k1:PySem.W.keepIn K (.ref f1)=true)
 (a2:PySem.W.nsIn K mainGlobals "by_size"=some (some (.ref f2)))
 (l2:K.lookup f2=some ⟨oc2,od2,.func (PySem.W.fnOf "by_size" "by_size" (aU gB) (aR gB) (aE gB) .none kV2 dc2 pm2 an2 cd2 ct2),sl2⟩)
 (c2:PySem.W.codeIn K cd2 "by_size"=true)
 (k2:PySem.W.keepIn K (.ref f2)=true)
 (a3:PySem.W.nsIn K mainGlobals "crowd"=some (some (.ref f3)))
 (l3:K.lookup f3=some ⟨oc3,od3,.func (PySem.W.fnOf "crowd" "crowd" (aU iP) (aR iP) (aE iP) .none kV3 dc3 pm3 an3 cd3 ct3),sl3⟩)
 (c3:PySem.W.codeIn K cd3 "crowd"=true)
 (k3:PySem.W.keepIn K (.ref f3)=true)
 (a4:PySem.W.nsIn K mainGlobals "crowds"=some (some (.ref f4)))
 (l4:K.lookup f4=some ⟨oc4,od4,.func (PySem.W.fnOf "crowds" "crowds" (aU gP) (aR gP) (aE gP) .none kV4 dc4 pm4 an4 cd4 ct4),sl4⟩)
 (c4:PySem.W.codeIn K cd4 "crowds"=true)
 (k4:PySem.W.keepIn K (.ref f4)=true)
 (a5:PySem.W.nsIn K mainGlobals "drop_last"=some (some (.ref f5)))
 (l5:K.lookup f5=some ⟨oc5,od5,.func (PySem.W.fnOf "drop_last" "drop_last" (aU dW) (aR dW) (aE dW) .none kV5 dc5 pm5 an5 cd5 ct5),sl5⟩)
 (c5:PySem.W.codeIn K cd5 "drop_last"=true)
 (k5:PySem.W.keepIn K (.ref f5)=true)
 (a6:PySem.W.nsIn K mainGlobals "add_train"=some (some (.ref f6)))
 (l6:K.lookup f6=some ⟨oc6,od6,.func (PySem.W.fnOf "add_train" "add_train" (aU dX) (aR dX) (aE dX) .none kV6 dc6 pm6 an6 cd6 ct6),sl6⟩)
 (c6:PySem.W.codeIn K cd6 "add_train"=true)
 (k6:PySem.W.keepIn K (.ref f6)=true)
 (a7:PySem.W.nsIn K mainGlobals "add_stone"=some (some (.ref f7)))
 (l7:K.lookup f7=some ⟨oc7,od7,.func (PySem.W.fnOf "add_stone" "add_stone" (aU dB) (aR dB) (aE dB) .none kV7 dc7 pm7 an7 cd7 ct7),sl7⟩)
 (c7:PySem.W.codeIn K cd7 "add_stone"=true)
 (k7:PySem.W.keepIn K (.ref f7)=true)
 (a8:PySem.W.nsIn K mainGlobals "list_of"=some (some (.ref f8)))
 (l8:K.lookup f8=some ⟨oc8,od8,.func (PySem.W.fnOf "list_of" "list_of" (aU eY) (aR eY) (aE eY) .none kV8 dc8 pm8 an8 cd8 ct8),sl8⟩)
 (c8:PySem.W.codeIn K cd8 "list_of"=true)
 (k8:PySem.W.keepIn K (.ref f8)=true)
 (a9:PySem.W.nsIn K mainGlobals "row_of"=some (some (.ref f9)))
 (l9:K.lookup f9=some ⟨oc9,od9,.func (PySem.W.fnOf "row_of" "row_of" (aU gQ) (aR gQ) (aE gQ) .none kV9 dc9 pm9 an9 cd9 ct9),sl9⟩)
 (c9:PySem.W.codeIn K cd9 "row_of"=true)
 (k9:PySem.W.keepIn K (.ref f9)=true)
 (a10:PySem.W.nsIn K mainGlobals "look_niches"=some (some (.ref f10)))
 (l10:K.lookup f10=some ⟨oc10,od10,.func (PySem.W.fnOf "look_niches" "look_niches" (aU cV) (aR cV) (aE cV) .none kV10 dc10 pm10 an10 cd10 ct10),sl10⟩)
 (c10:PySem.W.codeIn K cd10 "look_niches"=true)
 (k10:PySem.W.keepIn K (.ref f10)=true)
 (a11:PySem.W.nsIn K mainGlobals "look_sizes"=some (some (.ref f11)))
 (l11:K.lookup f11=some ⟨oc11,od11,.func (PySem.W.fnOf "look_sizes" "look_sizes" (aU dL) (aR dL) (aE dL) .none kV11 dc11 pm11 an11 cd11 ct11),sl11⟩)
 (c11:PySem.W.codeIn K cd11 "look_sizes"=true)
 (k11:PySem.W.keepIn K (.ref f11)=true)
 (a12:PySem.W.nsIn K mainGlobals "rooms"=some (some (.ref f12)))
 (l12:K.lookup f12=some ⟨oc12,od12,.func (PySem.W.fnOf "rooms" "rooms" (aU iQ) (aR iQ) (aE iQ) .none kV12 dc12 pm12 an12 cd12 ct12),sl12⟩)
 (c12:PySem.W.codeIn K cd12 "rooms"=true)
 (k12:PySem.W.keepIn K (.ref f12)=true)
 (a13:PySem.W.nsIn K mainGlobals "choices"=some (some (.ref f13)))
 (l13:K.lookup f13=some ⟨oc13,od13,.func (PySem.W.fnOf "choices" "choices" (aU gC) (aR gC) (aE gC) .none kV13 dc13 pm13 an13 cd13 ct13),sl13⟩)
 (c13:PySem.W.codeIn K cd13 "choices"=true)
 (k13:PySem.W.keepIn K (.ref f13)=true)
 (a14:PySem.W.nsIn K mainGlobals "how_many"=some (some (.ref f14)))
 (l14:K.lookup f14=some ⟨oc14,od14,.func (PySem.W.fnOf "how_many" "how_many" (aU fA) (aR fA) (aE fA) .none kV14 dc14 pm14 an14 cd14 ct14),sl14⟩)
 (c14:PySem.W.codeIn K cd14 "how_many"=true)
 (k14:PySem.W.keepIn K (.ref f14)=true)
 (a15:PySem.W.nsIn K mainGlobals "offsets_numbered"=some (some (.ref f15)))
 (l15:K.lookup f15=some ⟨oc15,od15,.func (PySem.W.fnOf "offsets_numbered" "offsets_numbered" (aU bU) (aR bU) (aE bU) .none kV15 dc15 pm15 an15 cd15 ct15),sl15⟩)
 (c15:PySem.W.codeIn K cd15 "offsets_numbered"=true)
 (k15:PySem.W.keepIn K (.ref f15)=true)
 (a16:PySem.W.nsIn K mainGlobals "row_numbered"=some (some (.ref f16)))
 (l16:K.lookup f16=some ⟨oc16,od16,.func (PySem.W.fnOf "row_numbered" "row_numbered" (aU cE) (aR cE) (aE cE) .none kV16 dc16 pm16 an16 cd16 ct16),sl16⟩)
 (c16:PySem.W.codeIn K cd16 "row_numbered"=true)
 (k16:PySem.W.keepIn K (.ref f16)=true)
 (a17:PySem.W.nsIn K mainGlobals "number_of_offsets"=some (some (.ref f17)))
 (l17:K.lookup f17=some ⟨oc17,od17,.func (PySem.W.fnOf "number_of_offsets" "number_of_offsets" (aU bP) (aR bP) (aE bP) .none kV17 dc17 pm17 an17 cd17 ct17),sl17⟩)
 (c17:PySem.W.codeIn K cd17 "number_of_offsets"=true)
 (k17:PySem.W.keepIn K (.ref f17)=true)
 (a18:PySem.W.nsIn K mainGlobals "number_of"=some (some (.ref f18)))
 (l18:K.lookup f18=some ⟨oc18,od18,.func (PySem.W.fnOf "number_of" "number_of" (aU cO) (aR cO) (aE cO) .none kV18 dc18 pm18 an18 cd18 ct18),sl18⟩)
 (c18:PySem.W.codeIn K cd18 "number_of"=true)
 (k18:PySem.W.keepIn K (.ref f18)=true)
 (a19:PySem.W.nsIn K mainGlobals "_law_numbers"=some (some (.ref f19)))
 (l19:K.lookup f19=some ⟨oc19,od19,.func (PySem.W.fnOf "_law_numbers" "_law_numbers" (aU cW) (aR cW) (aE cW) .none kV19 dc19 pm19 an19 cd19 ct19),sl19⟩)
 (c19:PySem.W.codeIn K cd19 "_law_numbers"=true)
 (k19:PySem.W.keepIn K (.ref f19)=true)
 (a20:PySem.W.nsIn K mainGlobals "_law_same"=some (some (.ref f20)))
 (l20:K.lookup f20=some ⟨oc20,od20,.func (PySem.W.fnOf "_law_same" "_law_same" (aU dC) (aR dC) (aE dC) .none kV20 dc20 pm20 an20 cd20 ct20),sl20⟩)
 (c20:PySem.W.codeIn K cd20 "_law_same"=true)
 (k20:PySem.W.keepIn K (.ref f20)=true)
 (a21:PySem.W.nsIn K mainGlobals "_law_lesser"=some (some (.ref f21)))
 (l21:K.lookup f21=some ⟨oc21,od21,.func (PySem.W.fnOf "_law_lesser" "_law_lesser" (aU cQ) (aR cQ) (aE cQ) .none kV21 dc21 pm21 an21 cd21 ct21),sl21⟩)
 (c21:PySem.W.codeIn K cd21 "_law_lesser"=true)
 (k21:PySem.W.keepIn K (.ref f21)=true)
 (a22:PySem.W.nsIn K mainGlobals "_law_list"=some (some (.ref f22)))
 (l22:K.lookup f22=some ⟨oc22,od22,.func (PySem.W.fnOf "_law_list" "_law_list" (aU dR) (aR dR) (aE dR) .none kV22 dc22 pm22 an22 cd22 ct22),sl22⟩)
 (c22:PySem.W.codeIn K cd22 "_law_list"=true)
 (k22:PySem.W.keepIn K (.ref f22)=true)
 (a23:PySem.W.nsIn K mainGlobals "_law_sober"=some (some (.ref f23)))
 (l23:K.lookup f23=some ⟨oc23,od23,.func (PySem.W.fnOf "_law_sober" "_law_sober" (aU dD) (aR dD) (aE dD) .none kV23 dc23 pm23 an23 cd23 ct23),sl23⟩)
 (c23:PySem.W.codeIn K cd23 "_law_sober"=true)
 (k23:PySem.W.keepIn K (.ref f23)=true)
 (a24:PySem.W.nsIn K mainGlobals "_law_space"=some (some (.ref f24)))
 (l24:K.lookup f24=some ⟨oc24,od24,.func (PySem.W.fnOf "_law_space" "_law_space" (aU dE) (aR dE) (aE dE) .none kV24 dc24 pm24 an24 cd24 ct24),sl24⟩)
 (c24:PySem.W.codeIn K cd24 "_law_space"=true)
 (k24:PySem.W.keepIn K (.ref f24)=true)
 (a25:PySem.W.nsIn K mainGlobals "_law_choose"=some (some (.ref f25)))
 (l25:K.lookup f25=some ⟨oc25,od25,.func (PySem.W.fnOf "_law_choose" "_law_choose" (aU dM) (aR dM) (aE dM) .none kV25 dc25 pm25 an25 cd25 ct25),sl25⟩)
 (c25:PySem.W.codeIn K cd25 "_law_choose"=true)
 (k25:PySem.W.keepIn K (.ref f25)=true)
 (a26:PySem.W.nsIn K mainGlobals "_law_count"=some (some (.ref f26)))
 (l26:K.lookup f26=some ⟨oc26,od26,.func (PySem.W.fnOf "_law_count" "_law_count" (aU dY) (aR dY) (aE dY) .none kV26 dc26 pm26 an26 cd26 ct26),sl26⟩)
 (c26:PySem.W.codeIn K cd26 "_law_count"=true)
 (k26:PySem.W.keepIn K (.ref f26)=true)
 (a27:PySem.W.nsIn K mainGlobals "law"=some (some (.ref f27)))
 (l27:K.lookup f27=some ⟨oc27,od27,.func (PySem.W.fnOf "law" "law" (aU mH) (aR mH) (aE mH) .none kV27 dc27 pm27 an27 (.ref cC) ct27),sl27⟩)
 (c27:PySem.W.codeIn K (.ref cC) "law"=true)
 (k27:PySem.W.keepIn K (.ref f27)=true)
 (z_len:PySem.W.nsIn K mainGlobals "len"=some none)
 (z_range:PySem.W.nsIn K mainGlobals "range"=some none)
 (z_list:PySem.W.nsIn K mainGlobals "list"=some none)
 (z_tuple:PySem.W.nsIn K mainGlobals "tuple"=some none)
 (z_bool:PySem.W.nsIn K mainGlobals "bool"=some none)
 (z_str:PySem.W.nsIn K mainGlobals "str"=some none)
 (z_int:PySem.W.nsIn K mainGlobals "int"=some none)
 (z_isinstance:PySem.W.nsIn K mainGlobals "isinstance"=some none)
 (z_all:PySem.W.nsIn K mainGlobals "all"=some none)
 (z_sorted:PySem.W.nsIn K mainGlobals "sorted"=some none)
 (z_max:PySem.W.nsIn K mainGlobals "max"=some none)
 (z_min:PySem.W.nsIn K mainGlobals "min"=some none)
 (z_set:PySem.W.nsIn K mainGlobals "set"=some none)
 (z_reversed:PySem.W.nsIn K mainGlobals "reversed"=some none)
 (z_sum:PySem.W.nsIn K mainGlobals "sum"=some none)
 (z_enumerate:PySem.W.nsIn K mainGlobals "enumerate"=some none)
 (z_zip:PySem.W.nsIn K mainGlobals "zip"=some none)
 (z_any:PySem.W.nsIn K mainGlobals "any"=some none)
 (z_abs:PySem.W.nsIn K mainGlobals "abs"=some none)
 (y_MOST_STONES:PySem.W.nsIn K mainGlobals "MOST_STONES"=some (some (.int 60 t_MOST_STONES)))
 (y_MOST_NICHES:PySem.W.nsIn K mainGlobals "MOST_NICHES"=some (some (.int 200 t_MOST_NICHES)))
 (hcp:PySem.W.codeHdIn K cC PT=true)
 (hlp:K.lookup PT=none) :
 ∃ (fd:FuncData) (c P:Addr),P∈ts/\PySem.W.codeHdIn K c P=true/\K.lookup P=none/\(∀ (s:Shared) (v:Value),BindsTo s fd ⟨[v],[]⟩ [("_law_script",v)])/\∀ base:Heap,K.In base->base.Ns mainGlobals mg->lZ mg base->PySem.W.CodeHd base c P->FnOk l.prog w K mg base CX0 11 fa fd ["_law_script"] (tZ K P):=by
 have e:=hfa.symm.trans (PySem.W.mg_of X G a27);cases e;have B:Bt mg:=⟨PySem.W.mg_none_of X G z_len,PySem.W.mg_none_of X G z_range,PySem.W.mg_none_of X G z_list,PySem.W.mg_none_of X G z_tuple,PySem.W.mg_none_of X G z_bool,PySem.W.mg_none_of X G z_str,PySem.W.mg_none_of X G z_int,PySem.W.mg_none_of X G z_isinstance,PySem.W.mg_none_of X G z_all,PySem.W.mg_none_of X G z_sorted,PySem.W.mg_none_of X G z_max,PySem.W.mg_none_of X G z_min,PySem.W.mg_none_of X G z_set,PySem.W.mg_none_of X G z_reversed,PySem.W.mg_none_of X G z_sum,PySem.W.mg_none_of X G z_enumerate,PySem.W.mg_none_of X G z_zip,PySem.W.mg_none_of X G z_any,PySem.W.mg_none_of X G z_abs⟩;have B5:Bt5 mg:=⟨PySem.W.mg_none_of X G z_divmod⟩;have C:Cn mg t_MOST_STONES:=⟨PySem.W.mg_of X G y_MOST_STONES⟩;have C2:Cn2 mg t_MOST_NICHES:=⟨PySem.W.mg_of X G y_MOST_NICHES⟩;have F0:=bT (st:=eX) l0 c0 k0;have b0:=F0.binds1 (p1:="row") fun _ _ _ _ _ _ _=>rfl;have m0:=PySem.W.mg_of X G a0;have F1:=bT (st:=cJ) l1 c1 k1;have b1:=F1.binds1 (p1:="trains") fun _ _ _ _ _ _ _=>rfl;have m1:=PySem.W.mg_of X G a1;have F2:=bT (st:=gB) l2 c2 k2;have b2:=F2.binds1 (p1:="trains") fun _ _ _ _ _ _ _=>rfl;have m2:=PySem.W.mg_of X G a2;have F3:=bT (st:=iP) l3 c3 k3;have b3:=F3.binds2 (p1:="offsets") (p2:="size") fun _ _ _ _ _ _ _ _=>rfl;have m3:=PySem.W.mg_of X G a3;have F4:=bT (st:=gP) l4 c4 k4;have b4:=F4.binds1 (p1:="offsets") fun _ _ _ _ _ _ _=>rfl;have m4:=PySem.W.mg_of X G a4;have F5:=bT (st:=dW) l5 c5 k5;have b5:=F5.binds2 (p1:="offsets") (p2:="size") fun _ _ _ _ _ _ _ _=>rfl;have m5:=PySem.W.mg_of X G a5;have F6:=bT (st:=dX) l6 c6 k6;have b6:=F6.binds3 (p1:="offsets") (p2:="size") (p3:="place") fun _ _ _ _ _ _ _ _ _=>rfl;have m6:=PySem.W.mg_of X G a6;have F7:=bT (st:=dB) l7 c7 k7;have b7:=F7.binds2 (p1:="offsets") (p2:="place") fun _ _ _ _ _ _ _ _=>rfl;have m7:=PySem.W.mg_of X G a7;have F8:=bT (st:=eY) l8 c8 k8;have b8:=F8.binds1 (p1:="row") fun _ _ _ _ _ _ _=>rfl;have m8:=PySem.W.mg_of X G a8;have F9:=bT (st:=gQ) l9 c9 k9;have b9:=F9.binds1 (p1:="trains") fun _ _ _ _ _ _ _=>rfl;have m9:=PySem.W.mg_of X G a9;have F10:=bT (st:=cV) l10 c10 k10;have b10:=F10.binds1 (p1:="niches") fun _ _ _ _ _ _ _=>rfl;have m10:=PySem.W.mg_of X G a10;have F11:=bT (st:=dL) l11 c11 k11;have b11:=F11.binds1 (p1:="sizes") fun _ _ _ _ _ _ _=>rfl;have m11:=PySem.W.mg_of X G a11;have F12:=bT (st:=iQ) l12 c12 k12;have b12:=F12.binds2 (p1:="niches") (p2:="sizes") fun _ _ _ _ _ _ _ _=>rfl;have m12:=PySem.W.mg_of X G a12;have F13:=bT (st:=gC) l13 c13 k13;have b13:=F13.binds2 (p1:="many") (p2:="room") fun _ _ _ _ _ _ _ _=>rfl;have m13:=PySem.W.mg_of X G a13;have F14:=bT (st:=fA) l14 c14 k14;have b14:=F14.binds2 (p1:="niches") (p2:="sizes") fun _ _ _ _ _ _ _ _=>rfl;have m14:=PySem.W.mg_of X G a14;have F15:=bT (st:=bU) l15 c15 k15;have b15:=F15.binds3 (p1:="many") (p2:="room") (p3:="number") fun _ _ _ _ _ _ _ _ _=>rfl;have m15:=PySem.W.mg_of X G a15;have F16:=bT (st:=cE) l16 c16 k16;have b16:=F16.binds3 (p1:="niches") (p2:="sizes") (p3:="number") fun _ _ _ _ _ _ _ _ _=>rfl;have m16:=PySem.W.mg_of X G a16;have F17:=bT (st:=bP) l17 c17 k17;have b17:=F17.binds2 (p1:="offsets") (p2:="room") fun _ _ _ _ _ _ _ _=>rfl;have m17:=PySem.W.mg_of X G a17;have F18:=bT (st:=cO) l18 c18 k18;have b18:=F18.binds2 (p1:="niches") (p2:="row") fun _ _ _ _ _ _ _ _=>rfl;have m18:=PySem.W.mg_of X G a18;have F19:=bT (st:=cW) l19 c19 k19;have b19:=F19.binds2 (p1:="_law_script") (p2:="_law_many") fun _ _ _ _ _ _ _ _=>rfl;have m19:=PySem.W.mg_of X G a19;have F20:=bT (st:=dC) l20 c20 k20;have b20:=F20.binds2 (p1:="_law_found") (p2:="_law_due") fun _ _ _ _ _ _ _ _=>rfl;have m20:=PySem.W.mg_of X G a20;have F21:=bT (st:=cQ) l21 c21 k21
 have b21:=F21.binds2 (p1:="_law_found") (p2:="_law_size") fun _ _ _ _ _ _ _ _=>rfl;have m21:=PySem.W.mg_of X G a21;have F22:=bT (st:=dR) l22 c22 k22;have b22:=F22.binds1 (p1:="_law_row") fun _ _ _ _ _ _ _=>rfl;have m22:=PySem.W.mg_of X G a22;have F23:=bT (st:=dD) l23 c23 k23;have b23:=F23.binds2 (p1:="_law_niches") (p2:="_law_row") fun _ _ _ _ _ _ _ _=>rfl;have m23:=PySem.W.mg_of X G a23;have F24:=bT (st:=dE) l24 c24 k24;have b24:=F24.binds3 (p1:="_law_niches") (p2:="_law_sizes") (p3:="_law_size") fun _ _ _ _ _ _ _ _ _=>rfl;have m24:=PySem.W.mg_of X G a24;have F25:=bT (st:=dM) l25 c25 k25;have b25:=F25.binds2 (p1:="_law_many") (p2:="_law_things") fun _ _ _ _ _ _ _ _=>rfl;have m25:=PySem.W.mg_of X G a25;have F26:=bT (st:=dY) l26 c26 k26;have b26:=F26.binds2 (p1:="_law_niches") (p2:="_law_sizes") fun _ _ _ _ _ _ _ _=>rfl;have m26:=PySem.W.mg_of X G a26;refine⟨PySem.W.fnOf "law" "law" (aU mH) (aR mH) (aE mH) .none kV27 dc27 pm27 an27 (.ref cC) ct27,cC,PT,hts,hcp,hlp,fun s v=>.of_eq rfl,fun base _ _ hbm hC=>?_⟩;have A_look_row:bG l.prog w K mg base "look_row" 1 ["row"] oY:=⟨f0,_,Z7 F0 B C,m0,k0,b0⟩;have A_look_trains:bG l.prog w K mg base "look_trains" 1 ["trains"] oB:=⟨f1,_,qM F1 B C,m1,k1,b1⟩;have A_by_size:bG l.prog w K mg base "by_size" 1 ["trains"] kB:=⟨f2,_,yV F2 B,m2,k2,b2⟩;have A_crowd:bG l.prog w K mg base "crowd" 1 ["offsets","size"] lO:=⟨f3,_,U6 F3 B,m3,k3,b3⟩;have A_crowds:bG l.prog w K mg base "crowds" 1 ["offsets"] iG:=⟨f4,_,J5 F4 B,m4,k4,b4⟩;have A_drop_last:bG l.prog w K mg base "drop_last" 1 ["offsets","size"] gF:=⟨f5,_,uH F5 B,m5,k5,b5⟩;have A_add_train:bG l.prog w K mg base "add_train" 2 ["offsets","size","place"] fL:=⟨f6,_,uI F6 B A_crowd,m6,k6,b6⟩;have A_add_stone:bG l.prog w K mg base "add_stone" 3 ["offsets","place"] iK:=⟨f7,_,uJ F7 B A_crowds A_drop_last A_add_train,m7,k7,b7⟩;have A_list_of:bG l.prog w K mg base "list_of" 4 ["row"] lQ:=⟨f8,_,yW F8 B A_look_row A_add_stone,m8,k8,b8⟩;have A_row_of:bG l.prog w K mg base "row_of" 3 ["trains"] lR:=⟨f9,_,J6 F9 B A_look_trains A_by_size A_crowds A_drop_last A_add_train,m9,k9,b9⟩;have A_look_niches:bG l.prog w K mg base "look_niches" 1 ["niches"] lW:=⟨f10,_,qQ F10 B C2,m10,k10,b10⟩;have A_look_sizes:bG l.prog w K mg base "look_sizes" 1 ["sizes"] oF:=⟨f11,_,rA F11 B C,m11,k11,b11⟩;have AF_rooms_ok:=J7 (P:=l.prog) (w:=w) (base:=base) F12 B;have AF_rooms:bG l.prog w K mg base "rooms" 1 ["niches","sizes"] jJ:=⟨f12,_,AF_rooms_ok,m12,k12,b12⟩;have A_rooms:bG l.prog w K mg base "rooms" 1 ["niches","sizes"] lX:=⟨f12,_,AF_rooms_ok.imp fun _ _ _ _ h=>I0 h,m12,k12,b12⟩;have A_choices:bG l.prog w K mg base "choices" 1 ["many","room"] dU:=⟨f13,_,yX F13 B,m13,k13,b13⟩;have A_how_many:bG l.prog w K mg base "how_many" 2 ["niches","sizes"] pY:=⟨f14,_,wX F14 B A_look_niches A_look_sizes A_rooms A_choices,m14,k14,b14⟩;have A_offsets_numbered:bG l.prog w K mg base "offsets_numbered" 2 ["many","room","number"] mE:=⟨f15,_,kG F15 B A_choices,m15,k15,b15⟩;have A_row_numbered:bG l.prog w K mg base "row_numbered" 4 ["niches","sizes","number"] mF:=⟨f16,_,nA F16 B B5 A_how_many AF_rooms A_choices A_offsets_numbered A_row_of,m16,k16,b16⟩;have A_number_of_offsets:bG l.prog w K mg base "number_of_offsets" 2 ["offsets","room"] mB:=⟨f17,_,jM F17 B A_choices,m17,k17,b17⟩;have A_number_of:bG l.prog w K mg base "number_of" 5 ["niches","row"] uF:=⟨f18,_,rB F18 B A_look_row A_look_niches A_list_of A_rooms A_choices A_number_of_offsets,m18,k18,b18⟩
 have A_law_numbers:bG l.prog w K mg base "_law_numbers" 1 ["_law_script","_law_many"] (jX K):=⟨f19,_,yY F19 B,m19,k19,b19⟩;have A_law_same:bG l.prog w K mg base "_law_same" 4 ["_law_found","_law_due"] (mM 3):=⟨f20,_,Z8 F20 B m20 b20 3,m20,k20,b20⟩;have A_law_lesser:bG l.prog w K mg base "_law_lesser" 1 ["_law_found","_law_size"] lI:=⟨f21,_,J8 F21 B,m21,k21,b21⟩;have A_law_list:bG l.prog w K mg base "_law_list" 2 ["_law_row"] kA:=⟨f22,_,wZ F22 B A_law_lesser,m22,k22,b22⟩;have A_law_sober:bG l.prog w K mg base "_law_sober" 1 ["_law_niches","_law_row"] mC:=⟨f23,_,uK F23 B,m23,k23,b23⟩;have A_law_space:bG l.prog w K mg base "_law_space" 1 ["_law_niches","_law_sizes","_law_size"] oG:=⟨f24,_,uM F24 B,m24,k24,b24⟩;have A_law_choose:bG l.prog w K mg base "_law_choose" 1 ["_law_many","_law_things"] lY:=⟨f25,_,rD F25 B,m25,k25,b25⟩;have A_law_count:bG l.prog w K mg base "_law_count" 2 ["_law_niches","_law_sizes"] pY:=⟨f26,_,uN F26 B A_law_space A_law_choose,m26,k26,b26⟩;exact w8 ⟨⟨_,_,_,_,_,_,_,_,rfl,l27,c27⟩⟩ hC hbm B A_row_numbered A_number_of A_law_numbers A_law_count A_law_sober A_law_list A_law_same
theorem walk {l:PySem.W.OpenLaw} {q:Program} {loose:List Str} {XP:(Str->Option Value)->Heap->Prop} {YP:World->Heap->Prop} {d:DefRec} {K:Params->PySem.W.Frag} (hn:l.most=some 63) (hdf:d.params.defaults=[]) {ts:List Addr}
 (hY:∀ (w:World) (h:Heap),YP w h->(K w.params).In h) (hTab:∀ (w:World) (h:Heap),YP w h->∀ P∈ts,h.get? P=some (PySem.W.tabObj #[]))
 (F:∀ (w:World) (mg:Str->Option Value) (fa:Addr) (h:Heap),(K w.params).In h->h.Ns mainGlobals mg->mg d.name=some (.ref fa) ->
  ∃ (fd:FuncData) (c P:Addr),P∈ts/\PySem.W.codeHdIn (K w.params) c P=true/\(K w.params).lookup P=none/\(∀ (s:Shared) (v:Value),BindsTo s fd ⟨[v],[]⟩ [("_law_script",v)])/\∀ base:Heap,(K w.params).In base->base.Ns mainGlobals mg->lZ mg base->PySem.W.CodeHd base c P->FnOk l.prog w (K w.params) mg base CX0 11 fa fd ["_law_script"] (tZ (K w.params) P)) :
 PySem.W.WalkO q loose XP YP l.row.toRowW d [] (fun f vs=>PySem.call f vs) :=
 L2.walk_ofT (n:=63) (k:=11) (x:="_law_script") (CX:=fun _=>CX0) (sp:=fun w P=>tZ (K w.params) P) hn (by decide) hdf ⟨rfl,by decide,by decide⟩ hY hTab F (fun _ P H a ns hl hP hS=>⟨a,ns,rfl,hP,hS,hl,fun _=>rfl⟩) fun _ _ _ _ _ z=>z
end CW
def PySem.W.Fast.tw17584661976237975614:Unit:=()
def PySem.W.Fast.tw4935213931254255686:Unit:=()
def PySem.W.Fast.tw2429105339908571979:Unit:=()
def PySem.W.Fast.tw1152936909811575179:Unit:=()
def PySem.W.Fast.tw8491324708008737009:Unit:=()
def PySem.W.Fast.tw11547150527017589619:Unit:=()
def PySem.W.Fast.tw11600234448991671408:Unit:=()
def PySem.W.Fast.tw10573538036107297797:Unit:=()
def PySem.W.Fast.tw12159967896259892112:Unit:=()
def PySem.W.Fast.tw14549956011632846039:Unit:=()
def PySem.W.Fast.tw14031551746547108792:Unit:=()
def PySem.W.Fast.tw35839412807012973:Unit:=()
def PySem.W.Fast.tw13606086173259335675:Unit:=()
def PySem.W.Fast.tw17953728942763037798:Unit:=()
def PySem.W.Fast.tw14819144878392539873:Unit:=()
def PySem.W.Fast.tw9914350168012586860:Unit:=()
def PySem.W.Fast.tw9196882115076681941:Unit:=()
def PySem.W.Fast.tw7194566015776936726:Unit:=()
def PySem.W.Fast.tw3192629829392764237:Unit:=()
def PySem.W.Fast.tw4425846841596817201:Unit:=()
def PySem.W.Fast.tw5058913716121178954:Unit:=()
def PySem.W.Fast.tw11129983301528853129:Unit:=()
def PySem.W.Fast.tw15447829502864812111:Unit:=()
def PySem.W.Fast.tw2596956388806667899:Unit:=()
def PySem.W.Fast.tw7080790554218213754:Unit:=()
def PySem.W.Fast.tw4787410728073137221:Unit:=()
def PySem.W.Fast.tw5402962596648900909:Unit:=()
def PySem.W.Fast.tw16286871669045711085:Unit:=()
def PySem.W.Fast.tw15491458724647772330:Unit:=()
def PySem.W.Fast.tw12422386449572736778:Unit:=()
def PySem.W.Fast.tw8991476138852992018:Unit:=()
def PySem.W.Fast.tw8534466371351306493:Unit:=()
def PySem.W.Fast.tw4408079566283876947:Unit:=()
def PySem.W.Fast.tw5736655144963001825:Unit:=()
def PySem.W.Fast.tw8757384627351519663:Unit:=()
def PySem.W.Fast.tw6490431049103581915:Unit:=()
def PySem.W.Fast.tw7820644733615575355:Unit:=()
def PySem.W.Fast.tw6660317120135706357:Unit:=()
def PySem.W.Fast.tw11060687767052847994:Unit:=()
def PySem.W.Fast.tw8065030431325634742:Unit:=()
def PySem.W.Fast.tw15090374292497300876:Unit:=()
def PySem.W.Fast.tw15095627639145380954:Unit:=()
def PySem.W.Fast.tw15809096042705137138:Unit:=()
def PySem.W.Fast.tw7865606649672205749:Unit:=()
def PySem.W.Fast.tw9646954886779650313:Unit:=()
def PySem.W.Fast.tw18381567197760587257:Unit:=()
def PySem.W.Fast.tw9420143629617642137:Unit:=()
def PySem.W.Fast.tw1769856531826244592:Unit:=()
def PySem.W.Fast.tw16353066841443419304:Unit:=()
def PySem.W.Fast.tw10778405569950854796:Unit:=()
def PySem.W.Fast.tw4876771328659216812:Unit:=()
def PySem.W.Fast.tw13589960464952685698:Unit:=()
def PySem.W.Fast.tw13886752764976890589:Unit:=()
def PySem.W.Fast.tw1306180016488546920:Unit:=()
def PySem.W.Fast.tw10209902199084844519:Unit:=()
def PySem.W.Fast.tw15177300988312728612:Unit:=()
def PySem.W.Fast.tw10790649186173503248:Unit:=()
def PySem.W.Fast.tw15782502881700433585:Unit:=()
def PySem.W.Fast.tw16817811406887068436:Unit:=()
def PySem.W.Fast.tw11293310712913570504:Unit:=()
def PySem.W.Fast.tw1791152768528648954:Unit:=()
def PySem.W.Fast.tw792441204279096640:Unit:=()
def PySem.W.Fast.tw6168207406035098889:Unit:=()
def PySem.W.Fast.tw2313697356769340166:Unit:=()
def PySem.W.Fast.tw13121507836465285549:Unit:=()
def PySem.W.Fast.tw10545872253378898779:Unit:=()
def PySem.W.Fast.tw7690798041735947597:Unit:=()
def PySem.W.Fast.tw11612372082607229351:Unit:=()
def PySem.W.Fast.tw2273765961237723336:Unit:=()
def PySem.W.Fast.tw16282397549680758825:Unit:=()
def PySem.W.Fast.tw7955693599240121256:Unit:=()
def PySem.W.Fast.tw10984898668238196391:Unit:=()
def PySem.W.Fast.tw15292928330772584175:Unit:=()
def PySem.W.Fast.tw10085928163311483123:Unit:=()
def PySem.W.Fast.tw10611266127732079392:Unit:=()
def PySem.W.Fast.tw15925896435286794056:Unit:=()
def PySem.W.Fast.tw3232017667810863751:Unit:=()
def PySem.W.Fast.tw15787092923272914882:Unit:=()
def PySem.W.Fast.tw10401552293600791465:Unit:=()
def PySem.W.Fast.tw716189824125294585:Unit:=()
def PySem.W.Fast.tw1572284510567939161:Unit:=()
def PySem.W.Fast.tw10993544931612903849:Unit:=()
def PySem.W.Fast.tw7491083976689914360:Unit:=()
def PySem.W.Fast.tw10796760066745751848:Unit:=()
def PySem.W.Fast.tw2233682737386086188:Unit:=()
def PySem.W.Fast.tw16127929088747515130:Unit:=()
def PySem.W.Fast.tw14349616824872325933:Unit:=()
def PySem.W.Fast.tw5274825755176427289:Unit:=()
def PySem.W.Fast.tw8018420632241101254:Unit:=()
def PySem.W.Fast.tw2172645870798144997:Unit:=()
def PySem.W.Fast.tw5363370875367855715:Unit:=()
def PySem.W.Fast.tw13817829080162041724:Unit:=()
def PySem.W.Fast.tw14691316390213587920:Unit:=()
def PySem.W.Fast.tw5778816282468622103:Unit:=()
def PySem.W.Fast.tw8934497069754930280:Unit:=()
def PySem.W.Fast.tw931603024333201627:Unit:=()
def PySem.W.Fast.tw1896301461558278104:Unit:=()
def PySem.W.Fast.tw1350492578874168739:Unit:=()
def PySem.W.Fast.tw6690538095000405206:Unit:=()
def PySem.W.Fast.tw14363367894598185528:Unit:=()
def PySem.W.Fast.tw4428254822029989031:Unit:=()
def PySem.W.Fast.tw9643615846683725074:Unit:=()
def PySem.W.Fast.tw7872472278335147480:Unit:=()
def PySem.W.Fast.tw10140679318552119388:Unit:=()
def PySem.W.Fast.tw808961316763004802:Unit:=()
def PySem.W.Fast.tw10307898915010487115:Unit:=()
def PySem.W.Fast.tw3810639574306615410:Unit:=()
def PySem.W.Fast.tw298003629170084219:Unit:=()
def PySem.W.Fast.tw7670968798601585248:Unit:=()
def PySem.W.Fast.tw5857237073665637016:Unit:=()
def PySem.W.Fast.tw16440225771663258600:Unit:=()
def PySem.W.Fast.tw1718706490097866402:Unit:=()
def PySem.W.Fast.tw14207337449124772362:Unit:=()
def PySem.W.Fast.tw3499219537847267830:Unit:=()
def PySem.W.Fast.tw10187010730807736292:Unit:=()
def PySem.W.Fast.tw10447865963062933983:Unit:=()
def PySem.W.Fast.tw8322606296018206706:Unit:=()
def PySem.W.Fast.tw17100043936113701267:Unit:=()
def PySem.W.Fast.tw925311846754737056:Unit:=()
def PySem.W.Fast.tw5854044447492924867:Unit:=()
def PySem.W.Fast.tw7458958180192786689:Unit:=()
def PySem.W.Fast.tw6123394753957616675:Unit:=()
def PySem.W.Fast.tw1569613356788030637:Unit:=()
def PySem.W.Fast.tw10907222648253249032:Unit:=()
def PySem.W.Fast.tw10065491317533362472:Unit:=()
open PySem PySem.W PyProof.Rows
set_option maxRecDepth 100000 in
set_option maxHeartbeats 0 in
theorem PySem.Challenge.cw_creelway_k38_great_niches_numbered_holds : PySem.Challenge.rw_creelway_k38_great_niches_numbered.Holds := by
 w_on;o_law;k_head;(case hw=>w_witness2)
 k_fill
 refine CW.walk (l:=PySem.Challenge.rw_creelway_k38_great_niches_numbered) rfl rfl (fun w h Y=>PySem.W.km_in_of Y) (fun w h Y=>PySem.W.km_tabs_of Y) ?F
 case F =>
  intro w mg fa h KX G hmg;refine' CW.all_mk (List.Mem.head _) KX G hmg ?z_divmod ?a0 ?l0 ?c0 ?k0 ?a1 ?l1 ?c1 ?k1 ?a2 ?l2 ?c2 ?k2 ?a3 ?l3 ?c3 ?k3 ?a4 ?l4 ?c4 ?k4 ?a5 ?l5 ?c5 ?k5 ?a6 ?l6 ?c6 ?k6 ?a7 ?l7 ?c7 ?k7 ?a8 ?l8 ?c8 ?k8 ?a9 ?l9 ?c9 ?k9 ?a10 ?l10 ?c10 ?k10 ?a11 ?l11 ?c11 ?k11 ?a12 ?l12 ?c12 ?k12 ?a13 ?l13 ?c13 ?k13 ?a14 ?l14 ?c14 ?k14 ?a15 ?l15 ?c15 ?k15 ?a16 ?l16 ?c16 ?k16 ?a17 ?l17 ?c17 ?k17 ?a18 ?l18 ?c18 ?k18 ?a19 ?l19 ?c19 ?k19 ?a20 ?l20 ?c20 ?k20 ?a21 ?l21 ?c21 ?k21 ?a22 ?l22 ?c22 ?k22 ?a23 ?l23 ?c23 ?k23 ?a24 ?l24 ?c24 ?k24 ?a25 ?l25 ?c25 ?k25 ?a26 ?l26 ?c26 ?k26 ?a27 ?l27 ?c27 ?k27 ?z_len ?z_range ?z_list ?z_tuple ?z_bool ?z_str ?z_int ?z_isinstance ?z_all ?z_sorted ?z_max ?z_min ?z_set ?z_reversed ?z_sum ?z_enumerate ?z_zip ?z_any ?z_abs ?y_MOST_STONES ?y_MOST_NICHES ?hcp ?hlp
  (case z_divmod=>k_is)
  (case a0=>k_is)
  (case l0=>k_is)
  (case c0=>k_is)
  (case k0=>k_is)
  (case a1=>k_is)
  (case l1=>k_is)
  (case c1=>k_is)
  (case k1=>k_is)
  (case a2=>k_is)
  (case l2=>k_is)
  (case c2=>k_is)
  (case k2=>k_is)
  (case a3=>k_is)
  (case l3=>k_is)
  (case c3=>k_is)
  (case k3=>k_is)
  (case a4=>k_is)
  (case l4=>k_is)
  (case c4=>k_is)
  (case k4=>k_is)
  (case a5=>k_is)
  (case l5=>k_is)
  (case c5=>k_is)
  (case k5=>k_is)
  (case a6=>k_is)
  (case l6=>k_is)
  (case c6=>k_is)
  (case k6=>k_is)
  (case a7=>k_is)
  (case l7=>k_is)
  (case c7=>k_is)
  (case k7=>k_is)
  (case a8=>k_is)
  (case l8=>k_is)
  (case c8=>k_is)
  (case k8=>k_is)
  (case a9=>k_is)
  (case l9=>k_is)
  (case c9=>k_is)
  (case k9=>k_is)
  (case a10=>k_is)
  (case l10=>k_is)
  (case c10=>k_is)
  (case k10=>k_is)
  (case a11=>k_is)
  (case l11=>k_is)
  (case c11=>k_is)
  (case k11=>k_is)
  (case a12=>k_is)
  (case l12=>k_is)
  (case c12=>k_is)
  (case k12=>k_is)
  (case a13=>k_is)
  (case l13=>k_is)
  (case c13=>k_is)
  (case k13=>k_is)
  (case a14=>k_is)
  (case l14=>k_is)
  (case c14=>k_is)
  (case k14=>k_is)
  (case a15=>k_is)
  (case l15=>k_is)
  (case c15=>k_is)
  (case k15=>k_is)
  (case a16=>k_is)
  (case l16=>k_is)
  (case c16=>k_is)
  (case k16=>k_is)
  (case a17=>k_is)
  (case l17=>k_is)
  (case c17=>k_is)
  (case k17=>k_is)
  (case a18=>k_is)
  (case l18=>k_is)
  (case c18=>k_is)
  (case k18=>k_is)
  (case a19=>k_is)
  (case l19=>k_is)
  (case c19=>k_is)
  (case k19=>k_is)
  (case a20=>k_is)
  (case l20=>k_is)
  (case c20=>k_is)
  (case k20=>k_is)
  (case a21=>k_is)
  (case l21=>k_is)
  (case c21=>k_is)
  (case k21=>k_is)
  (case a22=>k_is)
  (case l22=>k_is)
  (case c22=>k_is)
  (case k22=>k_is)
  (case a23=>k_is)
  (case l23=>k_is)
  (case c23=>k_is)
  (case k23=>k_is)
  (case a24=>k_is)
  (case l24=>k_is)
  (case c24=>k_is)
  (case k24=>k_is)
  (case a25=>k_is)
  (case l25=>k_is)
  (case c25=>k_is)
  (case k25=>k_is)
  (case a26=>k_is)
  (case l26=>k_is)
  (case c26=>k_is)
  (case k26=>k_is)
  (case a27=>k_is)
  (case l27=>k_is)
  (case c27=>k_is)
  (case k27=>k_is)
  (case z_len=>k_is)
  (case z_range=>k_is)
  (case z_list=>k_is)
  (case z_tuple=>k_is)
  (case z_bool=>k_is)
  (case z_str=>k_is)
  (case z_int=>k_is)
  (case z_isinstance=>k_is)
  (case z_all=>k_is)
  (case z_sorted=>k_is)
  (case z_max=>k_is)
  (case z_min=>k_is)
  (case z_set=>k_is)
  (case z_reversed=>k_is)
  (case z_sum=>k_is)
  (case z_enumerate=>k_is)
  (case z_zip=>k_is)
  (case z_any=>k_is)
  (case z_abs=>k_is)
  (case y_MOST_STONES=>k_is)
  (case y_MOST_NICHES=>k_is)
  (case hcp=>kernel_rfl)
  (case hlp=>kernel_rfl)
