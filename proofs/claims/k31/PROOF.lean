import PyProof.Rows.All
import Wide.All
import OpenK.AllK
import Wide.FinOn
import Lean
import PyProof.EqAt
import PyProof.EqKinds
import PyProof.TupleCall
import PySem.Challenge.RW_creelway_k31_whole_kin_or_what_bars
set_option Elab.async false
set_option linter.all false
set_option maxRecDepth 100000
set_option maxHeartbeats 4000000
section
open PySem PySem.Spec PyProof.Rows
def aBL:=@wpAny_bind
def aBM:=@wpAny_pure
def aBN:=@List.length_map
def aBO:=@Heap.get?_push_of_some
def aBP:=@List.mem_cons_self
def aBQ:=@List.mem_cons_of_mem
def aBR:=@List.mem_append_right
def aBS:=@Heap.get?_update_other
def aBT:=@Heap.lt_size
def aBU:=@Heap.get?_push_size
def aBV:=@List.size_toArray
def aBW:=@List.length_append
def aBX:=@List.getElem?_eq_getElem
def aBY:=@List.mem_of_getElem?
def aBZ:=@Around.under_plainId
def aB0:=@Bool.false_ne_true
def aB1:=@List.take_length
def aB2:=@List.map_append
def aB3:=@List.length_take
def aB4:=@Nat.lt_of_lt_of_le
def aB5:=@Array.getElem?_eq_getElem
def aB6:=@Heap.get?_update_self
def aB7:=@List.mem_append_left
def aB8:=@List.length_replicate
def aB9:=@decide_eq_false
def aBa:=@decide_eq_true
def aBb:=@Nat.ne_of_lt
def aBc:=@List.getElem?_map
def aBd:=@List.map_cons
def aBe:=@Nat.ne_of_gt
def aBf:=@List.foldl_cons
def aBg:=@List.sum_cons
def aBh:=@List.length_cons
def aBi:=@List.map_map
def aBj:=@List.take_succ
def aBk:=@List.mem_singleton
def aBl:=@List.eq_nil_of_length_eq_zero
def aBm:=@PySem.F.plainAttrs_list
def aBn:=@PySem.F.slot_list_append
def aBo:=@PySem.F.type_list_append
def aBp:=@Option.map_eq_some_iff
def aBq:=@List.getElem?_eq_some_iff
def aBr:=@List.mem_cons
def aBs:=@List.mem_append
def aBt:=@List.mem_map
def aBu:=@List.mem_filter
end
namespace L2
open PySem PySem.Spec PyProof.Rows
abbrev Key:=Sum Int Str
def pM:Key->Value->Bool
 | .inl k,v=>Value.isInt k v
 | .inr x,v=>Value.isStrOf x v
def aAi (w:World):Key->Int
 | .inl k=>hashInt k
 | .inr x=>hashStr w x
theorem cF:∀ {k:Key} {v:Value},pM k v=true->(∃ i t,k=Sum.inl i/\v=Value.int i t)\/(∃ x t,k=Sum.inr x/\v=Value.str x t)
 | .inl i,v,h=>by
  obtain⟨t,e⟩:=Value.isInt_shape (k:=i) (v:=v) h;exact .inl ⟨i,t,rfl,e⟩
 | .inr x,v,h=>by
  obtain⟨t,e⟩:=Value.isStrOf_shape (x:=x) (v:=v) h;exact .inr ⟨x,t,rfl,e⟩
theorem C8 (i:Int) (t:Tok):pM (.inl i) (.int i t)=true:=by simp[pM,Value.isInt]
theorem C9 (x:Str) (t:Tok):pM (.inr x) (.str x t)=true:=by simp[pM,Value.isStrOf]
theorem o5 (a b:Int):decide ((Sum.inl a:Key)=Sum.inl b)=(a == b):=by
 by_cases e:a=b
 ·subst e;simp
 ·have h:¬ (Sum.inl a:Key)=Sum.inl b:=fun q=>e (Sum.inl.inj q);rw[aB9 h];exact(beq_eq_false_iff_ne.mpr e).symm
theorem o6 (a b:Str):decide ((Sum.inr a:Key)=Sum.inr b)=decide (a=b):=by
 by_cases e:a=b
 ·subst e;simp
 ·have h:¬ (Sum.inr a:Key)=Sum.inr b:=fun q=>e (Sum.inr.inj q);rw[aB9 h,aB9 e]
theorem o7 (a:Int) (b:Str):decide ((Sum.inl a:Key)=Sum.inr b)=false:=aB9 (fun q=>nomatch q)
theorem o8 (a:Str) (b:Int):decide ((Sum.inr a:Key)=Sum.inl b)=false:=aB9 (fun q=>nomatch q)
def bR (prog:Program) (w:World):PySem.KeyKind prog w Key where
 is:=pM
 hash:=aAi w
 inj:=fun v a b ha hb=>by
  rcases cF ha with ⟨i,t,rfl,rfl⟩ | ⟨x,t,rfl,rfl⟩
  ·rcases cF hb with ⟨j,u,rfl,e⟩ | ⟨y,u,rfl,e⟩
   ·injection e with e1 _;rw[e1]
   ·exact nomatch e
  ·rcases cF hb with ⟨j,u,rfl,e⟩ | ⟨y,u,rfl,e⟩
   ·exact nomatch e
   ·injection e with e1 _;rw[e1]
 byValue:=fun k v h=>by
  rcases cF h with ⟨i,t,rfl,rfl⟩ | ⟨x,t,rfl,rfl⟩ <;> rfl
 pyHash:=fun hv h=>by
  rcases cF hv with ⟨i,t,rfl,rfl⟩ | ⟨x,t,rfl,rfl⟩
  ·exact wpAny_pyHash_int h
  ·exact wpAny_pyHash_str h
 eqBool:=fun hu hv h=>by
  rcases cF hu with ⟨i,t,rfl,rfl⟩ | ⟨x,t,rfl,rfl⟩
  ·rcases cF hv with ⟨j,u,rfl,rfl⟩ | ⟨y,u,rfl,rfl⟩
   ·rw[o5]at h;exact wpAny_eqBool_int h
   ·rw[o7]at h;exact SeqAt.EqAt.int_str i t y u _ _ _ _ h
  ·rcases cF hv with ⟨j,u,rfl,rfl⟩ | ⟨y,u,rfl,rfl⟩
   ·rw[o8]at h;exact SeqAt.EqAt.str_int x t j u _ _ _ _ h
   ·rw[o6]at h;exact wpAny_eqBool_str h
 «strs»:=fun k x t v h=>by
  rcases cF h with ⟨i,u,rfl,e⟩ | ⟨y,u,rfl,e⟩
  ·exact nomatch e
  ·injection e with e1 _
   subst e1;cases v <;> rfl
theorem lU (prog:Program) (w:World) (k:Key) (v:Value):(bR prog w).is k v=pM k v:=rfl
theorem vI (prog:Program) (w:World) (i:Int) (t:Tok):(bR prog w).is (.inl i) (.int i t)=true:=C8 i t
theorem vJ (prog:Program) (w:World) (x:Str) (t:Tok):(bR prog w).is (.inr x) (.str x t)=true:=C9 x t
inductive V where
 | non | bl (b:Bool) | int (i:Int) | str (x:Str) | byt (b:Array UInt8) | flt (b:UInt64) | ref (a:Addr) | ty (n:String)
 deriving DecidableEq
def RelV:V->Value->Prop
 | .non,u=>u=Value.none
 | .bl b,u=>u=Value.bool b
 | .int i,u=>∃ t,u=Value.int i t
 | .str x,u=>∃ t,u=Value.str x t
 | .byt b,u=>∃ t,u=Value.bytes b t
 | .flt b,u=>∃ t,u=Value.float b t
 | .ref a,u=>u=Value.ref a
 | .ty n,u=>u=Value.type n
abbrev Vals:List V->List Value->Prop:=Paired RelV
theorem Vals.length {xs:List V} {us:List Value} (r:Vals xs us):xs.length=us.length:=Paired.length r
theorem Vals.get:∀ {xs:List V} {us:List Value} {i:Nat} {x:V},Vals xs us->xs[i]?=some x->∃ u,us[i]?=some u/\RelV x u
 | _,_,_,_,.nil,e=>by simp at e
 | _,_,0,_,.cons r _,e=>by simp at e;subst e;exact⟨_,rfl,r⟩
 | _,_,i+1,x,.cons _ t,e=>by
  obtain⟨u,h1,h2⟩:=Vals.get (i:=i) (x:=x) t (by simpa using e);exact⟨u,by simpa using h1,h2⟩
theorem Vals.set {x:V} {u:Value} (r:RelV x u):∀ {xs:List V} {us:List Value} (i:Nat),Vals xs us->Vals (xs.set i x) (us.set i u)
 | _,_,_,.nil=>.nil
 | _,_,0,.cons _ t=>.cons r t
 | _,_,i+1,.cons q t=>.cons q (Vals.set r i t)
theorem Vals.append:∀ {xs ys:List V} {us ws:List Value},Vals xs us->Vals ys ws->Vals (xs++ys) (us++ws)
 | _,_,_,_,.nil,s=>s
 | _,_,_,_,.cons r t,s=>.cons r (Vals.append t s)
theorem Vals.take:∀ {xs:List V} {us:List Value} (n:Nat),Vals xs us->Vals (xs.take n) (us.take n)
 | _,_,0,_=>.nil
 | _,_,_+1,.nil=>.nil
 | _,_,n+1,.cons r t=>.cons r (Vals.take n t)
theorem Vals.drop:∀ {xs:List V} {us:List Value} (n:Nat),Vals xs us->Vals (xs.drop n) (us.drop n)
 | _,_,0,r=>r
 | _,_,_+1,.nil=>.nil
 | _,_,n+1,.cons _ t=>Vals.drop n t
def RelO:Option V->Option Value->Prop
 | some v,some u=>RelV v u
 | none,none=>True
 | _,_=>False
def KV {κ:Type}:List (κ×V)->List (κ×Value)->Prop:=Paired fun(p:κ×V) (q:κ×Value)=>p.1=q.1/\RelV p.2 q.2
def kV:Key->V
 | .inl i=>.int i
 | .inr x=>.str x
inductive HO where
 | lst (xs:List V)
 | tup (xs:List V)
 | dK (kvs:List (Key×V)) | dT (kvs:List (List Key×V))
 | set (S:Int->Bool) (n:Nat)
 | ins (C dx:Addr) (fs:List (Str×V))
 | own (x:Addr)
 | xd (fs:List (Str×V))
 | met (f x:Addr)
 | rng (lo hi:Int)
 | frz (o:Obj) (u:HO)
 | tbl (ps:Array Value)
 | ext (φ:Heap->Prop)
abbrev Hp:=Addr->Option HO
def upd (H:Hp) (a:Addr) (o:HO):Hp:=fun b=>if b=a then some o else H b
theorem aB {H:Hp} {a:Addr} {o:HO}:upd H a o a=some o:=by unfold upd;rw[if_pos rfl]
theorem aH {H:Hp} {a b:Addr} {o:HO} (h:b≠a):upd H a o b=H b:=by unfold upd;rw[if_neg h]
theorem fS {H:Hp} {a b:Addr} {o u:HO} (h:H a=some o) (h':H b=some u) (d:o≠u):a≠b:=by
 intro e;subst e;rw[h]at h';exact d (Option.some.inj h')
theorem bN {H:Hp} {a b:Addr} {o:HO} (h:H a=some o) (h':H b=none):a≠b:=by
 intro e;subst e;rw[h]at h';cases h'
section
variable (P:Program) (w:World)
def ObjOk (H:Hp) (h:Heap) (a:Addr):HO->Prop
 | .lst xs=>xs.length<=sizeLine/\∃ (its:List Value) (n:Nat),Vals xs its/\h.get? a=some { cls:=.type "list",data:=.seq its.toArray n }
 | .tup xs=>xs.length<=sizeLine/\∃ its:List Value,Vals xs its/\IsTup h a its.toArray
 | .dK kvs=>kvs.length<=sizeLine/\(a == sysModules)=false/\∃ vs,KV kvs vs/\h.DictOf (bR P w) a vs
 | .dT kvs=>kvs.length<=sizeLine/\(a == sysModules)=false/\∃ xs:List (List Key×Addr×Value),
  Paired (fun(p:List Key×V) (q:List Key×Addr×Value)=>p.1=q.1/\H q.2.1=some (.tup (p.1.map kV))/\RelV p.2 q.2.2) kvs xs /\
  ∃ o es ep,h.get? a=some o/\o.ExactDict/\o.data=.dict es ep/\es.toList=xs.map (entryOfKey (tupleKind (bR P w)))/\(xs.map (·.1)).Nodup
 | .set S n=>h.SetOf (intKind P w) a S n
 | .ins C dx fs=>H dx=some (.own a)/\fs.length<=1000/\dx≠a/\h.get? a=some (PySem.W.instObj C dx) /\
  ∃ mA,h.Ns1 dx mA/\(∀ f,RelO (fs.lookup f) (mA f))/\PySem.Within mA (fs.map (·.1))
 | .own _=>∃ o,h.get? a=some o
 | .xd fs=>∃ mA,h.Ns1 a mA/\∀ f,RelO (fs.lookup f) (mA f)
 | .rng lo hi=>∃ t u v,h.get? a=some { cls:=.type "range",data:=.fields #[.int lo t,.int hi u,.int 1 v] }
 | .frz o u=>h.get? a=some o/\ObjOk H h a u
 | .tbl ps=>h.get? a=some { cls:=.none,data:=.fields ps }
 | .met f x=>h.get? a=some (PySem.W.methodObj (.ref f) (.ref x))
 | .ext φ=>φ h/\(∃ o,h.get? a=some o)/\∀ h1 h2:Heap,φ h1->(∀ o,h1.get? a=some o->h2.get? a=some o)->φ h2
def HOk (H:Hp) (h:Heap):Prop:=∀ a o,H a=some o->ObjOk P w H h a o
end
section
variable {P:Program} {w:World} {H H':Hp} {h h':Heap} {a:Addr} {o:HO}
theorem ObjOk.lt (x:ObjOk P w H h a o):a<h.objs.size:=by
 cases o with
 | lst xs=>obtain⟨_,_,_,_,e⟩:=x;exact aBT e
 | tup xs=>obtain⟨_,_,_,p⟩:=x;exact p.lt
 | dK kvs=>obtain⟨_,_,_,_,o,_,_,e,_⟩:=x;exact aBT e
 | dT kvs=>obtain⟨_,_,_,_,o,_,_,e,_⟩:=x;exact aBT e
 | set S n=>obtain⟨o,_,_,_,e,_⟩:=x;exact aBT e
 | ins C dx fs=>obtain⟨_,_,_,e,_⟩:=x;exact aBT e
 | own y=>obtain⟨_,e⟩:=x;exact aBT e
 | xd fs=>obtain⟨_,⟨_,_,_,e,_⟩,_⟩:=x;exact aBT e
 | rng lo hi=>obtain⟨_,_,_,e⟩:=x;exact aBT e
 | frz ob u=>obtain⟨e,_⟩:=x;exact aBT e
 | tbl ps=>exact aBT (show h.get? a=some _ from x)
 | met f y=>exact aBT (show h.get? a=some _ from x)
 | ext φ=>obtain⟨_,⟨_,e⟩,_⟩:=x;exact aBT e
theorem Paired.mapP {α β:Type} {F G:α->β->Prop}:∀ {l₁:List α} {l₂:List β},Paired F l₁ l₂->(∀ a b,F a b->G a b)->Paired G l₁ l₂
 | _,_,.nil,_=>.nil
 | _,_,.cons r t,f=>.cons (f _ _ r) (Paired.mapP t f)
theorem ObjOk.stay (x:ObjOk P w H h a o) (k:∀ b u,(b=a\/H b=some (.own a))->h.get? b=some u->h'.get? b=some u)
 (ho:∀ b,H b=some (.own a)->H' b=some (.own a)) (ht:∀ b xs,H b=some (.tup xs)->H' b=some (.tup xs)):ObjOk P w H' h' a o:=by
 induction o with
 | lst xs=>obtain⟨z,its,n,r,e⟩:=x;exact⟨z,its,n,r,k _ _ (.inl rfl) e⟩
 | tup xs=>obtain⟨z,its,r,ob,e,c⟩:=x;exact⟨z,its,r,ob,k _ _ (.inl rfl) e,c⟩
 | dK kvs=>obtain⟨z,y,vs,r,ob,es,ep,e,c⟩:=x;exact⟨z,y,vs,r,ob,es,ep,k _ _ (.inl rfl) e,c⟩
 | dT kvs =>
  obtain⟨z,y,xs,r,ob,es,ep,e,c⟩:=x;exact⟨z,y,xs,Paired.mapP r fun p q z=>⟨z.1,ht _ _ z.2.1,z.2.2⟩,ob,es,ep,k _ _ (.inl rfl) e,c⟩
 | set S n=>obtain⟨ob,es,ep,t,e,c⟩:=x;exact⟨ob,es,ep,t,k _ _ (.inl rfl) e,c⟩
 | ins C dx fs =>
  obtain⟨d,z,ne,e,mA,⟨od,es,ep,e2,c⟩,r⟩:=x;exact⟨ho _ d,z,ne,k _ _ (.inl rfl) e,mA,⟨od,es,ep,k _ _ (.inr d) e2,c⟩,r⟩
 | own y=>obtain⟨ob,e⟩:=x;exact⟨ob,k _ _ (.inl rfl) e⟩
 | xd fs=>obtain⟨mA,⟨od,es,ep,e,c⟩,r⟩:=x;exact⟨mA,⟨od,es,ep,k _ _ (.inl rfl) e,c⟩,r⟩
 | rng lo hi=>obtain⟨t,u,v,e⟩:=x;exact⟨t,u,v,k _ _ (.inl rfl) e⟩
 | frz ob u ih=>obtain⟨e,q⟩:=x;exact⟨k _ _ (.inl rfl) e,ih q⟩
 | tbl ps =>
  have e:h.get? a=some { cls:=.none,data:=.fields ps }:=x;show h'.get? a=some { cls:=.none,data:=.fields ps };exact k a _ (.inl rfl) e
 | met f y =>
  have e:h.get? a=some (PySem.W.methodObj (.ref f) (.ref y)):=x;show h'.get? a=some (PySem.W.methodObj (.ref f) (.ref y));exact k a _ (.inl rfl) e
 | ext φ=>obtain⟨p,⟨o,e⟩,st⟩:=x;exact⟨st _ _ p fun o q=>k _ _ (.inl rfl) q,⟨o,k _ _ (.inl rfl) e⟩,st⟩
theorem HOk.lt (x:HOk P w H h) (e:H a=some o):a<h.objs.size:=(x a o e).lt
theorem HOk.fresh (x:HOk P w H h) (e:h.objs.size<=a):H a=none:=by
 cases q:H a with
 | none=>rfl
 | some u=>exact absurd (aB4 (x.lt q) e) (Nat.lt_irrefl _)
theorem HOk.kept (x:HOk P w H h) (k:∀ b u,h.get? b=some u->h'.get? b=some u):HOk P w H h':=fun a o e =>
 (x a o e).stay (fun b u _ q=>k b u q) (fun _ q=>q) fun _ _ q=>q
theorem HOk.laid (x:HOk P w H h) (k:∀ b u,h.get? b=some u->h'.get? b=some u) (hp:h.objs.size<=a) (new:ObjOk P w (upd H a o) h' a o):HOk P w (upd H a o) h':=fun b u e=>by
 have hn:=x.fresh hp
 by_cases hb:b=a
 ·subst hb;rw[aB]at e;cases e;exact new
 ·rw[aH hb]at e;exact(x b u e).stay (fun c v _ q=>k c v q) (fun c q=>by rw[aH (bN q hn)];exact q) fun c xs q=>by rw[aH (bN q hn)];exact q
end
def Rd (H:Hp) (a:Addr) (u:HO):Prop:=H a=some u\/∃ o,H a=some (.frz o u)
theorem Rd.ok {P:Program} {w:World} {H:Hp} {h:Heap} {a:Addr} {u:HO} (r:Rd H a u) (x:HOk P w H h):ObjOk P w H h a u:=by
 rcases r with r | ⟨o,r⟩
 ·exact x a u r
 ·obtain⟨_,q⟩:=x a _ r;exact q
def Mut:Option HO->Prop
 | some (.lst _)=>True
 | some (.dK _)=>True
 | some (.dT _)=>True
 | some (.set _ _)=>True
 | some (.ins _ _ _)=>True
 | some (.ext _)=>True
 | _=>False
section
variable {P:Program} {w:World} {H:Hp} {h h':Heap} {x e:Addr} {o':HO}
theorem HOk.write (ok:HOk P w H h) (mu:Mut (H x)) (he:e=x\/H e=some (.own x)) (k:∀ b u,b≠e->h.get? b=some u->h'.get? b=some u) (heo:∃ u,h'.get? e=some u)
 (new:ObjOk P w (upd H x o') h' x o'):HOk P w (upd H x o') h':=fun b u q=>by
 have nown:∀ c y,H c=some (.own y)->c≠x:=fun c y r z=>by subst z;rw[r]at mu;exact mu
 have ntup:∀ c xs,H c=some (.tup xs)->c≠x:=fun c xs r z=>by subst z;rw[r]at mu;exact mu
 by_cases hb:b=x
 ·subst hb;rw[aB]at q;cases q;exact new
 ·rw[aH hb]at q
  by_cases hbe:b=e
  ·have q':H b=some (.own x):=by
    rcases he with z | z
    ·exact absurd (hbe.trans z) hb
    ·rw[hbe];exact z
   rw[q]at q';cases q';obtain⟨v,hv⟩:=heo;exact⟨v,by rw[hbe];exact hv⟩
  ·refine(ok b u q).stay (fun c v hc r=>k c v ?_ r) (fun c r=>by rw[aH (nown c b r)];exact r) fun c xs r=>by rw[aH (ntup c xs r)];exact r
   rcases hc with rfl | hc
   ·exact hbe
   ·rintro rfl;rcases he with z | z
    ·exact nown c b hc z
    ·rw[hc]at z;cases z;exact hb rfl
end
structure Un (fs ex:List Addr) (H H':Hp) (h h':Heap):Prop where
 keep:∀ b o,h.get? b=some o->H b=none->b∉fs->b∉ex->h'.get? b=some o
 slot:∀ b o,h.get? b=some o->H b=none->b∈fs->b∉ex->∃ sl,h'.get? b=some { o with slots:=sl }
 free:∀ b o,h.get? b=some o->H b=none->b∉ex->H' b=none
 there:∀ b o,h.get? b=some o->b∉ex->∃ o',h'.get? b=some o'
 tups:∀ b xs,H b=some (.tup xs)->H' b=some (.tup xs)
 frzs:∀ b o u,H b=some (.frz o u)->H' b=some (.frz o u)
 tbls:∀ b ps,H b=some (.tbl ps)->∃ more,H' b=some (.tbl (ps++more))
section
variable {fs fs' ex ex':List Addr} {H H1 H2:Hp} {h h1 h2 h':Heap} {a x e:Addr} {o:HO}
theorem Un.any (u:Un fs ex H H1 h h1) {b:Addr} {ob:Obj} (q:h.get? b=some ob) (n:H b=none) (hx:b∉ex):∃ sl,h1.get? b=some { ob with slots:=sl }:=by
 by_cases hb:b∈fs
 ·exact u.slot b ob q n hb hx
 ·exact⟨ob.slots,u.keep b ob q n hb hx⟩
theorem Un.trans (a:Un fs ex H H1 h h1) (b:Un fs ex H1 H2 h1 h2):Un fs ex H H2 h h2 where
 keep:=fun c ob q n hc hx=>b.keep c ob (a.keep c ob q n hc hx) (a.free c ob q n hx) hc hx
 slot:=fun c ob q n hc hx=>by
  obtain⟨sl,e1⟩:=a.slot c ob q n hc hx;obtain⟨sl',e2⟩:=b.slot c _ e1 (a.free c ob q n hx) hc hx;exact⟨sl',e2⟩
 free:=fun c ob q n hx=>by
  obtain⟨o',e1⟩:=a.there c ob q hx;exact b.free c o' e1 (a.free c ob q n hx) hx
 there:=fun c ob q hx=>by
  obtain⟨o',e1⟩:=a.there c ob q hx;exact b.there c o' e1 hx
 tups:=fun c xs q=>b.tups c xs (a.tups c xs q)
 frzs:=fun c ob xs q=>b.frzs c ob xs (a.frzs c ob xs q)
 tbls:=fun c ps q=>by
  obtain⟨m1,e1⟩:=a.tbls c ps q;obtain⟨m2,e2⟩:=b.tbls c _ e1;exact⟨m1++m2,by rw[e2,Array.append_assoc]⟩
theorem Un.kept (k:∀ b u,h.get? b=some u->h'.get? b=some u):Un fs ex H H h h' :=
 ⟨fun b ob q _ _ _=>k b ob q,fun b ob q _ _ _=>⟨ob.slots,k b ob q⟩,fun _ _ _ n _=>n,fun b ob q _=>⟨ob,k b ob q⟩,fun _ _ q=>q,fun _ _ _ q=>q,fun _ ps q=>⟨#[],by rw[q];simp⟩⟩
theorem Un.refl:Un fs ex H H h h:=Un.kept fun _ _ q=>q
theorem Un.laid (k:∀ b u,h.get? b=some u->h'.get? b=some u) (hp:h.objs.size<=a) (hn:H a=none):Un fs ex H (upd H a o) h h' where
 keep:=fun b u q _ _ _=>k b u q
 slot:=fun b u q _ _ _=>⟨u.slots,k b u q⟩
 free:=fun b u q n _=>by rw[aH (aBb (aB4 (aBT q) hp))];exact n
 there:=fun b u q _=>⟨u,k b u q⟩
 tups:=fun b xs q=>by rw[aH (bN q hn)];exact q
 frzs:=fun b u xs q=>by rw[aH (bN q hn)];exact q
 tbls:=fun b ps q=>⟨#[],by rw[aH (bN q hn),q];simp⟩
theorem Un.write (mu:Mut (H x)) (he:e=x\/H e=some (.own x)) (k:∀ b u,b≠e->h.get? b=some u->h'.get? b=some u) (heo:∃ u,h'.get? e=some u):Un fs ex H (upd H x o) h h':=by
 have hx:∀ b,H b=none->b≠x:=fun b n z=>by subst z;rw[n]at mu;exact mu
 have hb:∀ b,H b=none->b≠e:=fun b n z=>by
  subst z;rcases he with r | r
  ·exact hx b n r
  ·rw[n]at r;cases r
 have hm:∀ b u,H b=some u->¬ Mut (some u)->b≠x:=fun b u q nm z=>by subst z;rw[q]at mu;exact nm mu
 refine⟨fun b u q n _ _=>k b u (hb b n) q,fun b u q n _ _=>⟨u.slots,k b u (hb b n) q⟩,fun b u q n _=>by rw[aH (hx b n)];exact n,fun b u q _=>?_,
  fun b xs q=>by rw[aH (hm b _ q fun z=>z)];exact q,fun b u xs q=>by rw[aH (hm b _ q fun z=>z)];exact q,fun b ps q=>⟨#[],by rw[aH (hm b _ q fun z=>z),q];simp⟩⟩
 by_cases hbe:b=e
 ·subst hbe;exact heo
 ·exact⟨u,k b u hbe q⟩
end
def trk (h:Heap) (H:Hp):List Addr:=(List.range h.objs.size).filter fun a=>(H a).isSome
def tQ (h:Heap) (H:Hp):Heap:=PySem.W.hideAll h (trk h H)
theorem D0 (h:Heap) (H:Hp):(tQ h H).objs.size=h.objs.size:=PySem.W.hideAll_size _ _
theorem N5 {h:Heap} {H:Hp} {b:Addr} {o:Obj} (e:h.get? b=some o) (n:H b=none):(tQ h H).get? b=some o :=
 PySem.W.hideAll_get _ e fun hm=>by
  have q:(H b).isSome=true:=(aBu.mp hm).2;rw[n]at q;simp at q
theorem X6 {h:Heap} {H:Hp} {b:Addr} {o:Obj} (e:(tQ h H).get? b=some o):h.get? b=some o/\H b=none:=by
 have e':h.get? b=some o:=PySem.W.of_hideAll (trk h H) e;refine⟨e',?_⟩;cases q:H b with
 | none=>rfl
 | some x =>
  have hm:b∈trk h H:=aBu.mpr ⟨List.mem_range.mpr (aBT e'),by simp[q]⟩;have z:(tQ h H).get? b=none:=PySem.W.hideAll_none (trk h H) hm;rw[z]at e;cases e
def X7 (g h:Heap) (L:Addr):List (Addr×Obj):=(List.range h.objs.size).filterMap fun a=>if a=L\/(g.get? a).isSome=true then none else (h.get? a).map fun o=>(a,o)
def rest (g h:Heap) (L d:Addr):List (Addr×Obj):=(X7 g h L).filter fun p=>decide (p.1≠d)
structure Mod (K:PySem.W.Frag) (mg:Str->Option Value) (base:Heap):Prop where
 kin:K.In base
 glob:base.Ns mainGlobals mg
 blt:∃ mb,base.Ns builtinsNs mb/\∀ x:Str,x≠"__name__"->mb x=bootBuiltins x
 nolimit:base.NoLimit
structure Cx where
 prog:Program
 w:World
 K:PySem.W.Frag
 mg:Str->Option Value
 base:Heap
 A:Around
 N:List Str
 s₀:Shared
 H₀:Hp
 env:Env
 outer:List Env
 stack:List Env
 ex:List Addr
 fn:Str->Bool
 calm:Bool
 pn:List (Addr×Obj)
 xe:Value->Shared->Prop
def frs (l:List Env):List Addr:=l.filterMap (·.frame)
abbrev Cx.fs (X:Cx):List Addr:=frs X.outer
def Vis (sc:Scope) (x:Str):Prop:=sc.names.lookup x=some .local\/sc.names.lookup x=some .cell\/sc.names.lookup x=some .free
def Loc (sc:Scope) (x:Str):Prop:=sc.names.lookup x=some .local\/sc.names.lookup x=some .cell
def aAj (env:Env) (h:Heap) (m:Str->Option Value) (x:Str) (u:Value):Prop :=
 (env.kindOf x=some .local/\m x=some u)\/((env.kindOf x=some .cell\/env.kindOf x=some .free)/\∃ c,env.cells.lookup x=some c/\h.IsCell c (some u))
structure Cx.Ok (X:Cx):Prop where
 mod:Mod X.K X.mg X.base
 kind:X.env.scope.kind=.function
 glob:X.env.globals=mainGlobals
 blt:X.env.builtins=builtinsNs
 above:X.s₀.heap.objs.size<=X.env.locals
 inj:∀ x y c,X.env.cells.lookup x=some c->X.env.cells.lookup y=some c->x=y
 has:∀ x,(X.env.kindOf x=some .cell\/X.env.kindOf x=some .free)->∃ c,X.env.cells.lookup x=some c
 cab:∀ x c,X.fn x=true->X.env.cells.lookup x=some c->X.s₀.heap.objs.size<=c
 hd:X.calm=true->X.A.handled=none
 frames:X.A.frames=some X.stack
 stk:X.stack=X.outer\/(X.stack=X.env :: X.outer/\X.env.frame=some X.env.locals)
 exf:∀ b∈X.ex,b≠X.env.locals/\∀ x c,X.env.cells.lookup x=some c->c≠b
 bs:∀ b o,X.base.get? b=some o->X.s₀.heap.get? b=some o/\X.H₀ b=none
 bsz:X.base.objs.size<=X.s₀.heap.objs.size
 noex:∀ b o,X.base.get? b=some o->b∉X.ex
 exfs:∀ b∈X.ex,b∉X.fs
 funs:X.s₀.heap.FunFrames X.base X.outer
 frf:∀ b∈X.fs,X.H₀ b=none
structure Inv (X:Cx) (pins:List (Addr×Obj)) (σ:List (Option V)) (H:Hp) (s:Shared):Prop where
 ok:X.Ok
 os:s.os=X.s₀.os
 bare:AllBare s.gens
 base:Un X.fs X.ex X.H₀ H X.s₀.heap s.heap
 loc:∃ m,s.heap.Ns X.env.locals m/\∀ (i:Nat) (x:Str) (v:V),X.N[i]?=some x->σ[i]?=some (some v)->Vis X.env.scope x->∃ u,RelV v u/\aAj X.env s.heap m x u
 cell:∀ x c,X.env.cells.lookup x=some c->∃ v,s.heap.IsCell c v
 free:H X.env.locals=none
 freeC:∀ x c,X.env.cells.lookup x=some c->H c=none
 pin:∀ p∈X.pn++pins,s.heap.get? p.1=some p.2/\H p.1=none/\p.1≠X.env.locals/\p.1∉X.fs/\∀ v,p.2.data≠.cell v
 hok:HOk X.prog X.w H s.heap
 len:σ.length=X.N.length
section
variable {X:Cx} {pins:List (Addr×Obj)} {σ:List (Option V)} {H H':Hp} {s:Shared} {h':Heap}
theorem Cx.Ok.nofr (ok:X.Ok) {b:Addr} {o:Obj} (e:X.base.get? b=some o):b∉X.fs:=fun hb=>by
 have:=(ok.funs.mem hb).1;rw[e]at this;cases this
theorem Inv.bs (I:Inv X pins σ H s):∀ b o,X.base.get? b=some o->s.heap.get? b=some o/\H b=none:=fun b o e =>
 ⟨I.base.keep b o (I.ok.bs b o e).1 (I.ok.bs b o e).2 (I.ok.nofr e) (I.ok.noex b o e),I.base.free b o (I.ok.bs b o e).1 (I.ok.bs b o e).2 (I.ok.noex b o e)⟩
theorem Inv.bk (I:Inv X pins σ H s):∀ b o,X.base.get? b=some o->s.heap.get? b=some o:=fun b o e=>(I.bs b o e).1
theorem Inv.mod (I:Inv X pins σ H s):Mod X.K X.mg X.base:=I.ok.mod
theorem Inv.kIn (I:Inv X pins σ H s):X.K.In s.heap:=I.ok.mod.kin.keeps I.bk
theorem Inv.nolimit (I:Inv X pins σ H s):s.heap.NoLimit:=I.ok.mod.nolimit.keeps I.bk
theorem Inv.fr (I:Inv X pins σ H s):∃ m,Fr X.base X.env.locals s.heap m :=
 let ⟨m,hn,_⟩:=I.loc
 ⟨m,hn,I.bk,Nat.le_trans I.ok.bsz I.ok.above⟩
theorem Inv.lt (I:Inv X pins σ H s):X.env.locals<s.heap.objs.size:=let ⟨_,hn,_⟩:=I.loc;hn.lt
theorem Inv.sz (I:Inv X pins σ H s):X.s₀.heap.objs.size<=s.heap.objs.size:=Nat.le_trans I.ok.above (Nat.le_of_lt I.lt)
theorem Inv.nofs (I:Inv X pins σ H s) {a:Addr} (h:s.heap.objs.size<=a):a∉X.fs:=fun hb=>by
 obtain⟨_,o,ho,_⟩:=I.ok.funs.mem hb;exact absurd (aB4 (aBT ho) (Nat.le_trans I.sz h)) (Nat.lt_irrefl _)
theorem Inv.cne (I:Inv X pins σ H s):∀ x c,X.env.cells.lookup x=some c->c≠X.env.locals:=fun x c e z=>by
 obtain⟨v,o,ho,hd⟩:=I.cell x c e;obtain⟨m,⟨o',es,ep,ho',hd',_⟩,_⟩:=I.loc;rw[z,ho']at ho;cases ho;rw[hd']at hd;cases hd
theorem Inv.funs (I:Inv X pins σ H s):s.heap.FunFrames X.base X.outer:=by
 have all:∀ (l:List Env),(∀ b∈frs l,b∈X.fs)->X.s₀.heap.FunFrames X.base l->s.heap.FunFrames X.base l:=by
  intro l
  induction l with
  | nil=>intro _ _;trivial
  | cons env r ih =>
   intro hs hl;obtain⟨hk,⟨L,o,hf,hn,ho,hd⟩,hr⟩:=hl;have hL:L∈X.fs:=hs L (by unfold frs;rw[List.filterMap_cons,hf];exact aBP);obtain⟨sl,e⟩:=I.base.slot L o ho (I.ok.frf L hL) hL fun z=>I.ok.exfs L z hL;exact⟨hk,⟨L,_,hf,hn,e,hd⟩,ih (fun b hb=>hs b (by unfold frs;rw[List.filterMap_cons,hf];exact aBQ _ hb)) hr⟩
 exact all X.outer (fun _ hb=>hb) I.ok.funs
theorem Inv.stack (I:Inv X pins σ H s):s.heap.FunFrames X.base X.stack:=by
 rcases I.ok.stk with e | ⟨e,hf⟩
 ·rw[e];exact I.funs
 ·rw[e];obtain⟨m,hn,_⟩:=I.loc;refine .cons (by rw[I.ok.kind];decide) hf hn ?_ I.funs;exact Heap.get?_none_of_le (Nat.le_trans I.ok.bsz I.ok.above)
theorem Inv.stkSub (I:Inv X pins σ H s):∀ b∈frs X.stack,b∈X.env.locals :: X.fs:=fun b hb=>by
 rcases I.ok.stk with e | ⟨e,hf⟩
 ·rw[e]at hb;exact aBQ _ hb
 ·rw[e]at hb;unfold frs at hb;rw[List.filterMap_cons,hf]at hb;exact hb
theorem Inv.stkFree (I:Inv X pins σ H s):∀ b∈frs X.stack,H b=none:=fun b hb=>by
 rcases aBr.mp (I.stkSub b hb)with e | hb
 ·rw[e];exact I.free
 ·obtain⟨_,o,ho,_⟩:=I.ok.funs.mem hb;exact I.base.free b o ho (I.ok.frf b hb) fun z=>I.ok.exfs b z hb
theorem Inv.step {g':Array GenState} {t':Nat} {d':Drawn} {ch:List Addr} (I:Inv X pins σ H s)
 (hch:∀ b∈ch,(b∈X.ex\/X.s₀.heap.objs.size<=b)/\b≠X.env.locals/\(∀ x c,X.env.cells.lookup x=some c->c≠b)/\∀ p∈X.pn++pins,p.1≠b)
 (keep:∀ b o,b≠X.env.locals->b∉X.fs->b∉ch->s.heap.get? b=some o->H b=none->h'.get? b=some o)
 (slot:∀ b o,b≠X.env.locals->b∈X.fs->b∉ch->s.heap.get? b=some o->H b=none->∃ sl,h'.get? b=some { o with slots:=sl }) (free:∀ b o,b∉ch->s.heap.get? b=some o->H b=none->H' b=none)
 (there:∀ b o,b∉ch->s.heap.get? b=some o->∃ o',h'.get? b=some o')
 (tups:∀ b xs,H b=some (.tup xs)->H' b=some (.tup xs)) (frzs:∀ b o u,H b=some (.frz o u)->H' b=some (.frz o u)) (tbls:∀ b ps,H b=some (.tbl ps)->∃ more,H' b=some (.tbl (ps++more)))
 (ns:∀ m,s.heap.Ns X.env.locals m->h'.Ns X.env.locals m) (hok:HOk X.prog X.w H' h') (hg:AllBare g') :
 Inv X pins σ H' { s with heap:=h',gens:=g',drawn:=d',toks:=t' }:=by
 have neL:∀ b o,X.s₀.heap.get? b=some o->b≠X.env.locals:=fun b o e=>aBb (aB4 (aBT e) I.ok.above);have neC:∀ b o,X.s₀.heap.get? b=some o->b∉X.ex->b∉ch:=fun b o e hx hb=>by
  rcases (hch b hb).1 with z | z
  ·exact hx z
  ·exact absurd (aB4 (aBT e) z) (Nat.lt_irrefl _)
 have cellK:∀ x c,X.env.cells.lookup x=some c->∀ v,s.heap.IsCell c v->h'.IsCell c v:=fun x c e v ⟨o,ho,hd⟩=>by
  have nch:c∉ch:=fun z=>(hch c z).2.2.1 x c e rfl
  by_cases hc:c∈X.fs
  ·obtain⟨sl,q⟩:=slot c o (I.cne x c e) hc nch ho (I.freeC x c e);exact⟨_,q,hd⟩
  ·exact⟨o,keep c o (I.cne x c e) hc nch ho (I.freeC x c e),hd⟩
 refine⟨I.ok,I.os,hg,⟨fun b o e n hb hx=>?_,fun b o e n hb hx=>?_,fun b o e n hx=>?_,fun b o e hx=>?_,fun b xs e=>tups b xs (I.base.tups b xs e),fun b o xs e=>frzs b o xs (I.base.frzs b o xs e),fun b ps e=>?_⟩,?_,fun x c e=>?_,?_,fun x c e=>?_,fun p hp=>?_,hok,I.len⟩
 ·exact keep b o (neL b o e) hb (neC b o e hx) (I.base.keep b o e n hb hx) (I.base.free b o e n hx)
 ·obtain⟨sl,e1⟩:=I.base.slot b o e n hb hx;obtain⟨sl',e2⟩:=slot b _ (neL b o e) hb (neC b o e hx) e1 (I.base.free b o e n hx);exact⟨sl',e2⟩
 ·obtain⟨o',e1⟩:=I.base.there b o e hx;exact free b o' (neC b o e hx) e1 (I.base.free b o e n hx)
 ·obtain⟨o',e1⟩:=I.base.there b o e hx;exact there b o' (neC b o e hx) e1
 ·obtain⟨m1,e1⟩:=I.base.tbls b ps e;obtain⟨m2,e2⟩:=tbls b _ e1;exact⟨m1++m2,by rw[e2,Array.append_assoc]⟩
 ·obtain⟨m,hn,hl⟩:=I.loc;refine⟨m,ns m hn,fun i x v e1 e2 e3=>?_⟩;obtain⟨u,r,l⟩:=hl i x v e1 e2 e3;refine⟨u,r,?_⟩;rcases l with l | ⟨k,c,e,z⟩
  ·exact .inl l
  ·exact .inr ⟨k,c,e,cellK x c e _ z⟩
 ·obtain⟨v,z⟩:=I.cell x c e;exact⟨v,cellK x c e v z⟩
 ·obtain⟨m,⟨o,_,_,ho,_⟩,_⟩:=I.loc;exact free _ o (fun z=>(hch _ z).2.1 rfl) ho I.free
 ·obtain⟨v,o,ho,hd⟩:=I.cell x c e;exact free c o (fun z=>(hch c z).2.2.1 x c e rfl) ho (I.freeC x c e)
 ·obtain⟨e,n,ne,nf,d⟩:=I.pin p hp;have nch:p.1∉ch:=fun z=>(hch p.1 z).2.2.2 p hp rfl;exact⟨keep p.1 p.2 ne nf nch e n,free p.1 p.2 nch e n,ne,nf,d⟩
theorem Inv.un {t':Nat} (I:Inv X pins σ H s) (u:Un X.fs [] H H' s.heap h') (hok:HOk X.prog X.w H' h'):Inv X pins σ H' { s with heap:=h',toks:=t' }:=by
 obtain⟨m,⟨o,es,ep,ho,r⟩,_⟩:=id I.loc;obtain⟨sl,hL⟩:=u.any ho I.free (by simp);exact I.step (g':=s.gens) (d':=s.drawn) (ch:=[]) (fun _ z=>nomatch z) (fun b o _ hb _ e n=>u.keep b o e n hb (by simp)) (fun b o _ hb _ e n=>u.slot b o e n hb (by simp)) (fun b o _ e n=>u.free b o e n (by simp)) (fun b o _ e=>u.there b o e (by simp)) u.tups u.frzs u.tbls (fun m' hm=>by
  obtain⟨o',es',ep',ho',r'⟩:=hm;rw[ho]at ho';cases ho';exact⟨_,es',ep',hL,r'⟩) hok I.bare
theorem Inv.call {g':Array GenState} {t':Nat} {d':Drawn} {ch:List Addr} (I:Inv X pins σ H s) (u:Un (frs X.stack) ch H H' s.heap h') (hok:HOk X.prog X.w H' h') (hg:AllBare g')
 (hch:∀ b∈ch,(b∈X.ex\/X.s₀.heap.objs.size<=b)/\b≠X.env.locals/\(∀ x c,X.env.cells.lookup x=some c->c≠b)/\∀ p∈X.pn++pins,p.1≠b) :
 Inv X pins σ H' { s with heap:=h',gens:=g',drawn:=d',toks:=t' }:=by
 obtain⟨m,⟨o,es,ep,ho,r⟩,_⟩:=id I.loc;obtain⟨sl,hL⟩:=u.any ho I.free fun z=>(hch _ z).2.1 rfl;exact I.step (ch:=ch) hch (fun b o hL hb hc e n=>u.keep b o e n (fun z=>(aBr.mp (I.stkSub b z)).elim hL hb) hc) (fun b o _ _ hc e n=>u.any e n hc) (fun b o hc e n=>u.free b o e n hc) (fun b o hc e=>u.there b o e hc) u.tups u.frzs u.tbls (fun m' hm=>by
  obtain⟨o',es',ep',ho',r'⟩:=hm;rw[ho]at ho';cases ho';exact⟨_,es',ep',hL,r'⟩) hok hg
theorem Inv.turned {t':Nat} {it:Addr} (I:Inv X pins σ H s) (k:∀ b o,b≠it->s.heap.get? b=some o->h'.get? b=some o) (hn:H it=none) (hL:it≠X.env.locals)
 (h1:it∈X.ex\/X.s₀.heap.objs.size<=it) (h2:∀ x c,X.env.cells.lookup x=some c->c≠it) (h3:∀ p∈X.pn++pins,p.1≠it):Inv X pins σ H { s with heap:=h',toks:=t' }:=by
 have nit:∀ b u,H b=some u->b≠it:=fun b u e z=>by rw[z,hn]at e;cases e
 refine I.step (g':=s.gens) (d':=s.drawn) (ch:=[it]) (fun b hb=>?_) (fun b o _ _ hc e _=>k b o (fun z=>hc (by simp[z])) e) (fun b o _ _ hc e _=>⟨o.slots,k b o (fun z=>hc (by simp[z])) e⟩) (fun _ _ _ _ n=>n)
  (fun b o hc e=>⟨o,k b o (fun z=>hc (by simp[z])) e⟩) (fun _ _ e=>e) (fun _ _ _ e=>e) (fun b ps e=>⟨#[],by rw[e];simp⟩) (fun m hm=>?_) (fun b u e=>?_) I.bare
 ·have e:b=it:=by simpa using hb
  subst e;exact⟨h1,hL,h2,h3⟩
 ·obtain⟨o,es,ep,ho,r⟩:=hm;exact⟨o,es,ep,k _ o (Ne.symm hL) ho,r⟩
 ·refine(I.hok b u e).stay (fun c v hc q=>k c v ?_ q) (fun _ q=>q) fun _ _ q=>q;rcases hc with z | z
  ·rw[z];exact nit b u e
  ·exact nit c _ z
theorem Inv.tok (I:Inv X pins σ H s) (t:Nat):Inv X pins σ H { s with toks:=t }:=I.un (h':=s.heap) (t':=t) Un.refl I.hok
theorem Inv.kept {t':Nat} (I:Inv X pins σ H s) (k:∀ b u,s.heap.get? b=some u->h'.get? b=some u):Inv X pins σ H { s with heap:=h',toks:=t' }:=I.un (Un.kept k) (I.hok.kept k)
theorem Inv.laid {a:Addr} {o:HO} {t':Nat} (I:Inv X pins σ H s) (k:∀ b u,s.heap.get? b=some u->h'.get? b=some u) (hp:s.heap.objs.size<=a) (new:ObjOk X.prog X.w (upd H a o) h' a o) :
 Inv X pins σ (upd H a o) { s with heap:=h',toks:=t' }:=I.un (Un.laid k hp (I.hok.fresh hp)) (I.hok.laid k hp new)
theorem Inv.write {x e:Addr} {o:HO} {t':Nat} (I:Inv X pins σ H s) (mu:Mut (H x)) (he:e=x\/H e=some (.own x)) (k:∀ b u,b≠e->s.heap.get? b=some u->h'.get? b=some u) (heo:∃ u,h'.get? e=some u)
 (new:ObjOk X.prog X.w (upd H x o) h' x o):Inv X pins σ (upd H x o) { s with heap:=h',toks:=t' }:=I.un (Un.write mu he k heo) (I.hok.write mu he k heo new)
theorem Inv.weak {σ':List (Option V)} (I:Inv X pins σ H s) (hl:σ'.length=σ.length) (w:∀ (i:Nat) v,σ'[i]?=some (some v)->σ[i]?=some (some v)):Inv X pins σ' H s :=
 ⟨I.ok,I.os,I.bare,I.base,let ⟨m,hn,hl'⟩:=I.loc;⟨m,hn,fun i x v e1 e2 e3=>hl' i x v e1 (w i v e2) e3⟩,I.cell,I.free,I.freeC,I.pin,I.hok,hl.trans I.len⟩
theorem Inv.pins_of {pins':List (Addr×Obj)} (I:Inv X pins σ H s) (h:∀ p∈pins',s.heap.get? p.1=some p.2/\H p.1=none/\p.1≠X.env.locals/\p.1∉X.fs/\∀ v,p.2.data≠.cell v):Inv X pins' σ H s :=
 ⟨I.ok,I.os,I.bare,I.base,I.loc,I.cell,I.free,I.freeC,fun p hp=>(aBs.mp hp).elim (fun z=>I.pin p (aB7 _ z)) (h p),I.hok,I.len⟩
theorem vK {N:List Str} (hN:N.Nodup) {i j:Nat} {x:Str} (a:N[i]?=some x) (b:N[j]?=some x):i=j:=by
 obtain⟨h1,e1⟩:=aBq.mp a;obtain⟨h2,e2⟩:=aBq.mp b;exact(List.getElem_inj hN).mp (e1.trans e2.symm)
theorem rY {M:Model} {A:Around} {E:Value->Shared->Prop} {i:Nat} {x:Str} {v:V} {u:Value} {Q:Unit->Shared->Prop} (I:Inv X pins σ H s) (hN:X.N.Nodup) (hi:X.N[i]?=some x) (hx:Loc X.env.scope x) (r:RelV v u)
 (h:∀ s',Inv X pins (σ.set i (some v)) H s'->(∃ a,Heap.SameBut a s.heap s'.heap/\(a=X.env.locals\/X.env.cells.lookup x=some a))->Q () s') (hf:X.fn x=true\/X.env.scope.names.lookup x=some .local:=by first | exact .inl rfl | exact .inr rfl | assumption):wpAny M A (storeName X.env x u) Q E s:=by
 obtain⟨m,hn,hl⟩:=id I.loc;have hcls:(X.env.scope.kind == .class || (X.env.scope.kind == .module && X.env.locals != X.env.globals))=false:=by rw[I.ok.kind];rfl
 have hiσ:i<σ.length:=by rw[I.len];exact(aBq.mp hi).1
 have cne:=I.cne;have tracked:∀ {a:Addr} {h':Heap},(∃ o,s.heap.get? a=some o/\H a=none)->Heap.SameBut a s.heap h'->HOk X.prog X.w H h':=fun {a h'} ha hs b ob e=>by
  obtain⟨_,_,hfree⟩:=ha;refine(I.hok b ob e).stay (fun c w' hc q=>(hs.2 c ?_).trans q) (fun _ q=>q) fun _ _ q=>q;rintro rfl;rcases hc with rfl | hc
  ·rw[hfree]at e;cases e
  ·rw[hfree]at hc;cases hc
 rcases hx with hk | hk
 ·refine wpAny_storeName_local hk hn (fun h' hn' hs=>?_) hcls;obtain⟨oL,_,_,hoL,_⟩:=id hn;refine h _ ⟨I.ok,I.os,I.bare,⟨fun b o e n hb hx=>?_,fun b o e n hb hx=>?_,I.base.free,fun b o e hx=>?_,I.base.tups,I.base.frzs,I.base.tbls⟩,⟨_,hn',fun j y v' e1 e2 e3=>?_⟩,fun y c e=>?_,I.free,I.freeC,fun p hp=>?_,tracked ⟨oL,hoL,I.free⟩ hs,by simpa using I.len⟩ ⟨_,hs,.inl rfl⟩
  ·exact(hs.2 b (aBb (aB4 (aBT e) I.ok.above))).trans (I.base.keep b o e n hb hx)
  ·obtain⟨sl,e1⟩:=I.base.slot b o e n hb hx;exact⟨sl,(hs.2 b (aBb (aB4 (aBT e) I.ok.above))).trans e1⟩
  ·obtain⟨o',e1⟩:=I.base.there b o e hx;exact⟨o',(hs.2 b (aBb (aB4 (aBT e) I.ok.above))).trans e1⟩
  ·by_cases hj:j=i
   ·subst hj;rw[hi]at e1;cases e1;rw[List.getElem?_set_self hiσ]at e2;cases e2;exact⟨u,r,.inl ⟨hk,by simp⟩⟩
   ·rw[List.getElem?_set_ne (Ne.symm hj)]at e2;obtain⟨u',r',q⟩:=hl j y v' e1 e2 e3;refine⟨u',r',?_⟩;rcases q with ⟨k,e⟩ | ⟨k,c,e,z⟩
    ·refine .inl ⟨k,?_⟩;have:y≠x:=fun e=>hj (vK hN e1 (e ▸ hi));simp[this,e]
    ·exact .inr ⟨k,c,e,z.sameBut hs (cne y c e)⟩
  ·obtain⟨w',z⟩:=I.cell y c e;exact⟨w',z.sameBut hs (cne y c e)⟩
  ·obtain⟨e,n,ne,nf,d⟩:=I.pin p hp;exact⟨(hs.2 p.1 ne).trans e,n,ne,nf,d⟩
 ·have hfn:X.fn x=true:=by
   rcases hf with z | z
   ·exact z
   ·rw[z]at hk;cases hk
  obtain⟨c,hc⟩:=I.ok.has x (.inl hk);obtain⟨w',z⟩:=I.cell x c hc;refine wpAny_storeName_cell I.ok.kind hk hc z (fun h' hc' hs=>?_);obtain⟨oc,hoc,hocd⟩:=id z;refine h { s with heap:=h' } ⟨I.ok,I.os,I.bare,⟨fun b o e n hb hx=>?_,fun b o e n hb hx=>?_,I.base.free,fun b o e hx=>?_,I.base.tups,I.base.frzs,I.base.tbls⟩,⟨m,hn.sameBut hs (Ne.symm (cne x c hc)),fun j y v' e1 e2 e3=>?_⟩,fun y c' e=>?_,I.free,I.freeC,fun p hp=>?_,tracked ⟨oc,hoc,I.freeC x c hc⟩ hs,by simpa using I.len⟩ ⟨c,hs,.inr hc⟩
  ·exact(hs.2 b (aBb (aB4 (aBT e) (I.ok.cab x c hfn hc)))).trans (I.base.keep b o e n hb hx)
  ·obtain⟨sl,e1⟩:=I.base.slot b o e n hb hx;exact⟨sl,(hs.2 b (aBb (aB4 (aBT e) (I.ok.cab x c hfn hc)))).trans e1⟩
  ·obtain⟨o',e1⟩:=I.base.there b o e hx;exact⟨o',(hs.2 b (aBb (aB4 (aBT e) (I.ok.cab x c hfn hc)))).trans e1⟩
  ·by_cases hj:j=i
   ·subst hj;rw[hi]at e1;cases e1;rw[List.getElem?_set_self hiσ]at e2;cases e2;exact⟨u,r,.inr ⟨.inl hk,c,hc,hc'⟩⟩
   ·rw[List.getElem?_set_ne (Ne.symm hj)]at e2;obtain⟨u',r',q⟩:=hl j y v' e1 e2 e3;refine⟨u',r',?_⟩;rcases q with q | ⟨k,c',e,z'⟩
    ·exact .inl q
    ·refine .inr ⟨k,c',e,z'.sameBut hs ?_⟩;rintro rfl;exact hj (vK hN e1 (I.ok.inj _ _ _ e hc ▸ hi))
  ·by_cases hcc:c'=c
   ·subst hcc;exact⟨_,hc'⟩
   ·obtain⟨w2,z2⟩:=I.cell y c' e;exact⟨w2,z2.sameBut hs hcc⟩
  ·obtain⟨e,n,ne,nf,d⟩:=I.pin p hp;refine⟨(hs.2 p.1 ?_).trans e,n,ne,nf,d⟩;intro q;rw[q,hoc]at e;have q':oc=p.2:=Option.some.inj e;exact d w' (by rw[<- q'];exact hocd)
theorem pN {M:Model} {A:Around} {E:Value->Shared->Prop} {i:Nat} {x:Str} {v:V} {u:Value} {Q:Unit->Shared->Prop} (I:Inv X pins σ H s) (hN:X.N.Nodup) (hi:X.N[i]?=some x) (hx:Loc X.env.scope x) (r:RelV v u)
 (h:∀ s',Inv X pins (σ.set i (some v)) H s'->Q () s') (hf:X.fn x=true\/X.env.scope.names.lookup x=some .local:=by first | exact .inl rfl | exact .inr rfl | assumption):wpAny M A (storeName X.env x u) Q E s :=
 rY I hN hi hx r (fun s' I' _=>h s' I') hf
theorem Inv.call' {s':Shared} {ch:List Addr} (I:Inv X pins σ H s) (ho:s'.os=s.os) (u:Un (frs X.stack) ch H H' s.heap s'.heap) (hok:HOk X.prog X.w H' s'.heap) (hg:AllBare s'.gens)
 (hch:∀ b∈ch,(b∈X.ex\/X.s₀.heap.objs.size<=b)/\b≠X.env.locals/\(∀ x c,X.env.cells.lookup x=some c->c≠b)/\∀ p∈X.pn++pins,p.1≠b):Inv X pins σ H' s':=by
 obtain⟨h',g',d',t',o'⟩:=s';have e:o'=s.os:=ho;subst e;exact I.call (g':=g') (t':=t') (d':=d') u hok hg hch
end
abbrev XK:=Value->Option Addr->Hp->Prop
abbrev St:=List (Option V)
abbrev VK:=V->Hp->Prop
abbrev TE:=St->Hp->VK->Prop
abbrev TT:=St->Hp->(Bool->Hp->Prop)->Prop
abbrev TA:=St->Hp->(List V->Hp->Prop)->Prop
structure pO where
 nx:St->Hp->Prop
 rt:VK
 bk:St->Hp->Prop:=fun _ _=>False
 ct:St->Hp->Prop:=fun _ _=>False
abbrev TS:=pO->St->Hp->Prop
def EP (X:Cx) (pins:List (Addr×Obj)) (σ:St) (Q:VK) (u:Value) (s':Shared):Prop:=∃ v H',Inv X pins σ H' s'/\RelV v u/\Q v H'
def TP (X:Cx) (pins:List (Addr×Obj)) (σ:St) (Q:Bool->Hp->Prop) (b:Bool) (s':Shared):Prop:=∃ H',Inv X pins σ H' s'/\Q b H'
def AP (X:Cx) (pins:List (Addr×Obj)) (σ:St) (Q:List V->Hp->Prop) (us:List Value) (s':Shared):Prop:=∃ vs H',Inv X pins σ H' s'/\Vals vs us/\Q vs H'
def SP (X:Cx) (pins:List (Addr×Obj)) (D:pO) (f:Flow) (s':Shared):Prop :=
 match f with
 | .next=>∃ σ' H',Inv X pins σ' H' s'/\D.nx σ' H'
 | .brk=>∃ σ' H',Inv X pins σ' H' s'/\D.bk σ' H'
 | .cont=>∃ σ' H',Inv X pins σ' H' s'/\D.ct σ' H'
 | .ret u=>∃ v σ' H',Inv X pins σ' H' s'/\RelV v u/\D.rt v H'
def PE (X:Cx) (e:Expr) (t:TE):Prop :=
 ∀ (pins:List (Addr×Obj)) (s:Shared) (σ:St) (H:Hp) (Q:VK),Inv X pins σ H s->t σ H Q->wpAny (model X.prog X.w) X.A (eval e X.env) (EP X pins σ Q) X.xe s
def PT (X:Cx) (e:Expr) (t:TT):Prop :=
 ∀ (pins:List (Addr×Obj)) (s:Shared) (σ:St) (H:Hp) (Q:Bool->Hp->Prop),Inv X pins σ H s->t σ H Q->wpAny (model X.prog X.w) X.A (isTrue e X.env (eval e X.env)) (TP X pins σ Q) X.xe s
def PW (X:Cx) (e:Expr) (t:TT):Prop :=
 ∀ (whole:Sem Value) (pins:List (Addr×Obj)) (s:Shared) (σ:St) (H:Hp) (Q:Bool->Hp->Prop),Inv X pins σ H s->t σ H Q->wpAny (model X.prog X.w) X.A (isTrue e X.env whole) (TP X pins σ Q) X.xe s
theorem PW.pt {X:Cx} {e:Expr} {t:TT} (h:PW X e t):PT X e t:=h _
def PA (X:Cx) (es:List Expr) (t:TA):Prop :=
 ∀ (pos:Pos) (pins:List (Addr×Obj)) (s:Shared) (σ:St) (H:Hp) (Q:List V->Hp->Prop),Inv X pins σ H s->t σ H Q->wpAny (model X.prog X.w) X.A (spliced (backTo pos (starEach es X.env))) (AP X pins σ Q) X.xe s
def PS (X:Cx) (st:Stmt) (t:TS):Prop :=
 ∀ (pins:List (Addr×Obj)) (s:Shared) (σ:St) (H:Hp) (D:pO),Inv X pins σ H s->t D σ H->wpAny (model X.prog X.w) X.A (exec st X.env) (SP X pins D) X.xe s
def PSs (X:Cx) (st:List Stmt) (t:TS):Prop :=
 ∀ (pins:List (Addr×Obj)) (s:Shared) (σ:St) (H:Hp) (D:pO),Inv X pins σ H s->t D σ H->wpAny (model X.prog X.w) X.A (execs st X.env) (SP X pins D) X.xe s
theorem thn {α:Type} {t:Sem α} {Q Q':α->Shared->Prop} {M:Model} {A:Around} {E:Value->Shared->Prop} {s:Shared} (h:wpAny M A t Q E s) (hQ:∀ a s,Q a s->Q' a s):wpAny M A t Q' E s:=wpAny_mono h hQ fun _ _ x=>x
section
variable {X:Cx}
def aAE (i:Nat):TE:=fun σ H Q=>∃ v,σ[i]?=some (some v)/\Q v H
def tC (v:V):TE:=fun _ H Q=>Q v H
theorem o9 {i:Nat} {x:Str} {pos:Pos} (hN:X.N[i]?=some x) (hv:Vis X.env.scope x) (hd:(x == ("__debug__":Str))=false:=by decide) (hcd:(x == ("__classdict__":Str))=false:=by decide):PE X (.Name x pos) (aAE i):=by
 intro pins s σ H Q I h;obtain⟨v,e,h⟩:=h;obtain⟨m,hn,hl⟩:=I.loc;obtain⟨u,r,l⟩:=hl i x v hN e hv;have fin:EP X pins σ Q u s:=⟨v,H,I,r,h⟩;rcases l with ⟨hk,hm⟩ | ⟨hk,c,hc,hcell⟩
 ·exact wpAny_Name (wpAny_loadName_local I.ok.kind hk hn hm fin) hd
 ·rcases hk with hk | hk
  ·exact wpAny_Name (wpAny_loadName_cell I.ok.kind hk hc hcell fin) hd
  ·exact wpAny_Name (wpAny_loadName_free I.ok.kind hk hc hcell fin hcd) hd
theorem aD {i j pos}:PE X (.Constant (.int i) j pos) (tC (.int i)):=fun _ _ _ H _ I h=>wpAny_Constant_int ⟨.int i,H,I.tok _,⟨_,rfl⟩,h⟩
theorem lO {b j pos}:PE X (.Constant (.bool b) j pos) (tC (.bl b)):=fun _ _ _ H _ I h=>Constant_bool ⟨.bl b,H,I,rfl,h⟩
theorem nK {j pos}:PE X (.Constant .none j pos) (tC .non):=fun _ _ _ H _ I h=>Constant_none ⟨.non,H,I,rfl,h⟩
theorem lV {x j pos}:PE X (.Constant (.str x) j pos) (tC (.str x)):=fun _ _ _ H _ I h=>Calls.Constant_str ⟨.str x,H,I.tok _,⟨_,rfl⟩,h⟩
def Gl (X:Cx) (x:Str):Prop:=X.env.kindOf x=some .globalImplicit
theorem zL {E:Value->Shared->Prop} {pins:List (Addr×Obj)} {s:Shared} {σ:St} {H:Hp} {x:Str} {u:Value} {pos:Pos} {Q:Value->Shared->Prop} (I:Inv X pins σ H s) (hg:Gl X x) (hm:X.mg x=some u) (h:Q u s)
 (hd:(x == ("__debug__":Str))=false:=by decide):wpAny (model X.prog X.w) X.A (eval (.Name x pos) X.env) Q E s :=
 Calls.Name_function_global I.ok.kind hg (Calls.loadGlobal_global (by rw[I.ok.glob];exact I.mod.glob.keeps I.bk) hm h) hd
theorem gF {E:Value->Shared->Prop} {pins:List (Addr×Obj)} {s:Shared} {σ:St} {H:Hp} {x:Str} {u:Value} {pos:Pos} {Q:Value->Shared->Prop} (I:Inv X pins σ H s) (hg:Gl X x) (hm:X.mg x=none) (hv:bootBuiltins x=some u) (h:Q u s)
 (hn:x≠"__name__":=by decide) (hd:(x == ("__debug__":Str))=false:=by decide):wpAny (model X.prog X.w) X.A (eval (.Name x pos) X.env) Q E s:=by
 obtain⟨mb,h1,h2⟩:=I.mod.blt;exact Calls.Name_function_global I.ok.kind hg (Calls.loadGlobal_builtin (by rw[I.ok.glob];exact I.mod.glob.keeps I.bk) hm (by rw[I.ok.blt];exact h1.keeps I.bk) ((h2 x hn).trans hv) h) hd
theorem zM {x:Str} {v:V} {u:Value} {pos:Pos} (hg:Gl X x) (hm:X.mg x=some u) (r:RelV v u) (hd:(x == ("__debug__":Str))=false:=by decide):PE X (.Name x pos) (tC v) :=
 fun _ _ _ H _ I h=>zL I hg hm ⟨v,H,I,r,h⟩ hd
theorem bA {x:Str} {v:V} {u:Value} {pos:Pos} (hg:Gl X x) (hm:X.mg x=none) (hv:bootBuiltins x=some u) (r:RelV v u) (hn:x≠"__name__":=by decide) (hd:(x == ("__debug__":Str))=false:=by decide):PE X (.Name x pos) (tC v) :=
 fun _ _ _ H _ I h=>gF I hg hm hv ⟨v,H,I,r,h⟩ hn hd
variable {a b:Expr} {ta tb:TE} {pos:Pos}
variable {tA tB':TT} {rest:List Expr}
def tOr (t u:TT):TT:=fun σ H Q=>t σ H fun c H1=>if c=true then Q true H1 else u σ H1 Q
def aAk (t:TT):TT:=fun σ H Q=>t σ H fun c H1=>Q (!c) H1
theorem iO (ha:PT X a tA):PW X (.BoolOp .Or [a] pos) tA:=by
 intro wh pins s σ H Q I h;refine isTrue_or (thn (ha pins s σ H Q I h) fun c s1 e=>?_);cases c with
 | false=>exact isTrue_or_nil e
 | true=>exact e
theorem jV (ha:PT X a tA) (hb:PW X (.BoolOp .Or (b :: rest) pos) tB'):PW X (.BoolOp .Or (a :: b :: rest) pos) (tOr tA tB'):=by
 intro wh pins s σ H Q I h;refine isTrue_or (thn (ha pins s σ H _ I h) fun c s1 ⟨H1,I1,q1⟩=>?_);cases c with
 | true=>exact⟨H1,I1,q1⟩
 | false=>exact hb wh pins s1 σ H1 Q I1 q1
theorem kA (ha:PT X a tA):PT X (.UnaryOp .Not a pos) (aAk tA):=by
 intro pins s σ H Q I h;exact isTrue_not (ha pins s σ H (fun c H1=>Q (!c) H1) I h)
def aAF (ta tb:TE):TE:=fun σ H Q=>ta σ H fun x H1=>∃ c,x=.bl c/\if c=true then tb σ H1 Q else Q (.bl false) H1
theorem iP {op} {t:TE} (h:PE X a t):PE X (.BoolOp op [a] pos) t:=fun pins s σ H Q I hw=>BoolOp_one (h pins s σ H Q I hw)
theorem iQ (ha:PE X a ta) (hb:PE X (.BoolOp .And (b :: rest) pos) tb):PE X (.BoolOp .And (a :: b :: rest) pos) (aAF ta tb):=by
 intro pins s σ H Q I h;refine BoolOp_and (thn (ha pins s σ H _ I h) fun v s1 ⟨x,H1,I1,r1,q1⟩=>?_);obtain⟨c,rfl,q1⟩:=q1;cases r1;refine wpAny_truthy_bool ?_;cases c with
 | true=>exact hb pins s1 σ H1 Q I1 q1
 | false=>exact⟨.bl false,H1,I1,rfl,q1⟩
def tIf (t:TT) (ta tb:TE):TE:=fun σ H Q=>t σ H fun c H1=>if c=true then ta σ H1 Q else tb σ H1 Q
theorem N6 {c:Expr} (hc:PT X c tA) (ha:PE X a ta) (hb:PE X b tb):PE X (.IfExp c a b pos) (tIf tA ta tb):=by
 intro pins s σ H Q I h;refine wpAny_IfExp (thn (hc pins s σ H _ I h) fun d s1 ⟨H1,I1,q1⟩=>?_);cases d with
 | true=>exact ha pins s1 σ H1 Q I1 q1
 | false=>exact hb pins s1 σ H1 Q I1 q1
end
def SqL (K:PySem.W.Frag) (H:Hp) (a:Addr) (xs:List V):Prop :=
 Rd H a (.lst xs) \/
  ∃ (o:Obj) (its:Array Value) (n:Nat),K.lookup a=some o/\o.cls=.type "list"/\o.dict=none/\o.data=.seq its n/\its.size<=sizeLine/\Vals xs its.toList
def SqT (K:PySem.W.Frag) (H:Hp) (a:Addr) (xs:List V):Prop :=
 Rd H a (.tup xs) \/
  ∃ (o:Obj) (its:Array Value) (n:Nat),K.lookup a=some o/\o.cls=.type "tuple"/\o.data=.seq its n/\its.size<=sizeLine/\Vals xs its.toList
def aAl:Value->Option V
 | .none=>some .non
 | .bool b=>some (.bl b)
 | .int i _=>some (.int i)
 | .str x _=>some (.str x)
 | .bytes b _=>some (.byt b)
 | .float b _=>some (.flt b)
 | .ref a=>some (.ref a)
 | .type n=>some (.ty n)
 | _=>none
theorem RelV.abs {x:V} {u:Value} (r:RelV x u):aAl u=some x:=by
 cases x with
 | non=>cases r;rfl
 | bl _=>cases r;rfl
 | int _=>obtain⟨t,rfl⟩:=r;rfl
 | str _=>obtain⟨t,rfl⟩:=r;rfl
 | byt _=>obtain⟨t,rfl⟩:=r;rfl
 | flt _=>obtain⟨t,rfl⟩:=r;rfl
 | ref _=>cases r;rfl
 | ty _=>cases r;rfl
theorem RelV.inj {x y:V} {u:Value} (r:RelV x u) (q:RelV y u):x=y:=Option.some.inj (r.abs.symm.trans q.abs)
theorem Vals.inj:∀ {xs ys:List V} {us:List Value},Vals xs us->Vals ys us->xs=ys
 | _,_,_,.nil,.nil=>rfl
 | _,_,_,.cons r t,.cons r' t'=>by rw[r.inj r',Vals.inj t t']
section
variable {X:Cx} {pins:List (Addr×Obj)} {σ:St} {H:Hp} {s:Shared} {a:Addr} {xs ys:List V}
theorem SqL.of {K:PySem.W.Frag} (h:H a=some (.lst xs)):SqL K H a xs:=.inl (.inl h)
theorem SqT.of {K:PySem.W.Frag} (h:H a=some (.tup xs)):SqT K H a xs:=.inl (.inl h)
theorem Inv.list (I:Inv X pins σ H s) (h:SqL X.K H a xs):∃ its:List Value,Vals xs its/\PlainL s.heap a its.toArray/\xs.length<=sizeLine:=by
 rcases h with h | ⟨o,its,n,hk,hc,hd,hs,hz,r⟩
 ·obtain⟨z,its,n,r,e⟩:=h.ok I.hok;exact⟨its,r,⟨_,n,e,rfl,rfl,rfl⟩,z⟩
 ·refine⟨its.toList,r,⟨o,n,I.kIn a o hk,hc,hd,by simpa using hs⟩,?_⟩;have e:=r.length;simp only[Array.length_toList]at e;omega
theorem Inv.tuple (I:Inv X pins σ H s) (h:SqT X.K H a xs):∃ its:List Value,Vals xs its/\IsTup s.heap a its.toArray/\xs.length<=sizeLine:=by
 rcases h with h | ⟨o,its,n,hk,hc,hs,hz,r⟩
 ·obtain⟨z,its,r,p⟩:=h.ok I.hok;exact⟨its,r,p,z⟩
 ·refine⟨its.toList,r,⟨o,I.kIn a o hk,hc,n,by simpa using hs⟩,?_⟩;have e:=r.length;simp only[Array.length_toList]at e;omega
theorem Inv.list_inj (I:Inv X pins σ H s) (h:SqL X.K H a xs) (h':SqL X.K H a ys):xs=ys:=by
 obtain⟨its,r,⟨o,n,e,_,_,d⟩,_⟩:=I.list h;obtain⟨its',r',⟨o',n',e',_,_,d'⟩,_⟩:=I.list h';rw[e]at e';cases e';rw[d]at d'
 injection d' with d1 _
 have:its=its':=by simpa using congrArg Array.toList d1
 subst this;exact r.inj r'
end
abbrev Cx.wish (X:Cx) (E:Value->Shared->Prop):Cx:={ X with xe:=E }
abbrev Cx.nox (X:Cx):Cx:=X.wish fun _ _=>False
theorem Cx.Ok.wish {X:Cx} (ok:X.Ok) (E:Value->Shared->Prop):(X.wish E).Ok :=
 ⟨ok.mod,ok.kind,ok.glob,ok.blt,ok.above,ok.inj,ok.has,ok.cab,ok.hd,ok.frames,ok.stk,ok.exf,ok.bs,ok.bsz,ok.noex,ok.exfs,ok.funs,ok.frf⟩
theorem Cx.Ok.unwish {X:Cx} {E:Value->Shared->Prop} (ok:(X.wish E).Ok):X.Ok :=
 ⟨ok.mod,ok.kind,ok.glob,ok.blt,ok.above,ok.inj,ok.has,ok.cab,ok.hd,ok.frames,ok.stk,ok.exf,ok.bs,ok.bsz,ok.noex,ok.exfs,ok.funs,ok.frf⟩
section
variable {X:Cx} {pins:List (Addr×Obj)} {σ:St} {H:Hp} {s:Shared} {E:Value->Shared->Prop}
theorem Inv.wish (I:Inv X pins σ H s) (E:Value->Shared->Prop):Inv (X.wish E) pins σ H s:=⟨I.ok.wish E,I.os,I.bare,I.base,I.loc,I.cell,I.free,I.freeC,I.pin,I.hok,I.len⟩
theorem Inv.unwish (I:Inv (X.wish E) pins σ H s):Inv X pins σ H s:=⟨I.ok.unwish,I.os,I.bare,I.base,I.loc,I.cell,I.free,I.freeC,I.pin,I.hok,I.len⟩
theorem SP.unwish {D:pO} {f:Flow} {s':Shared} (h:SP (X.wish E) pins D f s'):SP X pins D f s':=by
 cases f with
 | next=>obtain⟨σ',H',I,q⟩:=h;exact⟨σ',H',I.unwish,q⟩
 | brk=>obtain⟨σ',H',I,q⟩:=h;exact⟨σ',H',I.unwish,q⟩
 | cont=>obtain⟨σ',H',I,q⟩:=h;exact⟨σ',H',I.unwish,q⟩
 | ret u=>obtain⟨v,σ',H',I,r,q⟩:=h;exact⟨v,σ',H',I.unwish,r,q⟩
theorem PE.nox {e:Expr} {t:TE} (h:PE X.nox e t):PE X e t:=fun pins s σ H Q I hw =>
 wpAny_mono (h pins s σ H Q (I.wish _) hw) (fun _ _ ⟨v,H',I',r,q⟩=>⟨v,H',I'.unwish,r,q⟩) fun _ _ z=>False.elim z
theorem PT.nox {e:Expr} {t:TT} (h:PT X.nox e t):PT X e t:=fun pins s σ H Q I hw =>
 wpAny_mono (h pins s σ H Q (I.wish _) hw) (fun _ _ ⟨H',I',q⟩=>⟨H',I'.unwish,q⟩) fun _ _ z=>False.elim z
theorem PSs.nox {st:List Stmt} {t:TS} (h:PSs X.nox st t):PSs X st t:=fun pins s σ H D I hw =>
 wpAny_mono (h pins s σ H D (I.wish _) hw) (fun _ _ q=>q.unwish) fun _ _ z=>False.elim z
end
section
variable {X:Cx} {st:Stmt} {rest:List Stmt} {t u:TS} {e:Expr} {te:TE} {pos:Pos}
def aAG:TS:=fun D σ H=>D.nx σ H
def aAm (t u:TS):TS:=fun D σ H=>t { D with nx:=u D } σ H
theorem bG:PSs X [] aAG:=fun _ _ σ H _ I h=>wpAny_execs_nil ⟨σ,H,I,h⟩
theorem aG (h1:PS X st t) (h2:PSs X rest u):PSs X (st :: rest) (aAm t u):=by
 intro pins s σ H D I h;refine wpAny_execs_cons (thn (h1 pins s σ H { D with nx:=u D } I h) fun f s1 q=>?_);cases f with
 | next =>
  obtain⟨σ',H',I',q⟩:=q;exact h2 pins s1 σ' H' D I' q
 | ret v=>exact q
 | brk=>exact q
 | cont=>exact q
theorem aJ (h1:PS X st t):PSs X [st] t:=by
 intro pins s σ H D I h;refine wpAny_execs_cons (thn (h1 pins s σ H D I h) fun f s1 q=>?_);cases f with
 | next=>exact wpAny_execs_nil q
 | ret v=>exact q
 | brk=>exact q
 | cont=>exact q
theorem Inv.quiet {pins:List (Addr×Obj)} {σ:St} {H:Hp} {s:Shared} (I:Inv X pins σ H s):interactive X.env=false:=by simp[interactive,I.ok.kind]
def aAH (te:TE):TS:=fun D σ H=>te σ H fun _ H1=>D.nx σ H1
theorem bI (he:PE X e te) (hs:swapsWith e none pos.line X.env=pure false:=by rfl):PS X (.Expr e pos) (aAH te):=by
 intro pins s σ H D I h;exact wpAny_Expr_any (thn (he pins s σ H _ I h) fun v s1 ⟨x,H1,I1,r1,q1⟩=>⟨σ,H1,I1,q1⟩) I.quiet hs
def aAn (te:TE):TS:=fun D σ H=>te σ H D.rt
theorem bB (he:PE X e te):PS X (.Return (some e) pos) (aAn te):=by
 intro pins s σ H D I h;exact wpAny_Return_some (thn (he pins s σ H _ I h) fun v s1 ⟨x,H1,I1,r1,q1⟩=>⟨x,σ,H1,I1,r1,q1⟩)
def aAo (c:TT) (t u:TS):TS:=fun D σ H=>c σ H fun b H1=>if b=true then t D σ H1 else u D σ H1
theorem cJ {c:Expr} {a b:List Stmt} {tc:TT} (hc:PT X c tc) (ha:PSs X a t) (hb:PSs X b u):PS X (.If c a b pos) (aAo tc t u):=by
 intro pins s σ H D I h;refine wpAny_If (thn (hc pins s σ H _ I h) fun d s1 ⟨H1,I1,q1⟩=>?_);cases d with
 | true=>exact ha pins s1 σ H1 D I1 q1
 | false=>exact hb pins s1 σ H1 D I1 q1
def p7:TS:=fun _ _ _=>False
theorem kB:PS X st p7:=fun _ _ _ _ _ _ h=>h.elim
end
abbrev TG:=V->St->Hp->(St->Hp->Prop)->Prop
abbrev TGs:=List V->St->Hp->(St->Hp->Prop)->Prop
def PG (X:Cx) (target:Expr) (t:TG):Prop :=
 ∀ (pins:List (Addr×Obj)) (s:Shared) (σ:St) (H:Hp) (v:V) (u:Value) (Q:St->Hp->Prop),Inv X pins σ H s->RelV v u->t v σ H Q ->
  wpAny (model X.prog X.w) X.A (assign target X.env u) (fun _ s'=>∃ σ' H',Inv X pins σ' H' s'/\Q σ' H') X.xe s
def PGs (X:Cx) (ts:List Expr) (t:TGs):Prop :=
 ∀ (pins:List (Addr×Obj)) (s:Shared) (σ:St) (H:Hp) (vs:List V) (us:List Value) (Q:St->Hp->Prop),Inv X pins σ H s->Vals vs us->t vs σ H Q ->
  wpAny (model X.prog X.w) X.A (assignInOrder ((assignEach ts X.env).map (·.2)) us) (fun _ s'=>∃ σ' H',Inv X pins σ' H' s'/\Q σ' H') X.xe s
abbrev p8:=V->V->V->Hp->(Hp->Prop)->Prop
def aAI (X:Cx) (t:p8):Prop :=
 ∀ (pins:List (Addr×Obj)) (s:Shared) (σ:St) (H:Hp) (o i v:V) (ov iv u:Value) (Q:Hp->Prop),Inv X pins σ H s->RelV o ov->RelV i iv->RelV v u->t o i v H Q ->
  wpAny (model X.prog X.w) X.A (setItem ov iv u) (fun _ s'=>∃ H',Inv X pins σ H' s'/\Q H') X.xe s
abbrev TIp:=V->V->Hp->VK->Prop
def PIp (X:Cx) (op:Operator) (t:TIp):Prop :=
 ∀ (pins:List (Addr×Obj)) (s:Shared) (σ:St) (H:Hp) (x y:V) (v u:Value) (Q:VK),Inv X pins σ H s->RelV x v->RelV y u->t x y H Q ->
  wpAny (model X.prog X.w) X.A (inplaceOp op v u) (EP X pins σ Q) X.xe s
section
variable {X:Cx} {pos:Pos}
def rZ (i:Nat):TG:=fun v σ H Q=>Q (σ.set i (some v)) H
theorem aL {i:Nat} {x:Str} (hN:X.N.Nodup) (hi:X.N[i]?=some x) (hx:Loc X.env.scope x) (hf:X.fn x=true\/X.env.scope.names.lookup x=some .local:=by first | exact .inl rfl | exact .inr rfl | assumption):PG X (.Name x pos) (rZ i):=by
 intro pins s σ H v u Q I r h;exact wpAny_assign_Name (pN I hN hi hx r (fun s' I'=>⟨_,H,I',h⟩) hf)
def aAJ:TGs:=fun vs σ H Q=>vs=[]/\Q σ H
def j7 (t:TG) (u:TGs):TGs:=fun vs σ H Q=>∃ v r,vs=v :: r/\t v σ H fun σ' H'=>u r σ' H' Q
theorem bW:PGs X [] aAJ:=by
 intro pins s σ H vs us Q I r h;obtain⟨e,h⟩:=h;subst e;cases r;exact assignInOrder_nil ⟨σ,H,I,h⟩
theorem aN {e:Expr} {es:List Expr} {t:TG} {u:TGs} (h1:PG X e t) (h2:PGs X es u)
 (hs:(assignEach (e :: es) X.env).map (·.2)=assign e X.env :: (assignEach es X.env).map (·.2):=by rfl):PGs X (e :: es) (j7 t u):=by
 intro pins s σ H vs us Q I r h;obtain⟨v,vr,e1,h⟩:=h;subst e1;cases r with
 | cons r rr =>
  rw[hs];refine assignInOrder_cons (thn (h1 pins s σ H _ _ _ I r h) fun _ s1 ⟨σ1,H1,I1,q1⟩=>?_);exact h2 pins s1 σ1 H1 _ _ Q I1 rr q1
def p9 (K:PySem.W.Frag) (n:Nat) (t:TGs):TG:=fun v σ H Q=>∃ a xs,v=.ref a/\SqT K H a xs/\xs.length=n/\t xs σ H Q
theorem jK {es:List Expr} {k:Nat} {t:TGs} {n:Nat} (hc:X.calm=true) (h:PGs X es t)
 (hn:(assignEach es X.env).length=n:=by rfl) (hst:(assignEach es X.env).findIdx? (·.1)=none:=by rfl):PG X (.Tuple es k pos) (p9 X.K n t):=by
 intro pins s σ H v u Q I r hw;obtain⟨a,xs,e1,hq,hl,hw⟩:=hw;subst e1;cases r;obtain⟨its,rv,ht,hz⟩:=I.tuple hq;refine assign_Tuple_tuple (I.ok.hd hc) ht (by simp[hn,<- hl,rv.length]) hst fun h' hx=>?_;have I1:Inv X pins σ H { s with heap:=h' }:=I.kept (t':=s.toks) fun b o e=>hx b o (aBb (aBT e)) e;exact h pins _ σ H xs _ Q I1 (by simpa using rv) hw
def aAp (to ti:TE) (t:p8):TG:=fun v σ H Q=>to σ H fun o H1=>ti σ H1 fun i H2=>t o i v H2 fun H3=>Q σ H3
theorem N7 {o i:Expr} {to ti:TE} {t:p8} (ho:PE X o to) (hi:PE X i ti) (hs:aAI X t)
 (ha:∀ v,assign (.Subscript o i pos) X.env v=(do
  let ov <- holding [v] (eval o X.env)
  let iv <- holding [v,ov] (eval i X.env)
  standAt pos
  holding [v,ov,iv] (setItem ov iv v)
  release [v,ov,iv] []):=by intro _;rfl):PG X (.Subscript o i pos) (aAp to ti t):=by
 intro pins s σ H v u Q I r h;rw[ha];refine aBL (wpAny_holding (thn (ho pins s σ H _ I h) fun ov s1 ⟨x,H1,I1,r1,q1⟩=>?_));refine aBL (wpAny_holding (thn (hi pins s1 σ H1 _ I1 q1) fun iv s2 ⟨y,H2,I2,r2,q2⟩=>?_));refine aBL (wpAny_standAt (aBL (wpAny_holding (thn (hs pins s2 σ H2 x y v ov iv u _ I2 r1 r2 r q2) fun _ s3 ⟨H3,I3,q3⟩=>?_))));exact wpAny_release ⟨σ,H3,I3,q3⟩
def r6 (te:TE) (g:TG):TS:=fun D σ H=>te σ H fun x H1=>g x σ H1 D.nx
theorem xS {tg e:Expr} {te:TE} {g:TG} (he:PE X e te) (hg:PG X tg g) (hs:swapsWithSole [tg] e pos.line X.env=pure false:=by rfl) (hw:swappedStores [tg] e X.env=pure none:=by rfl)
 (h1:(assignEach [tg] X.env).map (·.2)=[assign tg X.env]:=by rfl):PS X (.Assign [tg] e pos) (r6 te g):=by
 intro pins s σ H D I h;refine wpAny_Assign_stores (thn (he pins s σ H _ I h) fun v s1 ⟨x,H1,I1,r1,q1⟩=>?_) hs hw;rw[h1];exact thn (hg pins s1 σ H1 x v _ I1 r1 q1) fun _ s2 q=>q
theorem aR {i:Nat} {x:Str} {e:Expr} {te:TE} {pos':Pos} (hN:X.N.Nodup) (hi:X.N[i]?=some x) (hx:Loc X.env.scope x) (he:PE X e te) (hs:swapsWith e (some (.Name x pos')) pos.line X.env=pure false:=by rfl) (hf:X.fn x=true\/X.env.scope.names.lookup x=some .local:=by first | exact .inl rfl | exact .inr rfl | assumption) :
 PS X (.Assign [.Name x pos'] e pos) (r6 te (rZ i)):=by
 intro pins s σ H D I h;refine wpAny_Assign_Name (thn (he pins s σ H _ I h) fun v s1 ⟨y,H1,I1,r1,q1⟩=>?_) hs;exact pN I1 hN hi hx r1 (fun s2 I2=>⟨_,H1,I2,q1⟩) hf
def aAq (i:Nat) (te:TE) (ti:TIp):TS:=fun D σ H=>∃ x,σ[i]?=some (some x)/\te σ H fun y H1=>ti x y H1 fun z H2=>D.nx (σ.set i (some z)) H2
theorem N8 {i:Nat} {x:Str} {e:Expr} {te:TE} {op:Operator} {ti:TIp} {pos':Pos} (hN:X.N.Nodup) (hi:X.N[i]?=some x) (hx:Loc X.env.scope x) (he:PE X e te) (ho:PIp X op ti) (hf:X.fn x=true\/X.env.scope.names.lookup x=some .local:=by first | exact .inl rfl | exact .inr rfl | assumption) :
 PS X (.AugAssign (.Name x pos') op e pos) (aAq i te ti):=by
 intro pins s σ H D I h;obtain⟨v,e1,h⟩:=h;obtain⟨m,hn,hl⟩:=I.loc;have vis:Vis X.env.scope x:=by rcases hx with k | k;exact .inl k;exact .inr (.inl k)
 obtain⟨u,r,l⟩:=hl i x v hi e1 vis;refine wpAny_AugAssign_Name ?_;have go:wpAny (model X.prog X.w) X.A (eval e X.env) (fun w s₂=>wpAny (model X.prog X.w) X.A (inplaceOp op u w) (fun r s₃=>wpAny (model X.prog X.w) X.A (storeName X.env x r) (fun _=>SP X pins D .next) X.xe s₃) X.xe s₂) X.xe s:=by
  refine thn (he pins s σ H _ I h) fun w s1 ⟨y,H1,I1,r1,q1⟩=>?_;refine thn (ho pins s1 σ H1 v y u w _ I1 r r1 q1) fun z s2 ⟨zv,H2,I2,r2,q2⟩=>?_;exact pN I2 hN hi hx r2 (fun s3 I3=>⟨_,H2,I3,q2⟩) hf
 rcases l with ⟨hk,hm⟩ | ⟨hk,c,hc,hcell⟩
 ·exact wpAny_loadName_local I.ok.kind hk hn hm go
 ·rcases hk with hk | hk
  ·exact wpAny_loadName_cell I.ok.kind hk hc hcell go
  ·rcases hx with k | k
   ·have:X.env.scope.names.lookup x=some .free:=hk;rw[k]at this;cases this
   ·have:X.env.scope.names.lookup x=some .free:=hk;rw[k]at this;cases this
def ipI (f:Int->Int->Int):TIp:=fun x y H Q=>∃ i j,x=.int i/\y=.int j/\Q (.int (f i j)) H
theorem r8:PIp X .Add (ipI fun i j=>i+j):=by
 intro pins s σ H x y v u Q I r1 r2 h;obtain⟨i,j,e1,e2,q⟩:=h;subst e1;subst e2;obtain⟨t,rfl⟩:=r1;obtain⟨t',rfl⟩:=r2;exact iadd_int ⟨.int _,H,I.tok _,⟨_,rfl⟩,q⟩
theorem r9:PIp X .Sub (ipI fun i j=>i - j):=by
 intro pins s σ H x y v u Q I r1 r2 h;obtain⟨i,j,e1,e2,q⟩:=h;subst e1;subst e2;obtain⟨t,rfl⟩:=r1;obtain⟨t',rfl⟩:=r2;exact isub_int ⟨.int _,H,I.tok _,⟨_,rfl⟩,q⟩
end
section
variable {X:Cx} {pos:Pos}
def N9 (c:TT) (tb:TS):TS:=fun D σ H=>∃ W:Nat->St->Hp->Prop,(∃ m,W m σ H)/\∀ m σ H,W m σ H ->
 c σ H fun b H1=>if b=true then ∃ N:St->Hp->Prop,(∀ σ' H',N σ' H'->∃ m',m'<m/\W m' σ' H')/\tb { D with nx:=N,ct:=N,bk:=D.nx } σ H1 else D.nx σ H1
theorem pP {c:Expr} {body:List Stmt} {tc:TT} {tb:TS} (hp:PassesOwn (model X.prog X.w) X.A X.env X.xe) (hc:PT X c tc) (hb:PSs X body tb):PS X (.While c body [] pos) (N9 tc tb):=by
 intro pins s σ H D I h;obtain⟨W,⟨m0,w0⟩,turn⟩:=h;refine wpAny_While (codeAny_whileLoop (fun n s'=>∃ σ' H',Inv X pins σ' H' s'/\W n σ' H') ?_ m0 ⟨σ,H,I,w0⟩);rintro n s1 ⟨σ1,H1,I1,w1⟩;refine wpAny_passesOwn hp (thn (hc pins s1 σ1 H1 _ I1 (turn n σ1 H1 w1)) fun b s2 ⟨H2,I2,q2⟩=>?_);cases b with
 | true =>
  obtain⟨N,hN,q2⟩:=q2;rw[if_pos rfl];refine wpAny_passesOwn hp (thn (hb pins s2 σ1 H2 _ I2 q2) fun f s3 q3=>?_);cases f with
  | next =>
   obtain⟨σ3,H3,I3,n3⟩:=q3;obtain⟨m',hm,w3⟩:=hN σ3 H3 n3;exact⟨m',hm,σ3,H3,I3,w3⟩
  | cont =>
   obtain⟨σ3,H3,I3,n3⟩:=q3;obtain⟨m',hm,w3⟩:=hN σ3 H3 n3;exact⟨m',hm,σ3,H3,I3,w3⟩
  | brk=>exact q3
  | ret v=>exact q3
 | false =>
  rw[if_neg aB0];exact wpAny_execs_nil ⟨σ1,H2,I2,q2⟩
end
structure It where
 go:Nat->Hp->Prop
 yld:Nat->Hp->V->Hp->Prop
 stop:Nat->Hp->Prop
def jZ (X:Cx) (pins:List (Addr×Obj)) (H:Hp) (b:Addr):Prop :=
 H b=none/\b≠X.env.locals/\b∉X.fs/\(b∈X.ex\/X.s₀.heap.objs.size<=b)/\(∀ x c,X.env.cells.lookup x=some c->c≠b)/\∀ p∈X.pn++pins,p.1≠b
theorem Inv.fpOk {X:Cx} {pins:List (Addr×Obj)} {σ:St} {H H':Hp} {s:Shared} {b:Addr} (I:Inv X pins σ H s) (hb:s.heap.objs.size<=b) (hn:H' b=none):jZ X pins H' b:=by
 refine⟨hn,aBe (aB4 I.lt hb),I.nofs hb,.inr (Nat.le_trans I.sz hb),fun x c e z=>?_,fun p hp z=>?_⟩
 ·obtain⟨v,q⟩:=I.cell x c e;exact absurd (aB4 q.lt (by rw[z];exact hb)) (Nat.lt_irrefl _)
 ·exact absurd (aB4 (aBT (I.pin p hp).1) (by rw[z];exact hb)) (Nat.lt_irrefl _)
structure tR (P:Program) (w:World) (K:PySem.W.Frag) (tg:Expr) (J:It) (fp:List Addr) (it:Addr) (tn:Nat->Heap->Prop):Prop where
 mem:it∈fp
 obj:∀ i h,tn i h->∀ b∈fp,∃ o,h.get? b=some o/\∀ v,o.data≠.cell v
 keep:∀ i h h',tn i h->(∀ b∈fp,∀ o,h.get? b=some o->h'.get? b=some o)->tn i h'
 item:∀ (X:Cx),X.prog=P->X.w=w->X.K=K->X.calm=true->∀ (i:Nat) (pins:List (Addr×Obj)) (s:Shared) (σ:St) (H:Hp) (E:Value->Shared->Prop),Inv X pins σ H s->(∀ b∈fp,jZ X pins H b)->tn i s.heap->J.go i H ->
  wpAny (model P w) X.A (pyNext (.ref it)) (fun r s1=>∃ u,r=some u /\
   wpAny (model P w) X.A (letOwnedTupleGo tg (.ref it) u) (fun _ s2=>∃ x H',Inv X pins σ H' s2/\RelV x u/\J.yld i H x H'/\tn (i+1) s2.heap/\∀ b∈fp,H' b=none) E s1) E s
 done:∀ (X:Cx),X.prog=P->X.w=w->X.K=K->X.calm=true->∀ (i:Nat) (pins:List (Addr×Obj)) (s:Shared) (σ:St) (H:Hp) (E:Value->Shared->Prop),Inv X pins σ H s->(∀ b∈fp,jZ X pins H b)->tn i s.heap->J.stop i H ->
  wpAny (model P w) X.A (pyNext (.ref it)) (fun r s1=>r=none/\Inv X pins σ H s1) E s
 self:∀ (A:Around) (i:Nat) (s:Shared) (Q:Value->Shared->Prop) (E:Value->Shared->Prop),tn i s.heap->Q (.ref it) s->wpAny (model P w) A (pyIter (.ref it)) Q E s
abbrev TI:=St->Hp->(It->Hp->Prop)->Prop
def PIE (X:Cx) (pins:List (Addr×Obj)) (σ:St) (tg:Expr) (R:It->Hp->Prop) (itv:Value) (s2:Shared):Prop :=
 ∃ (it:Addr) (fp:List Addr) (tn:Nat->Heap->Prop) (J:It) (H':Hp),itv=.ref it/\Inv X pins σ H' s2/\tR X.prog X.w X.K tg J fp it tn/\tn 0 s2.heap/\(∀ b∈fp,jZ X pins H' b)/\R J H'
def PI (X:Cx) (tg iter:Expr) (wi:TI):Prop :=
 ∀ (pins:List (Addr×Obj)) (s:Shared) (σ:St) (H:Hp) (R:It->Hp->Prop),Inv X pins σ H s->wi σ H R ->
  wpAny (model X.prog X.w) X.A (eval iter X.env) (fun v s1=>wpAny (model X.prog X.w) X.A (pyIter v) (PIE X pins σ tg R) X.xe s1) X.xe s
theorem O0 {M:Model} {A:Around} {E:Value->Shared->Prop} {s:Shared} {tg:Expr} {it:Addr} {u:Value} {o:Obj} {n:String} {vs:Array Value} {Q:Unit->Shared->Prop} (ho:s.heap.get? it=some o) (hc:o.cls=.type n) (hd:o.data=.fields vs)
 (hn:["enumerate","zip","dict_itemiterator","dict_reverseitemiterator","odict_iterator","itertools.zip_longest","itertools.pairwise"].contains n=false) (hQ:Q () s):wpAny M A (letOwnedTupleGo tg (.ref it) u) Q E s:=by
 unfold letOwnedTupleGo;cases tg <;> first
  | exact aBM hQ
  | (cases u <;> first
   | exact aBM hQ
   | (refine aBL (wpAny_load ho ?_)
      rw[hc,hd];show wpAny M A (if (["enumerate","zip","dict_itemiterator","dict_reverseitemiterator","odict_iterator","itertools.zip_longest","itertools.pairwise"].contains n && vs[0]? == some (rawInt _))=true then _ else _) Q E s;rw[if_neg (by intro h;rw[hn,Bool.false_and]at h;cases h)];exact aBM hQ))
def Itl (K:PySem.W.Frag) (a:Addr):It :=
 ⟨fun i H=>∃ xs x,SqL K H a xs/\xs[i]?=some x,fun i H x H'=>H'=H/\∀ xs,SqL K H a xs->xs[i]?=some x,fun i H=>∃ xs,SqL K H a xs/\xs.length<=i⟩
def Itr (lo:Int) (n:Nat):It:=⟨fun i _=>i<n,fun i H x H'=>H'=H/\x=.int (lo+i),fun i _=>n<=i⟩
theorem D1 {P:Program} {w:World} {K:PySem.W.Frag} {tg:Expr} (a it:Addr):tR P w K tg (Itl K a) [it] it (fun i h=>h.IsListIter it a i) where
 mem:=by simp
 obj:=fun i h st b hb=>by
  have e:b=it:=by simpa using hb
  subst e;obtain⟨o,e,c,d⟩:=st;exact⟨o,e,fun v z=>by rw[d]at z;cases z⟩
 keep:=fun i h h' st k=>st.at fun o e=>k it (by simp) o e
 item:=by
  intro X hP hw hK hc i pins s σ H E I hf st hg;subst hP hw hK;obtain⟨xs,x,hq,hx⟩:=hg;obtain⟨its,rv,p,hz⟩:=I.list hq;obtain⟨u,hu,ru⟩:=rv.get hx;obtain⟨f0,f1,f2,f3,f4,f5⟩:=hf it (by simp);refine wpAny_pyNext_list_item st p.isList (x:=u) (by simpa using hu) fun h' st' sb=>?_;have I1:Inv X pins σ H { s with heap:=h' }:=I.turned (t':=s.toks) (fun b o hb e=>(sb.2 b hb).trans e) f0 f1 f3 f4 f5;obtain⟨o,e,c,d⟩:=id st';exact⟨u,rfl,O0 (s:={ s with heap:=h' }) e c d (by decide) ⟨x,H,I1,ru,⟨rfl,fun ys hy=>by rw[I.list_inj hy hq];exact hx⟩,st',fun b hb=>(hf b hb).1⟩⟩
 done:=by
  intro X hP hw hK hc i pins s σ H E I hf st hg;subst hP hw hK;obtain⟨xs,hq,hx⟩:=hg;obtain⟨its,rv,p,hz⟩:=I.list hq;obtain⟨f0,f1,f2,f3,f4,f5⟩:=hf it (by simp);have hl:=rv.length;exact wpAny_pyNext_list_end (I.ok.hd hc) st p.isList (by simp;omega) fun h' eb=>⟨rfl,I.turned (t':=s.toks) (fun b o hb e=>eb b o hb e) f0 f1 f3 f4 f5⟩
 self:=fun _ _ _ _ _ st h=>wpAny_pyIter_listiter st h
theorem xT {P:Program} {w:World} {K:PySem.W.Frag} {tg:Expr} (it:Addr) (lo:Int) (n:Nat):tR P w K tg (Itr lo n) [it] it (fun i h=>IsRangeIter h it (lo+(i:Nat) * 1) ((n:Int) - (i:Nat)) 1) where
 mem:=by simp
 obj:=fun i h st b hb=>by
  have e:b=it:=by simpa using hb
  subst e;exact⟨_,st,fun v z=>by
   have z':Data.fields _=Data.cell v:=z;cases z'⟩
 keep:=fun i h h' st k=>k it (by simp) _ st
 item:=by
  intro X hP hw hK hc i pins s σ H E I hf st hg;subst hP hw hK;obtain⟨f0,f1,f2,f3,f4,f5⟩:=hf it (by simp);have W:=Walks.range (prog:=X.prog) (w:=X.w) (I.ok.hd hc) it lo 1 n;refine W.item i s _ _ hg st fun v h' tk hv st' kk=>?_;obtain⟨t,rfl⟩:=hv;have I1:Inv X pins σ H { s with heap:=h',toks:=tk }:=I.turned (fun b o hb e=>kk b o (by simpa using hb) e) f0 f1 f3 f4 f5;refine⟨_,rfl,O0 (s:={ s with heap:=h',toks:=tk }) (n:="range_iterator") st' rfl rfl (by decide) ⟨.int (lo+i),H,I1,⟨t,?_⟩,⟨rfl,rfl⟩,st',fun b hb=>(hf b hb).1⟩⟩;rw[Int.mul_one]
 done:=by
  intro X hP hw hK hc i pins s σ H E I hf st hg;subst hP hw hK;obtain⟨f0,f1,f2,f3,f4,f5⟩:=hf it (by simp);exact wpAny_pyNext_range_end (I.ok.hd hc) st (by have:n<=i:=hg;omega) fun h' eb=>⟨rfl,I.turned (t':=s.toks) (fun b o hb e=>eb b o hb e) f0 f1 f3 f4 f5⟩
 self:=fun _ _ _ _ _ st h=>wpAny_pyIter_rangeiter st h
section
variable {X:Cx} {tg:Expr}
def j8 (K:PySem.W.Frag) (tl:TE):TI:=fun σ H R=>tl σ H fun x H1=>∃ a,x=.ref a/\(∃ xs,SqL K H1 a xs)/\R (Itl K a) H1
theorem bL {l:Expr} {tl:TE} (hl:PE X l tl):PI X tg l (j8 X.K tl):=by
 intro pins s σ H R I h;refine thn (hl pins s σ H _ I h) fun v s1 ⟨x,H1,I1,r1,q1⟩=>?_;obtain⟨a,e,⟨xs,hq⟩,q⟩:=q1;subst e;cases r1;obtain⟨its,rv,p,hz⟩:=I1.list hq;refine wpAny_pyIter_list p.isList ?_;refine⟨s1.heap.objs.size,[s1.heap.objs.size],_,_,H1,rfl,I1.kept (t':=s1.toks) fun b o e=>aBO _ e,D1 a _,⟨_,aBU _ rfl,rfl,rfl⟩,fun b hb=>?_,q⟩;have e:b=s1.heap.objs.size:=by simpa using hb
 subst e;exact I1.fpOk (Nat.le_refl _) (I1.hok.fresh (Nat.le_refl _))
theorem vL {pins:List (Addr×Obj)} {σ:St} {H:Hp} {s:Shared} {R:It->Hp->Prop} {E:Value->Shared->Prop} {lo hi:Int} {t u v:Tok} {tk:Nat} (I:Inv X pins σ H s) (h1:-(2 ^ 62)<=lo) (h2:lo<2 ^ 62) (h3:-(2 ^ 62)<=hi) (h4:hi<2 ^ 62)
 (q:R (Itr lo (hi - lo).toNat) H):wpAny (model X.prog X.w) X.A (pyIter (.ref s.heap.objs.size)) (PIE X pins σ tg R) E { s with heap:=s.heap.push { cls:=.type "range",data:=.fields #[.int lo t,.int hi u,.int 1 v] },toks:=tk }:=by
 refine wpAny_pyIter_range (IsRange.new ..) (small_one h1 h2 h3 h4) ?_;have I1:Inv X pins σ H { s with heap:=s.heap.push { cls:=.type "range",data:=.fields #[.int lo t,.int hi u,.int 1 v] },toks:=tk }:=I.kept fun b o e=>aBO _ e;refine⟨(s.heap.push { cls:=.type "range",data:=.fields #[.int lo t,.int hi u,.int 1 v] }).objs.size,[(s.heap.push { cls:=.type "range",data:=.fields #[.int lo t,.int hi u,.int 1 v] }).objs.size],_,_,H,rfl,
  I1.kept (t':=tk) fun b o e=>aBO _ e,xT _ lo (hi - lo).toNat,?_,fun b hb=>?_,q⟩
 ·have e1:lo+((0:Nat):Int) * 1=lo:=by simp
  have e2:(((hi - lo).toNat:Nat):Int) - ((0:Nat):Int)=Builtin.Range.rangeSize lo hi 1:=by rw[rangeSize_one];split <;> omega
  show IsRangeIter _ _ (lo+((0:Nat):Int) * 1) ((((hi - lo).toNat:Nat):Int) - ((0:Nat):Int)) 1;rw[e1,e2];exact aBU _ rfl
 ·have e:b=(s.heap.push { cls:=.type "range",data:=.fields #[.int lo t,.int hi u,.int 1 v] }).objs.size:=by simpa using hb
  subst e;exact I1.fpOk (Nat.le_refl _) (I1.hok.fresh (Nat.le_refl _))
def aAK (ta:TA):TI:=fun σ H R=>ta σ H fun vs H1=>∃ j:Int,vs=[.int j]/\-(2 ^ 62)<=j/\j<2 ^ 62/\R (Itr 0 j.toNat) H1
def aAL (ta:TA):TI:=fun σ H R=>ta σ H fun vs H1=>∃ i j:Int,vs=[.int i,.int j]/\(-(2 ^ 62)<=i/\i<2 ^ 62/\-(2 ^ 62)<=j/\j<2 ^ 62)/\R (Itr i (j - i).toNat) H1
theorem fN {a:Expr} {ta:TA} {p pos:Pos} (hg:Gl X "range") (hm:X.mg "range"=none) (ha:PA X [a] ta) (hs:starEach [a] X.env=[(false,eval a X.env)]:=by rfl):PI X tg (.Call (.Name "range" p) [a] [] pos) (aAK ta):=by
 intro pins s σ H R I h;refine Call_ (gF I hg hm boot_range (PyProof.Rows.callWith_type1 (thn (ha pos pins s σ H _ I h) fun us s1 ⟨vs,H1,I1,r1,q1⟩=>?_) hs rfl));obtain⟨j,e,q1,q2,q⟩:=q1;subst e;cases r1 with
 | cons r rr =>
  cases rr;obtain⟨t,rfl⟩:=r;exact call_range_1 (vL I1 (by omega) (by omega) q1 q2 (by simpa using q))
theorem nL {a b:Expr} {ta:TA} {p pos:Pos} (hg:Gl X "range") (hm:X.mg "range"=none) (ha:PA X [a,b] ta) (hs:starEach [a,b] X.env=[(false,eval a X.env),(false,eval b X.env)]:=by rfl) (hs2:starEach [b] X.env=[(false,eval b X.env)]:=by rfl) :
 PI X tg (.Call (.Name "range" p) [a,b] [] pos) (aAL ta):=by
 intro pins s σ H R I h;refine Call_ (gF I hg hm boot_range (PyProof.Rows.callWith_type1 (thn (ha pos pins s σ H _ I h) fun us s1 ⟨vs,H1,I1,r1,q1⟩=>?_) (by rw[hs,hs2]) (by rw[hs2];rfl)));obtain⟨i,j,e,⟨q1,q2,q3,q4⟩,q⟩:=q1;subst e;cases r1 with
 | cons r rr =>
  cases rr with
  | cons r' rr =>
   cases rr;obtain⟨t,rfl⟩:=r;obtain⟨t',rfl⟩:=r';exact call_range_2 (vL I1 q1 q2 q3 q4 q)
def aAr (wi:TI) (g:TG) (tb:TS):TS:=fun D σ H=>wi σ H fun J H1=>∃ W:Nat->Nat->St->Hp->Prop,(∃ m,W 0 m σ H1)/\∀ i m σ H,W i m σ H ->
 (J.stop i H/\D.nx σ H)\/(J.go i H/\∃ N:St->Hp->Prop,(∀ σ' H',N σ' H'->∃ m',m'<m/\W (i+1) m' σ' H')/\∀ x H',J.yld i H x H'->g x σ H' fun σ2 H2=>tb { D with nx:=N,ct:=N,bk:=D.nx } σ2 H2)
def cS (fp:List Addr) (h:Heap):List (Addr×Obj):=fp.filterMap fun b=>(h.get? b).map fun o=>(b,o)
theorem cH {fp:List Addr} {h:Heap} {b:Addr} {o:Obj} (hb:b∈fp) (e:h.get? b=some o):(b,o)∈cS fp h:=List.mem_filterMap.mpr ⟨b,hb,by rw[e];rfl⟩
theorem iW {fp:List Addr} {h:Heap} {p:Addr×Obj} (hp:p∈cS fp h):p.1∈fp/\h.get? p.1=some p.2:=by
 obtain⟨b,hb,e⟩:=List.mem_filterMap.mp hp;cases q:h.get? b with
 | none=>rw[q]at e;cases e
 | some o =>
  rw[q]at e;have e':(b,o)=p:=Option.some.inj e;subst e';exact⟨hb,q⟩
theorem Inv.pinned {pins:List (Addr×Obj)} {σ:St} {H:Hp} {s:Shared} {fp:List Addr} (I:Inv X pins σ H s) (hf:∀ b∈fp,jZ X pins H b) (ho:∀ b∈fp,∃ o,s.heap.get? b=some o/\∀ v,o.data≠.cell v):Inv X (pins++cS fp s.heap) σ H s :=
 I.pins_of fun p hp=>(aBs.mp hp).elim (fun z=>I.pin p (aBR _ z)) fun z=>by
  obtain⟨hb,e⟩:=iW z;obtain⟨f0,f1,f2,_⟩:=hf p.1 hb;obtain⟨o,e',d⟩:=ho p.1 hb;rw[e]at e';cases e';exact⟨e,f0,f1,f2,d⟩
theorem Inv.unpinned {pins pl:List (Addr×Obj)} {σ:St} {H:Hp} {s:Shared} (I:Inv X (pins++pl) σ H s):Inv X pins σ H s:=I.pins_of fun p hp=>I.pin p (aBR _ (aB7 _ hp))
theorem dL {iter:Expr} {body:List Stmt} {wi:TI} {g:TG} {tb:TS} {pos:Pos} (hp:PassesOwn (model X.prog X.w) X.A X.env X.xe) (hc:X.calm=true) (hi:PI X tg iter wi) (hg:PG X tg g) (hb:PSs X body tb)
 (hs:∀ x,foldedSetIterable iter X.env x=pure x:=by intro _;rfl):PS X (.For tg iter body [] pos) (aAr wi g tb):=by
 intro pins s σ H D I h;refine wpAny_For (thn (hi pins s σ H _ I h) fun v s1 h1=>thn h1 fun itv s2 h2=>?_) hs;obtain⟨it,fp,tn,J,H2,e,I2,T,st2,f2,W,⟨m0,w0⟩,turn⟩:=h2;subst e;have stat:∀ {H':Hp},(∀ b∈fp,H' b=none)->∀ b∈fp,jZ X pins H' b:=fun hn b hb=>⟨hn b hb,(f2 b hb).2⟩;refine codeAny_forLoop_any (fun n s'=>∃ i σ' H',Inv X pins σ' H' s'/\tn i s'.heap/\(∀ b∈fp,H' b=none)/\W i n σ' H') ?_ m0 ⟨0,σ,H2,I2,st2,fun b hb=>(f2 b hb).1,w0⟩;rintro n s3 ⟨i,σ3,H3,I3,st3,fr3,w3⟩;rcases turn i n σ3 H3 w3 with ⟨stop,qn⟩ | ⟨go,N,hN,step⟩
 ·refine wpAny_passesOwn hp (thn (T.done X rfl rfl rfl hc i pins s3 σ3 H3 X.xe I3 (stat fr3) st3 stop) fun r s4 ⟨hr,I4⟩=>?_);subst hr;exact wpAny_execs_nil ⟨σ3,H3,I4,qn⟩
 ·refine wpAny_passesOwn hp (thn (T.item X rfl rfl rfl hc i pins s3 σ3 H3 X.xe I3 (stat fr3) st3 go) fun r s4 ⟨u,hr,h4⟩=>?_);subst hr;refine wpAny_passesOwn hp (thn h4 fun _ s5 ⟨x,H5,I5,r5,y5,st5,fr5⟩=>?_);have I5':=I5.pinned (stat fr5) (T.obj _ _ st5);refine wpAny_passesOwn hp (thn (hg _ s5 σ3 H5 x u _ I5' r5 (step x H5 y5)) fun _ s6 ⟨σ6,H6,I6,q6⟩=>?_);refine wpAny_passesOwn hp (thn (hb _ s6 σ6 H6 _ I6 q6) fun f s7 q7=>?_);have again:∀ {σ7:St} {H7:Hp},Inv X (pins++cS fp s5.heap) σ7 H7 s7->N σ7 H7->∃ m,m<n/\∃ i σ' H',Inv X pins σ' H' s7/\tn i s7.heap/\(∀ b∈fp,H' b=none)/\W i m σ' H':=fun {σ7 H7} I7 n7=>by
   obtain⟨m',hm,w7⟩:=hN σ7 H7 n7;refine⟨m',hm,i+1,σ7,H7,I7.unpinned,T.keep _ _ _ st5 fun b hb o e=>(I7.pin (b,o) (aBR _ (aBR _ (cH hb e)))).1,fun b hb=>?_,w7⟩;obtain⟨o,e,d⟩:=T.obj _ _ st5 b hb;exact(I7.pin (b,o) (aBR _ (aBR _ (cH hb e)))).2.1
  cases f with
  | next=>obtain⟨σ7,H7,I7,n7⟩:=q7;exact again I7 n7
  | cont=>obtain⟨σ7,H7,I7,n7⟩:=q7;exact again I7 n7
  | brk=>obtain⟨σ7,H7,I7,q7⟩:=q7;exact⟨σ7,H7,I7.unpinned,q7⟩
  | ret v=>obtain⟨x7,σ7,H7,I7,r7,q7⟩:=q7;exact⟨x7,σ7,H7,I7.unpinned,r7,q7⟩
end
theorem dR {K:PySem.W.Frag} {a:Addr} {xs:List V} {g:TG} {tb:TS} {D:pO} {σ:St} {H:Hp} (Pv:Nat->St->Hp->Prop) (h0:Pv 0 σ H) (hl:∀ i σ H,i<=xs.length->Pv i σ H->SqL K H a xs)
 (hs:∀ i x σ H,xs[i]?=some x->Pv i σ H->g x σ H fun σ2 H2=>tb { D with nx:=Pv (i+1),ct:=Pv (i+1),bk:=D.nx } σ2 H2) (hd:∀ σ H,Pv xs.length σ H->D.nx σ H) :
 ∃ W:Nat->Nat->St->Hp->Prop,(∃ m,W 0 m σ H)/\∀ i m σ H,W i m σ H ->
  ((Itl K a).stop i H/\D.nx σ H)\/((Itl K a).go i H/\∃ N:St->Hp->Prop,(∀ σ' H',N σ' H'->∃ m',m'<m/\W (i+1) m' σ' H')/\∀ x H',(Itl K a).yld i H x H'->g x σ H' fun σ2 H2=>tb { D with nx:=N,ct:=N,bk:=D.nx } σ2 H2):=by
 refine⟨fun i m σ H=>m=xs.length - i/\i<=xs.length/\Pv i σ H,⟨xs.length,by simp,Nat.zero_le _,h0⟩,?_⟩;rintro i m σ H ⟨rfl,hi,p⟩;have q:=hl i σ H hi p
 by_cases hlt:i<xs.length
 ·refine .inr ⟨⟨xs,xs[i],q,by simp[hlt]⟩,Pv (i+1),fun σ' H' p'=>⟨xs.length - (i+1),by omega,rfl,hlt,p'⟩,fun x H' y=>?_⟩;obtain⟨e,y⟩:=y;subst e;exact hs i x σ _ (y xs q) p
 ·have e:i=xs.length:=by omega
  subst e;exact .inl ⟨⟨xs,q,Nat.le_refl _⟩,hd σ H p⟩
theorem gT {lo:Int} {n:Nat} {g:TG} {tb:TS} {D:pO} {σ:St} {H:Hp} (Pv:Nat->St->Hp->Prop) (h0:Pv 0 σ H)
 (hs:∀ i σ H,i<n->Pv i σ H->g (.int (lo+i)) σ H fun σ2 H2=>tb { D with nx:=Pv (i+1),ct:=Pv (i+1),bk:=D.nx } σ2 H2) (hd:∀ σ H,Pv n σ H->D.nx σ H) :
 ∃ W:Nat->Nat->St->Hp->Prop,(∃ m,W 0 m σ H)/\∀ i m σ H,W i m σ H ->
  ((Itr lo n).stop i H/\D.nx σ H)\/((Itr lo n).go i H/\∃ N:St->Hp->Prop,(∀ σ' H',N σ' H'->∃ m',m'<m/\W (i+1) m' σ' H')/\∀ x H',(Itr lo n).yld i H x H'->g x σ H' fun σ2 H2=>tb { D with nx:=N,ct:=N,bk:=D.nx } σ2 H2):=by
 refine⟨fun i m σ H=>m=n - i/\i<=n/\Pv i σ H,⟨n,by simp,Nat.zero_le _,h0⟩,?_⟩;rintro i m σ H ⟨rfl,hi,p⟩
 by_cases hlt:i<n
 ·refine .inr ⟨hlt,Pv (i+1),fun σ' H' p'=>⟨n - (i+1),by omega,rfl,hlt,p'⟩,fun x H' y=>?_⟩;obtain⟨e,y⟩:=y;subst e y;exact hs i σ _ hlt p
 ·have e:i=n:=by omega
  subst e;exact .inl ⟨Nat.le_refl _,hd σ H p⟩
theorem O1 {c:TT} {tb:TS} {D:pO} {σ:St} {H:Hp} (Pv:St->Hp->Prop) (μ:St->Hp->Nat) (h0:Pv σ H)
 (hs:∀ σ H,Pv σ H->c σ H fun b H1=>if b=true then tb { D with nx:=fun σ' H'=>Pv σ' H'/\μ σ' H'<μ σ H,ct:=fun σ' H'=>Pv σ' H'/\μ σ' H'<μ σ H,bk:=D.nx } σ H1 else D.nx σ H1)
 (mono:∀ σ H Q Q',(∀ b H1,Q b H1->Q' b H1)->c σ H Q->c σ H Q'):N9 c tb D σ H:=by
 refine⟨fun m σ H=>m=μ σ H/\Pv σ H,⟨_,rfl,h0⟩,?_⟩;rintro m σ H ⟨rfl,p⟩;refine mono σ H _ _ (fun b H1 q=>?_) (hs σ H p);cases b with
 | true=>exact⟨_,fun σ' H' ⟨p',l⟩=>⟨_,l,rfl,p'⟩,q⟩
 | false=>exact q
abbrev R2:=V->V->Hp->VK->Prop
def OpR (X:Cx) (f:Value->Value->Sem Value) (r:R2):Prop :=
 ∀ (pins:List (Addr×Obj)) (s:Shared) (σ:St) (H:Hp) (x y:V) (v u:Value) (Q:VK),Inv X pins σ H s->RelV x v->RelV y u->r x y H Q ->
  wpAny (model X.prog X.w) X.A (f v u) (EP X pins σ Q) X.xe s
def UnR (X:Cx) (f:Value->Sem Value) (r:V->Hp->VK->Prop):Prop :=
 ∀ (pins:List (Addr×Obj)) (s:Shared) (σ:St) (H:Hp) (x:V) (v:Value) (Q:VK),Inv X pins σ H s->RelV x v->r x H Q ->
  wpAny (model X.prog X.w) X.A (f v) (EP X pins σ Q) X.xe s
def eY (X:Cx) (f:Value) (r:List V->Hp->VK->Prop):Prop :=
 ∀ (pins:List (Addr×Obj)) (s:Shared) (σ:St) (H:Hp) (xs:List V) (us:List Value) (Q:VK),Inv X pins σ H s->Vals xs us->r xs H Q ->
  wpAny (model X.prog X.w) X.A (call f us) (EP X pins σ Q) X.xe s
def aAs (X:Cx) (r:V->Hp->(Bool->Hp->Prop)->Prop):Prop :=
 ∀ (pins:List (Addr×Obj)) (s:Shared) (σ:St) (H:Hp) (x:V) (v:Value) (Q:Bool->Hp->Prop),Inv X pins σ H s->RelV x v->r x H Q ->
  wpAny (model X.prog X.w) X.A (truthy v) (TP X pins σ Q) X.xe s
def tOp (r:R2) (ta tb:TE):TE:=fun σ H Q=>ta σ H fun x H1=>tb σ H1 fun y H2=>r x y H2 Q
def tUn (r:V->Hp->VK->Prop) (ta:TE):TE:=fun σ H Q=>ta σ H fun x H1=>r x H1 Q
def rI (C:Int->Int->Prop) (g:Int->Int->V):R2:=fun x y H Q=>∃ i j,x=.int i/\y=.int j/\C i j/\Q (g i j) H
def rI0 (g:Int->Int->V):R2:=fun x y H Q=>∃ i j,x=.int i/\y=.int j/\Q (g i j) H
def rU (g:Int->V):V->Hp->VK->Prop:=fun x H Q=>∃ i,x=.int i/\Q (g i) H
section
variable {X:Cx} {a b c:Expr} {ta tb tc:TE} {pos:Pos}
theorem t3 (ha:PE X a ta) (hb:PE X b tb) {pins:List (Addr×Obj)} {s:Shared} {σ:St} {H:Hp} {R:V->V->Hp->Prop} (I:Inv X pins σ H s)
 (h:ta σ H fun x H1=>tb σ H1 fun y H2=>R x y H2) {Q:Value->Shared->Prop} {f:Value->Value->Sem Value}
 (hf:∀ v u s2 x y H2,Inv X pins σ H2 s2->RelV x v->RelV y u->R x y H2->wpAny (model X.prog X.w) X.A (f v u) Q X.xe s2) :
 wpAny (model X.prog X.w) X.A (eval a X.env) (fun v s₁=>wpAny (model X.prog X.w) X.A (eval b X.env) (fun u s₂=>wpAny (model X.prog X.w) X.A (f v u) Q X.xe s₂) X.xe s₁) X.xe s:=by
 refine thn (ha pins s σ H _ I h) fun v s1 ⟨x,H1,I1,r1,q1⟩=>?_;refine thn (hb pins s1 σ H1 _ I1 q1) fun u s2 ⟨y,H2,I2,r2,q2⟩=>?_;exact hf v u s2 x y H2 I2 r1 r2 q2
theorem aK {op:Operator} {r:R2} (ho:OpR X (binaryOp op) r) (ha:PE X a ta) (hb:PE X b tb):PE X (.BinOp a op b pos) (tOp r ta tb):=by
 intro pins s σ H Q I h;exact wpAny_BinOp (t3 ha hb I h fun v u s2 x y H2 I2 rx ry q=>ho pins s2 σ H2 x y v u Q I2 rx ry q)
theorem mF {op:UnaryOp} {r:V->Hp->VK->Prop} (ho:UnR X (unaryOp op) r) (ha:PE X a ta):PE X (.UnaryOp op a pos) (tUn r ta):=by
 intro pins s σ H Q I h;exact UnaryOp_ (thn (ha pins s σ H _ I h) fun v s1 ⟨x,H1,I1,r1,q1⟩=>ho pins s1 σ H1 x v Q I1 r1 q1)
theorem opI {f:Value->Value->Sem Value} {C:Int->Int->Prop} {g:Int->Int->Int}
 (rule:∀ (i j:Int) (t u:Tok) (s:Shared) (Q:Value->Shared->Prop) (E:Value->Shared->Prop),C i j->Q (.int (g i j) s.toks) { s with toks:=s.toks+1 }->wpAny (model X.prog X.w) X.A (f (.int i t) (.int j u)) Q E s) :
 OpR X f (rI C fun i j=>.int (g i j)):=by
 intro pins s σ H x y v u Q I rx ry h;obtain⟨i,j,rfl,rfl,hc,q⟩:=h;obtain⟨t,rfl⟩:=rx;obtain⟨t',rfl⟩:=ry;exact rule i j t t' s _ _ hc ⟨.int (g i j),H,I.tok _,⟨_,rfl⟩,q⟩
theorem aAM {f:Value->Value->Sem Value} {g:Int->Int->Int}
 (rule:∀ (i j:Int) (t u:Tok) (s:Shared) (Q:Value->Shared->Prop) (E:Value->Shared->Prop),Q (.int (g i j) s.toks) { s with toks:=s.toks+1 }->wpAny (model X.prog X.w) X.A (f (.int i t) (.int j u)) Q E s) :
 OpR X f (rI0 fun i j=>.int (g i j)):=by
 intro pins s σ H x y v u Q I rx ry h;obtain⟨i,j,rfl,rfl,q⟩:=h;obtain⟨t,rfl⟩:=rx;obtain⟨t',rfl⟩:=ry;exact rule i j t t' s _ _ ⟨.int (g i j),H,I.tok _,⟨_,rfl⟩,q⟩
theorem O2 {f:Value->Value->Sem Value} {g:Int->Int->Bool}
 (rule:∀ (i j:Int) (t u:Tok) (s:Shared) (Q:Value->Shared->Prop) (E:Value->Shared->Prop),Q (.bool (g i j)) s->wpAny (model X.prog X.w) X.A (f (.int i t) (.int j u)) Q E s) :
 OpR X f (rI0 fun i j=>.bl (g i j)):=by
 intro pins s σ H x y v u Q I rx ry h;obtain⟨i,j,rfl,rfl,q⟩:=h;obtain⟨t,rfl⟩:=rx;obtain⟨t',rfl⟩:=ry;exact rule i j t t' s _ _ ⟨.bl (g i j),H,I,rfl,q⟩
def aAt (i j:Int):Prop:=0<j/\j<1073741824
def aAu (i j:Int):Prop:=0<=j/\j<=1000000/\i.natAbs<2 ^ 64
def CMul (i j:Int):Prop:=(-(2 ^ 64)<i/\i<2 ^ 64)\/(-(2 ^ 64)<j/\j<2 ^ 64)
theorem CMul.ok {i j:Int} (h:CMul i j):IntMulOk i j:=by
 rcases h with ⟨h1,h2⟩ | ⟨h1,h2⟩
 ·exact .of_left (intBits_le_64 h1 h2)
 ·exact .of_right (intBits_le_64 h1 h2)
theorem bQ:OpR X (binaryOp .Add) (rI0 fun i j=>.int (i+j)):=aAM fun _ _ _ _ _ _ _ q=>add_int q
theorem cG:OpR X (binaryOp .Sub) (rI0 fun i j=>.int (i - j)):=aAM fun _ _ _ _ _ _ _ q=>sub_int q
theorem cN:OpR X (binaryOp .Mult) (rI CMul fun i j=>.int (i * j)):=opI fun _ _ _ _ _ _ _ hc q=>mul_int q hc.ok
theorem lC:OpR X (binaryOp .FloorDiv) (rI aAt fun i j=>.int (i / j)):=opI fun i j _ _ _ _ _ hc q=>by
 have h1:(0:Int)<j:=hc.1;have h2:j<1073741824:=hc.2;exact floordiv_int (by omega) (by rw[Int.fdiv_eq_ediv_of_nonneg i (by omega)];exact q) (.inl (PyProof.noPylong_small (by omega)))
theorem cO:OpR X (binaryOp .Mod) (rI (fun _ j=>0<j) fun i j=>.int (i % j)):=opI fun i j _ _ _ _ _ hc q=>by
 have h1:(0:Int)<j:=hc;exact mod_int' (by omega) (by rw[Int.fmod_eq_emod_of_nonneg i (by omega)];exact q)
theorem pQ:OpR X (binaryOp .Pow) (rI aAu fun i j=>.int (i ^ j.toNat)):=opI fun _ _ _ _ _ _ _ hc q=>pow_int_small hc.1 hc.2.1 hc.2.2 q
theorem unI {f:Value->Sem Value} {g:Int->Int}
 (rule:∀ (i:Int) (t:Tok) (s:Shared) (Q:Value->Shared->Prop) (E:Value->Shared->Prop),Q (.int (g i) s.toks) { s with toks:=s.toks+1 }->wpAny (model X.prog X.w) X.A (f (.int i t)) Q E s) :
 UnR X f (rU fun i=>.int (g i)):=by
 intro pins s σ H x v Q I rx h;obtain⟨i,rfl,q⟩:=h;obtain⟨t,rfl⟩:=rx;exact rule i t s _ _ ⟨.int (g i),H,I.tok _,⟨_,rfl⟩,q⟩
theorem jL:UnR X (unaryOp .USub) (rU fun i=>.int (-i)):=unI fun _ _ _ _ _ q=>neg_int q
end
def aAN:V->V->Bool
 | .non,.non=>true | .non,.int _=>true | .int _,.non=>true | .non,.bl _=>true | .bl _,.non=>true | .non,.str _=>true | .str _,.non=>true
 | .int _,.int _=>true | .bl _,.bl _=>true | .str _,.str _=>true | .byt _,.byt _=>true
 | .int _,.str _=>true | .str _,.int _=>true | .bl _,.str _=>true | .str _,.bl _=>true
 | _,_=>false
def rEq:R2:=fun x y H Q=>aAN x y=true/\Q (.bl (decide (x=y))) H
def rNe:R2:=fun x y H Q=>aAN x y=true/\Q (.bl (!decide (x=y))) H
theorem zN {i j:Int}:decide (V.int i=V.int j)=(i == j):=by
 rw[Bool.eq_iff_iff];simp
theorem O3 {i j:Bool}:decide (V.bl i=V.bl j)=(i == j):=by
 rw[Bool.eq_iff_iff];simp
theorem zO {i j:Str}:decide (V.str i=V.str j)=(i == j):=by
 rw[Bool.eq_iff_iff];simp
theorem zP {i j:Array UInt8}:decide (V.byt i=V.byt j)=(i.toList == j.toList):=by
 rw[Bool.eq_iff_iff];cases i;cases j;simp
section
variable {X:Cx} {a b c:Expr} {ta tb tc:TE} {pos:Pos}
theorem bX {pins:List (Addr×Obj)} {σ:St} {H:Hp} {s:Shared} {Q:VK} {k k':Bool} (I:Inv X pins σ H s) (q:Q (.bl k) H) (e:k=k'):EP X pins σ Q (.bool k') s:=by
 subst e;exact⟨.bl k,H,I,rfl,q⟩
theorem O4:OpR X (compareOp .Eq) rEq:=by
 intro pins s σ H x y v u Q I rx ry h;obtain⟨hs,q⟩:=h;cases x with
 | non =>
  cases rx;cases y with
  | non=>cases ry;exact PySem.EqNone.eq_none_none (bX I q (by simp))
  | bl j=>cases ry;exact PySem.EqNone.eq_none_bool (bX I q (by simp))
  | int j=>obtain⟨t',rfl⟩:=ry;exact PySem.EqNone.eq_none_int (bX I q (by simp))
  | str j=>obtain⟨t',rfl⟩:=ry;exact PySem.EqNone.eq_none_str (bX I q (by simp))
  | _=>exact absurd (show false=true from hs) aB0
 | bl i =>
  cases rx;cases y with
  | non=>cases ry;exact PySem.EqNone.eq_bool_none (bX I q (by simp))
  | bl j=>cases ry;exact eq_bool (bX I q O3)
  | str j=>obtain⟨t',rfl⟩:=ry;exact PySem.EqMixed.eq_bool_str (bX I q (by simp))
  | _=>exact absurd (show false=true from hs) aB0
 | int i =>
  obtain⟨t,rfl⟩:=rx;cases y with
  | non=>cases ry;exact PySem.EqNone.eq_int_none (bX I q (by simp))
  | int j=>obtain⟨t',rfl⟩:=ry;exact eq_int (bX I q zN)
  | str j=>obtain⟨t',rfl⟩:=ry;exact PySem.EqMixed.eq_int_str (bX I q (by simp))
  | _=>exact absurd (show false=true from hs) aB0
 | str i =>
  obtain⟨t,rfl⟩:=rx;cases y with
  | non=>cases ry;exact PySem.EqNone.eq_str_none (bX I q (by simp))
  | bl j=>cases ry;exact PySem.EqMixed.eq_str_bool (bX I q (by simp))
  | int j=>obtain⟨t',rfl⟩:=ry;exact PySem.EqMixed.eq_str_int (bX I q (by simp))
  | str j=>obtain⟨t',rfl⟩:=ry;exact eq_str (bX I q zO)
  | _=>exact absurd (show false=true from hs) aB0
 | byt i =>
  obtain⟨t,rfl⟩:=rx;cases y with
  | byt j=>obtain⟨t',rfl⟩:=ry;exact PySem.W.eq_bytes (bX I q zP)
  | _=>exact absurd (show false=true from hs) aB0
 | _=>cases y <;> exact absurd (show false=true from hs) aB0
theorem jW:OpR X (compareOp .NotEq) rNe:=by
 intro pins s σ H x y v u Q I rx ry h;obtain⟨hs,q⟩:=h;cases x with
 | non =>
  cases rx;cases y with
  | non=>cases ry;exact PySem.EqNone.ne_none_none (bX I q (by simp))
  | bl j=>cases ry;exact PySem.EqNone.ne_none_bool (bX I q (by simp))
  | int j=>obtain⟨t',rfl⟩:=ry;exact PySem.EqNone.ne_none_int (bX I q (by simp))
  | str j=>obtain⟨t',rfl⟩:=ry;exact PySem.EqNone.ne_none_str (bX I q (by simp))
  | _=>exact absurd (show false=true from hs) aB0
 | bl i =>
  cases rx;cases y with
  | non=>cases ry;exact PySem.EqNone.ne_bool_none (bX I q (by simp))
  | bl j=>cases ry;exact ne_bool (bX I q (congrArg not O3))
  | str j=>obtain⟨t',rfl⟩:=ry;exact PySem.EqMixed.ne_bool_str (bX I q (by simp))
  | _=>exact absurd (show false=true from hs) aB0
 | int i =>
  obtain⟨t,rfl⟩:=rx;cases y with
  | non=>cases ry;exact PySem.EqNone.ne_int_none (bX I q (by simp))
  | int j=>obtain⟨t',rfl⟩:=ry;exact ne_int (bX I q (congrArg not zN))
  | str j=>obtain⟨t',rfl⟩:=ry;exact PySem.EqMixed.ne_int_str (bX I q (by simp))
  | _=>exact absurd (show false=true from hs) aB0
 | str i =>
  obtain⟨t,rfl⟩:=rx;cases y with
  | non=>cases ry;exact PySem.EqNone.ne_str_none (bX I q (by simp))
  | bl j=>cases ry;exact PySem.EqMixed.ne_str_bool (bX I q (by simp))
  | int j=>obtain⟨t',rfl⟩:=ry;exact PySem.EqMixed.ne_str_int (bX I q (by simp))
  | str j=>obtain⟨t',rfl⟩:=ry;exact ne_str (bX I q (congrArg not zO))
  | _=>exact absurd (show false=true from hs) aB0
 | byt i =>
  obtain⟨t,rfl⟩:=rx;cases y with
  | byt j=>obtain⟨t',rfl⟩:=ry;exact PySem.W.ne_bytes (bX I q (congrArg not zP))
  | _=>exact absurd (show false=true from hs) aB0
 | _=>cases y <;> exact absurd (show false=true from hs) aB0
theorem zQ:OpR X (compareOp .Lt) (rI0 fun i j=>.bl (decide (i<j))):=O2 fun _ _ _ _ _ _ _ q=>lt_int q
theorem O5:OpR X (compareOp .LtE) (rI0 fun i j=>.bl (decide (i<=j))):=O2 fun _ _ _ _ _ _ _ q=>le_int q
theorem oB:OpR X (compareOp .Gt) (rI0 fun i j=>.bl (decide (j<i))):=O2 fun _ _ _ _ _ _ _ q=>gt_int q
theorem nM:OpR X (compareOp .Is) (fun x y H Q=>y=.non/\Q (.bl (decide (x=.non))) H):=by
 intro pins s σ H x y v u Q I rx ry h;obtain⟨rfl,q⟩:=h;cases ry;refine is_none_gen (bX I q ?_);cases x <;> first
  | (cases rx;rfl)
  | (obtain⟨t,rfl⟩:=rx;rfl)
theorem aP (b:Expr) {op:CmpOp} (h:op≠.In:=by decide) (h2:op≠.NotIn:=by decide):behindInMarks op b=false:=by
 have e1:(op == CmpOp.In)=false:=by cases op <;> first | rfl | exact absurd rfl h
 have e2:(op == CmpOp.NotIn)=false:=by cases op <;> first | rfl | exact absurd rfl h2
 cases b <;> simp[behindInMarks,e1,e2]
theorem dE {op:CmpOp} {r:R2} (ho:OpR X (compareOp op) r) (ha:PE X a ta) (hb:PE X b tb) (hm:behindInMarks op b=false):PE X (.Compare a [op] [b] pos) (tOp r ta tb):=by
 intro pins s σ H Q I h;exact wpAny_Compare1 (t3 ha hb I h fun v u s2 x y H2 I2 rx ry q=>ho pins s2 σ H2 x y v u Q I2 rx ry q) hm
def j9 (t:TE):TT:=fun σ H Q=>t σ H fun x H'=>∃ k,x=.bl k/\Q k H'
theorem aV {op:CmpOp} {r:R2} (ho:OpR X (compareOp op) r) (ha:PE X a ta) (hb:PE X b tb) (hm:behindInMarks op b=false):PT X (.Compare a [op] [b] pos) (j9 (tOp r ta tb)):=by
 intro pins s σ H Q I h;refine wpAny_isTrue_Compare1 (thn (ha pins s σ H _ I h) fun v s1 ⟨x,H1,I1,r1,q1⟩=>thn (hb pins s1 σ H1 _ I1 q1) fun u s2 ⟨y,H2,I2,r2,q2⟩ =>
  thn (ho pins s2 σ H2 x y v u _ I2 r1 r2 q2) fun c s3 ⟨z,H3,I3,r3,k,e,q3⟩=>?_) hm
 subst e;cases r3;exact wpAny_truthy_bool ⟨H3,I3,q3⟩
def t4 (r r':R2) (ta tb tc:TE):TE:=fun σ H Q=>ta σ H fun x H1=>tb σ H1 fun y H2=>r x y H2 fun z H3=>∃ k,z=.bl k /\
 (if k=true then tc σ H3 fun w' H4=>r' y w' H4 Q else Q (.bl false) H3)
theorem O6 {op op':CmpOp} {r r':R2} (ho:OpR X (compareOp op) r) (ho':OpR X (compareOp op') r') (ha:PE X a ta) (hb:PE X b tb) (hc:PE X c tc)
 (hm:lastMarks [op,op'] [b,c]=false:=by with_unfolding_all rfl):PT X (.Compare a [op,op'] [b,c] pos) (j9 (t4 r r' ta tb tc)):=by
 intro pins s σ H Q I h;refine isTrue_chain (thn (ha pins s σ H _ I h) fun v s1 ⟨x,H1,I1,r1,q1⟩=>test_link (thn (hb pins s1 σ H1 _ I1 q1) fun u s2 ⟨y,H2,I2,r2,q2⟩ =>
  thn (ho pins s2 σ H2 x y v u _ I2 r1 r2 q2) fun d s3 ⟨z,H3,I3,r3,k,e,q3⟩=>?_)) hm
 subst e;cases r3;refine wpAny_truthy_bool ?_;cases k with
 | false =>
  obtain⟨k',e',q'⟩:=q3;cases e';exact ite_ff ⟨H3,I3,q'⟩
 | true =>
  refine ite_tt (test_last (thn (hc pins s3 σ H3 _ I3 q3) fun w' s4 ⟨z',H4,I4,r4,q4⟩=>thn (ho' pins s4 σ H4 y z' u w' _ I4 r2 r4 q4) fun d' s5 ⟨z2,H5,I5,r5,k2,e2,q5⟩=>?_));subst e2;cases r5;exact wpAny_truthy_bool ⟨H5,I5,q5⟩
def aAO (K:PySem.W.Frag) (x:V) (H:Hp) (k:Bool):Prop :=
 match x with
 | .non=>k=false
 | .bl b=>k=b
 | .int i=>k=(i != 0)
 | .str y=>y.length<=sizeLine/\k=((y.length:Int) != 0)
 | .byt y=>y.size<=sizeLine/\k=((y.size:Int) != 0)
 | .ref p=>(∃ xs,SqL K H p xs/\k=!xs.isEmpty)\/(∃ xs,SqT K H p xs/\k=!xs.isEmpty)\/∃ kvs,H p=some (.dK kvs)/\k=!kvs.isEmpty
 | _=>False
theorem xU {κ:Type} {kvs:List (κ×V)} {vs:List (κ×Value)} (r:KV kvs vs):(!vs.isEmpty)=!kvs.isEmpty:=by
 cases r <;> rfl
theorem pR {xs:List V} {its:List Value} (r:Vals xs its):(!its.toArray.isEmpty)=!xs.isEmpty:=by
 cases r <;> simp
theorem nN:(sizeLine:Nat)<2 ^ 63:=by rw[sizeLine_eq];decide
theorem t5:aAs X (fun x H Q=>∃ k,aAO X.K x H k/\Q k H):=by
 intro pins s σ H x v Q I rx h;obtain⟨k,e,q⟩:=h;have hl:=nN;have hs:sizeLine=16777216:=sizeLine_eq;cases x with
 | non =>
  cases rx;have e':k=false:=e;subst e';exact truthy_none ⟨H,I,q⟩
 | bl b =>
  cases rx;have e':k=b:=e;subst e';exact wpAny_truthy_bool ⟨H,I,q⟩
 | int i =>
  obtain⟨t,rfl⟩:=rx;have e':k=(i != 0):=e;subst e';exact PySem.P.truthy_int ⟨H,I,q⟩
 | str y =>
  obtain⟨t,rfl⟩:=rx;obtain⟨hy,e'⟩:y.length<=sizeLine/\k=((y.length:Int) != 0):=e;subst e';exact PySem.P.truthy_str (by omega) ⟨H,I.tok _,q⟩
 | byt y =>
  obtain⟨t,rfl⟩:=rx;obtain⟨hy,e'⟩:y.size<=sizeLine/\k=((y.size:Int) != 0):=e;subst e';exact PySem.W.truthy_bytes (by omega) ⟨H,I.tok _,q⟩
 | ref p =>
  cases rx;have e':(∃ xs,SqL X.K H p xs/\k=!xs.isEmpty)\/(∃ xs,SqT X.K H p xs/\k=!xs.isEmpty)\/∃ kvs,H p=some (.dK kvs)/\k=!kvs.isEmpty:=e;rcases e' with ⟨xs,hx,e'⟩ | ⟨xs,hx,e'⟩ | ⟨kvs,hx,e'⟩
  ·subst e';obtain⟨its,r,pl,hz⟩:=I.list hx;have hlen:=r.length;exact wpAny_truthy_list pl.isList (by simp only[aBV];omega) ⟨H,I.tok _,by rw[pR r];exact q⟩
  ·subst e';obtain⟨its,r,pl,hz⟩:=I.tuple hx;have hlen:=r.length;exact truthy_tuple pl (by simp only[aBV];omega) ⟨H,I.tok _,by rw[pR r];exact q⟩
  ·subst e';obtain⟨hz,hS,vs,r,m⟩:kvs.length<=sizeLine/\(p == sysModules)=false/\∃ vs,KV kvs vs/\s.heap.DictOf (bR X.prog X.w) p vs:=I.hok p _ hx;have hlen:kvs.length=vs.length:=Paired.length r;exact wpAny_truthy_dict hS m (by omega) ⟨H,I.tok _,by rw[xU r];exact q⟩
 | _=>exact(show False from e).elim
theorem eM (ha:PE X a ta) (he:∀ whole,isTrue a X.env whole=(do let v <- whole;standAt a.pos;holding [v] (truthy v))) :
 PT X a (fun σ H Q=>ta σ H fun x H'=>∃ k,aAO X.K x H' k/\Q k H'):=by
 intro pins s σ H Q I h;exact isTrue_plain (thn (ha pins s σ H _ I h) fun v s1 ⟨x,H1,I1,r1,q1⟩=>t5 pins s1 σ H1 x v Q I1 r1 q1) (he _)
theorem hU {x:V} {us:List Value} (r:Vals [x] us):∃ u,us=[u]/\RelV x u:=by
 cases r with
 | cons r1 r2=>cases r2;exact⟨_,rfl,r1⟩
theorem aAP {x y:V} {us:List Value} (r:Vals [x,y] us):∃ u w',us=[u,w']/\RelV x u/\RelV y w':=by
 cases r with
 | cons r1 r2 =>
  cases r2 with
  | cons r3 r4=>cases r4;exact⟨_,_,rfl,r1,r3⟩
theorem lD (hc:X.calm=true):eY X (.builtin "min") (fun xs H Q=>∃ i j,xs=[.int i,.int j]/\Q (.int (if j<i then j else i)) H):=by
 intro pins s σ H xs us Q I r h;obtain⟨i,j,rfl,q⟩:=h;obtain⟨u,w',rfl,⟨t,rfl⟩,⟨t',rfl⟩⟩:=aAP r;refine min_two_ints (I.ok.hd hc) fun h' tk k=>⟨_,H,I.kept k,?_,q⟩
 by_cases hj:j<i
 ·rw[if_pos hj,if_pos hj];exact⟨_,rfl⟩
 ·rw[if_neg hj,if_neg hj];exact⟨_,rfl⟩
end
structure ObjM (h:Heap) (x dx C:Addr) (mA:Str->Option Value):Prop where
 obj:h.get? x=some (PySem.W.instObj C dx)
 ns:h.Ns1 dx mA
 ne:dx≠x
theorem D4 {h:Heap} {dx:Addr} {mA:Str->Option Value} (n:h.Ns1 dx mA):∃ od,h.get? dx=some od/\∀ name,PySem.W.lookIn name od=some (mA name):=by
 obtain⟨o,es,ep,ho,hd,hk,_,hm⟩:=n;refine⟨o,ho,fun name=>?_⟩;have e:=hm name;unfold nsFind findBy at e;rw[<- Array.find?_toList]at e;unfold PySem.W.lookIn;rw[hd];dsimp only;split
 ·rename_i y q
  rw[q]at e;exact congrArg some e
 ·rename_i q
  rw[q]at e;have a:es.toList.any (·.refKey)=false:=by
   rw[List.any_eq_false];intro y hy;obtain⟨z,t,hkey⟩:=hk y (Array.mem_toList_iff.mp hy);simp[DictEntry.refKey,hkey]
  have a':¬ es.toList.any (·.refKey)=true:=by rw[a];exact aB0
  rw[if_neg a'];exact congrArg some e
theorem ObjM.look {h:Heap} {x dx C:Addr} {mA:Str->Option Value} (I:ObjM h x dx C mA):∃ od,PySem.W.InstAt h x (PySem.W.instObj C dx) C (some od)/\∀ name,PySem.W.lookIn name od=some (mA name) :=
 let ⟨od,ho,hl⟩:=D4 I.ns
 ⟨od,⟨I.obj,rfl,rfl,ho⟩,hl⟩
section
variable {prog:Program} {w:World} {A:Around} {E:Value->Shared->Prop} {s:Shared} {K:PySem.W.Frag} {x dx C f:Addr} {mA:Str->Option Value} {name:Str} {v:Value}
end
theorem RelO.some_of {v:V} {o:Option Value} (r:RelO (some v) o):∃ u,o=some u/\RelV v u:=by
 cases o with
 | none=>exact(show False from r).elim
 | some u=>exact⟨u,rfl,r⟩
section
variable {P:Program} {w:World} {H H':Hp} {h h':Heap} {a C dx:Addr} {fs fs':List (Str×V)}
theorem X8 (hok:HOk P w H h) (e:H a=some (.ins C dx fs)):∃ mA,ObjM h a dx C mA/\(∀ f,RelO (fs.lookup f) (mA f))/\PySem.Within mA (fs.map (·.1))/\fs.length<=1000/\H dx=some (.own a):=by
 obtain⟨d,z,ne,ob,mA,n,r,q⟩:=(show ObjOk P w H h a (.ins C dx fs) from hok a _ e);exact⟨mA,⟨ob,n,ne⟩,r,q,z,d⟩
end
structure Cls (K:PySem.W.Frag) (C:Addr):Prop where
 pg:PySem.W.plainGet K C Str.empty=true
 hd:PySem.W.hasDictIn K C=true
 po:PySem.W.plainOver K C=true
 sa:PySem.W.findIn K (.ref C) "__setattr__"=some (some (.builtin "object.__setattr__"))
theorem Cls.get {K:PySem.W.Frag} {C:Addr} (c:Cls K C) (f:Str):PySem.W.plainGet K C f=true:=c.pg
section
variable {X:Cx} {pins:List (Addr×Obj)} {σ:St} {H:Hp} {s:Shared} {a C dx:Addr} {fs:List (Str×V)} {f:Str} {v:V} {A:Around} {E:Value->Shared->Prop}
theorem Inv.made (I:Inv X pins σ H s):Inv X pins σ (upd (upd H s.heap.objs.size (.own (s.heap.objs.size+1))) (s.heap.objs.size+1) (.ins C s.heap.objs.size []))
 { s with heap:=(s.heap.push PySem.W.emptyDict).push (PySem.W.instObj C s.heap.objs.size) }:=by
 have e1:(s.heap.push PySem.W.emptyDict).get? s.heap.objs.size=some PySem.W.emptyDict:=aBU s.heap rfl;have e2:((s.heap.push PySem.W.emptyDict).push (PySem.W.instObj C s.heap.objs.size)).get? (s.heap.objs.size+1)=some (PySem.W.instObj C s.heap.objs.size):=by
  have:=aBU (s.heap.push PySem.W.emptyDict) (o:=PySem.W.instObj C s.heap.objs.size) rfl
  rwa [Heap.size_push]at this
 have e3:(s.heap.push PySem.W.emptyDict).Ns s.heap.objs.size (fun _=>none):=⟨PySem.W.emptyDict,#[],_,e1,rfl,(fun e he=>absurd he (by simp)),fun _=>rfl⟩;have I1:=I.laid (a:=s.heap.objs.size) (o:=.own (s.heap.objs.size+1)) (h':=s.heap.push PySem.W.emptyDict) (t':=s.toks) (fun b u q=>aBO _ q) (Nat.le_refl _) ⟨_,e1⟩;refine I1.laid (a:=s.heap.objs.size+1) (o:=.ins C s.heap.objs.size []) (t':=s.toks) (fun b u q=>aBO _ q) (Nat.le_of_eq (Heap.size_push _ _)) ?_;have ne:s.heap.objs.size≠s.heap.objs.size+1:=aBb (Nat.lt_succ_self _);refine⟨by rw[aH ne,aB],Nat.zero_le _,ne,e2,fun _=>none,(Heap.Ns1.of_empty e3).at fun o q=>aBO _ q,fun _=>True.intro,fun y hy=>absurd rfl hy⟩
end
section
variable {X:Cx} {o e value:Expr} {f:Str} {pos pos' tpos:Pos} {ta tv:TE}
end
section
variable {X:Cx} {pins:List (Addr×Obj)} {σ:St} {H:Hp} {s:Shared} {A:Around} {E:Value->Shared->Prop} {Q:Value->Shared->Prop} {c:Value} {b:Bool}
inductive nO (K:PySem.W.Frag) (H:Hp):V->Value->Prop where
 | non:nO K H .non (.type "NoneType")
 | bl (x:Bool):nO K H (.bl x) (.type "bool")
 | int (i:Int):nO K H (.int i) (.type "int")
 | str (x:Str):nO K H (.str x) (.type "str")
 | flt (x:UInt64):nO K H (.flt x) (.type "float")
 | lst {a:Addr} {xs:List V} (e:H a=some (.lst xs)):nO K H (.ref a) (.type "list")
 | frz {a:Addr} {o:Obj} {xs:List V} (e:H a=some (.frz o (.lst xs))):nO K H (.ref a) (.type "list")
 | tup {a:Addr} {xs:List V} (e:H a=some (.tup xs)):nO K H (.ref a) (.type "tuple")
 | dK {a:Addr} {kvs:List (Key×V)} (e:H a=some (.dK kvs)):nO K H (.ref a) (.type "dict")
 | dT {a:Addr} {kvs:List (List Key×V)} (e:H a=some (.dT kvs)):nO K H (.ref a) (.type "dict")
 | ins {a C dx:Addr} {fs:List (Str×V)} (e:H a=some (.ins C dx fs)) (cl:Cls K C) (ha:PySem.W.findIn K (.ref C) "__class__"=some (some (.builtin "object.__class__")))
  (hn:PySem.W.specialIn K (.builtin "object.__class__") "__get__"=some (some (.builtin "getset_descriptor.__get__"))) (htk:PySem.W.takesIn K (.builtin "object.__class__")=some true)
  (hm:PySem.W.mroIn K C (.type "object")=some true):nO K H (.ref a) (.ref C)
theorem D5 {x:V} {u t:Value} (I:Inv X pins σ H s) (rx:RelV x u) (ty:nO X.K H x t) (e:PySem.W.kitOne X.K t c=some b) (h:∀ tk,Q (.bool b) { s with toks:=tk }) :
 wpAny (model X.prog X.w) A (call (.builtin "isinstance") [u,c]) Q E s:=by
 cases ty with
 | non=>cases (show u=Value.none from rx);exact PySem.W.kia_one PySem.W.kitx_none I.kIn True.intro e (fun z=>nomatch z) h
 | bl y=>cases (show u=Value.bool y from rx);exact PySem.W.kia_one PySem.W.kitx_bool I.kIn True.intro e (fun z=>nomatch z) h
 | int i=>obtain⟨t,q⟩:=(show ∃ t,u=Value.int i t from rx);cases q;exact PySem.W.kia_one PySem.W.kitx_int I.kIn True.intro e (fun z=>nomatch z) h
 | str y=>obtain⟨t,q⟩:=(show ∃ t,u=Value.str y t from rx);cases q;exact PySem.W.kia_one PySem.W.kitx_str I.kIn True.intro e (fun z=>nomatch z) h
 | flt y=>obtain⟨t,q⟩:=(show ∃ t,u=Value.float y t from rx);cases q;exact PySem.W.kia_one PySem.W.kitx_float I.kIn True.intro e (fun z=>nomatch z) h
 | @lst a xs ea =>
  cases (show u=Value.ref a from rx);obtain⟨_,_,n,_,h1⟩:=(show ObjOk X.prog X.w H s.heap a (.lst xs) from I.hok a _ ea);exact PySem.W.kia_one PySem.W.kitx_list I.kIn ⟨_,h1,rfl⟩ e (fun z=>nomatch z) h
 | @frz a ob xs ea =>
  cases (show u=Value.ref a from rx);obtain⟨_,_,_,n,_,h1⟩:=(show ObjOk X.prog X.w H s.heap a (.frz ob (.lst xs)) from I.hok a _ ea);exact PySem.W.kia_one PySem.W.kitx_list I.kIn ⟨_,h1,rfl⟩ e (fun z=>nomatch z) h
 | @tup a xs ea =>
  cases (show u=Value.ref a from rx);obtain⟨_,_,_,p⟩:=(show ObjOk X.prog X.w H s.heap a (.tup xs) from I.hok a _ ea);obtain⟨o,h1,h2,_⟩:=p;exact PySem.W.kia_one PySem.W.kitx_tuple I.kIn ⟨o,h1,h2⟩ e (fun z=>nomatch z) h
 | @dK a kvs ea =>
  cases (show u=Value.ref a from rx);obtain⟨_,_,vs,_,p⟩:=(show ObjOk X.prog X.w H s.heap a (.dK kvs) from I.hok a _ ea);obtain⟨o,es,ep,h1,h2,_⟩:=p;exact PySem.W.kia_one PySem.W.kitx_dict I.kIn ⟨o,h1,h2.1⟩ e (fun z=>nomatch z) h
 | @dT a kvs ea =>
  cases (show u=Value.ref a from rx);obtain⟨_,_,xs,_,o,es,ep,h1,h2,_⟩:=(show ObjOk X.prog X.w H s.heap a (.dT kvs) from I.hok a _ ea);exact PySem.W.kia_one PySem.W.kitx_dict I.kIn ⟨o,h1,h2.1⟩ e (fun z=>nomatch z) h
 | @ins a C dx fs ea cl ha hn htk hm =>
  cases (show u=Value.ref a from rx);obtain⟨mA,O,_⟩:=X8 I.hok ea;obtain⟨od,J,_⟩:=O.look;exact PySem.W.kia_one (PySem.W.kitx_own (cl.get _) cl.hd ha hn htk hm) I.kIn J e (fun z=>nomatch z) h
end
structure Room (k:Nat) (A:Around):Prop where
 hd:A.handled=none
 dp:A.depth+3 * k+5<recursionLimit
 un:A.units+16 * k+200<cLine
theorem Room.mono {j k:Nat} {A:Around} (r:Room k A) (h:j<=k):Room j A:=⟨r.hd,by have:=r.dp;omega,by have:=r.un;omega⟩
theorem Room.deeper {k:Nat} {A:Around} (r:Room (k+1) A) (env:Env):Room k (A.deeper env) :=
 ⟨r.hd,by have:=r.dp;show A.depth+1+3 * k+5<_;omega,by have:=r.un;show A.units+3+16 * k+200<_;omega⟩
theorem Room.depth {k:Nat} {A:Around} (r:Room k A):A.depth<recursionLimit:=by have:=r.dp;omega
theorem Room.units {k:Nat} {A:Around} (r:Room k A):A.units+64<cLine:=by have:=r.un;omega
def aAQ:TA:=fun _ H Q=>Q [] H
def n6 (ta:TE) (tr:TA):TA:=fun σ H Q=>ta σ H fun x H1=>tr σ H1 fun xs H2=>Q (x :: xs) H2
section
variable {X:Cx} {e:Expr} {es:List Expr} {te:TE} {t:TA} {pos:Pos}
theorem aC:PA X [] aAQ:=fun _ _ _ _ H Q I h=>Calls.spliced_nil ⟨[],H,I,.nil,h⟩
theorem aA (ha:PE X e te) (hr:PA X es t) (hs:starEach (e :: es) X.env=(false,eval e X.env) :: starEach es X.env:=by rfl):PA X (e :: es) (n6 te t):=by
 intro pos pins s σ H Q I h;rw[hs];show wpAny _ _ (spliced ((false,eval e X.env) :: backTo pos (starEach es X.env))) _ _ s;refine Calls.spliced_cons (thn (ha pins s σ H _ I h) fun u s1 ⟨x,H1,I1,r1,q1⟩=>?_);exact thn (hr pos pins s1 σ H1 _ I1 q1) fun us s2 ⟨xs,H2,I2,r2,q2⟩=>⟨x :: xs,H2,I2,.cons r1 r2,q2⟩
def aAv (t:TA):TE:=fun σ H Q=>t σ H fun xs H1=>xs.length<=sizeLine/\∀ p,H1 p=none->Q (.ref p) (upd H1 p (.tup xs))
def aAw (t:TA):TE:=fun σ H Q=>t σ H fun xs H1=>xs.length<=sizeLine/\∀ p,H1 p=none->Q (.ref p) (upd H1 p (.lst xs))
theorem cL {x1} (h:PA X es t):PE X (.Tuple es x1 pos) (aAv t):=by
 intro pins s σ H Q I hq;refine wpAny_Tuple_spliced (thn (h pos pins s σ H _ I hq) fun us s1 ⟨xs,H1,I1,r,z,q⟩=>⟨by rw[<- r.length];exact z,?_⟩);have hf:H1 s1.heap.objs.size=none:=I1.hok.fresh (Nat.le_refl _);refine⟨.ref s1.heap.objs.size,upd H1 s1.heap.objs.size (.tup xs),I1.laid (t':=s1.toks) (fun b u e=>aBO _ e) (Nat.le_refl _) ?_,rfl,q _ hf⟩;exact⟨z,us,r,⟨_,aBU _ rfl,rfl,_,rfl⟩⟩
theorem cC (h:PA X es t):PE X (.List es pos) (aAw t):=by
 intro pins s σ H Q I hq;refine wpAny_List_spliced (thn (h pos pins s σ H _ I hq) fun us s1 ⟨xs,H1,I1,r,z,q⟩=>⟨by rw[<- r.length];exact z,?_⟩);have hf:H1 s1.heap.objs.size=none:=I1.hok.fresh (Nat.le_refl _);refine⟨.ref s1.heap.objs.size,upd H1 s1.heap.objs.size (.lst xs),I1.laid (t':=s1.toks) (fun b u e=>aBO _ e) (Nat.le_refl _) ?_,rfl,q _ hf⟩;exact⟨z,us,0,r,aBU _ rfl⟩
end
abbrev Sp:=List V->Hp->VK->XK->Prop
abbrev CXT:=List Env->Hp->Shared->XK->Value->Shared->Prop
structure X9 (P:Program) (w:World) (K:PySem.W.Frag) (mg:Str->Option Value) (base:Heap) (A:Around) (outer:List Env) (s:Shared) (H:Hp):Prop where
 frames:A.frames=some outer
 mod:Mod K mg base
 bs:∀ b o,base.get? b=some o->s.heap.get? b=some o/\H b=none
 bsz:base.objs.size<=s.heap.objs.size
 funs:s.heap.FunFrames base outer
 frf:∀ b∈frs outer,H b=none
 hok:HOk P w H s.heap
 bare:AllBare s.gens
def CE (outer:List Env) (P:Program) (w:World) (H:Hp) (s:Shared) (Q:VK) (u:Value) (s':Shared):Prop :=
 ∃ v H',s'.os=s.os/\AllBare s'.gens/\Un (frs outer) [] H H' s.heap s'.heap/\HOk P w H' s'.heap/\RelV v u/\Q v H'
def CR (CX:CXT) (outer:List Env) (P:Program) (w:World) (H:Hp) (s:Shared) (Q:VK) (E:XK) (r:Result) (s':Shared):Prop :=
 match r with
 | .ok (.ret u)=>CE outer P w H s Q u s'
 | .ok _=>False
 | .error e=>CX outer H s E e s'
structure FnOk (P:Program) (w:World) (K:PySem.W.Frag) (mg:Str->Option Value) (base:Heap) (CX:CXT) (k:Nat) (f:Addr) (fd:FuncData) (ps:List Str) (sp:Sp):Prop where
 len:∀ vs H Q E,sp vs H Q E->vs.length=ps.length
 run:∀ (A:Around) (outer:List Env) (s:Shared) (H:Hp) (args:Args) (us:List Value) (vs:List V) (Q:VK) (E:XK),Room k A->X9 P w K mg base A outer s H->BindsTo s fd args (ps.zip us)->Vals vs us->sp vs H Q E ->
  codeAny (model P w) A (.call (.ref f) args) (CR CX outer P w H s Q E) s
theorem FnOk.mono {P:Program} {w:World} {K:PySem.W.Frag} {mg:Str->Option Value} {base:Heap} {CX:CXT} {j k:Nat} {f:Addr} {fd:FuncData} {ps:List Str} {sp:Sp} (F:FnOk P w K mg base CX j f fd ps sp) (h:j<=k) :
 FnOk P w K mg base CX k f fd ps sp:=⟨F.len,fun A outer s H args us vs Q E hr=>F.run A outer s H args us vs Q E (hr.mono h)⟩
theorem FnOk.imp {P:Program} {w:World} {K:PySem.W.Frag} {mg:Str->Option Value} {base:Heap} {CX:CXT} {k:Nat} {f:Addr} {fd:FuncData} {ps:List Str} {sp sp':Sp} (F:FnOk P w K mg base CX k f fd ps sp)
 (h:∀ vs H Q E,sp' vs H Q E->sp vs H Q E):FnOk P w K mg base CX k f fd ps sp' :=
 ⟨fun vs H Q E q=>F.len vs H Q E (h _ _ _ _ q),fun A outer s H args us vs Q E hr he hb hv hs=>F.run A outer s H args us vs Q E hr he hb hv (h _ _ _ _ hs)⟩
section
variable {X:Cx} {pins:List (Addr×Obj)} {σ:St} {H:Hp} {s s':Shared}
theorem Inv.env0 (I:Inv X pins σ H s):X9 X.prog X.w X.K X.mg X.base X.A X.stack s H :=
 ⟨I.ok.frames,I.ok.mod,I.bs,Nat.le_trans I.ok.bsz I.sz,I.stack,I.stkFree,I.hok,I.bare⟩
theorem Inv.after {Q:VK} {u:Value} (I:Inv X pins σ H s) (h:CE X.stack X.prog X.w H s Q u s'):EP X pins σ Q u s':=by
 obtain⟨v,H',os,bare,un,hok,r,q⟩:=h;obtain⟨hh,g,d,t,os'⟩:=s';obtain rfl:os'=s.os:=os;exact⟨v,H',I.call (h':=hh) (g':=g) (d':=d) (t':=t) (ch:=[]) un hok bare (fun b z=>absurd z (by simp)),r,q⟩
end
def n8 (sp:Sp) (dvs:List V) (E:XK) (t:TA):TE:=fun σ H Q=>t σ H fun vs H1=>sp (vs++dvs) H1 Q E
def Binds (K:PySem.W.Frag) (fd:FuncData) (ps:List Str) (ds:List Value):Prop :=
 ∀ (s:Shared) (us:List Value),K.In s.heap->(us++ds).length=ps.length->BindsTo s fd ⟨us,[]⟩ (ps.zip (us++ds))
theorem Binds.all {K:PySem.W.Frag} {fd:FuncData} {ps:List Str} (h:∀ us:List Value,us.length=ps.length->bindArgs fd ⟨us,[]⟩=pure (ps.zip us)):Binds K fd ps []:=fun s us _ hl=>by
 rw[List.append_nil]at hl ⊢;exact .of_eq (h us hl)
def xV (CX:CXT) (X:Cx) (E:XK):Prop:=∀ (pins:List (Addr×Obj)) (σ:St) (H:Hp) (s:Shared) (e:Value) (s':Shared),Inv X pins σ H s->CX X.stack H s E e s'->X.xe e s'
section
variable {X:Cx} {CX:CXT} {k:Nat} {f C:Addr} {fd:FuncData} {ps:List Str} {sp:Sp} {dvs:List V} {ds:List Value} {E:XK} {x m:Str} {p pos apos:Pos} {e o:Expr} {es:List Expr} {ta:TE} {t:TA}
theorem t7 {pins:List (Addr×Obj)} {σ:St} {H:Hp} {s:Shared} {Q:VK} {us:List Value} {vs:List V} (F:FnOk X.prog X.w X.K X.mg X.base CX k f fd ps sp) (hr:Room k X.A) (hb:Binds X.K fd ps ds) (hd:Vals dvs ds) (hx:xV CX X E)
 (I:Inv X pins σ H s) (r:Vals vs us) (h:sp (vs++dvs) H Q E):wpAny (model X.prog X.w) X.A (call (.ref f) us) (EP X pins σ Q) X.xe s:=by
 have r2:Vals (vs++dvs) (us++ds):=r.append hd;have hl:(us++ds).length=ps.length:=by rw[<- r2.length];exact F.len _ _ _ _ h
 refine wpAny_call (codeAny_mono (F.run X.A X.stack s H ⟨us,[]⟩ (us++ds) (vs++dvs) Q E hr I.env0 (hb s us I.kIn hl) r2 h) fun r s' hq=>?_);cases r with
 | error e=>exact hx pins σ H s e s' I hq
 | ok fl =>
  cases fl with
  | ret u=>exact I.after hq
  | next=>exact False.elim hq
  | brk=>exact False.elim hq
  | cont=>exact False.elim hq
theorem Y0 (F:FnOk X.prog X.w X.K X.mg X.base CX k f fd ps sp) (hr:Room k X.A) (hg:Gl X x) (hm:X.mg x=some (.ref f)) (hk:PySem.W.keepIn X.K (.ref f)=true) (hb:Binds X.K fd ps ds) (hd:Vals dvs ds) (hx:xV CX X E)
 (ha:PA X (e :: es) t) (hdb:(x == ("__debug__":Str))=false:=by decide) (he:starEach (e :: es) X.env=(false,eval e X.env) :: starEach es X.env:=by rfl) (hpl:(backTo pos (starEach es X.env)).any (·.1)=false:=by rfl) :
 PE X (.Call (.Name x p) (e :: es) [] pos) (n8 sp dvs E t):=by
 intro pins s σ H Q I h;refine wpAny_Call_Name_kw (zL I hg hm ?_ hdb);refine PySem.W.callWith_K (h₀:=X.base) I.ok.mod.kin hk (thn (ha pos pins s σ H _ I h) fun us s1 ⟨vs,H1,I1,r,q⟩=>⟨I1.kIn,?_⟩) he hpl;exact t7 F hr hb hd hx I1 r q
end
def PK (X:Cx) (kws:List Keyword) (t:TA):Prop :=
 ∀ (pos:Pos) (pins:List (Addr×Obj)) (s:Shared) (σ:St) (H:Hp) (Q:List V->Hp->Prop),Inv X pins σ H s->t σ H Q->wpAny (model X.prog X.w) X.A (evalAll ((backToKw pos (keywordEach kws X.env)).map (·.2))) (AP X pins σ Q) X.xe s
section
variable {X:Cx} {CX:CXT} {k:Nat} {f C:Addr} {fd:FuncData} {ps ks:List Str} {sp:Sp} {E:XK} {x m:Str} {p pos apos kpos:Pos} {e o:Expr} {es:List Expr} {kws:List Keyword} {te ta:TE} {t tk:TA} {nm:Option Str}
theorem O7:PK X [] aAQ:=fun _ _ _ _ H Q I h=>wpAny_evalAll_nil ⟨[],H,I,.nil,h⟩
theorem zR (ha:PE X e te) (hr:PK X kws t):PK X (⟨nm,e,kpos⟩ :: kws) (n6 te t):=by
 intro pos pins s σ H Q I h;show wpAny _ _ (evalAll ((do let v <- eval e X.env;standAt pos;pure v) :: (backToKw pos (keywordEach kws X.env)).map (·.2))) _ _ s;refine wpAny_evalAll_cons (aBL (thn (ha pins s σ H _ I h) fun u s1 ⟨x,H1,I1,r1,q1⟩=>aBL (wpAny_standAt (aBM ?_))));exact thn (hr pos pins s1 σ H1 _ I1 q1) fun us s2 ⟨xs,H2,I2,r2,q2⟩=>⟨x :: xs,H2,I2,.cons r1 r2,q2⟩
variable {g:List Value->List Value->List Value} {gV:List V->List V->List V}
end
structure bC (N P:List Str) (sc:Scope):Prop where
 kind:sc.kind=.function
 co:sc.isCoroutine=false
 gen:sc.isGenerator=false
 nd:N.Nodup
 pre:N.take P.length=P
 par:∀ x∈P,sc.names.lookup x=some .local\/sc.names.lookup x=some .cell
 nofree:∀ y∈sc.names,y.2≠.free
theorem sD {kindOf:Str->Option NameKind} {x:Str}:∀ {binds:List (Str×Value)} {m:Str->Option Value},(∀ v,(x,v)∉binds)->bindL kindOf binds m x=m x
 | [],_,_=>rfl
 | (n,v) :: r,m,h=>by
  unfold bindL;rw[sD fun w hw=>h w (aBQ _ hw)];split
  ·have:x≠n:=by rintro rfl;exact h v aBP
   simp[this]
  ·rfl
theorem sG {kindOf:Str->Option NameKind} {x:Str}:∀ {binds:List (Str×Value)} {m:Str->Option Value},(∀ v,(x,v)∉binds)->bindC kindOf binds m x=m x
 | [],_,_=>rfl
 | (n,v) :: r,m,h=>by
  unfold bindC;rw[sG fun w hw=>h w (aBQ _ hw)];split
  ·rfl
  ·have:x≠n:=by rintro rfl;exact h v aBP
   simp[this]
theorem sH {kindOf:Str->Option NameKind} {x:Str} {v:Value}:∀ {P:List Str} {vs:List Value} {i:Nat} {m:Str->Option Value},P.Nodup->P[i]?=some x->vs[i]?=some v->kindOf x=some .local ->
 bindL kindOf (P.zip vs) m x=some v
 | [],_,_,_,_,h,_,_=>by simp at h
 | _ :: _,[],_,_,_,_,h,_=>by simp at h
 | p :: P,w :: vs,0,m,nd,h1,h2,hk=>by
  simp at h1 h2;subst h1;subst h2;show bindL kindOf ((p,w) :: P.zip vs) m p=_;unfold bindL;rw[sD fun v hv=>(List.nodup_cons.mp nd).1 (List.of_mem_zip hv).1,if_pos hk];simp
 | p :: P,w :: vs,i+1,m,nd,h1,h2,hk=>by
  show bindL kindOf ((p,w) :: P.zip vs) m x=_;unfold bindL;exact sH (i:=i) (List.nodup_cons.mp nd).2 (by simpa using h1) (by simpa using h2) hk
theorem sI {kindOf:Str->Option NameKind} {x:Str} {v:Value}:∀ {P:List Str} {vs:List Value} {i:Nat} {m:Str->Option Value},P.Nodup->P[i]?=some x->vs[i]?=some v->kindOf x≠some .local ->
 bindC kindOf (P.zip vs) m x=some v
 | [],_,_,_,_,h,_,_=>by simp at h
 | _ :: _,[],_,_,_,_,h,_=>by simp at h
 | p :: P,w :: vs,0,m,nd,h1,h2,hk=>by
  simp at h1 h2;subst h1;subst h2;show bindC kindOf ((p,w) :: P.zip vs) m p=_;unfold bindC;rw[sG fun v hv=>(List.nodup_cons.mp nd).1 (List.of_mem_zip hv).1,if_neg hk];simp
 | p :: P,w :: vs,i+1,m,nd,h1,h2,hk=>by
  show bindC kindOf ((p,w) :: P.zip vs) m x=_;unfold bindC;exact sI (i:=i) (List.nodup_cons.mp nd).2 (by simpa using h1) (by simpa using h2) hk
def lP (N:List Str) (vs:List V):St:=vs.map some++List.replicate (N.length - vs.length) none
def vM (CX:CXT) (P:Program) (w:World) (K:PySem.W.Frag) (mg:Str->Option Value) (base:Heap) (N:List Str) (qual:Str) (scope:Scope) (f:Addr) (cd:Value) (A:Around) (outer:List Env) (s:Shared) (H:Hp) (E:XK):Cx where
 prog:=P
 w:=w
 K:=K
 mg:=mg
 base:=base
 A:=A.deeper (envOfC qual scope s.heap.objs.size f cd)
 N:=N
 s₀:=s
 H₀:=H
 env:=envOfC qual scope s.heap.objs.size f cd
 outer:=outer
 stack:=envOfC qual scope s.heap.objs.size f cd :: outer
 ex:=[]
 calm:=true
 fn:=fun _=>true
 pn:=[]
 xe:=fun e s'=>wpAny (model P w) (A.deeper (envOfC qual scope s.heap.objs.size f cd)) (leaving (envOfC qual scope s.heap.objs.size f cd) e) (fun _ s''=>CX outer H s E e s'') (fun e' s''=>CX outer H s E e' s'') s'
theorem vN {sc:Scope} {n:Nat} {x:Str} (h:sc.names.lookup x=some .cell):∃ c,(cellsFrom n sc.names []).lookup x=some c:=by
 have q:=PySem.W.cellsFrom_some sc.names n [] (.inl h);exact Option.isSome_iff_exists.mp q
theorem D6 {CX:CXT} {P:Program} {w:World} {K:PySem.W.Frag} {mg:Str->Option Value} {base:Heap} {N ps:List Str} {qual:Str} {scope:Scope} {f:Addr} {cd:Value} {A:Around} {outer:List Env} {s s1:Shared} {H:Hp} {E:XK} {us:List Value} {vs:List V}
 (S:bC N ps scope) (hd:A.handled=none) (e0:X9 P w K mg base A outer s H) (hl:vs.length=ps.length) (r:Vals vs us)
 (x:InCallC s s.heap.objs.size (bindL (envOfC qual scope s.heap.objs.size f cd).kindOf (ps.zip us) fun _=>none) (cellsFrom (s.heap.objs.size+1) scope.names []) (bindC (envOfC qual scope s.heap.objs.size f cd).kindOf (ps.zip us) fun _=>none) s1) :
 Inv (vM CX P w K mg base N qual scope f cd A outer s H E) [] (lP N vs) H s1:=by
 have hpl:ps.length<=N.length:=by have:=congrArg List.length S.pre;rw[aB3]at this;omega
 obtain⟨h1,tk,rfl,hk⟩:=x.done;have noA:∀ b:Addr,b∉(vM CX P w K mg base N qual scope f cd A outer s H E).ex:=fun b z=>absurd (show b∈([]:List Addr) from z) (by simp);refine⟨⟨e0.mod,S.kind,rfl,rfl,Nat.le_refl _,fun y z c h1 h2=>?_,fun y hy=>?_,fun y c _ h=>?_,fun _=>hd,Around.frames_deeper e0.frames,.inr ⟨rfl,rfl⟩,fun b z=>absurd z (noA b),e0.bs,e0.bsz,fun b _ _=>noA b,fun b z=>absurd z (noA b),e0.funs,e0.frf⟩,
  rfl,e0.bare,Un.kept hk,⟨_,x.toInCall.ns,fun i y v h1 h2 h3=>?_⟩,fun y c h=>⟨_,x.cell y c h⟩,e0.hok.fresh (Nat.le_refl _),fun y c h=>?_,fun p hp=>absurd (show p∈([]:List (Addr×Obj)) from hp) (by simp),e0.hok.kept hk,?_⟩
 ·exact name_of_addr x.apart (PySem.mem_of_lookup h1) (PySem.mem_of_lookup h2)
 ·have hy:scope.names.lookup y=some .cell\/scope.names.lookup y=some .free:=hy;rcases hy with hy | hy
  ·exact vN hy
  ·exact absurd rfl (S.nofree _ (PySem.mem_of_lookup hy))
 ·exact Nat.le_of_lt (x.above y c (PySem.mem_of_lookup h))
 ·have hi:i<vs.length:=by
   unfold lP at h2
   by_cases hi:i<vs.length
   ·exact hi
   ·rw[List.getElem?_append_right (by simpa using hi)]at h2;rw[List.getElem?_replicate]at h2;split at h2 <;> cases h2
  have ha:vs[i]?=some v:=by
   unfold lP at h2;rw[List.getElem?_append_left (by simpa using hi),aBc]at h2;cases e:vs[i]? with
   | none=>rw[e]at h2;cases h2
   | some a=>rw[e]at h2;cases h2;rfl
  obtain⟨u,hu,rv⟩:=r.get ha;have hp:ps[i]?=some y:=by
   rw[<- S.pre,List.getElem?_take_of_lt (by omega)];exact h1
  have ndP:ps.Nodup:=by rw[<- S.pre];exact S.nd.sublist (List.take_sublist _ _)
  refine⟨u,rv,?_⟩;rcases S.par y (aBY hp)with k | k
  ·exact .inl ⟨k,sH ndP hp hu k⟩
  ·obtain⟨c,e⟩:=vN (n:=s.heap.objs.size+1) k;refine .inr ⟨.inl k,c,e,?_⟩;have q:=x.cell y c e;rw[sI ndP hp hu (by show scope.names.lookup y≠_;rw[k];decide)]at q;exact q
 ·exact e0.hok.fresh (Nat.le_of_lt (x.above y c (PySem.mem_of_lookup h)))
 ·unfold lP;show _=N.length;rw[aBW,aBN,aB8];omega
theorem O8 {CX:CXT} {P:Program} {w:World} {K:PySem.W.Frag} {mg:Str->Option Value} {base:Heap} {k:Nat} {f:Addr} {name qual:Str} {params:Arguments} {body:List Stmt} {scope:Scope} {dV kV doc pm cdv ct oc:Value} {an od:Option Addr}
 {osl:Array (Option Value)} {N ps:List Str} {sp:Sp} (lk:K.lookup f=some ⟨oc,od,.func (PySem.W.fnOf name qual params body scope dV kV doc pm an cdv ct),osl⟩) (hcd:PySem.W.codeIn K cdv qual=true) (S:bC N ps scope)
 (len:∀ vs H Q E,sp vs H Q E->vs.length=ps.length)
 (hbody:∀ (A:Around) (outer:List Env) (s:Shared) (H:Hp) (vs:List V) (Q:VK) (E:XK),Room k (A.deeper (envOfC qual scope s.heap.objs.size f cdv))->sp vs H Q E ->
  ∃ t,PSs (vM CX P w K mg base N qual scope f cdv A outer s H E) body t/\t { nx:=fun _ H'=>Q .non H',rt:=Q } (lP N vs) H) :
 FnOk P w K mg base CX (k+1) f (PySem.W.fnOf name qual params body scope dV kV doc pm an cdv ct) ps sp:=by
 refine⟨len,fun A outer s H args us vs Q E hr e0 hb r hsp=>?_⟩;have hl:=len _ _ _ _ hsp;have KX:K.In s.heap:=e0.mod.kin.keeps fun b o e=>(e0.bs b o e).1;have lim:s.heap.NoLimit:=e0.mod.nolimit.keeps fun b o e=>(e0.bs b o e).1;have hkind:∀ y∈ps.zip us,scope.names.lookup y.1=some .local\/(scope.names.lookup y.1=some .cell/\((cellsFrom (s.heap.objs.size+1) scope.names []).lookup y.1).isSome=true):=fun⟨n,v⟩ hy=>by
  rcases S.par n (List.of_mem_zip hy).1 with q | q
  ·exact .inl q
  ·exact .inr ⟨q,PySem.W.cellsFrom_some _ _ _ (.inl q)⟩
 refine codeAny_call_function hr.depth (KX _ _ lk) rfl S.co S.gen rfl (PySem.W.codeRec_of KX hcd) (hb _ _ _ _ ?_);refine wpAny_newFunctionEnv_cells S.kind hkind fun env he s1 x=>?_;subst he;refine⟨lim.keeps x.toInCall.keep,codeAny_func ?_⟩;obtain⟨t,ht,hq⟩:=hbody A outer s H vs Q E (hr.deeper _) hsp;have I:Inv (vM CX P w K mg base N qual scope f cdv A outer s H E) [] (lP N vs) H s1:=D6 S hr.hd e0 hl r x;refine wpAny_mono (ht [] s1 (lP N vs) H _ I hq) (fun fl s' hs=>?_) fun e s' hs=>hs;have fin:∀ {σ':St} {H':Hp} {v:V} {u:Value},Inv (vM CX P w K mg base N qual scope f cdv A outer s H E) [] σ' H' s'->RelV v u->Q v H'->CE outer P w H s Q u s' :=
  fun {σ' H' v u} J rv q=>⟨v,H',J.os,J.bare,J.base,J.hok,rv,q⟩
 cases fl with
 | ret u =>
  obtain⟨v,σ',H',J,rv,q⟩:=hs;exact fin J rv q
 | next =>
  obtain⟨σ',H',J,q⟩:=hs;exact fin (v:=V.non) (u:=Value.none) J rfl q
 | brk =>
  obtain⟨_,_,_,q⟩:=hs;exact False.elim q
 | cont =>
  obtain⟨_,_,_,q⟩:=hs;exact False.elim q
section
variable {X:Cx} {x:Str} {p pos:Pos} {e:Expr} {es:List Expr} {t:TA} {id T:String} {r:List V->Hp->VK->Prop}
def tCB (r:List V->Hp->VK->Prop) (t:TA):TE:=fun σ H Q=>t σ H fun vs H1=>r vs H1 Q
theorem aF (hc:eY X (.builtin id) r) (hg:Gl X x) (hm:X.mg x=none) (hv:bootBuiltins x=some (.builtin id)) (ha:PA X (e :: es) t) (hn:x≠"__name__":=by decide) (hdb:(x == ("__debug__":Str))=false:=by decide)
 (he:starEach (e :: es) X.env=(false,eval e X.env) :: starEach es X.env:=by rfl) (hpl:(backTo pos (starEach es X.env)).any (·.1)=false:=by rfl):PE X (.Call (.Name x p) (e :: es) [] pos) (tCB r t):=by
 intro pins s σ H Q I h;refine wpAny_Call_Name_kw (gF I hg hm hv ?_ hn hdb);exact PyProof.Rows.callWith_builtin1 (thn (ha pos pins s σ H _ I h) fun us s1 ⟨vs,H1,I1,r1,q1⟩=>hc pins s1 σ H1 vs us Q I1 r1 q1) he hpl
theorem eZ (hc:eY X (.type T) r) (hg:Gl X x) (hm:X.mg x=none) (hv:bootBuiltins x=some (.type T)) (ha:PA X (e :: es) t) (hn:x≠"__name__":=by decide) (hdb:(x == ("__debug__":Str))=false:=by decide)
 (he:starEach (e :: es) X.env=(false,eval e X.env) :: starEach es X.env:=by rfl) (hpl:(backTo pos (starEach es X.env)).any (·.1)=false:=by rfl):PE X (.Call (.Name x p) (e :: es) [] pos) (tCB r t):=by
 intro pins s σ H Q I h;refine wpAny_Call_Name_kw (gF I hg hm hv ?_ hn hdb);exact PyProof.Rows.callWith_type1 (thn (ha pos pins s σ H _ I h) fun us s1 ⟨vs,H1,I1,r1,q1⟩=>hc pins s1 σ H1 vs us Q I1 r1 q1) he hpl
end
end L2
namespace HT
open PySem PyProof.Rows
theorem eqAt_int (A:Around) (s:Shared) (a:Int) (t:Tok) (c:Int) (u:Tok):∃ e,SeqAt.EqAt A s (.int a t) (.int c u) e/\(e=true↔a=c) :=
 ⟨(a == c),SeqAt.EqAt.int_int a t c u,by simp⟩
section
open PySem.SeqAt
open PySem.AutoSeq1 (wpAny_loadPart')
open PySem.MeetsSeq PySem.MeetsSeq2 PySem.MeetsSeq3
end
section
variable {prog:Program} {w:World} {A:Around} {E:Value->Shared->Prop} {s:Shared}
def sIx (n d:Nat):Option Int->Nat
 | none=>d
 | some v=>if v<0 then (v+(n:Int)).toNat else min v.toNat n
theorem sIx_none (n d:Nat):sIx n d none=d:=rfl
theorem sIx_nat (n d k:Nat):sIx n d (some (k:Int))=min k n:=by
 show (if (k:Int)<0 then ((k:Int)+(n:Int)).toNat else min (k:Int).toNat n)=min k n;rw[if_neg (by omega),Int.toNat_natCast]
end
end HT
namespace L2
open PySem PySem.Spec PyProof.Rows
abbrev TO:=St->Hp->(Option Int->Hp->Prop)->Prop
def PO (X:Cx) (e:Option Expr) (t:TO):Prop :=
 ∀ (pins:List (Addr×Obj)) (s:Shared) (σ:St) (H:Hp) (Q:Option Int->Hp->Prop),Inv X pins σ H s->t σ H Q ->
  wpAny (model X.prog X.w) X.A (evalPart e X.env) (fun u s'=>∃ o H',Inv X pins σ H' s'/\IsPart u o/\Q o H') X.xe s
def Y1:TO:=fun _ H Q=>Q none H
def aAR (t:TE):TO:=fun σ H Q=>t σ H fun x H1=>∃ i,x=.int i/\Q (some i) H1
theorem xW {ns:List Int}:∀ {us:List Value},Vals (ns.map V.int) us->IntsAre us ns:=by
 induction ns with
 | nil=>intro us r;rw[List.map_nil]at r;cases r;exact .nil
 | cons n ns ih =>
  intro us r;rw[aBd]at r;cases r with
  | cons r1 r2 =>
   obtain⟨t,e⟩:=r1;subst e;exact .cons n t (ih r2)
section
variable {X:Cx} {e:Expr} {te:TE} {lo hi:Option Expr} {tl th:TO} {pos p2:Pos}
theorem eP:PO X none Y1:=by
 intro pins s σ H Q I h;rw[evalPart_none];exact aBM ⟨none,H,I,.none,h⟩
theorem eQ (h:PE X e te):PO X (some e) (aAR te):=by
 intro pins s σ H Q I hw;rw[evalPart_some];refine thn (h pins s σ H _ I hw) fun u s1 ⟨x,H1,I1,r1,q1⟩=>?_;obtain⟨i,rfl,q⟩:=q1;obtain⟨t,rfl⟩:=r1;exact⟨some i,H1,I1,.int i t,q⟩
def SlR (X:Cx) (r:V->Option Int->Option Int->Hp->VK->Prop):Prop :=
 ∀ (pins:List (Addr×Obj)) (s:Shared) (σ:St) (H:Hp) (x:V) (v vl vu:Value) (lo hi:Option Int) (sl:Addr) (Q:VK),Inv X pins σ H s->RelV x v->s.heap.IsSliceOf sl vl vu .none->IsPart vl lo->IsPart vu hi->r x lo hi H Q ->
  ∃ T id,typeLookup (.type T) "__getitem__"=pure (some (.builtin id))/\s.TypeIs v T/\wpAny (model X.prog X.w) X.A (getItem v (.ref sl)) (EP X pins σ Q) X.xe s
def tSl (r:V->Option Int->Option Int->Hp->VK->Prop) (te:TE) (tl th:TO):TE:=fun σ H Q=>te σ H fun x H1=>tl σ H1 fun l H2=>th σ H2 fun u H3=>r x l u H3 Q
theorem dN {r:V->Option Int->Option Int->Hp->VK->Prop} (hr:SlR X r) (he:PE X e te) (hl:PO X lo tl) (hu:PO X hi th):PE X (.Subscript e (.Slice lo hi none p2) pos) (tSl r te tl th):=by
 intro pins s σ H Q I h;refine Subscript_ (thn (he pins s σ H _ I h) fun v s1 ⟨x,H1,I1,r1,q1⟩=>?_);refine wpAny_Slice (thn (hl pins s1 σ H1 _ I1 q1) fun vl s2 ⟨l,H2,I2,pl,q2⟩=>thn (hu pins s2 σ H2 _ I2 q2) fun vu s3 ⟨u,H3,I3,pu,q3⟩=>?_);rw[evalPart_none];refine aBM ?_;have I4:Inv X pins σ H3 { s3 with heap:=s3.heap.push { cls:=.type "slice",data:=.fields #[vl,vu,.none] } }:=I3.kept (t':=s3.toks) fun b ob q=>aBO _ q;obtain⟨T,id,hT,ht,hg⟩:=hr pins { s3 with heap:=s3.heap.push { cls:=.type "slice",data:=.fields #[vl,vu,.none] } } σ H3 x v vl vu l u s3.heap.objs.size Q I4 r1 (Heap.IsSliceOf.new ..) pl pu q3;show wpAny (model X.prog X.w) X.A (subscriptTail e (.Slice lo hi none p2) v (.ref s3.heap.objs.size)) (EP X pins σ Q) X.xe { s3 with heap:=s3.heap.push { cls:=.type "slice",data:=.fields #[vl,vu,.none] } };exact tail_any (ops:=[.ref s3.heap.objs.size,v]) ht hT hg (by with_unfolding_all rfl)
def gK (xs:List V) (lo hi:Option Int):List V:=(xs.drop (HT.sIx xs.length 0 lo)).take (HT.sIx xs.length xs.length hi - HT.sIx xs.length 0 lo)
theorem vO (xs:List V) (lo hi:Option Int):(gK xs lo hi).length<=xs.length:=by
 unfold gK;rw[aB3,List.length_drop];omega
end
def ixN (n:Nat) (i:Int):Option Nat:=if 0<=i then (if i<n then some i.toNat else none)else if -(n:Int)<=i then some (i+n).toNat else none
def atI {α:Type} (xs:List α) (i:Int):Option α:=(ixN xs.length i).bind fun j=>xs[j]?
theorem zS {n:Nat} {i:Int} {j:Nat} (h:ixN n i=some j):seqIndex? i n=some j/\j<n/\-(n:Int)<=i/\i<n:=by
 unfold ixN at h
 by_cases h0:0<=i
 ·rw[if_pos h0]at h
  by_cases h1:i<n
  ·rw[if_pos h1]at h;have e:i.toNat=j:=Option.some.inj h;exact⟨by rw[seqIndex_of h0 h1,e],by omega,by omega,h1⟩
  ·rw[if_neg h1]at h;cases h
 ·rw[if_neg h0]at h
  by_cases h1:-(n:Int)<=i
  ·rw[if_pos h1]at h;have e:(i+n).toNat=j:=Option.some.inj h;exact⟨by rw[seqIndex_neg (by omega) h1,e],by omega,h1,by omega⟩
  ·rw[if_neg h1]at h;cases h
theorem tS {α:Type} {xs:List α} {i:Int} {v:α} (h:atI xs i=some v):∃ j,seqIndex? i xs.length=some j/\xs[j]?=some v/\j<xs.length/\-(xs.length:Int)<=i/\i<xs.length:=by
 unfold atI at h;cases e:ixN xs.length i with
 | none=>rw[e]at h;cases h
 | some j =>
  rw[e]at h;obtain⟨h1,h2,h3,h4⟩:=zS e;exact⟨j,h1,h,h2,h3,h4⟩
theorem lE {α:Type} {xs:List α} {j:Nat} {v:α} (h:xs[j]?=some v):atI xs (j:Int)=some v:=by
 have hj:j<xs.length:=(aBq.mp h).1;have e:ixN xs.length (j:Int)=some j:=by
  unfold ixN;rw[if_pos (by omega),if_pos (by omega)];simp
 unfold atI;rw[e];exact h
theorem O9 {α:Type} (xs:List α) (v:α):atI (xs++[v]) (-1)=some v:=by
 have hl:(xs++[v]).length=xs.length+1:=by simp
 have e:ixN (xs++[v]).length (-1)=some xs.length:=by
  unfold ixN;rw[hl,if_neg (by decide),if_pos (by omega)]
  congr 1
  omega
 unfold atI;rw[e];show (xs++[v])[xs.length]?=some v;simp
def Y2 (b:Expr):Prop:=∀ o i,subscripted b false o i=operate [o,i] (getItem o i)
def IxR (X:Cx) (r:R2):Prop :=
 ∀ (value slice:Expr) (pins:List (Addr×Obj)) (s:Shared) (σ:St) (H:Hp) (x y:V) (v u:Value) (Q:VK),Inv X pins σ H s->RelV x v->RelV y u->r x y H Q ->
  subscripted slice false v u=operate [v,u] (getItem v u)->wpAny (model X.prog X.w) X.A (subscriptTail value slice v u) (EP X pins σ Q) X.xe s
def MtR (X:Cx) (id:String) (r:V->List V->Hp->VK->Prop):Prop :=
 ∀ (pins:List (Addr×Obj)) (s:Shared) (σ:St) (H:Hp) (x:V) (xs:List V) (v:Value) (us:List Value) (Q:VK),Inv X pins σ H s->RelV x v->Vals xs us->r x xs H Q ->
  wpAny (model X.prog X.w) X.A (call (.builtin id) (v :: us)) (EP X pins σ Q) X.xe s
section
variable {X:Cx} {a b:Expr} {ta tb:TE} {pos:Pos}
theorem IxR.or {r r':R2} (h:IxR X r) (h':IxR X r'):IxR X (fun x y H Q=>r x y H Q\/r' x y H Q):=by
 intro value slice pins s σ H x y v u Q I rx ry q hs;rcases q with q | q
 ·exact h value slice pins s σ H x y v u Q I rx ry q hs
 ·exact h' value slice pins s σ H x y v u Q I rx ry q hs
theorem bJ {r:R2} (hr:IxR X r) (ha:PE X a ta) (hb:PE X b tb) (hs:Y2 b):PE X (.Subscript a b pos) (tOp r ta tb):=by
 intro pins s σ H Q I h;exact Subscript_ (t3 ha hb I h fun v u s2 x y H2 I2 rx ry q=>hr a b pins s2 σ H2 x y v u Q I2 rx ry q (hs _ _))
def t8 (K:PySem.W.Frag):R2:=fun x y H Q=>∃ p xs i v,x=.ref p/\y=.int i/\SqL K H p xs/\atI xs i=some v/\Q v H
def aAS (K:PySem.W.Frag):R2:=fun x y H Q=>∃ p xs i v,x=.ref p/\y=.int i/\SqT K H p xs/\atI xs i=some v/\Q v H
def aAT:R2:=fun x y H Q=>∃ z i c,x=.str z/\y=.int i/\z.length<=sizeLine/\atI z.cps.toList i=some c/\Q (.str ⟨#[c]⟩) H
theorem bF:IxR X (t8 X.K):=by
 intro value slice pins s σ H x y v u Q I rx ry h hs;obtain⟨p,xs,i,z,rfl,rfl,hq,he,q⟩:=h;cases rx;obtain⟨t,rfl⟩:=ry;obtain⟨its,r,pl,hz⟩:=I.list hq;obtain⟨j,h1,h2,h3,h4,h5⟩:=tS he;obtain⟨w,ew,rw'⟩:=r.get h2;have hl:=r.length;have hn:=nN;have fin:EP X pins σ Q w s:=⟨z,H,I,rw',q⟩
 by_cases h0:0<=i
 ·have hj:i.toNat=j:=by
   rw[seqIndex_of h0 h5]at h1;exact Option.some.inj h1
  exact item_listR pl.isList h0 (by omega) (by rw[hj];simpa using ew) fin hs
 ·have hj:(i+(its.toArray.size:Int)).toNat=j:=by
   rw[seqIndex_neg (by omega) h4]at h1;rw[aBV,<- hl];exact Option.some.inj h1
  exact subscriptTail_builtinR (x:=w) pl.isList.typeIs slot_list_getitem.lookup
   (wpAny_getItem_list_neg (Q:=fun r s'=>r=w/\EP X pins σ Q r s') pl.isList (by omega) (by rw[aBV] <;> omega) (by omega) (by rw[hj];simpa using ew) ⟨rfl,fin⟩) hs
theorem iR:IxR X (aAS X.K):=by
 intro value slice pins s σ H x y v u Q I rx ry h hs;obtain⟨p,xs,i,z,rfl,rfl,hq,he,q⟩:=h;cases rx;obtain⟨t,rfl⟩:=ry;obtain⟨its,r,pl,hz⟩:=I.tuple hq;obtain⟨j,h1,h2,h3,h4,h5⟩:=tS he;obtain⟨w,ew,rw'⟩:=r.get h2;have hl:=r.length;have hn:=nN;have fin:EP X pins σ Q w s:=⟨z,H,I,rw',q⟩;exact subscriptTail_builtinR (x:=w) pl.typeIs slot_tuple_getitem.lookup
  (getItem_tuple (j:=j) (Q:=fun r s'=>r=w/\EP X pins σ Q r s') pl (by omega) (by omega) (by rw[aBV,<- hl];exact h1) (by simpa using ew) ⟨rfl,fin⟩) hs
theorem t9:IxR X aAT:=by
 intro value slice pins s σ H x y v u Q I rx ry h hs;obtain⟨z,i,c,rfl,rfl,hz,he,q⟩:=h;obtain⟨t,rfl⟩:=rx;obtain⟨t',rfl⟩:=ry;obtain⟨j,h1,h2,h3,h4,h5⟩:=tS he;have hl:z.cps.toList.length=z.length:=by simp[Str.length]
 rw[hl]at h1 h4 h5;have hn:=nN;exact tail_any (typeIs_str s z t) slot_str_getitem.lookup (getItem_str (c:=c) (by
  have e1:decide (i < -(2 ^ 63:Int))=false:=aB9 (by omega);have e2:decide (i≥2 ^ 63)=false:=aB9 (by omega);rw[e1,e2,Bool.or_false]) (by rw[h1];simpa using h2) ⟨.str ⟨#[c]⟩,H,I.tok _,⟨_,rfl⟩,q⟩) hs
def rIx (K:PySem.W.Frag):R2:=fun x y H Q=>t8 K x y H Q\/aAS K x y H Q\/aAT x y H Q
theorem u0:IxR X (rIx X.K):=bF.or (iR.or t9)
theorem xX (its:List Value) (n j:Nat) (u:Value):Obj.mapSeq (·.setIfInBounds j u) { cls:=.type "list",data:=.seq its.toArray n }={ cls:=.type "list",data:=.seq (its.set j u).toArray n }:=by
 simp[Obj.mapSeq]
theorem Inv.lst {pins:List (Addr×Obj)} {σ:St} {H:Hp} {s:Shared} {p:Addr} {xs:List V} (I:Inv X pins σ H s) (h:H p=some (.lst xs)) :
 ∃ (its:List Value) (n:Nat),Vals xs its/\s.heap.get? p=some { cls:=.type "list",data:=.seq its.toArray n }/\xs.length<=sizeLine:=by
 obtain⟨z,its,n,r,e⟩:=I.hok p _ h;exact⟨its,n,r,e,z⟩
theorem Inv.lstUpd {pins:List (Addr×Obj)} {σ:St} {H:Hp} {s:Shared} {p:Addr} {xs ys:List V} {its its':List Value} {n n':Nat} {f:Obj->Obj} (I:Inv X pins σ H s) (h:H p=some (.lst xs))
 (ho:s.heap.get? p=some { cls:=.type "list",data:=.seq its.toArray n }) (hf:f { cls:=.type "list",data:=.seq its.toArray n }={ cls:=.type "list",data:=.seq its'.toArray n' }) (r:Vals ys its') (hz:ys.length<=sizeLine) (t:Nat) :
 Inv X pins σ (upd H p (.lst ys)) { s with heap:=s.heap.update p f,toks:=t }:=by
 have e:(s.heap.update p f).get? p=some { cls:=.type "list",data:=.seq its'.toArray n' }:=by
  rw[aB6 f ho (by rw[hf] <;> rfl),hf]
 refine I.write (x:=p) (e:=p) (by rw[h];trivial) (.inl rfl) (fun b u hb q=>(aBS _ _ (Ne.symm hb)).trans q) ⟨_,e⟩ ?_;exact⟨hz,its',n',r,e⟩
def aAU:V->V->V->Hp->(Hp->Prop)->Prop:=fun o i v H Q=>∃ p xs k j,o=.ref p/\i=.int k/\H p=some (.lst xs)/\ixN xs.length k=some j/\Q (upd H p (.lst (xs.set j v)))
theorem vP:aAI X aAU:=by
 intro pins s σ H o i v ov iv u Q I ro ri rv h;obtain⟨p,xs,k,j,rfl,rfl,hp,hj,q⟩:=h;cases ro;obtain⟨t,rfl⟩:=ri;obtain⟨its,n,r,ho,hz⟩:=I.lst hp;obtain⟨h1,h2,h3,h4⟩:=zS hj;have hl:=r.length;have hn:=nN;have I':Inv X pins σ (upd H p (.lst (xs.set j v))) { s with heap:=s.heap.update p (Obj.mapSeq (·.setIfInBounds j u)) } :=
  I.lstUpd hp ho (xX its n j u) (r.set rv j) (by rw[List.length_set];exact hz) s.toks
 by_cases h0:0<=k
 ·have hk:k.toNat=j:=by
   rw[seqIndex_of h0 h4]at h1;exact Option.some.inj h1
  exact PySem.W.ki_setAt ho h0 (by omega) (by rw[aBV,<- hl];exact h4) (by rw[hk];exact⟨_,I',q⟩)
 ·have hk:(k+(its.toArray.size:Int)).toNat=j:=by
   rw[seqIndex_neg (by omega) h3]at h1;rw[aBV,<- hl];exact Option.some.inj h1
  exact PySem.W.ki_setBack ho (by omega) (by rw[aBV,<- hl];exact h3) (by omega) (by rw[hk];exact⟨_,I',q⟩)
theorem tT (lo hi:Option Int) (n:Nat):(sliceBounds lo hi none n).1=((HT.sIx n 0 lo:Nat):Int)/\(sliceBounds lo hi none n).2.1=((HT.sIx n n hi:Nat):Int)/\(sliceBounds lo hi none n).2.2=1:=by
 refine⟨?_,?_,rfl⟩
 ·cases lo with
  | none=>simp[sliceBounds,HT.sIx]
  | some i =>
   simp only[sliceBounds,HT.sIx,Option.getD_none,show (1:Int) > 0 by decide,if_true]
   by_cases h:i<0
   ·simp only[h,if_true] <;> omega
   ·simp only[h,if_false] <;> omega
 ·cases hi with
  | none=>simp[sliceBounds,HT.sIx]
  | some i =>
   simp only[sliceBounds,HT.sIx,Option.getD_none,show (1:Int) > 0 by decide,if_true]
   by_cases h:i<0
   ·simp only[h,if_true] <;> omega
   ·simp only[h,if_false] <;> omega
theorem rH (its:List Value) (lo hi:Option Int):slicePick its.toArray lo hi none=((its.drop (HT.sIx its.length 0 lo)).take (HT.sIx its.length its.length hi - HT.sIx its.length 0 lo)).toArray:=by
 obtain⟨h1,h2,h3⟩:=tT lo hi its.toArray.size;unfold slicePick;rw[h1,h2,h3];simp only[sliceRange_one,pick_run,aBV] <;> rfl
def aAx (K:PySem.W.Frag):V->Option Int->Option Int->Hp->VK->Prop:=fun x lo hi H Q=>∃ a xs,x=.ref a/\SqL K H a xs/\∀ p,H p=none->Q (.ref p) (upd H p (.lst (gK xs lo hi)))
theorem eU:SlR X (aAx X.K):=by
 intro pins s σ H x v vl vu lo hi sl Q I rx hs pl pu h;obtain⟨a,xs,rfl,hx,q⟩:=h;cases rx;obtain⟨its,r,ht,hz⟩:=I.list hx;have hlen:=r.length;refine⟨"list",_,slot_list_getitem.lookup,ht.isList.typeIs,?_⟩;refine wpAny_getItem_list_slice ht.isList hs pl pu .none (by simp) ?_ (by rw[aBV] <;> omega);rw[rH,<- hlen];refine⟨.ref s.heap.objs.size,_,I.laid (t':=s.toks) (o:=.lst (gK xs lo hi)) (fun b ob q=>aBO _ q) (Nat.le_refl _) ?_,rfl,q _ (I.hok.fresh (Nat.le_refl _))⟩;exact⟨Nat.le_trans (vO xs lo hi) hz,_,0,(r.drop (HT.sIx xs.length 0 lo)).take (HT.sIx xs.length xs.length hi - HT.sIx xs.length 0 lo),aBU _ rfl⟩
theorem aS:eY X (.builtin "len") (fun xs H Q=>∃ p ys,xs=[.ref p]/\(SqL X.K H p ys\/SqT X.K H p ys)/\Q (.int ys.length) H):=by
 intro pins s σ H xs us Q I r h;obtain⟨p,ys,rfl,hq,q⟩:=h;obtain⟨u,rfl,rx⟩:=hU r;cases rx;have hn:=nN;rcases hq with hq | hq
 ·obtain⟨its,r',pl,hz⟩:=I.list hq;have hlen:=r'.length;exact Calls.call_len_list pl.isList (by simp only[aBV] <;> omega) ⟨.int ys.length,H,I.tok _,⟨s.toks+1,by rw[aBV,hlen]⟩,q⟩
 ·obtain⟨its,r',pl,hz⟩:=I.tuple hq;have hlen:=r'.length;exact len_tuple pl (by simp only[aBV] <;> omega) ⟨.int ys.length,H,I.tok _,⟨s.toks+1,by rw[aBV,hlen]⟩,q⟩
theorem eE:eY X (.type "list") (fun xs H Q=>∃ p ys,xs=[.ref p]/\(SqL X.K H p ys\/SqT X.K H p ys)/\∀ l,H l=none->Q (.ref l) (upd H l (.lst ys))):=by
 intro pins s σ H xs us Q I r h;obtain⟨p,ys,rfl,hq,q⟩:=h;obtain⟨u,rfl,rx⟩:=hU r;cases rx;have fin:∀ (its:List Value),Vals ys its->ys.length<=sizeLine->∀ (h':Heap) (c':Nat),(∀ b o',s.heap.get? b=some o'->h'.get? b=some o') ->
  h'.get? s.heap.objs.size=some { cls:=.type "list",dict:=none,data:=.seq its.toArray c',slots:=#[] }->EP X pins σ Q (.ref s.heap.objs.size) { s with heap:=h' }:=fun its r' hz h' c' kp e =>
  ⟨.ref s.heap.objs.size,_,I.laid (t':=s.toks) kp (Nat.le_refl _) (show ObjOk X.prog X.w _ h' _ (.lst ys) from ⟨hz,its,c',r',e⟩),rfl,q _ (I.hok.fresh (Nat.le_refl _))⟩
 rcases hq with hq | hq
 ·obtain⟨its,r',pl,hz⟩:=I.list hq;have hlen:=r'.length;obtain⟨o,ho,hc,n,hd⟩:=pl.isList;exact call_list_seq p (.inl rfl) ho hc hd (fun h' c' kp e=>fin its r' hz h' c' kp e) (by simp only[aBV] <;> omega)
 ·obtain⟨its,r',pl,hz⟩:=I.tuple hq;have hlen:=r'.length;obtain⟨o,ho,hc,n,hd⟩:=pl;exact call_list_seq p (.inr rfl) ho hc hd (fun h' c' kp e=>fin its r' hz h' c' kp e) (by simp only[aBV] <;> omega)
def tyV (K:PySem.W.Frag) (T:String) (x:V) (H:Hp):Prop:=match x with
 | .str _=>T="str"
 | .int _=>T="int"
 | .ref p=>(T="list"/\∃ xs,SqL K H p xs)\/(T="tuple"/\∃ o,K.lookup p=some o/\o.cls=.type "tuple"/\o.dict=none) \/
  (T="dict"/\((∃ kvs,H p=some (.dK kvs))\/∃ kvs,H p=some (.dT kvs)))\/(T="set"/\∃ S n,H p=some (.set S n))
 | _=>False
theorem P0 {pins:List (Addr×Obj)} {σ:St} {H:Hp} {s:Shared} {T:String} {x:V} {v:Value} (I:Inv X pins σ H s) (r:RelV x v) (ty:tyV X.K T x H) :
 s.TypeIs v T/\∀ a,v=.ref a->∃ ob,s.heap.get? a=some ob/\ob.dict=none:=by
 cases x with
 | str z =>
  obtain⟨t,rfl⟩:=r;cases (show T="str" from ty);exact⟨typeIs_str s z t,fun _ e=>nomatch e⟩
 | int i =>
  obtain⟨t,rfl⟩:=r;cases (show T="int" from ty);exact⟨typeIs_int s i t,fun _ e=>nomatch e⟩
 | ref p =>
  cases r;rcases ty with ⟨rfl,xs,hq⟩ | ⟨rfl,o,hk,hc,hd⟩ | ⟨rfl,hk⟩ | ⟨rfl,S,n,hk⟩
  ·obtain⟨its,_,pl,_⟩:=I.list hq;refine⟨pl.isList.typeIs,fun a e=>?_⟩;cases e;obtain⟨o,n,e,c,hd,_⟩:=pl;exact⟨o,e,hd⟩
  ·refine⟨⟨o,I.kIn p o hk,hc⟩,fun a e=>?_⟩;cases e;exact⟨o,I.kIn _ o hk,hd⟩
  ·have z:∃ o,s.heap.get? p=some o/\o.ExactDict:=by
    rcases hk with ⟨kvs,hk⟩ | ⟨kvs,hk⟩
    ·obtain⟨_,_,_,_,o,_,_,e,ex,_⟩:=I.hok p _ hk;exact⟨o,e,ex⟩
    ·obtain⟨_,_,_,_,o,_,_,e,ex,_⟩:=I.hok p _ hk;exact⟨o,e,ex⟩
   obtain⟨o,e,ex⟩:=z;refine⟨⟨o,e,ex.1⟩,fun a e2=>?_⟩;cases e2;exact⟨o,e,ex.2.1⟩
  ·obtain⟨o,_,_,_,e,ex,_⟩:=I.hok p _ hk;refine⟨⟨o,e,ex.1⟩,fun a e2=>?_⟩;cases e2;exact⟨o,e,ex.2.1⟩
 | _=>exact False.elim ty
def aAy (K:PySem.W.Frag) (T:String) (r:V->List V->Hp->VK->Prop) (to:TE):TE:=fun σ H Q=>to σ H fun x H1=>tyV K T x H1/\r x [] H1 Q
def tBM (K:PySem.W.Frag) (T:String) (r:V->List V->Hp->VK->Prop) (to:TE) (t:TA):TE:=fun σ H Q=>to σ H fun x H1=>tyV K T x H1/\t σ H1 fun xs H2=>r x xs H2 Q
variable {o e:Expr} {es:List Expr} {to:TE} {t:TA} {name:Str} {apos cpos:Pos} {T id:String} {r:V->List V->Hp->VK->Prop}
theorem u3 (pa:PlainAttrs T) (slot:Slot T name id) (hty:typeOf (.builtin id)=pure (.type "method_descriptor")) (hm:MtR X id r) (ho:PE X o to)
 (hbase:attributeBase o name X.env (eval o X.env)=eval o X.env:=by rfl) (hline:(apos.endLine == cpos.line)=true:=by rfl):PE X (.Call (.Attribute o name apos) [] [] cpos) (aAy X.K T r to):=by
 intro pins s σ H Q I h;refine wpAny_Call_method0_late hbase hline (thn (ho pins s σ H _ I h) fun v s1 ⟨x,H1,I1,r1,ty,q1⟩=>?_);obtain⟨h1,h2⟩:=P0 I1 r1 ty;exact⟨T,id,pa,slot,hty,h1,h2,Calls.callWith_builtin rfl (PySem.evalArgs_none (hm pins s1 σ H1 x [] v [] Q I1 r1 .nil q1))⟩
theorem eK (pa:PlainAttrs T) (slot:Slot T name id) (hty:typeOf (.builtin id)=pure (.type "method_descriptor")) (hm:MtR X id r) (ho:PE X o to) (ha:PA X (e :: es) t)
 (hbase:attributeBase o name X.env (eval o X.env)=eval o X.env:=by rfl)
 (hfew:((backTo cpos (starEach (e :: es) X.env)).all (fun x=>!x.1) && (backToKw cpos (keywordEach [] X.env)).all (fun x=>x.1.isSome)
  && decide ((e :: es).length+([]:List Keyword).length+(if ([]:List Keyword).isEmpty then 0 else 1)<30))=true:=by rfl)
 (hline:(apos.endLine == cpos.line)=true:=by rfl) (hs:starEach (e :: es) X.env=(false,eval e X.env) :: starEach es X.env:=by rfl) (hplain:(backTo cpos (starEach es X.env)).any (·.1)=false:=by rfl) :
 PE X (.Call (.Attribute o name apos) (e :: es) [] cpos) (tBM X.K T r to t):=by
 intro pins s σ H Q I h;refine wpAny_Call_method_late hbase hfew hline rfl (thn (ho pins s σ H _ I h) fun v s1 ⟨x,H1,I1,r1,ty,q1⟩=>?_);obtain⟨h1,h2⟩:=P0 I1 r1 ty;refine⟨T,id,pa,slot,hty,h1,h2,?_⟩;have hA:=ha cpos pins s1 σ H1 _ I1 q1;rw[hs]at hA ⊢;refine Calls.callWith_builtin (by show (false || (backTo cpos (starEach es X.env)).any (·.1))=false;rw[hplain] <;> rfl) (Calls.evalArgs_plain ?_);exact thn hA fun us s2 ⟨vs,H2,I2,r2,q2⟩=>hm pins s2 σ H2 x vs v us Q I2 r1 r2 q2
/- xs.append(e),list.index on a module's tuple .. are MtR facts of 06m -/
end
def MtM (X:Cx) (id:String) (r:V->List V->Hp->VK->Prop):Prop :=
 ∀ (pins:List (Addr×Obj)) (s:Shared) (σ:St) (H:Hp) (x:V) (xs:List V) (v:Value) (us:List Value) (Q:VK),Inv X pins σ H s->RelV x v->Vals xs us->r x xs H Q ->
  wpAny (model X.prog X.w) X.A (call (.builtin id) (v :: us)) (EP X pins σ Q) X.xe s
theorem Vals.one:∀ {x:V} {us:List Value},Vals [x] us->∃ u,us=[u]/\RelV x u
 | _,_,.cons r .nil=>⟨_,rfl,r⟩
theorem Vals.two {x y:V} {us:List Value} (h:Vals [x,y] us):∃ u v,us=[u,v]/\RelV x u/\RelV y v:=by
 cases h with
 | cons r h =>
  obtain⟨u,e,q⟩:=Vals.one h;exact⟨_,u,by rw[e],r,q⟩
theorem Vals.zero:∀ {us:List Value},Vals [] us->us=[]
 | _,.nil=>rfl
theorem Vals.dropLast {xs:List V} {us:List Value} (h:Vals xs us):Vals xs.dropLast us.dropLast:=by
 induction h with
 | nil=>exact .nil
 | cons r t ih =>
  cases t with
  | nil=>exact .nil
  | cons q t'=>exact .cons r ih
theorem Vals.eraseIdx:∀ {xs:List V} {us:List Value} (i:Nat),Vals xs us->Vals (xs.eraseIdx i) (us.eraseIdx i)
 | _,_,_,.nil=>.nil
 | _,_,0,.cons _ t=>t
 | _,_,i+1,.cons r t=>.cons r (Vals.eraseIdx i t)
theorem Vals.reverse {xs:List V} {us:List Value} (h:Vals xs us):Vals xs.reverse us.reverse:=by
 induction h with
 | nil=>exact .nil
 | cons r t ih=>rw[List.reverse_cons,List.reverse_cons];exact Vals.append ih (.cons r .nil)
theorem xY {α:Type} (l:List α):l.eraseIdx (l.length - 1)=l.dropLast:=by
 induction l with
 | nil=>rfl
 | cons a r ih =>
  cases r with
  | nil=>rfl
  | cons b r =>
   have e:(a :: b :: r).length - 1=((b :: r).length - 1)+1:=by
    have h1:(a :: b :: r).length=r.length+2:=rfl;have h2:(b :: r).length=r.length+1:=rfl;omega
   rw[e,List.eraseIdx_cons_succ,ih]
   all_goals rfl
section
variable {X:Cx} {pins:List (Addr×Obj)} {σ:St} {H:Hp} {s:Shared} {l b:Addr} {xs ys zs:List V}
theorem Inv.lset {its its':List Value} {n:Nat} {f:Array Value->Array Value} {t':Nat} (I:Inv X pins σ H s) (hH:H l=some (.lst xs))
 (e:s.heap.get? l=some { cls:=.type "list",data:=.seq its.toArray n }) (hf:f its.toArray=its'.toArray) (hv:Vals ys its') (hz:ys.length<=sizeLine) :
 Inv X pins σ (upd H l (.lst ys)) { s with heap:=s.heap.update l (Obj.mapSeq f),toks:=t' }:=by
 have q:=PySem.IsL.update e f;rw[hf]at q;refine I.write (x:=l) (e:=l) (by rw[hH];exact trivial) (.inl rfl) (fun b' u hb hu=>(aBS s.heap (Obj.mapSeq f) (Ne.symm hb)).trans hu) ⟨_,q⟩ ?_;exact⟨hz,its',_,hv,q⟩
theorem Inv.lnew {its:List Value} {t':Nat} (I:Inv X pins σ H s) (hv:Vals ys its) (hz:ys.length<=sizeLine) :
 Inv X pins σ (upd H s.heap.objs.size (.lst ys)) { s with heap:=s.heap.push { cls:=.type "list",data:=.seq its.toArray },toks:=t' } :=
 I.laid (fun _ _ q=>aBO _ q) (Nat.le_refl _) ⟨hz,its,0,hv,aBU _ rfl⟩
theorem Inv.fresh (I:Inv X pins σ H s):H s.heap.objs.size=none:=I.hok.fresh (Nat.le_refl _)
theorem Inv.lstM (I:Inv X pins σ H s) (hH:H l=some (.lst xs)):xs.length<=sizeLine/\∃ (its:List Value) (n:Nat),Vals xs its/\xs.length=its.length/\s.heap.get? l=some { cls:=.type "list",data:=.seq its.toArray n }:=by
 obtain⟨z,its,n,r,e⟩:=I.hok l _ hH;exact⟨z,its,n,r,r.length,e⟩
end
section
variable {X:Cx}
def Y3:V->List V->Hp->VK->Prop:=fun x vs H Q=>∃ l xs y,x=.ref l/\vs=[y]/\H l=some (.lst xs)/\xs.length<sizeLine/\Q .non (upd H l (.lst (xs++[y])))
theorem bT:MtM X "list.append" Y3:=by
 intro pins s σ H x vs v us Q I rx rv h;obtain⟨l,xs,y,rfl,rfl,hH,hz,q⟩:=h;cases rx;obtain⟨u,rfl,ru⟩:=rv.one;obtain⟨z,its,n,r,hl,e⟩:=I.lstM hH;refine call_meets F.slot_list_append ⟨_,e,rfl⟩ F.entry_list_append (F.args_list_append_2 _ _) (PySem.list_append l its.toArray n u (by rw[aBV];omega)) ⟨e,?_⟩;refine⟨.non,_,I.lset (its':=its++[u]) hH e (by simp) (r.append (.cons ru .nil)) ?_,rfl,q⟩;rw[aBW,List.length_singleton];omega
def aAz:V->List V->Hp->VK->Prop:=fun x vs H Q=>∃ l xs y,x=.ref l/\vs=[]/\H l=some (.lst xs)/\xs[xs.length - 1]?=some y/\Q y (upd H l (.lst xs.dropLast))
theorem u4:MtM X "list.pop" aAz:=by
 intro pins s σ H x vs v us Q I rx rv h;obtain⟨l,xs,y,rfl,rfl,hH,hy,q⟩:=h;cases rx;have hus:=rv.zero;subst hus;obtain⟨z,its,n,r,hl,e⟩:=I.lstM hH;obtain⟨u,hu,ru⟩:=r.get hy;have hy':its.toArray[its.toArray.size - 1]?=some u:=by
  show its.toArray[its.length - 1]?=some u;rw[<- Array.getElem?_toList,<- hl];exact hu
 refine call_meets F.slot_list_pop ⟨_,e,rfl⟩ F.entry_list_pop (F.args_list_pop_1 _) (MeetsSeq.list_pop_last l its.toArray n u hy' (by rw[aBV];omega)) ⟨e,?_⟩;refine⟨y,_,I.lset (its':=its.dropLast) hH e ?_ r.dropLast ?_,ru,q⟩
 ·show its.toArray.eraseIdxIfInBounds (its.toArray.size - 1)=its.dropLast.toArray;rw[aBV,List.eraseIdxIfInBounds_toArray,xY]
 ·rw[List.length_dropLast];omega
def aBA:R2:=fun x y H Q=>∃ l b xs zs,x=.ref l/\y=.ref b/\H l=some (.lst xs)/\H b=some (.lst zs)/\xs.length+zs.length<=sizeLine/\∀ p,H p=none->Q (.ref p) (upd H p (.lst (xs++zs)))
theorem jM:OpR X (binaryOp .Add) aBA:=by
 intro pins s σ H x y v u Q I rx ry h;obtain⟨l,b,xs,zs,rfl,rfl,hH,hB,hz,q⟩:=h;cases rx;cases ry;obtain⟨z,its,n,r,hl,e⟩:=I.lstM hH;obtain⟨z2,its2,n2,r2,hl2,e2⟩:=I.lstM hB;refine PySem.P.add_list e e2 ?_ (by rw[aBV,aBV];omega);have ea:its.toArray++its2.toArray=(its++its2).toArray:=by simp
 rw[ea];exact⟨.ref _,_,I.lnew (t':=s.toks) (r.append r2) (by rw[aBW];omega),rfl,q _ I.fresh⟩
end
section
variable {prog:Program} {w:World} {A:Around} {E:Value->Shared->Prop} {s:Shared}
end
section
variable {X:Cx}
end
end L2
namespace Att
open PySem PySem.W PySem.Calls PyProof.Rows
theorem oU {P:Params} {h:Heap}:∀ (ns:List Int) (vs:List Value),WellAll P h vs (ns.map WData.int)->IntsAre vs ns:=by
 intro ns
 induction ns with
 | nil =>
  intro vs w;rw[List.map_nil]at w;cases w;exact .nil
 | cons n ns ih =>
  intro vs w;rw[aBd]at w;cases w with
  | cons a b =>
   cases a;exact .cons _ _ (ih _ b)
theorem D7 {l:OpenLaw} {n:Nat} (hn:l.most=some n) {P:Params} {h:Heap} {args:List WData} {vals:List Value}
 (hpre:l.row.toRowW.claim.pre args=true) (hwl:WellAll P h vals args) :
 ∃ a vs ns,vals=[Value.ref a]/\args=[WData.list (ns.map WData.int)]/\h.get? a=some { cls:=.type "list",data:=.seq vs.toArray }/\IntsAre vs ns/\ns.length<=n:=by
 have hsh:WShape.hasAll [] args [.list .int]=true:=(pre_splitW hpre).1;have hc:l.pre.holds [] { args:=args }=true:=(pre_splitW hpre).2;obtain⟨d,r,rfl,h1,h2⟩:=hasAllW_cons hsh;obtain rfl:=hasAllW_nil h2;obtain⟨xs,rfl,h3⟩:=hasW_list h1;obtain⟨ns,rfl⟩:=items_int h3;have hlen:ns.length<=n:=by
  unfold OpenLaw.pre at hc;have h4:(WTm.not (.lt (.lit (.int (n:Int))) (.len (.arg 0)))).holds [] { args:=[.list (ns.map .int)] }=true:=by
   have h4:=(holds_andW hc).1;rw[hn]at h4;exact h4
  have h5:=condW_of h4 (w_not (w_lt w_lit (w_len_list (w_arg rfl))));rw[aBN]at h5;refine Nat.le_of_not_lt fun q=>?_;have q':(n:Int)<((ns.length:Nat):Int):=by omega
  first
   | (rw[aBa q']at h5;exact absurd h5 (by decide))
   | (simp at h5;omega)
 cases hwl with
 | cons w1 w2 =>
  cases w2;cases w1 with
  | list ho hall=>exact⟨_,_,ns,rfl,rfl,ho,oU ns _ hall,hlen⟩
theorem D8 (l:OpenLaw) (args:List WData):l.row.toRowW.claim.post args (.bool true) args=true :=
 postW_of (r:=l.row.toRowW) (X:=(true == true))
  (show WShape.has [] (.bool true) .bool=true by first | rfl | decide | simp[WShape.has,WShape.arms,WShape.armsAll])
  (show (WTm.eq .res (.lit (.bool true))).value [] { args:=args,res:=some (.bool true),after:=args }=some (.bool (true == true)) from w_eq_bool (w_res rfl) w_lit) rfl
theorem attach_call {l:OpenLaw} {n:Nat} {q:Program} {loose:List Str} {XP:(Str->Option Value)->Heap->Prop} {YP:World->Heap->Prop} {d:DefRec}
 (hn:l.most=some n) (hdf:d.params.defaults=[])
 (call:∀ (w:World) (s₀ s₁:Shared) (mg mb:Str->Option Value) (fa:Addr) (o:Obj) (pm cd doc:Value) (a:Addr) (vs:List Value) (ns:List Int),
  Ground q loose [] XP w s₀ mg mb s₁.heap->YP w s₁.heap ->
  s₁.heap.get? fa=some o->o.data=.func (docDef d.name d.params d.body d.scope pm cd doc)->s₁.heap.CodeRec cd d.name->mg d.name=some (.ref fa) ->
  s₁.heap.get? a=some { cls:=.type "list",data:=.seq vs.toArray }->IntsAre vs ns->ns.length<=n->s₁.gens=#[] ->
  codeAny (model l.prog w) callerA (.call (.ref fa) ⟨[.ref a],[]⟩) (fun r s'=>r=.ok (.ret (.bool true))/\OldK s₁.heap s'.heap/\s'.os=s₁.os/\AllBare s'.gens) s₁) :
 WalkO q loose XP YP l.row.toRowW d [] (fun f vs=>PySem.call f vs):=by
 intro w s₀ s₁ mg mb G Y fa o pm cd doc dV kV ho hd hcd hD hmg hg args vals as hpre hlay hrd hwl hlo;obtain rfl:dV=.none:=Dflts.none hD hdf;obtain rfl:kV=.none:=Dflts.noKw hD;obtain⟨a,vs,ns,rfl,rfl,hobj,hints,hlen⟩:=D7 hn hpre hwl;refine enter_call (codeAny_mono (call w s₀ s₁ mg mb fa o pm cd doc a vs ns G Y ho (fd_plain hd) hcd hmg hobj hints hlen hg) fun r s' hq=>?_);obtain⟨rfl,h2,h3,h4⟩:=hq;exact⟨.inl ⟨.bool true,.bool true,[],rfl,fun _=>rfl,.bool true,D8 l _,fun _=>⟨List.Pairwise.nil,fun _ hm=>(nomatch hm)⟩⟩,h2,h3,h4⟩
section
variable {prog:Program} {w:World} {A:Around} {E:Value->Shared->Prop} {s:Shared} {K:Frag}
end
end Att
namespace L2
open PySem PySem.Spec PyProof.Rows
theorem iX:∀ {vs:List Value} {ns:List Int},IntsAre vs ns->Vals (ns.map V.int) vs
 | _,_,.nil=>.nil
 | _,_,.cons n t h=>.cons ⟨t,rfl⟩ (iX h)
def u5 (H:Hp):Prop:=∀ b,H b=none\/∃ o xs,H b=some (.frz o (.lst xs))
theorem P1 {P:Program} {w:World} {K:PySem.W.Frag} {mg mb:Str->Option Value} {CX:CXT} {k:Nat} {fa a:Addr} {fd:FuncData} {x:Str} {sp:Sp} {s₁:Shared} {vs:List Value} {ns:List Int}
 (KX:K.In s₁.heap) (hns:s₁.heap.Ns mainGlobals mg) (hb:s₁.heap.Ns builtinsNs mb) (hbb:∀ x:Str,x≠"__name__"->mb x=bootBuiltins x) (hlim:s₁.heap.NoLimit) (hg:s₁.gens=#[])
 (ha:s₁.heap.get? a=some { cls:=.type "list",data:=.seq vs.toArray }) (hi:IntsAre vs ns) (hl:ns.length<=sizeLine) (hr:Room k callerA)
 (F:∀ base:Heap,K.In base->base.Ns mainGlobals mg->FnOk P w K mg base CX k fa fd [x] sp) (hbind:∀ (s:Shared) (u:Value),BindsTo s fd ⟨[u],[]⟩ [(x,u)])
 (hsp:∀ H:Hp,u5 H->SqL K H a (ns.map V.int)->sp [.ref a] H (fun v _=>v=.bl true) fun _ _ _=>False)
 (hCX:∀ H e s',CX [] H s₁ (fun _ _ _=>False) e s'->False) :
 codeAny (model P w) callerA (.call (.ref fa) ⟨[.ref a],[]⟩) (fun r s'=>r=.ok (.ret (.bool true))/\OldK s₁.heap s'.heap/\s'.os=s₁.os/\AllBare s'.gens) s₁:=by
 have rv:=iX hi;have lenV:=hi.length;have core:∀ H:Hp,u5 H->SqL K H a (ns.map V.int)->HOk P w H s₁.heap->(∀ b,H b≠none->b=a)->(H a≠none->K.lookup a=none) ->
  codeAny (model P w) callerA (.call (.ref fa) ⟨[.ref a],[]⟩) (fun r s'=>r=.ok (.ret (.bool true))/\OldK s₁.heap s'.heap/\s'.os=s₁.os/\AllBare s'.gens) s₁:=by
  intro H hO hS hok hA hK;have base_of:∀ {b:Addr} {o:Obj},s₁.heap.get? b=some o->H b=none->(tQ s₁.heap H).get? b=some o:=fun e n=>N5 e n;have noA:∀ {b:Addr} {o:Obj} {es:Array DictEntry} {ep:Nat},s₁.heap.get? b=some o->o.data=.dict es ep->H b=none:=fun {b o es ep} e d=>by
   cases q:H b with
   | none=>rfl
   | some u =>
    have e':b=a:=hA b (by rw[q];simp);subst e';rw[ha]at e;cases e;have d':Data.seq vs.toArray _=Data.dict es ep:=d;cases d'
  have nsK:∀ {b:Addr} {m:Str->Option Value},s₁.heap.Ns b m->(tQ s₁.heap H).Ns b m:=fun {b m} ⟨o,es,ep,e,d,r⟩=>⟨o,es,ep,base_of e (noA e d),d,r⟩;have hKb:K.In (tQ s₁.heap H):=fun b o e=>base_of (KX b o e) (by
   cases q:H b with
   | none=>rfl
   | some u =>
    have e':b=a:=hA b (by rw[q];simp);subst e';rw[hK (by rw[q];simp)]at e;cases e)
  have hM:Mod K mg (tQ s₁.heap H):=⟨hKb,nsK hns,⟨mb,nsK hb,hbb⟩,let ⟨mc,h1,h2⟩:=hlim;⟨mc,nsK h1,h2⟩⟩;have e0:X9 P w K mg (tQ s₁.heap H) callerA [] s₁ H:=⟨rfl,hM,fun b o e=>X6 e,Nat.le_of_eq (D0 _ _),trivial,fun b hb=>absurd (show b∈([]:List Addr) from hb) (by simp),hok,.of_eq hg⟩;refine codeAny_mono ((F _ hKb (nsK hns)).run callerA [] s₁ H ⟨[.ref a],[]⟩ [.ref a] [.ref a] _ _ hr e0 (hbind s₁ (.ref a)) (.cons rfl .nil) (hsp H hO hS)) fun r s' h=>?_;cases r with
  | error e=>exact(hCX H e s' h).elim
  | ok fl =>
   cases fl with
   | next=>exact False.elim h
   | brk=>exact False.elim h
   | cont=>exact False.elim h
   | ret u =>
    obtain⟨v,H',os,bare,un,hok',r',q⟩:=h;have q':v=.bl true:=q;subst q';obtain rfl:u=Value.bool true:=r';refine⟨rfl,OldK.of_keep fun b o e=>?_,os,bare⟩;cases q:H b with
    | none=>exact un.keep b o e q (by intro z;exact absurd (show b∈([]:List Addr) from z) (by simp)) (by simp)
    | some u =>
     rcases hO b with z | ⟨ob,xs,z⟩
     ·rw[q]at z;cases z
     ·have z2:=un.frzs b ob _ z;obtain⟨e1,_⟩:=hok b _ z;obtain⟨e2,_⟩:=hok' b _ z2;rw[e]at e1;cases e1;exact e2
 cases hk:K.lookup a with
 | some o =>
  have e:=KX a o hk;rw[ha]at e;cases e;refine core (fun _=>none) (fun _=>.inl rfl) (.inr ⟨_,vs.toArray,_,hk,rfl,rfl,rfl,by rw[aBV,lenV];exact hl,by simpa using rv⟩) (fun b u z=>by have z':(none:Option HO)=some u:=z;cases z') (fun b z=>absurd rfl z) fun z=>absurd rfl z
 | none =>
  refine core (fun b=>if b=a then some (.frz { cls:=.type "list",data:=.seq vs.toArray } (.lst (ns.map V.int)))else none) (fun b=>?_) (.inl (.inr ⟨{ cls:=.type "list",data:=.seq vs.toArray },if_pos rfl⟩)) (fun b u z=>?_) (fun b z=>?_) fun _=>hk
  ·by_cases hb:b=a
   ·exact .inr ⟨_,_,if_pos hb⟩
   ·exact .inl (if_neg hb)
  ·by_cases hb:b=a
   ·have z':=(if_pos hb).symm.trans z;cases z';subst hb;exact⟨ha,by rw[aBN];exact hl,vs,_,rv,ha⟩
   ·have z':=(if_neg hb).symm.trans z;cases z'
  ·by_cases hb:b=a
   ·exact hb
   ·exact absurd (if_neg hb) z
theorem walk_of {l:PySem.W.OpenLaw} {n k:Nat} {q:Program} {loose:List Str} {XP:(Str->Option Value)->Heap->Prop} {YP:World->Heap->Prop} {d:DefRec} {K:Params->PySem.W.Frag} {CX:World->CXT} {sp:World->Sp} {x:Str}
 (hn:l.most=some n) (hn2:n<=sizeLine) (hdf:d.params.defaults=[]) (hr:Room k callerA)
 (hY:∀ (w:World) (h:Heap),YP w h->(K w.params).In h)
 (F:∀ (w:World) (mg:Str->Option Value) (fa:Addr) (h:Heap),(K w.params).In h->h.Ns mainGlobals mg->mg d.name=some (.ref fa) ->
  ∃ fd:FuncData,(∀ (s:Shared) (u:Value),BindsTo s fd ⟨[u],[]⟩ [(x,u)]) /\
   ∀ base:Heap,(K w.params).In base->base.Ns mainGlobals mg->FnOk l.prog w (K w.params) mg base (CX w) k fa fd [x] (sp w))
 (hsp:∀ (w:World) (H:Hp) (a:Addr) (ns:List Int),ns.length<=n->u5 H->SqL (K w.params) H a (ns.map V.int)->sp w [.ref a] H (fun v _=>v=.bl true) fun _ _ _=>False)
 (hCX:∀ (w:World) (H:Hp) (s:Shared) (e:Value) (s':Shared),CX w [] H s (fun _ _ _=>False) e s'->False) :
 PySem.W.WalkO q loose XP YP l.row.toRowW d [] (fun f vs=>PySem.call f vs):=by
 refine Att.attach_call hn hdf fun w s₀ s₁ mg mb fa o pm cd doc a vs ns G Y ho hd hcd hmg hobj hints hlen hg=>?_;have KX:=hY w _ Y;obtain⟨fd,hb,hF⟩:=F w mg fa _ KX G.T.g hmg;exact P1 KX G.T.g G.T.b G.T.builtins G.T.nolimit hg hobj hints (Nat.le_trans hlen hn2) hr hF hb (fun H hO hS=>hsp w H a ns hlen hO hS) fun H e s'=>hCX w H s₁ e s'
def aX (s:Stmt):Arguments:=match s with
 | .FunctionDef _ a _ _ _ _ _ _ _ _=>a
 | _=>{ posonlyargs:=[],args:=[],vararg:=none,kwonlyargs:=[],kw_defaults:=[],kwarg:=none,defaults:=[] }
def aU (s:Stmt):List Stmt:=match s with
 | .FunctionDef _ _ b _ _ _ _ _ _ _=>b
 | _=>[]
def aE (s:Stmt):Scope:=match s with
 | .FunctionDef _ _ _ _ _ _ sc _ _ _=>sc
 | _=>{ kind:=.function,names:=[],isGenerator:=false,isCoroutine:=false }
abbrev CX0:CXT:=fun _ _ _ _ _ _=>False
abbrev E0:XK:=fun _ _ _=>False
theorem aAV {X:Cx}:xV CX0 X E0:=fun _ _ _ _ _ _ _ h=>h.elim
structure Fun (K:PySem.W.Frag) (x qual:Str) (st:Stmt) (f:Addr) (fd:FuncData):Prop where
 ex:∃ (oc:Value) (od:Option Addr) (kV doc pm:Value) (an:Option Addr) (cdv ct:Value) (osl:Array (Option Value)),
  fd=PySem.W.fnOf x qual (aX st) (aU st) (aE st) .none kV doc pm an cdv ct/\K.lookup f=some ⟨oc,od,.func fd,osl⟩/\PySem.W.codeIn K cdv qual=true
 kp:PySem.W.keepIn K (.ref f)=true
section
variable {P:Program} {w:World} {K:PySem.W.Frag} {mg:Str->Option Value} {base:Heap}
theorem Fun.ok {x qual:Str} {st:Stmt} {f:Addr} {fd:FuncData} {N ps:List Str} {k:Nat} {sp:Sp} (F:Fun K x qual st f fd) (S:bC N ps (aE st)) (len:∀ vs H Q E,sp vs H Q E->vs.length=ps.length)
 (hbody:∀ (cdv:Value) (A:Around) (outer:List Env) (s:Shared) (H:Hp) (vs:List V) (Q:VK) (E:XK),Room k (A.deeper (envOfC qual (aE st) s.heap.objs.size f cdv))->sp vs H Q E ->
  ∃ t,PSs (vM CX0 P w K mg base N qual (aE st) f cdv A outer s H E).nox (aU st) t/\t { nx:=fun _ H'=>Q .non H',rt:=Q } (lP N vs) H):FnOk P w K mg base CX0 (k+1) f fd ps sp:=by
 obtain⟨oc,od,kV,doc,pm,an,cdv,ct,osl,rfl,lk,hcd⟩:=F.ex;refine O8 lk hcd S len fun A outer s H vs Q E hr hsp=>?_;obtain⟨t,h,q⟩:=hbody cdv A outer s H vs Q E hr hsp;exact⟨t,h.nox,q⟩
theorem Fun.binds {x qual:Str} {st:Stmt} {f:Addr} {fd:FuncData} {ps:List Str} (F:Fun K x qual st f fd)
 (h:∀ (kV doc pm:Value) (an:Option Addr) (cdv ct:Value) (us:List Value),us.length=ps.length->bindArgs (PySem.W.fnOf x qual (aX st) (aU st) (aE st) .none kV doc pm an cdv ct) ⟨us,[]⟩=pure (ps.zip us)):Binds K fd ps []:=by
 obtain⟨oc,od,kV,doc,pm,an,cdv,ct,osl,rfl,lk,hcd⟩:=F.ex;exact .all (h kV doc pm an cdv ct)
theorem bV {x qual:Str} {st:Stmt} {f:Addr} {oc:Value} {od an:Option Addr} {osl:Array (Option Value)} {kV doc pm cdv ct:Value} (l:K.lookup f=some ⟨oc,od,.func (PySem.W.fnOf x qual (aX st) (aU st) (aE st) .none kV doc pm an cdv ct),osl⟩)
 (c:PySem.W.codeIn K cdv qual=true) (k:PySem.W.keepIn K (.ref f)=true):Fun K x qual st f (PySem.W.fnOf x qual (aX st) (aU st) (aE st) .none kV doc pm an cdv ct):=⟨⟨oc,od,kV,doc,pm,an,cdv,ct,osl,rfl,l,c⟩,k⟩
end
theorem pS {A:Around} {k:Nat} (hr:Room k A):A.units+1<cLine:=Nat.lt_of_le_of_lt (Nat.add_le_add_left (by decide:1<=64) _) hr.units
section
variable {X:Cx}
theorem pv (i:Nat) {x:Str} {pos:Pos} (hN:X.N[i]?=some x:=by rfl) (hv:Vis X.env.scope x:=by first | exact Or.inl rfl | exact Or.inr (Or.inl rfl) | exact Or.inr (Or.inr rfl)) (hd:(x == ("__debug__":Str))=false:=by decide)
 (hcd:(x == ("__classdict__":Str))=false:=by decide):PE X (.Name x pos) (aAE i):=o9 hN hv hd hcd
end
theorem aBB {A B:Prop} (h:B):if false=true then A else B:=by
 rw[if_neg aB0];exact h
theorem oC {c A B:Prop} [Decidable c] (hc:c) (h:B):if (!decide c)=true then A else B:=by
 rw[aBa hc];exact aBB h
def Same (H H':Hp):Prop:=∀ b o,H b=some o->H' b=some o
theorem Same.refl (H:Hp):Same H H:=fun _ _ h=>h
theorem Same.trans {H H1 H2:Hp} (a:Same H H1) (b:Same H1 H2):Same H H2:=fun c o h=>b c o (a c o h)
theorem Same.free {H H':Hp} (e:Same H H') {l:Addr} (h:H' l=Option.none):H l=Option.none:=by
 cases q:H l with
 | none=>rfl
 | some o =>
  rw[e l o q]at h;cases h
theorem Same.seq {K:PySem.W.Frag} {H H':Hp} {a:Addr} {xs:List V} (e:Same H H') (h:SqL K H a xs):SqL K H' a xs:=by
 rcases h with (h | ⟨o,h⟩) | h
 ·exact .inl (.inl (e _ _ h))
 ·exact .inl (.inr ⟨o,e _ _ h⟩)
 ·exact .inr h
def kC (scope:Scope) (env:Env):List (Str×Addr) :=
 scope.names.foldl (fun acc y=>if y.2 == .free then (match env.cells.lookup y.1 with | some c=>(y.1,c) :: acc | none=>acc)else acc) []
theorem oD {env:Env}:∀ (names:List (Str×NameKind)) (acc:List (Str×Addr)),(∀ y∈names,y.2=.free->∃ c,env.cells.lookup y.1=some c) ->
 (forIn names acc fun(y:Str×NameKind) (r:List (Str×Addr))=>(match y with | (name,kind)=>if (kind == NameKind.free)=true then (do let a <- cellOf env name;pure (ForInStep.yield ((name,a) :: r)))else pure (ForInStep.yield r):Sem (ForInStep (List (Str×Addr))))) =
  pure (names.foldl (fun acc y=>if y.2 == .free then (match env.cells.lookup y.1 with | some c=>(y.1,c) :: acc | none=>acc)else acc) acc)
 | [],acc,_=>rfl
 | (n,k) :: r,acc,h=>by
  rw[List.forIn_cons,aBf];have ih:=fun acc=>oD (env:=env) r acc fun y hy=>h y (aBQ _ hy)
  by_cases hk:k=.free
  ·subst hk;obtain⟨c,e⟩:=h (n,.free) aBP rfl;have e':env.cells.lookup n=some c:=e;simp only[cellOf,e',beq_self_eq_true,if_true];exact ih _
  ·have hb:(k == NameKind.free)=false:=by simpa using hk
   simp only[hb,Bool.false_eq_true,if_false];exact ih _
theorem tU {scope:Scope} {env:Env} (h:∀ y∈scope.names,y.2=.free->∃ c,env.cells.lookup y.1=some c):closureFor scope env=pure (kC scope env):=by
 have e:=oD (env:=env) scope.names [] h;unfold closureFor kC;rw[<- e]
 first | rfl | simp
theorem sJ {env:Env} {x:Str} {c:Addr}:∀ (names:List (Str×NameKind)) (acc:List (Str×Addr)),(∀ z d,acc.lookup z=some d->env.cells.lookup z=some d) ->
 (names.foldl (fun acc y=>if y.2 == .free then (match env.cells.lookup y.1 with | some c=>(y.1,c) :: acc | none=>acc)else acc) acc).lookup x=some c->env.cells.lookup x=some c
 | [],acc,h,e=>h x c e
 | (n,k) :: r,acc,h,e=>by
  rw[aBf]at e;refine sJ r _ ?_ e;intro z d q
  by_cases hk:(k == NameKind.free)=true
  ·simp only[hk,if_true]at q;cases el:env.cells.lookup n with
   | none=>simp only[el]at q;exact h z d q
   | some a =>
    simp only[el,List.lookup_cons]at q
    by_cases hz:(z == n)=true
    ·simp only[hz]at q;have:z=n:=by simpa using hz
     subst this;rw[el];exact q
    ·have hz':(z == n)=false:=by simpa using hz
     simp only[hz']at q;exact h z d q
  ·simp only[hk,if_false]at q;exact h z d q
theorem gU {scope:Scope} {env:Env} {x:Str} {c:Addr} (e:(kC scope env).lookup x=some c):env.cells.lookup x=some c:=sJ _ _ (fun _ _ q=>by simp at q) e
theorem lQ {env:Env} {x:Str}:∀ (names:List (Str×NameKind)) (acc:List (Str×Addr)),(∀ y∈names,y.2=.free->∃ c,env.cells.lookup y.1=some c)->((x,NameKind.free)∈names\/(acc.lookup x).isSome=true) ->
 ((names.foldl (fun acc y=>if y.2 == .free then (match env.cells.lookup y.1 with | some c=>(y.1,c) :: acc | none=>acc)else acc) acc).lookup x).isSome=true
 | [],acc,_,h=>by
  rcases h with h | h
  ·cases h
  ·exact h
 | (n,k) :: r,acc,hc,h=>by
  rw[aBf];refine lQ r _ (fun y hy=>hc y (aBQ _ hy)) ?_;rcases h with h | h
  ·rcases aBr.mp h with h | h
   ·cases h;obtain⟨c,e⟩:=hc (x,.free) aBP rfl;have e':env.cells.lookup x=some c:=e;right
    simp[e',List.lookup_cons]
   ·exact .inl h
  ·right
   by_cases hk:(k == NameKind.free)=true
   ·simp only[hk,if_true];cases el:env.cells.lookup n with
    | none=>exact h
    | some a =>
     simp only[List.lookup_cons]
     by_cases hz:(x == n)=true
     ·simp[hz]
     ·have hz':(x == n)=false:=by simpa using hz
      simp only[hz'];exact h
   ·simp only[hk];exact h
theorem sK {scope:Scope} {env:Env} {x:Str} (hc:∀ y∈scope.names,y.2=.free->∃ c,env.cells.lookup y.1=some c) (h:(x,NameKind.free)∈scope.names):∃ c,(kC scope env).lookup x=some c :=
 Option.isSome_iff_exists.mp (lQ _ _ hc (.inl h))
def cB (sc inn:Scope) (N:List Str) (js:List Nat) (cs:List Str):Bool :=
 (inn.kind == .function) && inn.names.all (fun y=>y.2 != .cell && (y.2 != .local || inn.names.lookup y.1 == some .local) && (y.2 != .free || (sc.names.lookup y.1 == some .cell || sc.names.lookup y.1 == some .free))) &&
 (js.map fun j=>N[j]?) == cs.map some && cs.all (fun x=>inn.names.lookup x == some .free)
structure CompOk (sc inn:Scope) (N:List Str) (js:List Nat) (cs:List Str):Prop where
 kind:inn.kind=.function
 nocell:∀ y∈inn.names,y.2≠.cell
 names:∀ y∈inn.names,y.2=.local->inn.names.lookup y.1=some .local
 frees:∀ y∈inn.names,y.2=.free->sc.names.lookup y.1=some .cell\/sc.names.lookup y.1=some .free
 slots:(js.map fun j=>N[j]?)=cs.map some
 caps:∀ x∈cs,inn.names.lookup x=some .free
theorem CompOk.of {sc inn:Scope} {N:List Str} {js:List Nat} {cs:List Str} (h:cB sc inn N js cs=true):CompOk sc inn N js cs:=by
 unfold cB at h;simp only[Bool.and_eq_true]at h;obtain⟨⟨⟨h1,h2⟩,h3⟩,h4⟩:=h;rw[List.all_eq_true]at h2 h4;refine⟨by simpa using h1,fun y hy=>?_,fun y hy e=>?_,fun y hy e=>?_,by simpa using h3,fun x hx=>by simpa using h4 x hx⟩
 ·have:=h2 y hy;simp only[Bool.and_eq_true]at this;simpa using this.1.1
 ·have:=h2 y hy;simp only[Bool.and_eq_true,e]at this;simpa using this.1.2
 ·have:=h2 y hy;simp only[Bool.and_eq_true,e]at this;simpa using this.2
def sIn (nt:Nat) (js:List Nat) (σ:St):St:=List.replicate nt none++js.map fun j=>(σ[j]?).join
def fT (X:Cx) (inn:Scope) (N':List Str) (s₀:Shared) (H₀:Hp) (ex:List Addr):Cx where
 prog:=X.prog
 w:=X.w
 K:=X.K
 mg:=X.mg
 base:=X.base
 A:=X.A
 N:=N'
 s₀:=s₀
 H₀:=H₀
 env:=compEnvC inn (kC inn X.env) s₀.heap.objs.size X.env
 outer:=X.stack
 stack:=X.stack
 ex:=ex
 fn:=fun _=>false
 calm:=X.calm
 pn:=[]
 xe:=fun _ _=>False
def PIf (X:Cx) (ifs:List Expr) (t:TT):Prop :=
 ∀ (pins:List (Addr×Obj)) (s:Shared) (σ:St) (H:Hp) (Q:Bool->Hp->Prop),Inv X pins σ H s->t σ H Q ->
  wpAny (model X.prog X.w) X.A (forIn ifs true fun c r=>if r=true then do let ok <- isTrue c X.env (eval c X.env);pure (ForInStep.yield ok)else pure (ForInStep.yield r)) (TP X pins σ Q) X.xe s
def aBC:TT:=fun _ H Q=>Q true H
theorem cA {X:Cx}:PIf X [] aBC:=fun _ _ _ H _ I h=>wpAny_tests_nil ⟨H,I,h⟩
theorem mG {X:Cx} {c:Expr} {t:TT} (h:PT X c t):PIf X [c] t:=fun pins s σ H Q I hw=>wpAny_tests_one (h pins s σ H Q I hw)
def sL (J:It) (σ0:St) (g:TG) (tt:TT) (te:TE) (Q:VK) (H1:Hp):Prop:=∃ W:Nat->Nat->List V->Hp->Prop,(∃ m,W 0 m [] H1)/\∀ i m ys H,W i m ys H ->
 ys.length<sizeLine/\((J.stop i H/\∀ D,H D=none->Q (.ref D) (upd H D (.lst ys))) \/
  (J.go i H/\∃ N:List V->Hp->Prop,(∀ ys' H',N ys' H'->∃ m',m'<m/\W (i+1) m' ys' H')/\∀ x H',J.yld i H x H'->g x σ0 H' fun σ2 H2=>tt σ2 H2 fun b H3 =>
   if b=true then te σ2 H3 fun y H4=>N (ys++[y]) H4 else N ys H3))
def o0 (wi:TI) (nt:Nat) (js:List Nat) (g:TG) (tt:TT) (te:TE):TE:=fun σ H Q=>wi σ H fun J H1=>sL J (sIn nt js σ) g tt te Q H1
theorem gI {env:Env}:∀ {names:List (Str×NameKind)} {x:Str},names.lookup x=some .free ->
 (names.map fun(n,k)=>if (k == NameKind.free && env.scope.kind == .function && env.kindOf n == some .cell)then (n,NameKind.cell)else (n,k)).lookup x=some .cell \/
 (names.map fun(n,k)=>if (k == NameKind.free && env.scope.kind == .function && env.kindOf n == some .cell)then (n,NameKind.cell)else (n,k)).lookup x=some .free
 | [],_,h=>by simp at h
 | (n,k) :: r,x,h=>by
  have ih:=@gI env r x;show List.lookup x ((if (k == NameKind.free && env.scope.kind == .function && env.kindOf n == some .cell)=true then (n,NameKind.cell)else (n,k)) :: _)=_\/List.lookup x ((if (k == NameKind.free && env.scope.kind == .function && env.kindOf n == some .cell)=true then (n,NameKind.cell)else (n,k)) :: _)=_;cases hx:x == n with
  | true =>
   simp only[List.lookup_cons,hx]at h;cases h
   by_cases hc:(NameKind.free == NameKind.free && env.scope.kind == .function && env.kindOf n == some .cell)=true
   ·left;rw[if_pos hc];simp[List.lookup_cons,hx]
   ·right;rw[if_neg hc];simp[List.lookup_cons,hx]
  | false =>
   simp only[List.lookup_cons,hx]at h
   by_cases hc:(k == NameKind.free && env.scope.kind == .function && env.kindOf n == some .cell)=true
   ·rw[if_pos hc];simp only[List.lookup_cons,hx];exact ih h
   ·rw[if_neg hc];simp only[List.lookup_cons,hx];exact ih h
theorem kE {env:Env}:∀ {names:List (Str×NameKind)} {x:Str},(∀ y∈names,y.2≠NameKind.cell) ->
 ((names.map fun(n,k)=>if (k == NameKind.free && env.scope.kind == .function && env.kindOf n == some .cell)then (n,NameKind.cell)else (n,k)).lookup x=some .cell \/
 (names.map fun(n,k)=>if (k == NameKind.free && env.scope.kind == .function && env.kindOf n == some .cell)then (n,NameKind.cell)else (n,k)).lookup x=some .free)->(x,NameKind.free)∈names
 | [],_,_,h=>by simp at h
 | (n,k) :: r,x,hn,h=>by
  have ih:=@kE env r x (fun y hy=>hn y (aBQ _ hy));have hk:=hn (n,k) aBP;rw[aBd]at h;cases hx:x == n with
  | true =>
   have e:x=n:=by simpa using hx
   subst e
   by_cases hc:(k == NameKind.free && env.scope.kind == .function && env.kindOf x == some .cell)=true
   ·have:k=.free:=by simp only[Bool.and_eq_true]at hc;simpa using hc.1.1
    subst this;exact aBP
   ·simp only[if_neg hc,List.lookup_cons,hx]at h;rcases h with h | h
    ·cases h;exact absurd rfl hk
    ·cases h;exact aBP
  | false =>
   refine aBQ _ (ih ?_)
   by_cases hc:(k == NameKind.free && env.scope.kind == .function && env.kindOf n == some .cell)=true
   ·simp only[if_pos hc,List.lookup_cons,hx]at h;exact h
   ·simp only[if_neg hc,List.lookup_cons,hx]at h;exact h
section
variable {X:Cx} {pins:List (Addr×Obj)} {σ:St} {H H':Hp} {s:Shared} {inn:Scope} {js:List Nat} {cs ts:List Str} {nt:Nat}
theorem pA {i:Nat} {v:V} (h:(sIn nt js σ)[i]?=some (some v)):nt<=i/\∃ j,js[i - nt]?=some j/\σ[j]?=some (some v):=by
 unfold sIn at h
 by_cases hi:i<nt
 ·rw[List.getElem?_append_left (by simpa using hi),List.getElem?_replicate]at h;split at h <;> cases h
 ·rw[List.getElem?_append_right (by simpa using hi),aB8,aBc]at h;refine⟨by omega,?_⟩;cases e:js[i - nt]? with
  | none=>rw[e]at h;cases h
  | some j =>
   rw[e]at h;have h':(σ[j]?).join=some v:=Option.some.inj h;refine⟨j,rfl,?_⟩;cases q:σ[j]? with
   | none=>rw[q]at h';cases h'
   | some o =>
    rw[q]at h';have h'':o=some v:=h';rw[h'']
theorem aAW {ex:List Addr} (I:Inv X pins σ H s) (O:CompOk X.env.scope inn X.N js cs) (hex:∀ b∈ex,b<s.heap.objs.size/\b≠X.env.locals/\b∉X.fs/\(∀ x c,X.env.cells.lookup x=some c->c≠b)/\∀ o,X.base.get? b≠some o) :
 (fT X inn (ts++cs) s H ex).Ok where
 mod:=I.ok.mod
 kind:=O.kind
 glob:=I.ok.glob
 blt:=I.ok.blt
 above:=Nat.le_refl _
 inj:=fun x y c h1 h2=>I.ok.inj x y c (gU h1) (gU h2)
 has:=fun x hx=>by
  have hm:(x,NameKind.free)∈inn.names:=kE O.nocell hx;exact sK (fun y hy e=>I.ok.has y.1 (O.frees y hy e)) hm
 cab:=fun _ _ h=>absurd h (by show ¬ (false=true);decide)
 hd:=I.ok.hd
 frames:=I.ok.frames
 stk:=.inl rfl
 exf:=fun b hb=>⟨aBb (hex b hb).1,fun x c e=>(hex b hb).2.2.2.1 x c (gU e)⟩
 bs:=I.bs
 bsz:=Nat.le_trans I.ok.bsz I.sz
 noex:=fun b o e hb=>(hex b hb).2.2.2.2 o e
 exfs:=fun b hb hs=>by
  rcases aBr.mp (I.stkSub b hs)with e | e
  ·exact(hex b hb).2.1 e
  ·exact(hex b hb).2.2.1 e
 funs:=I.stack
 frf:=I.stkFree
theorem P2 {ex:List Addr} {h':Heap} {tk:Nat} (hts:ts.length=nt) (I:Inv X pins σ H s) (O:CompOk X.env.scope inn X.N js cs) (hex:∀ b∈ex,b<s.heap.objs.size/\b≠X.env.locals/\b∉X.fs/\(∀ x c,X.env.cells.lookup x=some c->c≠b)/\∀ o,X.base.get? b≠some o)
 (hn:∃ m,h'.Ns s.heap.objs.size m) (hk:∀ b o,s.heap.get? b=some o->h'.get? b=some o) :
 Inv (fT X inn (ts++cs) s H ex) [] (sIn nt js σ) H { s with heap:=h',toks:=tk }:=by
 have ok:(fT X inn (ts++cs) s H ex).Ok:=aAW I O hex;obtain⟨m,hn⟩:=hn;have cellK:∀ c v,s.heap.IsCell c v->h'.IsCell c v:=fun c v ⟨o,ho,hd⟩=>⟨o,hk c o ho,hd⟩;have hlen:js.length=cs.length:=by have:=congrArg List.length O.slots;simpa using this
 refine⟨ok,rfl,I.bare,Un.kept hk,⟨m,hn,fun i x v e1 e2 e3=>?_⟩,fun x c e=>?_,I.hok.fresh (Nat.le_refl _),fun x c e=>I.freeC x c (gU e),fun p hp=>?_,I.hok.kept hk,?_⟩
 ·obtain⟨hi,j,hj,hv⟩:=pA e2;have e1':(ts++cs)[i]?=some x:=e1;rw[List.getElem?_append_right (by omega),hts]at e1';have hN:X.N[j]?=some x:=by
   have q:(js.map fun j=>X.N[j]?)[i - nt]?=(cs.map some)[i - nt]?:=by rw[O.slots]
   rw[aBc,aBc,hj,e1']at q;exact Option.some.inj q
  have hcap:=O.caps x (aBY e1');have hmem:(x,NameKind.free)∈inn.names:=PySem.mem_of_lookup hcap;have hout:=O.frees _ hmem rfl;obtain⟨mo,hno,hl⟩:=I.loc;obtain⟨u,r,l⟩:=hl j x v hN hv (.inr hout);refine⟨u,r,.inr ?_⟩;rcases l with ⟨l1,_⟩ | ⟨k,c,ec,z⟩
  ·have l1':X.env.scope.names.lookup x=some .local:=l1;rcases hout with q | q <;> (rw[q]at l1';cases l1')
  ·refine⟨?_,?_⟩
   ·exact gI (env:=X.env) hcap
   ·obtain⟨c',ec'⟩:=sK (env:=X.env) (fun y hy e=>I.ok.has y.1 (O.frees y hy e)) hmem;have:=gU ec';rw[ec]at this;cases this;exact⟨c,ec',cellK _ _ z⟩
 ·obtain⟨v,z⟩:=I.cell x c (gU e);exact⟨v,cellK _ _ z⟩
 ·exact absurd (show p∈([]:List (Addr×Obj)) from hp) (by simp)
 ·show (sIn nt js σ).length=(ts++cs).length;unfold sIn;simp[hts,hlen]
theorem Inv.track {a:Addr} {o:HO} (I:Inv X pins σ H s) (hn:H a=none) (h0:X.s₀.heap.objs.size<=a) (hL:a≠X.env.locals) (hc:∀ x c,X.env.cells.lookup x=some c->c≠a) (hp:∀ p∈X.pn++pins,p.1≠a)
 (new:ObjOk X.prog X.w (upd H a o) s.heap a o):Inv X pins σ (upd H a o) s:=by
 have ne0:∀ b ob,X.s₀.heap.get? b=some ob->b≠a:=fun b ob e=>aBb (aB4 (aBT e) h0);have neT:∀ b u,H b=some u->b≠a:=fun b u e=>bN e hn;refine⟨I.ok,I.os,I.bare,⟨I.base.keep,I.base.slot,fun b ob e n hx=>?_,I.base.there,fun b xs e=>?_,fun b ob u e=>?_,fun b ps e=>?_⟩,I.loc,I.cell,?_,fun x c e=>?_,fun p hp'=>?_,fun b u e=>?_,I.len⟩
 ·rw[aH (ne0 b ob e)];exact I.base.free b ob e n hx
 ·have q:=I.base.tups b xs e;rw[aH (neT b _ q)];exact q
 ·have q:=I.base.frzs b ob u e;rw[aH (neT b _ q)];exact q
 ·obtain⟨more,q⟩:=I.base.tbls b ps e;exact⟨more,by rw[aH (neT b _ q)];exact q⟩
 ·rw[aH (Ne.symm hL)];exact I.free
 ·rw[aH (hc x c e)];exact I.freeC x c e
 ·obtain⟨q1,q2,q3,q4,q5⟩:=I.pin p hp';exact⟨q1,by rw[aH (hp p hp')];exact q2,q3,q4,q5⟩
 ·by_cases hb:b=a
  ·subst hb;rw[aB]at e;cases e;exact new
  ·rw[aH hb]at e;exact(I.hok b u e).stay (fun _ _ _ q=>q) (fun c q=>by rw[aH (neT c _ q)];exact q) fun c xs q=>by rw[aH (neT c _ q)];exact q
end
def GK (nt:Nat) (g:TG):Prop:=∀ v σ H Q,g v σ H Q->g v σ H fun σ' H'=>((∀ i,nt<=i->σ'[i]?=σ[i]?)/\σ'.length=σ.length)/\Q σ' H'
def GKs (nt:Nat) (g:TGs):Prop:=∀ vs σ H Q,g vs σ H Q->g vs σ H fun σ' H'=>((∀ i,nt<=i->σ'[i]?=σ[i]?)/\σ'.length=σ.length)/\Q σ' H'
theorem fH {nt i:Nat} (h:i<nt):GK nt (rZ i):=fun v σ H Q q=>⟨⟨fun j hj=>by rw[List.getElem?_set_ne (by omega)],by simp⟩,q⟩
theorem cY {nt:Nat}:GKs nt aAJ:=fun vs σ H Q ⟨e,q⟩=>⟨e,⟨fun _ _=>rfl,rfl⟩,q⟩
theorem aY {nt i:Nat} {u:TGs} (h:i<nt) (hu:GKs nt u):GKs nt (j7 (rZ i) u):=fun vs σ H Q q=>by
 obtain⟨v,r,e,q⟩:=q;refine⟨v,r,e,?_⟩;have q':u r (σ.set i (some v)) H Q:=q;have w:=hu r (σ.set i (some v)) H Q q';have e1:∀ j,nt<=j->(σ.set i (some v))[j]?=σ[j]?:=fun j hj=>by rw[List.getElem?_set_ne (by omega)]
 have:(fun(σ':St) (H':Hp)=>((∀ j,nt<=j->σ'[j]?=(σ.set i (some v))[j]?)/\σ'.length=(σ.set i (some v)).length)/\Q σ' H')=fun σ' H'=>((∀ j,nt<=j->σ'[j]?=σ[j]?)/\σ'.length=σ.length)/\Q σ' H':=by
  funext σ' H'
  apply propext
  constructor
  ·rintro ⟨⟨a,b⟩,c⟩;exact⟨⟨fun j hj=>(a j hj).trans (e1 j hj),by simpa using b⟩,c⟩
  ·rintro ⟨⟨a,b⟩,c⟩;exact⟨⟨fun j hj=>(a j hj).trans (e1 j hj).symm,by simpa using b⟩,c⟩
 rw[this]at w;exact w
theorem dS {K:PySem.W.Frag} {nt n:Nat} {t:TGs} (h:GKs nt t):GK nt (p9 K n t):=fun v σ H Q ⟨a,xs,e,hq,hl,q⟩=>⟨a,xs,e,hq,hl,h xs σ H Q q⟩
section
variable {X:Cx} {pins:List (Addr×Obj)} {σ:St} {inn:Scope} {js:List Nat} {cs ts:List Str} {nt:Nat} {elt tg iter:Expr} {ifs:List Expr} {pos:Pos} {g:TG} {tt:TT} {te:TE}
theorem sM {J:It} {fp:List Addr} {it:Addr} {tn:Nat->Heap->Prop} {H2:Hp} {s2:Shared} {E:Value->Shared->Prop} {Q:VK} {RR:Value->Addr->Result->Shared->Prop}
 (hcalm:X.calm=true) (O:CompOk X.env.scope inn X.N js cs) (hts:ts.length=nt)
 (hg:∀ s₀ H₀ ex,PG (fT X inn (ts++cs) s₀ H₀ ex) tg g) (hk:GK nt g) (ht:∀ s₀ H₀ ex,PIf (fT X inn (ts++cs) s₀ H₀ ex) ifs tt) (he:∀ s₀ H₀ ex,PE (fT X inn (ts++cs) s₀ H₀ ex) elt te)
 (I2:Inv X pins σ H2 s2) (T:tR X.prog X.w X.K tg J fp it tn) (st2:tn 0 s2.heap) (f2:∀ b∈fp,jZ X pins H2 b)
 (R:sL J (sIn nt js σ) g tt te Q H2)
 (hRR:∀ D C s' H',Inv X pins σ H' s'->(∃ m,s'.heap.Ns C m)->H' C=none->C≠X.env.locals->X.s₀.heap.objs.size<=C->(∀ x c,X.env.cells.lookup x=some c->c≠C)->(∀ p∈X.pn++pins,p.1≠C)->Q (.ref D) H'->RR (.ref D) C (.ok .next) s') :
 wpAny (model X.prog X.w) X.A (newList []) (fun acc s₃=>wpAny (model X.prog X.w) X.A (newFunctionEnv inn X.env.globals (kC inn X.env) [] X.env.qual none .none (some X.env)) (fun cenv s₄ =>
  codeAny (model X.prog X.w) X.A (.compStart (.ListComp elt [⟨tg,iter,ifs,0⟩] inn pos) 0 (.ref it) acc { cenv with scope:=relabel inn X.env }) (RR acc cenv.locals) s₄) E s₃) E s2:=by
 refine wpAny_newObj_type (wpAny_newFunctionEnv O.nocell (by intro y hy;simp at hy) (fun h₁ hns₁ hsb₁=>?_) O.kind);dsimp only at hns₁ hsb₁ ⊢;generalize hD:s2.heap.objs.size=D;have I3:Inv X pins σ H2 { s2 with heap:=s2.heap.push { cls:=.type "list",dict:=none,data:=.seq ([]:List Value).toArray } }:=I2.kept (t':=s2.toks) fun b o e=>aBO _ e;generalize hs3:({ s2 with heap:=s2.heap.push { cls:=.type "list",dict:=none,data:=.seq ([]:List Value).toArray } }:Shared)=s3 at I3;have e3:s3.heap=s2.heap.push { cls:=.type "list",dict:=none,data:=.seq ([]:List Value).toArray }:=by rw[<- hs3]
 have hD3:s3.heap.get? D=some { cls:=.type "list",dict:=none,data:=.seq ([]:List Value).toArray }:=by rw[e3,<- hD];exact aBU _ rfl
 have hsz3:s3.heap.objs.size=D+1:=by rw[e3,Heap.size_push,hD]
 have e3':(s2.heap.push { cls:=.type "list",dict:=none,data:=.seq ([]:List Value).toArray })=s3.heap:=e3.symm;rw[e3']at hns₁ hsb₁ ⊢;have fH2D:H2 D=none:=I2.hok.fresh (by rw[hD];exact Nat.le_refl _);have up:∀ b o,s3.heap.get? b=some o->h₁.get? b=some o:=fun b o e=>hsb₁.extBut b o (aBb (aBT e)) (aBO _ e);have fpo:∀ b∈fp,b<s3.heap.objs.size/\b≠D:=fun b hb=>by
  obtain⟨o,eo,_⟩:=T.obj 0 _ st2 b hb;have h1:=aBT eo;rw[hD]at h1;exact⟨by rw[hsz3];exact Nat.lt_succ_of_lt h1,aBb h1⟩
 have nb:∀ b,X.s₀.heap.objs.size<=b->∀ o,X.base.get? b≠some o:=fun b hb o e=>absurd (aB4 (aBT e) (Nat.le_trans I2.ok.bsz hb)) (Nat.lt_irrefl _);have dge:s2.heap.objs.size<=D:=by rw[hD];exact Nat.le_refl _
 have fD:jZ X pins H2 D:=I2.fpOk dge fH2D;have hex:∀ b∈D :: fp,b<s3.heap.objs.size/\b≠X.env.locals/\b∉X.fs/\(∀ x c,X.env.cells.lookup x=some c->c≠b)/\∀ o,X.base.get? b≠some o:=fun b hb=>by
  rcases aBr.mp hb with rfl | hb
  ·exact⟨by rw[hsz3];exact Nat.lt_succ_self _,fD.2.1,fD.2.2.1,fD.2.2.2.2.1,nb _ (Nat.le_trans I2.sz dge)⟩
  ·obtain⟨f0,f1,f2',f3,f4,f5⟩:=f2 b hb;refine⟨(fpo b hb).1,f1,f2',f4,fun o e=>?_⟩;rcases f3 with z | z
   ·exact I2.ok.noex b o e z
   ·exact nb b z o e
 have hC:s3.heap.objs.size=s3.heap.objs.size:=rfl;generalize hXi:fT X inn (ts++cs) s3 H2 (D :: fp)=Xi;have I4:Inv Xi [] (sIn nt js σ) H2 { s3 with heap:=h₁,toks:=s3.toks }:=by
  rw[<- hXi];exact P2 hts I3 O hex ⟨_,hns₁⟩ up
 have xp:Xi.prog=X.prog:=by rw[<- hXi];rfl
 have xw:Xi.w=X.w:=by rw[<- hXi];rfl
 have xK:Xi.K=X.K:=by rw[<- hXi];rfl
 have xA:Xi.A=X.A:=by rw[<- hXi];rfl
 have xc:Xi.calm=true:=by rw[<- hXi];exact hcalm
 have xe:Xi.env=compEnvC inn (kC inn X.env) s3.heap.objs.size X.env:=by rw[<- hXi];rfl
 have xx:Xi.xe=fun _ _=>False:=by rw[<- hXi];rfl
 have xex:Xi.ex=D :: fp:=by rw[<- hXi];rfl
 have xpn:Xi.pn=[]:=by rw[<- hXi];rfl
 have xs0:Xi.s₀=s3:=by rw[<- hXi];rfl
 have xH0:Xi.H₀=H2:=by rw[<- hXi];rfl
 have xfs:Xi.fs=frs X.stack:=by rw[<- hXi];rfl
 have hgX:PG Xi tg g:=by rw[<- hXi];exact hg _ _ _
 have htX:PIf Xi ifs tt:=by rw[<- hXi];exact ht _ _ _
 have heX:PE Xi elt te:=by rw[<- hXi];exact he _ _ _
 have okX:=I4.ok;have xl:Xi.env.locals=s3.heap.objs.size:=by rw[xe];rfl
 have Dl:D≠Xi.env.locals:=by rw[xl,hsz3];exact aBb (Nat.lt_succ_self _)
 have stat:∀ {H':Hp} {pl:List (Addr×Obj)},(∀ b∈fp,H' b=none)->(∀ p∈pl,p.1=D)->∀ b∈fp,jZ Xi pl H' b:=fun {H' pl} hn hpl b hb=>by
  have hbx:b∈Xi.ex:=by rw[xex];exact aBQ _ hb
  refine⟨hn b hb,(okX.exf b hbx).1,fun z=>okX.exfs b hbx z,.inl hbx,(okX.exf b hbx).2,fun p hp=>?_⟩;rw[xpn,List.nil_append]at hp;rw[hpl p hp];exact Ne.symm (fpo b hb).2
 have DX:D∈Xi.ex:=by rw[xex];exact aBP
 obtain⟨W,⟨m0,w0⟩,turn⟩:=R;have loop:codeAny (model X.prog X.w) X.A (.compLoop (.ListComp elt [⟨tg,iter,ifs,0⟩] inn pos) 0 (.ref it) (.ref D) Xi.env) (RR (.ref D) s3.heap.objs.size) { s3 with heap:=h₁,toks:=s3.toks }:=by
  refine codeAny_loop rfl (fun n s'=>∃ i ys H',Inv Xi [] (sIn nt js σ) H' s'/\tn i s'.heap/\(∀ b∈fp,H' b=none)/\H' D=none/\(∃ (its:List Value) (c:Nat),Vals ys its/\s'.heap.get? D=some { cls:=.type "list",data:=.seq its.toArray c })/\W i n ys H') ?_ m0
   ⟨0,[],H2,I4,?_,fun b hb=>(f2 b hb).1,fH2D,⟨[],0,.nil,up D _ hD3⟩,w0⟩
  ·rintro n s5 ⟨i,ys,H5,I5,st5,fr5,fD5,⟨its,c,rv,eD⟩,w5⟩;show wpAny _ X.A ((compTurn (.ListComp elt [⟨tg,iter,ifs,0⟩] inn pos) 0 (.ref it) (.ref D) Xi.env).onRaise (fun x=>do noteFrame x Xi.env;theTreesLotGoes x)) _ _ s5;refine wpAny_noted ?_;rw[compTurn_list];refine aBL (wpAny_standAt (aBL ?_));have pinD:Inv Xi (cS [D] s5.heap) (sIn nt js σ) H5 s5:=by
    have q:=I5.pinned (fp:=[D]) (fun b hb=>?_) (fun b hb=>?_)
    ·simpa using q
    ·have e:b=D:=by simpa using hb
     subst e;refine⟨fD5,Dl,fun z=>okX.exfs b DX z,.inl DX,(okX.exf b DX).2,fun p hp=>?_⟩;rw[xpn,List.nil_append]at hp;cases hp
    ·have e:b=D:=by simpa using hb
     subst e;exact⟨_,eD,fun v z=>by cases z⟩
   have plD:∀ p∈cS [D] s5.heap,p.1=D:=fun p hp=>by simpa using (iW hp).1
   have memD:(D,({ cls:=.type "list",data:=.seq its.toArray c }:Obj))∈cS [D] s5.heap:=cH (by simp) eD;obtain⟨hz,tn5⟩:=turn i n ys H5 w5;rcases tn5 with ⟨stop,fin⟩ | ⟨go,N,hN,step⟩
   ·have q:=T.done Xi xp xw xK xc i _ s5 _ H5 (notedBy (model X.prog X.w) X.A Xi.env fun e s'=>RR (.ref D) s3.heap.objs.size (.error e) s') pinD (stat fr5 plD) st5 stop;rw[xA]at q;refine wpAny_mono q (fun r s6 ⟨hr,I6⟩=>?_) fun _ _ z=>z;subst hr;refine aBM ?_;have eD6:=(I6.pin (D,_) (aBR _ memD)).1;have un:Un (frs X.stack) (D :: fp) H2 H5 s3.heap s6.heap:=by
     have z:=I6.base;rw[xfs,xex,xH0,xs0]at z;exact z
    have os6:s6.os=s3.os:=by have z:=I6.os;rw[xs0]at z;exact z
    have hok6:HOk X.prog X.w H5 s6.heap:=by have z:=I6.hok;rw[xp,xw]at z;exact z
    have I7:Inv X pins σ H5 s6:=I3.call' os6 un hok6 I6.bare fun b hb=>by
     rcases aBr.mp hb with e | hb
     ·rw[e];exact⟨.inr (Nat.le_trans I2.sz dge),fD.2.1,fD.2.2.2.2.1,fD.2.2.2.2.2⟩
     ·obtain⟨f0,f1,f2',f3,f4,f5⟩:=f2 b hb;exact⟨f3,f1,f4,f5⟩
    have I8:Inv X pins σ (upd H5 D (.lst ys)) s6:=I7.track fD5 (Nat.le_trans I2.sz dge) fD.2.1 fD.2.2.2.2.1 fD.2.2.2.2.2 ⟨Nat.le_of_lt hz,its,c,rv,eD6⟩;have Cge:s3.heap.objs.size<=s3.heap.objs.size:=Nat.le_refl _;have fC:jZ X pins (upd H5 D (.lst ys)) s3.heap.objs.size:=I3.fpOk Cge (by
     rw[aH (by rw[<- xl];exact Ne.symm Dl)];have z:=I6.free;rw[xl]at z;exact z)
    obtain⟨mm,hmm,_⟩:=I6.loc;rw[xl]at hmm;exact hRR D _ s6 _ I8 ⟨mm,hmm⟩ fC.1 fC.2.1 (Nat.le_trans I3.sz Cge) fC.2.2.2.2.1 fC.2.2.2.2.2 (fin D fD5)
   ·have q:=T.item Xi xp xw xK xc i _ s5 _ H5 (notedBy (model X.prog X.w) X.A Xi.env fun e s'=>RR (.ref D) s3.heap.objs.size (.error e) s') pinD (stat fr5 plD) st5 go;rw[xA]at q;refine wpAny_mono q (fun r s6 ⟨u,hr,h6⟩=>?_) fun _ _ z=>z;subst hr;refine aBL (wpAny_mono h6 (fun _ s7 ⟨x,H7,I7,r7,y7,st7,fr7⟩=>?_) fun _ _ z=>z);have I7':=I7.pinned (fp:=fp) (fun b hb=>stat fr7 plD b hb) (T.obj _ _ st7);have q8:=hgX _ s7 _ H7 x u _ I7' r7 (hk x _ H7 _ (step x H7 y7));rw[xp,xw,xA,xx]at q8;refine aBL (wpAny_mono q8 (fun _ s8 ⟨σ8,H8,I8,⟨k8,l8⟩,q8⟩=>?_) fun _ _ z=>z.elim);have q9:=htX _ s8 σ8 H8 _ I8 q8;rw[xp,xw,xA,xx]at q9;refine aBL (wpAny_mono q9 (fun ok s9 ⟨H9,I9,q9⟩=>?_) fun _ _ z=>z.elim);have keepσ:∀ (j:Nat) v,(sIn nt js σ)[j]?=some (some v)->σ8[j]?=some (some v):=fun j v e=>by
     have hj:=(pA e).1;rw[k8 j hj];exact e
    have ends:∀ {H9:Hp} {s9:Shared} {ys':List V},Inv Xi (cS [D] s5.heap++cS fp s7.heap) σ8 H9 s9->∀ {h':Heap} {its':List Value} {c':Nat},(∀ b o,b≠D->s9.heap.get? b=some o->h'.get? b=some o)->Vals ys' its'->h'.get? D=some { cls:=.type "list",data:=.seq its'.toArray c' }->N ys' H9 ->
     ∀ tk,∃ m,m<n/\∃ i ys H',Inv Xi [] (sIn nt js σ) H' { s9 with heap:=h',toks:=tk }/\tn i h'/\(∀ b∈fp,H' b=none)/\H' D=none/\(∃ (its:List Value) (c:Nat),Vals ys its/\h'.get? D=some { cls:=.type "list",data:=.seq its.toArray c })/\W i m ys H':=fun {H9 s9 ys'} I9 {h' its' c'} kp rv' eD' n9 tk=>by
     obtain⟨m',hm,w9⟩:=hN ys' H9 n9;have fD9:H9 D=none:=(I9.pin (D,_) (aBR _ (aB7 _ memD))).2.1;have fr9:∀ b∈fp,H9 b=none:=fun b hb=>by
      obtain⟨o,e,d⟩:=T.obj _ _ st7 b hb;exact(I9.pin (b,o) (aBR _ (aBR _ (cH hb e)))).2.1
     have I10:Inv Xi [] σ8 H9 s9:=I9.pins_of fun p hp=>by cases hp
     have I11:Inv Xi [] σ8 H9 { s9 with heap:=h',toks:=tk }:=I10.turned (it:=D) kp fD9 Dl (.inl DX) (okX.exf D DX).2 (fun p hp=>by rw[xpn]at hp;cases hp);refine⟨m',hm,i+1,ys',H9,I11.weak l8.symm keepσ,T.keep _ _ _ st7 fun b hb o e=>kp b o (fpo b hb).2 (I9.pin (b,o) (aBR _ (aBR _ (cH hb e)))).1,fr9,fD9,⟨its',c',rv',eD'⟩,w9⟩
    cases ok with
    | false =>
     rw[if_neg aB0]at q9;have eD9:=(I9.pin (D,_) (aBR _ (aB7 _ memD))).1;exact aBM ⟨rfl,ends I9 (h':=s9.heap) (fun _ _ _ e=>e) rv eD9 q9 s9.toks⟩
    | true =>
     rw[if_pos rfl]at q9;have q10:=heX _ s9 σ8 H9 _ I9 q9;rw[xp,xw,xA,xx]at q10;refine aBL (aBL (wpAny_mono q10 (fun v s10 ⟨y,H10,I10,r10,q10⟩=>?_) fun _ _ z=>z.elim));have eD10:=(I10.pin (D,_) (aBR _ (aB7 _ memD))).1;have hlen:=rv.length;refine aBL (wpAny_list_append_plain (items:=its.toArray) ⟨c,eD10⟩ (fun h' hl hs=>aBM (aBM ⟨rfl,?_⟩)) (by rw[aBV];omega));obtain⟨c',e'⟩:=hl;have e'':h'.get? D=some { cls:=.type "list",data:=.seq (its++[v]).toArray c' }:=by rw[e'];simp
     exact ends I10 (h':=h') (fun b o hb e=>hs.extBut b o hb e) (rv.append (.cons r10 .nil)) e'' q10 s10.toks
  ·exact T.keep 0 _ _ st2 fun b hb o e=>up b o (by rw[e3];exact aBO _ e)
 have e4:({ s2 with heap:=h₁,toks:=s2.toks+([]:List (Str×Value)).length }:Shared)={ s3 with heap:=h₁,toks:=s3.toks }:=by rw[<- hs3];rfl
 rw[e4];show codeAny _ _ (.compStart (.ListComp elt [⟨tg,iter,ifs,0⟩] inn pos) 0 (.ref it) (.ref D) (compEnvC inn (kC inn X.env) s3.heap.objs.size X.env)) (RR (.ref D) s3.heap.objs.size) _;rw[<- xe];refine codeAny_compStart_list loop ?_;refine T.self X.A 0 _ _ _ ?_ loop;exact T.keep 0 _ _ st2 fun b hb o e=>up b o (by rw[e3];exact aBO _ e)
end
section
variable {X:Cx} {inn:Scope} {js:List Nat} {cs ts:List Str} {nt:Nat} {elt tg iter:Expr} {ifs:List Expr} {pos:Pos} {g:TG} {tt:TT} {te:TE} {wi:TI}
theorem cD (ts cs:List Str) (js:List Nat) (hcalm:X.calm=true) (O:CompOk X.env.scope inn X.N js cs) (hi:PI X tg iter wi)
 (hg:∀ s₀ H₀ ex,PG (fT X inn (ts++cs) s₀ H₀ ex) tg g) (hk:GK ts.length g) (ht:∀ s₀ H₀ ex,PIf (fT X inn (ts++cs) s₀ H₀ ex) ifs tt) (he:∀ s₀ H₀ ex,PE (fT X inn (ts++cs) s₀ H₀ ex) elt te)
 (hs:∀ x,foldedSetIterable iter X.env x=pure x:=by intro _;rfl):PE X (.ListComp elt [⟨tg,iter,ifs,0⟩] inn pos) (o0 wi ts.length js g tt te):=by
 intro pins s σ H Q I h;rw[eval_ListComp];refine wpAny_comprehension_free (use:=none) rfl hs (tU fun y hy e=>I.ok.has y.1 (O.frees y hy e)) O.kind O.names (thn (hi pins s σ H _ I h) fun xv s1 h1=>thn h1 fun itv s2 h2=>?_);obtain⟨it,fp,tn,J,H2,e,I2,T,st2,f2,R⟩:=h2;subst e;refine sM (Q:=Q) (RR:=fun acc C=>compPost (model X.prog X.w) X.A X.xe none (EP X pins σ Q) acc C) hcalm O rfl hg hk ht he I2 T st2 f2 R ?_;intro D C s' H' I' ⟨m,hm⟩ c1 c2 c3 c4 c5 q;refine⟨m,hm,fun h' hsb=>?_⟩;exact⟨.ref D,H',I'.turned (it:=C) (t':=s'.toks) (fun b o hb e=>hsb.extBut b o hb e) c1 c2 (.inr c3) c4 c5,rfl,q⟩
theorem pB {i:Nat} {x:Str} {pos' spos:Pos} (ts cs:List Str) (js:List Nat) (hcalm:X.calm=true) (hN:X.N.Nodup) (hi':X.N[i]?=some x) (hx:X.env.scope.names.lookup x=some .local) (O:CompOk X.env.scope inn X.N js cs) (hi:PI X tg iter wi)
 (hg:∀ s₀ H₀ ex,PG (fT X inn (ts++cs) s₀ H₀ ex) tg g) (hk:GK ts.length g) (ht:∀ s₀ H₀ ex,PIf (fT X inn (ts++cs) s₀ H₀ ex) ifs tt) (he:∀ s₀ H₀ ex,PE (fT X inn (ts++cs) s₀ H₀ ex) elt te)
 (hsw:swapsWith (.ListComp elt [⟨tg,iter,ifs,0⟩] inn pos) (some (.Name x pos')) spos.line X.env=pure true) (hs:∀ x,foldedSetIterable iter X.env x=pure x:=by intro _;rfl) :
 PS X (.Assign [.Name x pos'] (.ListComp elt [⟨tg,iter,ifs,0⟩] inn pos) spos) (r6 (o0 wi ts.length js g tt te) (rZ i)):=by
 intro pins s σ H D I h;rw[exec_Assign_Name_used _ _ _ _ hsw];refine aBL (wpAny_standAt (aBL ?_));show wpAny _ X.A (do let _ <- comprehension (.ListComp elt [⟨tg,iter,ifs,0⟩] inn pos) inn X.env _ (newList []) false (eval iter X.env) (some (assign (.Name x pos') X.env))) _ _ s;refine aBL (wpAny_mono (wpAny_comprehension_free (use:=some (assign (.Name x pos') X.env)) (Q:=fun _ s'=>SP X pins D .next s') rfl hs (tU fun y hy e=>I.ok.has y.1 (O.frees y hy e)) O.kind O.names
  (thn (hi pins s σ H _ I h) fun xv s1 h1=>thn h1 fun itv s2 h2=>?_)) (fun _ s' hq=>aBM (aBM hq)) fun _ _ e=>e)
 obtain⟨it,fp,tn,J,H2,e,I2,T,st2,f2,R⟩:=h2;subst e;refine sM (Q:=fun v H'=>D.nx (σ.set i (some v)) H') (RR:=fun acc C=>compPost (model X.prog X.w) X.A X.xe (some (assign (.Name x pos') X.env)) (fun _ s'=>SP X pins D .next s') acc C) hcalm O rfl hg hk ht he I2 T st2 f2 R ?_;intro D' C s' H' I' ⟨m,hm⟩ c1 c2 c3 c4 c5 q;show wpAny _ X.A (assign (.Name x pos') X.env (.ref D')) _ _ _;refine wpAny_assign_Name (rY (v:=.ref D') I' hN hi' (.inl hx) rfl (fun s2 I2 ⟨a,hsb,ha⟩=>?_) (.inr hx));have hCa:C≠a:=by
  rcases ha with e | e
  ·rw[e];exact c2
  ·exact fun z=>c4 _ _ e z.symm
 refine⟨m,hm.sameBut hsb hCa,fun h' hsb'=>?_⟩;exact⟨_,H',I2.turned (it:=C) (t':=s2.toks) (fun b o hb e=>hsb'.extBut b o hb e) c1 c2 (.inr c3) c4 c5,q⟩
end
theorem bU {K:PySem.W.Frag} {a:Addr} {xs:List V} {σ0:St} {g:TG} {tt:TT} {te:TE} {H:Hp} {Q:VK} (Pv:Nat->List V->Hp->Prop) (h0:Pv 0 [] H) (hl:∀ i ys H,i<=xs.length->Pv i ys H->SqL K H a xs/\ys.length<sizeLine)
 (hs:∀ i x ys H,xs[i]?=some x->Pv i ys H->g x σ0 H fun σ2 H2=>tt σ2 H2 fun b H3=>if b=true then te σ2 H3 fun y H4=>Pv (i+1) (ys++[y]) H4 else Pv (i+1) ys H3) (hd:∀ ys H,Pv xs.length ys H->∀ D,H D=none->Q (.ref D) (upd H D (.lst ys))) :
 sL (Itl K a) σ0 g tt te Q H:=by
 refine⟨fun i m ys H=>m=xs.length - i/\i<=xs.length/\Pv i ys H,⟨xs.length,by simp,Nat.zero_le _,h0⟩,?_⟩;rintro i m ys H ⟨rfl,hi,p⟩;obtain⟨q,hz⟩:=hl i ys H hi p;refine⟨hz,?_⟩
 by_cases hlt:i<xs.length
 ·refine .inr ⟨⟨xs,xs[i],q,by simp[hlt]⟩,Pv (i+1),fun ys' H' p'=>⟨xs.length - (i+1),by omega,rfl,hlt,p'⟩,fun x H' y=>?_⟩;obtain⟨e,y⟩:=y;subst e;exact hs i x ys _ (y xs q) p
 ·have e:i=xs.length:=by omega
  subst e;exact .inl ⟨⟨xs,q,Nat.le_refl _⟩,hd ys H p⟩
theorem jN {lo:Int} {n:Nat} {σ0:St} {g:TG} {tt:TT} {te:TE} {H:Hp} {Q:VK} (Pv:Nat->List V->Hp->Prop) (h0:Pv 0 [] H) (hl:∀ i ys H,i<=n->Pv i ys H->ys.length<sizeLine)
 (hs:∀ i ys H,i<n->Pv i ys H->g (.int (lo+i)) σ0 H fun σ2 H2=>tt σ2 H2 fun b H3=>if b=true then te σ2 H3 fun y H4=>Pv (i+1) (ys++[y]) H4 else Pv (i+1) ys H3) (hd:∀ ys H,Pv n ys H->∀ D,H D=none->Q (.ref D) (upd H D (.lst ys))) :
 sL (Itr lo n) σ0 g tt te Q H:=by
 refine⟨fun i m ys H=>m=n - i/\i<=n/\Pv i ys H,⟨n,by simp,Nat.zero_le _,h0⟩,?_⟩;rintro i m ys H ⟨rfl,hi,p⟩;refine⟨hl i ys H hi p,?_⟩
 by_cases hlt:i<n
 ·refine .inr ⟨hlt,Pv (i+1),fun ys' H' p'=>⟨n - (i+1),by omega,rfl,hlt,p'⟩,fun x H' y=>?_⟩;obtain⟨e,y⟩:=y;subst e y;exact hs i ys _ hlt p
 ·have e:i=n:=by omega
  subst e;exact .inl ⟨Nat.le_refl _,hd ys H p⟩
mutual
inductive Den (H:Hp):V->PyData->Prop
 | non:Den H .non .none
 | bl (b:Bool):Den H (.bl b) (.bool b)
 | int (i:Int):Den H (.int i) (.int i)
 | str (x:Str):Den H (.str x) (.str x)
 | lst {a:Addr} {vs:List V} {ds:List PyData}:H a=some (.lst vs)->Dens H vs ds->Den H (.ref a) (.list ds)
 | tup {a:Addr} {vs:List V} {ds:List PyData}:H a=some (.tup vs)->Dens H vs ds->Den H (.ref a) (.tuple ds)
inductive Dens (H:Hp):List V->List PyData->Prop
 | nil:Dens H [] []
 | cons {v:V} {d:PyData} {vs:List V} {ds:List PyData}:Den H v d->Dens H vs ds->Dens H (v :: vs) (d :: ds)
end
theorem Dens.length:∀ {H:Hp} {vs:List V} {ds:List PyData},Dens H vs ds->vs.length=ds.length
 | _,_,_,.nil=>rfl
 | _,_,_,.cons _ t=>congrArg Nat.succ (Dens.length t)
theorem Dens.get:∀ {H:Hp} {vs:List V} {ds:List PyData} {i:Nat} {d:PyData},Dens H vs ds->ds[i]?=some d->∃ v,vs[i]?=some v/\Den H v d
 | _,_,_,_,_,.nil,e=>by simp at e
 | _,_,_,0,_,.cons r _,e=>by simp at e;subst e;exact⟨_,rfl,r⟩
 | _,_,_,i+1,d,.cons _ t,e=>by
  obtain⟨v,h1,h2⟩:=Dens.get (i:=i) (d:=d) t (by simpa using e);exact⟨v,by simpa using h1,h2⟩
mutual
theorem Den.mono {H H':Hp} (e:Same H H'):∀ {v:V} {d:PyData},Den H v d->Den H' v d
 | _,_,.non=>.non
 | _,_,.bl b=>.bl b
 | _,_,.int i=>.int i
 | _,_,.str x=>.str x
 | _,_,.lst h t=>.lst (e _ _ h) (Dens.mono e t)
 | _,_,.tup h t=>.tup (e _ _ h) (Dens.mono e t)
theorem Dens.mono {H H':Hp} (e:Same H H'):∀ {vs:List V} {ds:List PyData},Dens H vs ds->Dens H' vs ds
 | _,_,.nil=>.nil
 | _,_,.cons r t=>.cons (Den.mono e r) (Dens.mono e t)
end
theorem Dens.ints {H:Hp}:∀ ns:List Int,Dens H (ns.map V.int) (ns.map PyData.int)
 | []=>.nil
 | n :: r=>.cons (.int n) (Dens.ints r)
theorem Den.ints {H:Hp} {a:Addr} {ns:List Int} (h:H a=some (.lst (ns.map V.int))):Den H (.ref a) (.list (ns.map PyData.int)):=.lst h (Dens.ints ns)
theorem Same.upd {H:Hp} {a:Addr} {o:HO} (h:H a=none):Same H (upd H a o):=fun b u e=>by rw[aH (bN e h)];exact e
theorem Same.upd' {H H0:Hp} {a:Addr} {o:HO} (h:H0 a=none) (s:Same H0 H):Same H0 (L2.upd H a o):=fun b u e=>by rw[aH (bN e h)];exact s b u e
section
variable {P:Program} {w:World} {H:Hp} {h:Heap}
mutual
theorem Den.reads (ok:HOk P w H h):∀ {v:V} {d:PyData} {u:Value},Den H v d->RelV v u->∃ as,Reads h u d as
 | _,_,_,.non,r=>by cases r;exact⟨_,.none⟩
 | _,_,_,.bl b,r=>by cases r;exact⟨_,.bool b⟩
 | _,_,_,.int i,r=>by obtain⟨t,rfl⟩:=r;exact⟨_,.int i t⟩
 | _,_,_,.str x,r=>by obtain⟨t,rfl⟩:=r;exact⟨_,.str x t⟩
 | _,_,_,.lst (a:=a) e t,r=>by
  cases r;obtain⟨_,its,n,rv,ho⟩:=ok a _ e;obtain⟨as,q⟩:=Dens.reads ok t rv;exact⟨_,.list ho rfl rfl (by simpa using q)⟩
 | _,_,_,.tup (a:=a) e t,r=>by
  cases r;obtain⟨_,its,rv,o,ho,hc,n,hd⟩:=ok a _ e;obtain⟨as,q⟩:=Dens.reads ok t rv;exact⟨_,.tuple ho hc hd (by simpa using q)⟩
theorem Dens.reads (ok:HOk P w H h):∀ {vs:List V} {ds:List PyData} {us:List Value},Dens H vs ds->Vals vs us->∃ as,ReadsAll h us ds as
 | _,_,_,.nil,.nil=>⟨_,.nil⟩
 | _,_,_,.cons r t,.cons q s=>by
  obtain⟨a,x⟩:=Den.reads ok r q;obtain⟨b,y⟩:=Dens.reads ok t s;exact⟨_,.cons x y⟩
end
end
def aBD:R2:=fun x y H Q=>∃ d e,Den H x d/\Den H y e/\SeqAt.shaped d=true/\SeqAt.shaped e=true/\Q (.bl (PyData.eqv d e)) H
def aBE:R2:=fun x y H Q=>∃ d e,Den H x d/\Den H y e/\SeqAt.shaped d=true/\SeqAt.shaped e=true/\Q (.bl (!PyData.eqv d e)) H
section
variable {X:Cx}
theorem pT (hu:X.A.units+64<cLine):OpR X (compareOp .Eq) aBD:=by
 intro pins s σ H x y v u Q I rx ry h;obtain⟨d,e,hd,he,sd,se,q⟩:=h;obtain⟨as,r1⟩:=hd.reads I.hok rx;obtain⟨bs,r2⟩:=he.reads I.hok ry;exact eq_dataH r1 r2 sd se hu ⟨.bl _,H,I,rfl,q⟩
theorem nP (hu:X.A.units+64<cLine):OpR X (compareOp .NotEq) aBE:=by
 intro pins s σ H x y v u Q I rx ry h;obtain⟨d,e,hd,he,sd,se,q⟩:=h;obtain⟨as,r1⟩:=hd.reads I.hok rx;obtain⟨bs,r2⟩:=he.reads I.hok ry;exact ne_dataH r1 r2 sd se hu ⟨.bl _,H,I,rfl,q⟩
def tyD:PyData->String
 | .none=>"NoneType" | .bool _=>"bool" | .int _=>"int" | .str _=>"str" | .list _=>"list" | .tuple _=>"tuple" | .dict _=>"dict"
theorem Den.ty {K:PySem.W.Frag} {H:Hp} {v:V} {d:PyData} (h:Den H v d):nO K H v (.type (tyD d)):=by
 cases h with
 | non=>exact .non
 | bl b=>exact .bl b
 | int i=>exact .int i
 | str x=>exact .str x
 | lst e _=>exact .lst e
 | tup e _=>exact .tup e
theorem aZ:eY X (.builtin "isinstance") (fun xs H Q=>∃ x T d b,xs=[x,.ty T]/\Den H x d/\PySem.W.kitOne X.K (.type (tyD d)) (.type T)=some b/\Q (.bl b) H):=by
 intro pins s σ H xs us Q I r h;obtain⟨x,T,d,b,rfl,hd,e,q⟩:=h;obtain⟨u,v,rfl,r1,r2⟩:=r.two;cases r2;exact D5 I r1 (hd.ty (K:=X.K)) e fun tk=>⟨.bl b,H,I.tok tk,rfl,q⟩
theorem u6 {P:Program} {w:World} {H:Hp} {s:Shared} {K:PySem.W.Frag} {x:V} {u:Value} {d:PyData} {A:Around} {E:Value->Shared->Prop} {tp:Addr} {its:List Value} {n:Nat} {b:Bool} {Q:Value->Shared->Prop} (ok:HOk P w H s.heap) (kin:K.In s.heap) (rx:RelV x u) (hd:Den H x d)
 (htp:∃ o,s.heap.get? tp=some o/\o.cls=.type "tuple"/\o.data=.seq its.toArray n) (e:PySem.W.kitAny K (.type (tyD d)) its=some b) (h:∀ tk,Q (.bool b) { s with toks:=tk }):wpAny (model P w) A (call (.builtin "isinstance") [u,.ref tp]) Q E s:=by
 obtain⟨⟨cls,dd,data,sl⟩,ho,hc,hda⟩:=htp;simp only at hc hda;subst hc hda;cases hd with
 | non=>cases rx;exact PySem.W.kia_tup PySem.W.kitx_none kin True.intro ho e (fun z=>nomatch z) h
 | bl y=>cases rx;exact PySem.W.kia_tup PySem.W.kitx_bool kin True.intro ho e (fun z=>nomatch z) h
 | int i=>obtain⟨t,rfl⟩:=rx;exact PySem.W.kia_tup PySem.W.kitx_int kin True.intro ho e (fun z=>nomatch z) h
 | str y=>obtain⟨t,rfl⟩:=rx;exact PySem.W.kia_tup PySem.W.kitx_str kin True.intro ho e (fun z=>nomatch z) h
 | @lst a vs ds ea _ =>
  cases rx;obtain⟨_,_,n,_,h1⟩:=(show ObjOk P w H s.heap a (.lst vs) from ok a _ ea);exact PySem.W.kia_tup PySem.W.kitx_list kin ⟨_,h1,rfl⟩ ho e (fun z=>nomatch z) h
 | @tup a vs ds ea _ =>
  cases rx;obtain⟨_,_,_,p⟩:=(show ObjOk P w H s.heap a (.tup vs) from ok a _ ea);obtain⟨o,h1,h2,_⟩:=p;exact PySem.W.kia_tup PySem.W.kitx_tuple kin ⟨o,h1,h2⟩ ho e (fun z=>nomatch z) h
theorem zT:∀ {Ts:List String} {us:List Value},Vals (Ts.map V.ty) us->us=Ts.map Value.type
 | [],_,.nil=>rfl
 | T :: r,_,.cons q t=>by
  have e:_=Value.type T:=q;rw[aBd,e,zT t]
theorem nQ:eY X (.builtin "isinstance") (fun xs H Q=>∃ (x:V) (tp:Addr) (Ts:List String) (d:PyData) (b:Bool),xs=[x,.ref tp]/\H tp=some (.tup (Ts.map V.ty))/\Den H x d/\PySem.W.kitAny X.K (.type (tyD d)) (Ts.map Value.type)=some b/\Q (.bl b) H):=by
 intro pins s σ H xs us Q I r h;obtain⟨x,tp,Ts,d,b,rfl,ht,hd,e,q⟩:=h;obtain⟨u,v,rfl,r1,r2⟩:=r.two;cases r2;obtain⟨_,its,rv,o,ho,hc,n,hda⟩:=(show ObjOk X.prog X.w H s.heap tp (.tup (Ts.map V.ty)) from I.hok tp _ ht);have e2:=zT rv;subst e2;exact u6 I.hok I.kIn r1 hd ⟨o,ho,hc,hda⟩ e fun tk=>⟨.bl b,H,I.tok tk,rfl,q⟩
theorem kF (hc:X.calm=true):eY X (.builtin "all") (fun xs H Q=>∃ (p:Addr) (bs:List Bool),xs=[.ref p]/\H p=some (.lst (bs.map V.bl))/\Q (.bl (bs.all id)) H):=by
 intro pins s σ H xs us Q I r h;obtain⟨p,bs,rfl,hp,q⟩:=h;obtain⟨u,rfl,rx⟩:=hU r;cases rx;obtain⟨its,rv,pl,hz⟩:=I.list (SqL.of hp);have hl:=pl.isList;have hlt:p<s.heap.objs.size:=by obtain⟨_,e,_⟩:=hl;exact aBT e
 have hlen:bs.length=its.length:=by have:=rv.length;simpa using this
 refine call_all_walk (wpAny_pyIter_list hl ?_);refine⟨s.heap.objs.size,[s.heap.objs.size,p],[s.heap.objs.size],its.toArray.size,_,_,fun i=>(bs[i]?).getD true,rfl,Walks.list (A:=X.A.in1) (I.ok.hd hc) _ p (aBb hlt) its.toArray,
  ⟨⟨_,aBU _ rfl,rfl,rfl⟩,hl.push _⟩,fun i v s' Q' E' hP hQ=>?_,fun h' tk hk=>?_⟩
 ·have hv:its[i]?=some v:=by simpa using hP
  have hi:i<its.length:=(aBq.mp hv).1;have hb:(bs.map V.bl)[i]?=some (V.bl (bs[i]'(by omega))):=by simp[hlen,hi]
  obtain⟨u,eu,ru⟩:=rv.get hb;rw[hv]at eu;cases eu;cases ru;have e:(bs[i]?).getD true=bs[i]'(by omega):=by simp[show i<bs.length by omega]
  have hQ':Q' ((bs[i]?).getD true) s':=hQ;rw[e]at hQ';exact wpAny_truthy_bool hQ'
 ·have e:((List.range its.toArray.size).all fun i=>(bs[i]?).getD true)=bs.all id:=by
   rw[aBV,<- hlen];exact LSm.range_all bs
  rw[e];have kp:∀ b x,s.heap.get? b=some x->h'.get? b=some x:=LSm.kept_iter hk;exact⟨.bl _,H,I.kept kp,rfl,q⟩
theorem zU (l:List Value):∀ (k:Nat),k<=l.length->(List.range k).filterMap (fun i=>l[i]?)=l.take k
 | 0,_=>by simp
 | k+1,h=>by
  rw[List.range_succ,List.filterMap_append,zU l k (by omega)];have e:l[k]?=some (l[k]'(by omega)):=by simp[show k<l.length by omega]
  rw[List.filterMap_cons,e,List.filterMap_nil,aBj,e];rfl
theorem P3 (n:Nat):((List.range n).map fun(k:Nat)=>((n:Int) - 1+-1 * (k:Int)).toNat)=(List.range n).reverse:=by
 apply List.ext_getElem
 ·simp
 ·intro i h1 h2;simp at h1;simp;omega
theorem rJ (its:List Value):slicePick its.toArray none none (some (-1))=its.reverse.toArray:=by
 unfold slicePick;have e:sliceBounds none none (some (-1)) its.toArray.size=((its.length:Int) - 1,-1,-1):=by simp[sliceBounds]
 rw[e];have e2:sliceRange ((its.length:Int) - 1) (-1) (-1)=(List.range its.length).reverse:=by
  unfold sliceRange;rw[<- P3];have c:(if (-1:Int) > 0 then (if ((its.length:Int) - 1) < -1 then ((-1:Int) - ((its.length:Int) - 1)+-1 - 1) / -1 else 0)else if ((its.length:Int) - 1) > -1 then (((its.length:Int) - 1) - -1 - -1 - 1) / (- -1)else 0).toNat=its.length:=by
   rw[if_neg (by decide)]
   by_cases h:((its.length:Int) - 1) > -1
   ·rw[if_pos h];have:(((its.length:Int) - 1) - -1 - -1 - 1) / (- -1)=its.length:=by
     rw[show (- -1:Int)=1 from rfl,Int.ediv_one];omega
    rw[this];simp
   ·rw[if_neg h];omega
  simp only;rw[c]
 show ((sliceRange ((its.length:Int) - 1) (-1) (-1)).filterMap (its.toArray[·]?)).toArray=_;rw[e2,List.filterMap_reverse]
 congr 2
 have:=zU its its.length (Nat.le_refl _);rw[aB1]at this;simpa using this
def aBF (K:PySem.W.Frag) (te:TE):TE:=fun σ H Q=>te σ H fun x H1=>∃ a xs,x=.ref a/\SqL K H1 a xs/\∀ p,H1 p=none->Q (.ref p) (upd H1 p (.lst xs.reverse))
theorem u7 {e:Expr} {te:TE} {pos p2 p3 p4:Pos} {j} (he:PE X e te):PE X (.Subscript e (.Slice none none (some (.UnaryOp .USub (.Constant (.int 1) j p4) p3)) p2) pos) (aBF X.K te):=by
 intro pins s σ H Q I h;refine Subscript_ (thn (he pins s σ H _ I h) fun v s1 ⟨x,H1,I1,r1,q1⟩=>?_);obtain⟨a,xs,rfl,hx,q⟩:=q1;cases r1;refine wpAny_Slice ?_;rw[evalPart_none];refine aBM (aBM ?_);rw[evalPart_some];refine thn ((mF jL aD) pins s1 σ H1 (fun y H2=>y=.int (-1)/\H2=H1) I1 ⟨_,rfl,rfl,rfl⟩) fun u s2 ⟨y,H2,I2,r2,e2,e3⟩=>?_;subst e2 e3;obtain⟨t,rfl⟩:=r2;have I3:Inv X pins σ H2 { s2 with heap:=s2.heap.push { cls:=.type "slice",data:=.fields #[.none,.none,.int (-1) t] } }:=I2.kept (t':=s2.toks) fun b ob q=>aBO _ q;show wpAny (model X.prog X.w) X.A (subscriptTail e (.Slice none none (some (.UnaryOp .USub (.Constant (.int 1) j p4) p3)) p2) (.ref a) (.ref s2.heap.objs.size)) (EP X pins σ Q) X.xe { s2 with heap:=s2.heap.push { cls:=.type "slice",data:=.fields #[.none,.none,.int (-1) t] } };obtain⟨its,r,ht,hz⟩:=I3.list hx;have hlen:=r.length;refine tail_any (ops:=[.ref a,.ref s2.heap.objs.size]) ht.isList.typeIs slot_list_getitem.lookup ?_ (by with_unfolding_all rfl);refine wpAny_getItem_list_slice (lo:=none) (hi:=none) (st:=some (-1)) ht.isList (Heap.IsSliceOf.new ..) .none .none (.int (-1) t) (by simp) ?_ (by rw[aBV] <;> omega);rw[rJ];refine⟨.ref _,_,I3.laid (t':=s2.toks) (o:=.lst xs.reverse) (fun b ob q=>aBO _ q) (Nat.le_refl _) ?_,rfl,q _ (I3.hok.fresh (Nat.le_refl _))⟩;exact⟨by rw[List.length_reverse];exact hz,_,0,r.reverse,aBU _ rfl⟩
end
theorem bZ:bootBuiltins "list"=some (.type "list"):=by decide +kernel
theorem cT:bootBuiltins "tuple"=some (.type "tuple"):=by decide +kernel
theorem gW:bootBuiltins "bool"=some (.type "bool"):=by decide +kernel
theorem iY:bootBuiltins "str"=some (.type "str"):=by decide +kernel
theorem iZ:bootBuiltins "int"=some (.type "int"):=by decide +kernel
theorem aI:bootBuiltins "isinstance"=some (.builtin "isinstance"):=by decide +kernel
theorem kG:bootBuiltins "all"=some (.builtin "all"):=by decide +kernel
theorem cP:bootBuiltins "sorted"=some (.builtin "sorted"):=by decide +kernel
theorem mH:bootBuiltins "max"=some (.builtin "max"):=by decide +kernel
theorem kH:bootBuiltins "min"=some (.builtin "min"):=by decide +kernel
theorem pU:bootBuiltins "set"=some (.type "set"):=by decide +kernel
structure Bt (mg:Str->Option Value):Prop where
 len:mg "len"=none
 range:mg "range"=none
 list:mg "list"=none
 tuple:mg "tuple"=none
 bool:mg "bool"=none
 str:mg "str"=none
 int:mg "int"=none
 isinstance:mg "isinstance"=none
 all:mg "all"=none
 sorted:mg "sorted"=none
 max:mg "max"=none
 min:mg "min"=none
 set:mg "set"=none
 reversed:mg "reversed"=none
 sum:mg "sum"=none
 enumerate:mg "enumerate"=none
 zip:mg "zip"=none
 any:mg "any"=none
 abs:mg "abs"=none
def bO (P:Program) (w:World) (K:PySem.W.Frag) (mg:Str->Option Value) (base:Heap) (x:Str) (k:Nat) (ps:List Str) (sp:Sp):Prop :=
 ∃ f fd,FnOk P w K mg base CX0 k f fd ps sp/\mg x=some (.ref f)/\PySem.W.keepIn K (.ref f)=true/\Binds K fd ps []
section
variable {X:Cx} {x:Str} {j k:Nat} {ps:List Str} {sp:Sp} {t:TA} {e:Expr} {es:List Expr} {p pos:Pos}
theorem bE (F:bO X.prog X.w X.K X.mg X.base x j ps sp) (hr:Room k X.A) (hg:Gl X x) (ha:PA X (e :: es) t) (hj:j<=k:=by decide) (hdb:(x == ("__debug__":Str))=false:=by decide)
 (he:starEach (e :: es) X.env=(false,eval e X.env) :: starEach es X.env:=by rfl) (hpl:(backTo pos (starEach es X.env)).any (·.1)=false:=by rfl) :
 PE X (.Call (.Name x p) (e :: es) [] pos) (n8 sp [] E0 t):=by
 obtain⟨f,fd,G,hm,hk,hb⟩:=F;exact Y0 (hdb:=hdb) (he:=he) (hpl:=hpl) G (hr.mono hj) hg hm hk hb .nil aAV ha
theorem gG:OpR X (compareOp .Eq) (rI0 fun i j=>.bl (decide (i=j))):=O2 fun i j _ _ _ _ _ q=>eq_int (by
 have e:(i == j)=decide (i=j):=by rw[Bool.eq_iff_iff];simp
 rw[e];exact q)
theorem tV:OpR X (compareOp .NotEq) (rI0 fun i j=>.bl (!decide (i=j))):=O2 fun i j _ _ _ _ _ q=>ne_int (by
 have e:(i != j)=!decide (i=j):=by rw[bne];congr 1
 rw[e];exact q)
end
def aBG (t u:TS):TS:=fun D σ H=>∃ M:St->Hp->Prop,t { D with nx:=M } σ H/\∀ σ' H',M σ' H'->u D σ' H'
theorem pC {X:Cx} {st:Stmt} {rest:List Stmt} {t u:TS} (h1:PS X st t) (h2:PSs X rest u):PSs X (st :: rest) (aBG t u):=by
 intro pins s σ H D I h;obtain⟨M,h,hM⟩:=h;refine wpAny_execs_cons (thn (h1 pins s σ H { D with nx:=M } I h) fun f s1 q=>?_);cases f with
 | next =>
  obtain⟨σ',H',I',q⟩:=q;exact h2 pins s1 σ' H' D I' (hM σ' H' q)
 | ret v=>exact q
 | brk=>exact q
 | cont=>exact q
def aAX (t:TE):TE:=fun σ H Q=>∃ R:VK,t σ H R/\∀ v H',R v H'->Q v H'
theorem u8 {X:Cx} {e:Expr} {t:TE} (h:PE X e t):PE X e (aAX t):=by
 intro pins s σ H Q I hw;obtain⟨R,hw,hR⟩:=hw;exact thn (h pins s σ H R I hw) fun u s1 ⟨v,H1,I1,r1,q1⟩=>⟨v,H1,I1,r1,hR v H1 q1⟩
theorem oV {c:Prop} [Decidable c] {A B:Prop} (h1:c->A) (h2:¬ c->B):if decide c=true then A else B:=by
 by_cases h:c
 ·rw[aBa h,if_pos rfl];exact h1 h
 ·rw[aB9 h,if_neg aB0];exact h2 h
theorem sN {c:Prop} [Decidable c] {A B:Prop} (hc:c) (h1:A):if decide c=true then A else B:=by
 rw[aBa hc,if_pos rfl];exact h1
theorem hV {c:Prop} [Decidable c] {A B:Prop} (hc:¬ c) (h1:B):if decide c=true then A else B:=by
 rw[aB9 hc,if_neg aB0];exact h1
section
variable {X:Cx} (K:PySem.W.Frag)
theorem kI (h:X.K=K):IxR X (t8 K):=h ▸ bF
theorem lF (h:X.K=K):IxR X (rIx K):=h ▸ u0
theorem iT (h:X.K=K):eY X (.builtin "len") (fun xs H Q=>∃ p ys,xs=[.ref p]/\(SqL K H p ys\/SqT K H p ys)/\Q (.int ys.length) H):=h ▸ aS
theorem cZ {es:List Expr} {k:Nat} {t:TGs} {n:Nat} {pos:Pos} (h:X.K=K) (hc:X.calm=true) (hs:PGs X es t) (hn:(assignEach es X.env).length=n:=by rfl) (hst:(assignEach es X.env).findIdx? (·.1)=none:=by rfl):PG X (.Tuple es k pos) (p9 K n t):=h ▸ jK hc hs hn hst
end
end L2
namespace CW
def goM (c:Int):List Int->Nat->Int->List Int
 | [],h,n=>(List.range h).map (fun(k:Nat)=>n+(k:Int))
 | p :: r,h,n=>(List.range (min h (p - n).toNat)).map (fun(k:Nat)=>n+(k:Int)) ++
  (if ((h - min h (p - n).toNat:Nat):Int)<c then goM c r (h - min h (p - n).toNat+1) (p+1)else p :: goM c r (h - min h (p - n).toNat) (p+1))
def pV (row:List Int) (c:Int):List Int:=goM c row 0 0
theorem hW (k:Nat) (n:Int):(List.range (k+1)).map (fun(j:Nat)=>n+(j:Int))=n :: (List.range k).map (fun(j:Nat)=>(n+1)+(j:Int)):=by
 rw[List.range_succ_eq_map,aBd,aBi]
 congr 1
 ·simp
 ·apply List.map_congr_left
  intro j _;simp only[Function.comp];omega
theorem tW {c:Int} {p:Int} {r:List Int} {h:Nat} {n:Int} (hh:h=0\/p<=n):goM c (p :: r) h n=if (h:Int)<c then goM c r (h+1) (p+1)else p :: goM c r h (p+1):=by
 have e:min h (p - n).toNat=0:=by omega
 simp only[goM,e,List.range_zero,List.map_nil,List.nil_append,Nat.sub_zero]
theorem Y4 {c:Int} {p:Int} {r:List Int} {h:Nat} {n:Int} (hp:n<p):goM c (p :: r) (h+1) n=n :: goM c (p :: r) h (n+1):=by
 have e:min (h+1) (p - n).toNat=min h (p - (n+1)).toNat+1:=by omega
 have e2:h+1 - (min h (p - (n+1)).toNat+1)=h - min h (p - (n+1)).toNat:=by omega
 rw[goM,goM,e,e2,hW];simp
theorem tX (c:Int) (h:Nat) (n:Int):goM c [] (h+1) n=n :: goM c [] h (n+1):=by
 simp only[goM];exact hW h n
theorem pW {c:Int} {row:List Int} {n m:Int}:goM c row 0 n=goM c row 0 m:=by
 cases row with
 | nil=>rfl
 | cons p r=>rw[tW (.inl rfl),tW (.inl rfl)]
def Y5 (r:List Int):Prop:=r.Pairwise (·<·)
def stp (c:Int) (l:Nat) (x:Bool):Nat×Bool :=
 if x then (if (l:Int)<c then (l+1,false)else (l,true))else (if 0<l then (l - 1,true)else (0,false))
def run (c:Int):Nat->List Bool->Nat×List Bool
 | l,[]=>(l,[])
 | l,x :: xs=>((run c (stp c l x).1 xs).1,(stp c l x).2 :: (run c (stp c l x).1 xs).2)
end CW
namespace CW
open PySem L2
theorem dB {ns:List Int} {i:Int} (h0:0<=i) (h1:i<ns.length):∃ n,n∈ns/\ns[i.toNat]?=some n/\atI (ns.map V.int) i=some (.int n):=by
 have hj:i.toNat<ns.length:=by omega
 refine⟨ns[i.toNat],List.getElem_mem hj,by simp[hj],?_⟩;have q:atI (ns.map V.int) ((i.toNat:Nat):Int)=some (.int ns[i.toNat]):=lE (by simp[hj]);rw[Int.toNat_of_nonneg h0]at q;exact q
theorem aO {n:Nat} (h:n<=10000):n<sizeLine:=Nat.lt_of_le_of_lt h (by decide)
theorem gL {n:Nat} (h:n<=10000):n<=sizeLine:=Nat.le_of_lt (aO h)
def xZ (ns:List Int):Prop:=∀ n∈ns,0<=n/\n<9967
theorem D9 (ns:List Int) (lo hi:Option Int):∃ ms:List Int,gK (ns.map V.int) lo hi=ms.map V.int/\ms.length<=ns.length/\∀ n∈ms,n∈ns:=by
 refine⟨(ns.drop (HT.sIx ns.length 0 lo)).take (HT.sIx ns.length ns.length hi - HT.sIx ns.length 0 lo),?_,?_,?_⟩
 ·unfold gK;simp only[aBN,List.map_take,List.map_drop]
 ·simp only[aB3,List.length_drop];omega
 ·intro n hn;exact List.mem_of_mem_drop (List.mem_of_mem_take hn)
theorem P4 (ns:List Int) (k:Nat) (h:k<=ns.length):gK (ns.map V.int) none (some (k:Int))=(ns.take k).map V.int:=by
 unfold gK;rw[HT.sIx_none,HT.sIx_nat,aBN,List.drop_zero,Nat.sub_zero,Nat.min_eq_left h,List.map_take]
theorem mI (ns:List Int) (k:Nat) (h:k<=ns.length):gK (ns.map V.int) (some (k:Int)) none=(ns.drop k).map V.int:=by
 unfold gK;rw[HT.sIx_none,HT.sIx_nat,aBN,Nat.min_eq_left h,<- List.map_drop,<- List.map_take,List.take_of_length_le (by simp)]
inductive zV (vs:List V) (H:Hp) (Q:VK) (E_:XK):Prop
 | mk (n:Nat) (h0_:vs=[.int n]) (h1_:n<=1000) (h2_:Q (.int (10 ^ n)) H):zV vs H Q E_
def sd1 (seed z:Int):Int:=(seed * 40014+z % 999983+29) % 2147483563
def sd2 (seed:Int) (ys:List Int):Int:=(seed * seed+52774 * seed+13 * ((List.map V.int ys).length:Int)+7) % 2147483629
def rs1 (z:Int):Int:=z - 10 ^ (18:Int).toNat
inductive lG (K:PySem.W.Frag) (vs:List V) (H:Hp) (Q:VK) (E_:XK):Prop
 | mk (a:Addr) (script:List Int) (m:Nat) (h0_:vs=[.ref a,.int m]) (h1_:SqL K H a (script.map V.int)) (h2_:script.length<=63) (h3_:m<=1000) (h4_:∀ (l:Addr) (ns:List Int) (H':Hp),ns.length=m->xZ ns->H l=none->Same H H'->H' l=some (.lst (ns.map V.int))->Q (.ref l) H'):lG K vs H Q E_
def Row (r:List Int):Prop:=r.Pairwise (·<·)
theorem Row.lt {r:List Int} (h:Row r) {i j:Nat} {x y:Int} (hij:i<j) (hx:r[i]?=some x) (hy:r[j]?=some y):x<y:=by
 obtain⟨h1,rfl⟩:=aBq.mp hx;obtain⟨h2,rfl⟩:=aBq.mp hy;exact List.pairwise_iff_getElem.mp h i j h1 h2 hij
def E1 (H:Hp) (Q:VK) (ns:List Int):Prop:=∀ (l:Addr) (H':Hp),H l=none->Same H H'->H' l=some (.lst (ns.map V.int))->Q (.ref l) H'
inductive tY (vs:List V) (H:Hp) (Q:VK) (E_:XK):Prop
 | mk (a:Addr) (row:List Int) (h0_:vs=[.ref a]) (h1_:H a=some (.lst (row.map V.int))) (h2_:Row row) (h3_:row.length<=60) (h4_:Q .non H):tY vs H Q E_
structure Cn (mg:Str->Option Value) (tC:Tok):Prop where
 MOST_STONES:mg "MOST_STONES"=some (.int 60 tC)
theorem vQ {l:List Int} {i:Nat} {z:Int} (f:Int->Int) (h:l[i]?=some z):((l.take i).map f).map V.int++[V.int (f z)]=((l.take (i+1)).map f).map V.int:=by
 rw[aBj,h];simp
theorem int_at {l:List Int} {i:Nat} {x:V} (h:(l.map V.int)[i]?=some x):∃ z,x=.int z/\l[i]?=some z:=by
 rw[aBc]at h;cases e:l[i]? with
 | none=>rw[e]at h;cases h
 | some z=>rw[e]at h;exact⟨z,(Option.some.inj h).symm,rfl⟩
theorem mJ {α:Type} (l:List α) (i:Nat) (h:i<=60) (f:α->Int):((((l.take i).map f).map V.int)).length<sizeLine:=by
 simp only[aBN,aB3];exact aO (by omega)
def u9 (H:Hp) (v:V) (p:Int×Int):Prop:=∃ t,v=.ref t/\H t=some (.tup [.int p.1,.int p.2])
abbrev Prs (H:Hp):List V->List (Int×Int)->Prop:=Paired (u9 H)
def TupS (H H':Hp):Prop:=∀ t xs,H t=some (.tup xs)->H' t=some (.tup xs)
theorem Prs.mono {H H':Hp} (h:TupS H H') {vs:List V} {ps:List (Int×Int)} (r:Prs H vs ps):Prs H' vs ps:=Paired.mapP r fun _ _ ⟨t,e,q⟩=>⟨t,e,h _ _ q⟩
theorem TupS.new {H:Hp} {a:Addr} {o:HO} (h:H a=none):TupS H (upd H a o):=fun t xs e=>by rw[aH (bN e h)];exact e
theorem TupS.lst {H:Hp} {a:Addr} {xs ys:List V} (h:H a=some (.lst xs)):TupS H (upd H a (.lst ys)):=fun t zs e=>by rw[aH (fS e h (by intro z;cases z))];exact e
theorem TupS.same {H H':Hp} (h:Same H H'):TupS H H':=fun t xs e=>h _ _ e
theorem TupS.trans {H H1 H2:Hp} (a:TupS H H1) (b:TupS H1 H2):TupS H H2:=fun t xs e=>b _ _ (a _ _ e)
def pD (p:Int×Int):PyData:=.tuple [.int p.1,.int p.2]
theorem Prs.dens {H:Hp}:∀ {vs:List V} {ps:List (Int×Int)},Prs H vs ps->Dens H vs (ps.map pD)
 | _,_,.nil=>.nil
 | _,_,.cons ⟨t,e,q⟩ r=>by subst e;exact .cons (.tup q (.cons (.int _) (.cons (.int _) .nil))) (Prs.dens r)
theorem Paired.append' {α β:Type} {F:α->β->Prop}:∀ {l₁ m₁:List α} {l₂ m₂:List β},Paired F l₁ l₂->Paired F m₁ m₂->Paired F (l₁++m₁) (l₂++m₂)
 | _,_,_,_,.nil,s=>s
 | _,_,_,_,.cons r t,s=>.cons r (Paired.append' t s)
def aAY (ps:List (Int×Int)) (x:Int):List (Int×Int) :=
 match ps.getLast? with
 | some p=>if p.2=x - 1 then ps.dropLast++[(p.1,x)]else ps++[(x,x)]
 | none=>[(x,x)]
def o3 (row:List Int):List (Int×Int):=row.foldl aAY []
def P5 (H:Hp) (Q:VK) (ps:List (Int×Int)):Prop:=∀ (l:Addr) (vs:List V) (H':Hp),H l=none->Same H H'->H' l=some (.lst vs)->Prs H' vs ps->Q (.ref l) H'
theorem zW (vs:List V) (v:V):ixN (vs++[v]).length (-1)=some vs.length:=by
 unfold ixN;rw[if_neg (by decide),if_pos (by simp;omega)]
 congr 1
 simp;omega
theorem vR {α:Type} (vs:List α) (v u:α):(vs++[v]).set vs.length u=vs++[u]:=by
 rw[List.set_append_right _ _ (Nat.le_refl _)];simp
theorem tZ (ps:List (Int×Int)):PyData.canLayAll0 (ps.map pD)=true:=by
 induction ps with
 | nil=>rfl
 | cons p r ih=>simp[PyData.canLayAll0,pD,PyData.canLay0,ih]
theorem vS (ps:List (Int×Int)):PyData.depthAll (ps.map pD)<=1:=by
 induction ps with
 | nil=>simp[PyData.depthAll]
 | cons p r ih=>simp[PyData.depthAll,pD,PyData.depth];omega
theorem oE (ns:List Int):PyData.canLayAll0 (ns.map PyData.int)=true:=by
 induction ns with
 | nil=>rfl
 | cons p r ih=>simp[PyData.canLayAll0,PyData.canLay0,ih]
theorem lW (ns:List Int):PyData.depthAll (ns.map PyData.int)=0:=by
 induction ns with
 | nil=>simp[PyData.depthAll]
 | cons p r ih=>simp[PyData.depthAll,PyData.depth,ih]
theorem mK (ps:List (Int×Int)):SeqAt.shaped (.list (ps.map pD))=true:=by
 have:=vS ps;simp[SeqAt.shaped,PyData.canLay0,tZ,PyData.depth];omega
theorem cQ (ns:List Int):SeqAt.shaped (.list (ns.map PyData.int))=true:=by
 simp[SeqAt.shaped,PyData.canLay0,oE,PyData.depth,lW]
inductive zX (vs:List V) (H:Hp) (Q:VK) (E_:XK):Prop
 | mk (a:Addr) (ns:List Int) (m:Nat) (h0_:vs=[.ref a,.int m]) (h1_:H a=some (.lst (ns.map V.int))) (h2_:xZ ns) (h3_:m+3<=ns.length) (h4_:m<=60) (h5_:∀ row,Row row->row.length<=m->(∀ x∈row,-15<=x/\x<=800)->E1 H Q row):zX vs H Q E_
theorem vT {r:List Int} {x:Int} (h:Row r) (hx:∀ y∈r,y<x):Row (r++[x]):=by
 unfold Row;rw[List.pairwise_append];exact⟨h,List.pairwise_singleton _ _,fun a ha b hb=>by rw[aBk.mp hb];exact hx a ha⟩
inductive uA (vs:List V) (H:Hp) (Q:VK) (E_:XK):Prop
 | mk (a:Addr) (ns:List Int) (m:Nat) (h0_:vs=[.ref a,.int m]) (h1_:H a=some (.lst (ns.map V.int))) (h2_:xZ ns) (h3_:m+3<=ns.length) (h4_:m<=60) (h5_:∀ row,Row row->row.length<=m->E1 H Q row):uA vs H Q E_
theorem P6 {row:List Int} {c:Nat} {b:Int} (h:Row row) (hb:0<=b):Row (row.take c++(row.drop c).map (fun z=>z+b)):=by
 unfold Row at *;rw[List.pairwise_append];have hs:=h;rw[<- List.take_append_drop c row,List.pairwise_append]at hs;obtain⟨h1,h2,h3⟩:=hs;refine⟨h1,?_,fun x hx y hy=>?_⟩
 ·rw[List.pairwise_map];exact h2.imp (fun {x y} q=>by omega)
 ·obtain⟨z,hz,rfl⟩:=aBt.mp hy;have:=h3 x hx z hz;omega
mutual
def sml:PyData->Bool
 | .list xs=>decide (xs.length<=5000) && lX xs
 | .tuple xs=>decide (xs.length<=5000) && lX xs
 | .dict _=>false
 | .none=>true
 | .bool _=>true
 | .int _=>true
 | .str _=>true
def lX:List PyData->Bool
 | []=>true
 | x :: xs=>sml x && lX xs
end
theorem zY {ds:List PyData} {d:PyData} (h:d∈ds) (hc:lX ds=true):sml d=true:=by
 induction ds with
 | nil=>cases h
 | cons x r ih =>
  simp only[lX,Bool.and_eq_true]at hc;rcases aBr.mp h with rfl | h
  ·exact hc.1
  ·exact ih h hc.2
theorem P7 {ns:List Int} (h:ns.length<=5000):sml (.list (ns.map PyData.int))=true:=by
 have:∀ ns:List Int,lX (ns.map PyData.int)=true:=fun ns=>by
  induction ns with
  | nil=>rfl
  | cons p r ih=>simp[lX,sml,ih]
 simp[sml,this,h]
inductive kJ (n:Nat) (vs:List V) (H:Hp) (Q:VK) (E_:XK):Prop
 | mk (x y:V) (d:PyData) (h0_:vs=[x,y]) (h1_:Den H x d) (h2_:Den H y d) (h3_:d.depth<=n) (h4_:SeqAt.shaped d=true) (h5_:sml d=true) (h6_:∀ H',Same H H'->Q (.bl true) H'):kJ n vs H Q E_
theorem sO {ds:List PyData} {d:PyData} (h:d∈ds):d.depth<=PyData.depthAll ds:=by
 induction ds with
 | nil=>cases h
 | cons x r ih =>
  simp only[PyData.depthAll];rcases aBr.mp h with rfl | h
  ·omega
  ·have:=ih h;omega
theorem pX {ds:List PyData} {d:PyData} (h:d∈ds) (hc:PyData.canLayAll0 ds=true):d.canLay0=true:=by
 induction ds with
 | nil=>cases h
 | cons x r ih =>
  simp only[PyData.canLayAll0,Bool.and_eq_true]at hc;rcases aBr.mp h with rfl | h
  ·exact hc.1
  ·exact ih h hc.2
theorem kK {d:PyData} (h:SeqAt.shaped d=true):PyData.eqv d d=true:=SeqAt.eqv_refl d (SeqAt.canLay_of_shaped h)
inductive vU (K:PySem.W.Frag) (vs:List V) (H:Hp) (Q:VK) (E_:XK):Prop
 | mk (a:Addr) (ns:List Int) (h0_:vs=[.ref a]) (h1_:SqL K H a (ns.map V.int)) (h2_:ns.length<=63) (h3_:∀ H',Q (.bl true) H'):vU K vs H Q E_
inductive iI (vs:List V) (H:Hp) (Q:VK) (E_:XK):Prop
 | mk (c:Int) (h0_:vs=[.int c]) (h1_:1<=c) (h2_:Q .non H):iI vs H Q E_
theorem yA (ns:List Int):(PyData.list (ns.map PyData.int)).depth<=3:=by simp[PyData.depth,lW]
end CW
namespace CW
end CW
namespace CW
open PySem L2
theorem paired_get {α β:Type} {F:α->β->Prop}:∀ {l₁:List α} {l₂:List β} {i:Nat} {x:α},Paired F l₁ l₂->l₁[i]?=some x->∃ y,l₂[i]?=some y/\F x y
 | _,_,_,_,.nil,e=>by simp at e
 | _,_,0,_,.cons r _,e=>by simp at e;subst e;exact⟨_,rfl,r⟩
 | _,_,i+1,x,.cons _ t,e=>by
  obtain⟨y,h1,h2⟩:=paired_get (i:=i) (x:=x) t (by simpa using e);exact⟨y,by simpa using h1,h2⟩
end CW
namespace L2
open PySem PySem.Spec PyProof.Rows
abbrev two (b:Int) (t:Tok) (c:Nat):Obj:={ cls:=.type "list",dict:=none,data:=.seq #[.int b t,.int b t] c,slots:=#[] }
theorem mL:∀ {its:List Value} {ns:List Int} {i:Nat} {n:Int},IntsAre its ns->ns[i]?=some n->∃ t,its[i]?=some (.int n t)
 | _,_,_,_,.nil,e=>by simp at e
 | _,_,0,_,.cons n t _,e=>by simp at e;subst e;exact⟨t,rfl⟩
 | _,_,i+1,n,.cons _ _ r,e=>by
  obtain⟨t,h⟩:=mL (i:=i) (n:=n) r (by simpa using e);exact⟨t,by simpa using h⟩
section
variable {prog:Program} {w:World} {A:Around} {R:Result->Shared->Prop} {l it S:Addr} {its:List Value} {ns:List Int} {d:Value}
theorem Y6 (hh:A.handled=none) (hI:IntsAre its ns) (hlt:l≠it) (hiS:it≠S) (hlS:l≠S) :
 ∀ (k i:Nat) (s:Shared) (b:Int) (t:Tok) (c:Nat),ns.length - i=k->i<=ns.length->s.heap.IsListIter it l i->s.heap.IsList l its.toArray->s.heap.get? S=some (two b t c) ->
  (∀ h' tk t',(∀ x o,x≠it->x≠S->s.heap.get? x=some o->h'.get? x=some o)->R (.ok (.ret (.int ((ns.drop i).foldl max b) t'))) { s with heap:=h',toks:=tk }) ->
  codeAny (model prog w) A (.builtin "max.loop" ⟨[.ref it,.none,.ref S],[(Str.ofString "default",d)]⟩) R s:=by
 have nm:(toString "max"++toString ".loop":String)="max.loop":=by decide
 intro k
 induction k with
 | zero =>
  intro i s b t c hk hi st hl hS hR;have e:i=ns.length:=by omega
  refine codeAny_builtin PySem.F.entry_max_loop (by
   rw[aBZ PySem.F.plain_max_loop _];show wpAny _ A.in1 (seqItems? (Value.ref S) >>= _) _ _ s;refine aBL (wpAny_seqItems hS rfl ?_);show wpAny _ A.in1 (tryCatch (pyNext (Value.ref it)) _ >>= _) _ _ s;refine aBL (wpAny_tryCatch (wpAny_pyNext_list_end hh st hl (by have:=hI.length;simp;omega) fun h' eb=>?_));have hS':=eb S _ (Ne.symm hiS) hS;show wpAny _ A.in1 (updateSeq S (fun _=>#[]) >>= _) _ _ { s with heap:=h' };refine aBL (wpAny_updateSeq hS' rfl (aBL (wpAny_letGo (aBM ?_))));have q:=hR (h'.update S (Obj.mapSeq fun _=>#[])) s.toks t (fun x o h1 h2 e=>(aBS _ _ (Ne.symm h2)).trans (eb x o h1 e));rw[e,List.drop_length]at q;exact q)
 | succ k ih =>
  intro i s b t c hk hi st hl hS hR;have hi':i<ns.length:=by omega
  obtain⟨u,hu⟩:=mL (i:=i) (n:=ns[i]) hI (by simp[hi']);have hdr:ns.drop i=ns[i] :: ns.drop (i+1):=List.drop_eq_getElem_cons hi';refine codeAny_builtin PySem.F.entry_max_loop (by
   rw[aBZ PySem.F.plain_max_loop _];show wpAny _ A.in1 (seqItems? (Value.ref S) >>= _) _ _ s;refine aBL (wpAny_seqItems hS rfl ?_);show wpAny _ A.in1 (tryCatch (pyNext (Value.ref it)) _ >>= _) _ _ s;refine aBL (wpAny_tryCatch (wpAny_pyNext_list_item st hl (x:=.int ns[i] u) (by simpa using hu) fun h' st' sb=>?_));have hS':=sb.extBut S _ (Ne.symm hiS) hS;have hl':=hl.extBut sb.extBut hlt;show wpAny _ A.in1 (tryCatch (holding [.int ns[i] u,.int ns[i] u] (richCompare .Gt (.int ns[i] u) (.int b t) >>= _)) _ >>= _) _ _ { s with heap:=h' };refine aBL (wpAny_tryCatch (wpAny_holding (aBL (gt_int (s:={ s with heap:=h' }) ?_))));refine aBL (wpAny_holding (wpAny_truthy_bool (aBL (wpAny_letGo (aBM ?_)))))
   by_cases hb:b<ns[i]
   ·have hd:decide (b<ns[i])=true:=aBa hb;simp only[hd,if_true];refine aBL (wpAny_updateSeq hS' rfl (aBL (wpAny_letGo ?_)));rw[nm];obtain⟨c',e1⟩:∃ c',(h'.update S (Obj.mapSeq fun _=>#[Value.int ns[i] u,Value.int ns[i] u])).get? S=some (two ns[i] u c'):=⟨_,aB6 _ hS' rfl⟩;refine aBM ⟨plainId_quiet PySem.F.plain_max_loop _,ih (i+1) { s with heap:=h'.update S (Obj.mapSeq fun _=>#[Value.int ns[i] u,Value.int ns[i] u]) } ns[i] u _ (by omega) hi' (st'.at fun o e=>(aBS _ _ (Ne.symm hiS)).trans e) (hl'.at fun o e=>(aBS _ _ (Ne.symm hlS)).trans e) e1 fun h'' tk t' kp=>?_⟩;have q:=hR h'' tk t' (fun x o h1 h2 e=>kp x o h1 h2 ((aBS _ _ (Ne.symm h2)).trans (sb.extBut x o h1 e)));rw[hdr,aBf,show max b ns[i]=ns[i]by omega]at q;exact q
   ·have hd:decide (b<ns[i])=false:=aB9 hb;simp only[hd,Bool.false_eq_true,if_false];refine aBL (wpAny_letGo ?_);rw[nm];refine aBM ⟨plainId_quiet PySem.F.plain_max_loop _,ih (i+1) { s with heap:=h' } b t c (by omega) hi' st' hl' hS' fun h'' tk t' kp=>?_⟩;have q:=hR h'' tk t' (fun x o h1 h2 e=>kp x o h1 h2 (sb.extBut x o h1 e));rw[hdr,aBf,show max b ns[i]=b by omega]at q;exact q)
theorem P8 (hh:A.handled=none) (hI:IntsAre its ns) (hlt:l≠it) (hiS:it≠S) (hlS:l≠S) {s:Shared} {c:Nat} (st:s.heap.IsListIter it l 0) (hl:s.heap.IsList l its.toArray)
 (hS:s.heap.get? S=some { cls:=.type "list",dict:=none,data:=.seq #[] c,slots:=#[] }) (x0:V) (rx:RelV x0 d)
 (hR:∀ h' tk v u,(∀ x o,x≠it->x≠S->s.heap.get? x=some o->h'.get? x=some o)->RelV v u->(v=match ns with | []=>x0 | n :: r=>.int (r.foldl max n))->R (.ok (.ret u)) { s with heap:=h',toks:=tk }) :
 codeAny (model prog w) A (.builtin "max.loop" ⟨[.ref it,.none,.ref S],[(Str.ofString "default",d)]⟩) R s:=by
 have nm:(toString "max"++toString ".loop":String)="max.loop":=by decide
 cases hI with
 | nil =>
  refine codeAny_builtin PySem.F.entry_max_loop (by
   rw[aBZ PySem.F.plain_max_loop _];show wpAny _ A.in1 (seqItems? (Value.ref S) >>= _) _ _ s;refine aBL (wpAny_seqItems hS rfl ?_);show wpAny _ A.in1 (tryCatch (pyNext (Value.ref it)) _ >>= _) _ _ s;refine aBL (wpAny_tryCatch (wpAny_pyNext_list_end hh st hl (by simp) fun h' eb=>?_));refine aBL (wpAny_rule (aBM ?_));exact hR h' s.toks x0 d (fun x o h1 _ e=>eb x o h1 e) rx rfl)
 | @cons n t its' ns' r =>
  refine codeAny_builtin PySem.F.entry_max_loop (by
   rw[aBZ PySem.F.plain_max_loop _];show wpAny _ A.in1 (seqItems? (Value.ref S) >>= _) _ _ s;refine aBL (wpAny_seqItems hS rfl ?_);show wpAny _ A.in1 (tryCatch (pyNext (Value.ref it)) _ >>= _) _ _ s;refine aBL (wpAny_tryCatch (wpAny_pyNext_list_item st hl (x:=.int n t) (by simp) fun h' st' sb=>?_));have hS':=sb.extBut S _ (Ne.symm hiS) hS;have hl':=hl.extBut sb.extBut hlt;show wpAny _ A.in1 (updateSeq S (fun _=>#[Value.int n t,Value.int n t]) >>= _) _ _ { s with heap:=h' };refine aBL (wpAny_updateSeq hS' rfl ?_);rw[nm];obtain⟨c',e1⟩:∃ c',(h'.update S (Obj.mapSeq fun _=>#[Value.int n t,Value.int n t])).get? S=some (two n t c'):=⟨_,aB6 _ hS' rfl⟩;refine aBM ⟨plainId_quiet PySem.F.plain_max_loop _,Y6 hh (.cons n t r) hlt hiS hlS _ 1 { s with heap:=h'.update S (Obj.mapSeq fun _=>#[Value.int n t,Value.int n t]) } n t _ rfl (by simp) (st'.at fun o e=>(aBS _ _ (Ne.symm hiS)).trans e) (hl'.at fun o e=>(aBS _ _ (Ne.symm hlS)).trans e) e1 fun h'' tk t' kp=>?_⟩;exact hR h'' tk (.int (ns'.foldl max n)) _ (fun x o h1 h2 e=>kp x o h1 h2 ((aBS _ _ (Ne.symm h2)).trans (sb.extBut x o h1 e))) ⟨t',rfl⟩ rfl)
def mxD (ns:List Int) (x0:V):V:=match ns with | []=>x0 | n :: r=>.int (r.foldl max n)
theorem sP (a d:Value):argsOk "max" ⟨[a],[(Str.ofString "default",d)]⟩:=by unfold argsOk;kernel_rfl
theorem E2 {E:Value->Shared->Prop} {s:Shared} {x0:V} {Q:Value->Shared->Prop} (hh:A.handled=none) (hI:IntsAre its ns) (hl:s.heap.IsList l its.toArray) (rx:RelV x0 d)
 (h:∀ h' tk u,(∀ x o,s.heap.get? x=some o->h'.get? x=some o)->RelV (mxD ns x0) u->Q u { s with heap:=h',toks:=tk }):wpAny (model prog w) A (call (.builtin "max") [.ref l] [(Str.ofString "default",d)]) Q E s:=by
 have nm:(toString "max"++toString ".loop":String)="max.loop":=by decide
 refine kmk_tree PySem.F.kind_max PySem.F.plain_max PySem.F.entry_max (sP _ _) (by
  show wpAny _ A.in1 (Builtin.Builtins.bindParams "max" ["key","default"] 0 ⟨[],[(Str.ofString "default",d)]⟩ >>= _) _ _ s;refine aBL (wpAny_of_eq (show Builtin.Builtins.bindParams "max" ["key","default"] 0 ⟨[],[(Str.ofString "default",d)]⟩=pure [none,some d] from rfl) (aBL (aBM ?_)));refine aBL (wpAny_pyIter_list hl ?_);refine aBL (wpAny_newObj_type ?_);rw[nm];have hlt:l<s.heap.objs.size:=by obtain⟨_,e,_⟩:=hl;exact aBT e
  refine aBM ⟨plainId_quiet PySem.F.plain_max_loop _,P8 (l:=l) (it:=s.heap.objs.size) (its:=its) hh hI (aBb hlt) (by rw[Heap.size_push];exact aBb (Nat.lt_succ_self _)) (by rw[Heap.size_push];exact aBb (Nat.lt_succ_of_lt hlt)) ⟨_,aBO _ (aBU _ rfl),rfl,rfl⟩ ((hl.push _).push _) (aBU _ rfl) x0 rx fun h' tk v u kp rv ev=>?_⟩;subst ev;refine h h' tk u (fun x o e=>?_) rv;have hx:=aBT e;exact kp x o (aBb hx) (by rw[Heap.size_push];exact aBb (Nat.lt_succ_of_lt hx)) (aBO _ (aBO _ e)))
def mnD (ns:List Int) (x0:V):V:=match ns with | []=>x0 | n :: r=>.int (r.foldl min n)
end
section
variable {X:Cx} {e f:Expr} {te tf:TE} {p pos kp:Pos}
def aBH (K:PySem.W.Frag) (te tf:TE):TE:=fun σ H Q=>te σ H fun x H1=>tf σ H1 fun y H2=>∃ a ns,x=.ref a/\SqL K H2 a (ns.map V.int)/\Q (mxD ns y) H2
theorem nR (hc:X.calm=true) (hg:Gl X "max") (hm:X.mg "max"=none) (he:PE X e te) (hf:PE X f tf)
 (hs:starEach [e] X.env=(false,eval e X.env) :: starEach [] X.env:=by rfl) (he1:backTo pos (starEach [e] X.env)=(false,eval e X.env) :: backTo pos (starEach [] X.env):=by rfl) (hp1:(backTo pos (starEach [e] X.env)).any (·.1)=false:=by rfl)
 (ha1:(backToKw pos (keywordEach [⟨some "default",f,kp⟩] X.env)).all (·.1.isSome)=true:=by rfl) (hk1:(backToKw pos (keywordEach [⟨some "default",f,kp⟩] X.env)).any (·.1.isNone)=false:=by rfl) (hks:(backToKw pos (keywordEach [⟨some "default",f,kp⟩] X.env)).filterMap (·.1)=([Str.ofString "default"]:List Str):=by rfl) :
 PE X (.Call (.Name "max" p) [e] [⟨some "default",f,kp⟩] pos) (aBH X.K te tf):=by
 intro pins s σ H Q I h;refine wpAny_Call_Name_kw (gF I hg hm mH ?_);refine callWith_kw ?_ he1 hp1 ha1 hk1;refine thn ((aA he aC hs) pos pins s σ H (fun vs H1=>match vs with | [x]=>tf σ H1 fun y H2=>∃ a ns,x=.ref a/\SqL X.K H2 a (ns.map V.int)/\Q (mxD ns y) H2 | _=>False) I h) fun us s1 ⟨vs,H1,I1,r1,q1⟩=>?_;obtain⟨x,rfl⟩:∃ x,vs=[x]:=by
  rcases vs with _ | ⟨x,_ | ⟨_,_⟩⟩
  ·exact q1.elim
  ·exact⟨x,rfl⟩
  ·exact q1.elim
 refine thn ((zR hf O7) pos pins s1 σ H1 (fun ks H2=>match ks with | [y]=>∃ a ns,x=.ref a/\SqL X.K H2 a (ns.map V.int)/\Q (mxD ns y) H2 | _=>False) I1 q1) fun ws s2 ⟨zs,H2,I2,r2,q2⟩=>?_;obtain⟨y,rfl⟩:∃ y,zs=[y]:=by
  rcases zs with _ | ⟨x,_ | ⟨_,_⟩⟩
  ·exact q2.elim
  ·exact⟨x,rfl⟩
  ·exact q2.elim
 obtain⟨a,ns,rfl,hq,q2⟩:=q2;obtain⟨u,rfl,ru⟩:=r1.one;obtain⟨v,rfl,rv⟩:=r2.one;cases ru;rw[hks];obtain⟨its,rl,pl,hz⟩:=I2.list hq;exact E2 (I.ok.hd hc) (xW rl) pl.isList rv fun h' tk u kp ru=>⟨_,H2,I2.kept kp,ru,q2⟩
end
section
variable {X:Cx}
end
end L2
namespace CW
open PySem L2
end CW
namespace L2
open PySem PySem.Spec PyProof.Rows
theorem jA:bootBuiltins "sum"=some (.builtin "sum"):=by decide +kernel
theorem pY:bootBuiltins "enumerate"=some (.type "enumerate"):=by decide +kernel
theorem P9:bootBuiltins "zip"=some (.type "zip"):=by decide +kernel
theorem hX:∀ {ns:List Int} {us:List Value},Vals (ns.map V.int) us->IntsAre us ns
 | [],_,.nil=>.nil
 | _ :: _,_,.cons ⟨_,e⟩ t=>by subst e;exact .cons _ _ (hX t)
section
variable {X:Cx}
theorem jB (hc:X.calm=true):eY X (.builtin "sum") (fun xs H Q=>∃ (p:Addr) (ns:List Int),xs=[.ref p]/\H p=some (.lst (ns.map V.int))/\Q (.int ns.sum) H):=by
 intro pins s σ H xs us Q I r h;obtain⟨p,ns,rfl,hp,q⟩:=h;obtain⟨u,rfl,rx⟩:=hU r;cases rx;obtain⟨its,rv,pl,hz⟩:=I.list (SqL.of hp);have hl:=pl.isList;have hi:=hX rv;obtain⟨xs,hx⟩:=hi.allInts.items;have hl':s.heap.IsList p (intItems xs):=hx ▸ hl;refine sum_intListG (I.ok.hd hc) hl' fun h' tk t' hk=>?_;have e1:ns=xs.toList.map (·.1):=by
  rw[<- nums_intItems,<- hx];exact(show numsOf its.toArray.toList=ns from hi.numsOf).symm
 have e2:preSum (numAt xs) xs.size=ns.sum:=by
  rw[preSum_eq,List.take_of_length_le (by simp),e1]
 rw[e2];exact⟨.int _,H,I.kept hk,⟨_,rfl⟩,q⟩
theorem Inv.turnedF {h':Heap} {pins:List (Addr×Obj)} {σ:St} {H:Hp} {s:Shared} {t':Nat} {fp:List Addr} (I:Inv X pins σ H s) (k:∀ b o,b∉fp->s.heap.get? b=some o->h'.get? b=some o) (hf:∀ b∈fp,jZ X pins H b):Inv X pins σ H { s with heap:=h',toks:=t' }:=by
 have nit:∀ b u,H b=some u->b∉fp:=fun b u e z=>by rw[(hf b z).1]at e;cases e
 refine I.step (g':=s.gens) (d':=s.drawn) (ch:=fp) (fun b hb=>?_) (fun b o _ _ hc e _=>k b o hc e) (fun b o _ _ hc e _=>⟨o.slots,k b o hc e⟩) (fun _ _ _ _ n=>n)
  (fun b o hc e=>⟨o,k b o hc e⟩) (fun _ _ e=>e) (fun _ _ _ e=>e) (fun b ps e=>⟨#[],by rw[e];simp⟩) (fun m hm=>?_) (fun b u e=>?_) I.bare
 ·obtain⟨_,h1,_,h3,h4,h5⟩:=hf b hb;exact⟨h3,h1,h4,h5⟩
 ·obtain⟨o,es,ep,ho,r⟩:=hm;exact⟨o,es,ep,k _ o (fun z=>(hf _ z).2.1 rfl) ho,r⟩
 ·refine(I.hok b u e).stay (fun c v hc q=>k c v ?_ q) (fun _ q=>q) fun _ _ q=>q;rcases hc with z | z
  ·rw[z];exact nit b u e
  ·exact nit c _ z
theorem Inv.turnLaid {h':Heap} {pins:List (Addr×Obj)} {σ:St} {H:Hp} {s:Shared} {t':Nat} {fp:List Addr} {a:Addr} {o:HO} (I:Inv X pins σ H s) (k:∀ b o,b∉fp->s.heap.get? b=some o->h'.get? b=some o) (hf:∀ b∈fp,jZ X pins H b) (hp:s.heap.objs.size<=a) (new:ObjOk X.prog X.w (upd H a o) h' a o) :
 Inv X pins σ (upd H a o) { s with heap:=h',toks:=t' }:=by
 have hn:H a=none:=I.hok.fresh hp;have nit:∀ b u,H b=some u->b∉fp:=fun b u e z=>by rw[(hf b z).1]at e;cases e
 have ne:∀ b u,H b=some u->b≠a:=fun b u e=>bN e hn;refine I.step (g':=s.gens) (d':=s.drawn) (ch:=fp) (fun b hb=>?_) (fun b o _ _ hc e _=>k b o hc e) (fun b o _ _ hc e _=>⟨o.slots,k b o hc e⟩) (fun b ob _ e n=>?_)
  (fun b o hc e=>⟨o,k b o hc e⟩) (fun b _ e=>by rw[aH (ne b _ e)];exact e) (fun b _ _ e=>by rw[aH (ne b _ e)];exact e) (fun b ps e=>⟨#[],by rw[aH (ne b _ e),e];simp⟩) (fun m hm=>?_) (fun b u e=>?_) I.bare
 ·obtain⟨_,h1,_,h3,h4,h5⟩:=hf b hb;exact⟨h3,h1,h4,h5⟩
 ·have:b≠a:=aBb (aB4 (aBT e) hp);rw[aH this];exact n
 ·obtain⟨o,es,ep,ho,r⟩:=hm;exact⟨o,es,ep,k _ o (fun z=>(hf _ z).2.1 rfl) ho,r⟩
 ·by_cases hb:b=a
  ·subst hb;rw[aB]at e;cases e;exact new
  ·rw[aH hb]at e;refine(I.hok b u e).stay (fun c v hc q=>k c v ?_ q) (fun c q=>by rw[aH (ne c _ q)];exact q) fun c _ q=>by rw[aH (ne c _ q)];exact q
   rcases hc with z | z
   ·rw[z];exact nit b u e
   ·exact nit c _ z
end
def Ite (K:PySem.W.Frag) (a:Addr):It :=
 ⟨fun i H=>∃ xs x,SqL K H a xs/\xs[i]?=some x,fun i H v H'=>∃ t x,v=.ref t/\H t=none/\(∀ xs,SqL K H a xs->xs[i]?=some x)/\H'=upd H t (.tup [.int i,x]),fun i H=>∃ xs,SqL K H a xs/\xs.length<=i⟩
theorem E3 {P:Program} {w:World} {K:PySem.W.Frag} {elts:List Expr} {x1} {pos:Pos} (a e it:Addr) (hne:e≠it):tR P w K (.Tuple elts x1 pos) (Ite K a) [e,it] e (fun i h=>(∃ old,IsEnum h e it (i:Nat) old)/\h.IsListIter it a i) where
 mem:=by simp
 obj:=fun i h st b hb=>by
  obtain⟨⟨old,he⟩,o,ho,c,d⟩:=st;rcases aBr.mp hb with z | z
  ·subst z;exact⟨_,he,fun v z=>by have z':Data.fields _=Data.cell v:=z;cases z'⟩
  ·have z:b=it:=by simpa using z
   subst z;exact⟨o,ho,fun v z=>by rw[d]at z;cases z⟩
 keep:=fun i h h' st k=>⟨let ⟨old,he⟩:=st.1;⟨old,k e (by simp) _ he⟩,st.2.at fun o e=>k it (by simp) o e⟩
 item:=by
  intro X hP hw hK hc i pins s σ H E I hf st hg;subst hP hw hK;obtain⟨xs,x,hq,hx⟩:=hg;obtain⟨its,rv,p,hz⟩:=I.list hq;obtain⟨u,hu,ru⟩:=rv.get hx;obtain⟨⟨old,he⟩,hit⟩:=st;have le:e<s.heap.objs.size:=aBT he;have li:it<s.heap.objs.size:=by obtain⟨_,z,_⟩:=hit;exact aBT z
  refine wpAny_pyNext_enum_item he hit p.isList (x:=u) (by simpa using hu) hne fun h' e1 e2 e3 e4 kp=>?_;refine⟨_,rfl,?_⟩;have hn:H s.heap.objs.size=none:=I.hok.fresh (Nat.le_refl _);have k1:∀ b o,b∉[e,it]->s.heap.get? b=some o->h'.get? b=some o:=fun b o hb q=>kp b o (fun z=>hb (by simp[z])) (fun z=>hb (by simp[z])) q;have tupOk:∀ h2:Heap,h2.get? s.heap.objs.size=some { cls:=.type "tuple",data:=.seq #[.int i s.toks,u] }->ObjOk X.prog X.w (upd H s.heap.objs.size (.tup [.int i,x])) h2 s.heap.objs.size (.tup [.int i,x]):=fun h2 q =>
   ⟨by show 2<=sizeLine;decide,[.int i s.toks,u],.cons ⟨_,rfl⟩ (.cons ru .nil),_,q,rfl,_,rfl⟩
  refine wpAny_letOwnedTupleGo_enum (i:=((i:Nat):Int)+1) e1 fun h2 f1 sb=>?_;have k2:∀ b o,b∉[e,it]->s.heap.get? b=some o->h2.get? b=some o:=fun b o hb q=>sb.extBut b o (fun z=>hb (by simp[z])) (k1 b o hb q);have n1:s.heap.objs.size≠e:=aBe le;refine⟨.ref s.heap.objs.size,_,I.turnLaid (t':=s.toks+1) (h':=h2) (o:=.tup [.int i,x]) k2 hf (Nat.le_refl _) (tupOk _ (sb.extBut _ _ n1 e3)),rfl,⟨_,x,rfl,hn,fun ys hy=>by rw[I.list_inj hy hq];exact hx,rfl⟩,⟨⟨u,?_⟩,?_⟩,fun b hb=>?_⟩
  ·have:(((i+1:Nat):Int))=(i:Int)+1:=by omega
   rw[this];exact f1
  ·exact e2.extBut sb.extBut (Ne.symm hne)
  ·have hb':b≠s.heap.objs.size:=by
    rcases aBr.mp hb with z | z
    ·subst z;exact aBb le
    ·have z:b=it:=by simpa using z
     subst z;exact aBb li
   rw[aH hb'];exact(hf b hb).1
 done:=by
  intro X hP hw hK hc i pins s σ H E I hf st hg;subst hP hw hK;obtain⟨xs,hq,hx⟩:=hg;obtain⟨its,rv,p,hz⟩:=I.list hq;have hl:=rv.length;obtain⟨⟨old,he⟩,hit⟩:=st;exact wpAny_pyNext_enum_end (I.ok.hd hc) he hit p.isList (by simp;omega) fun h' eb=>⟨rfl,I.turnedF (fp:=[e,it]) (t':=s.toks) (fun b o hb e=>eb b o (fun z=>hb (by simp[z])) e) hf⟩
 self:=fun _ _ _ _ _ st h=>let ⟨_,he⟩:=st.1;wpAny_pyIter_enum he h
def aAZ (K:PySem.W.Frag) (ta:TA):TI:=fun σ H R=>ta σ H fun vs H1=>∃ a xs,vs=[.ref a]/\SqL K H1 a xs/\R (Ite K a) H1
theorem Y7 {X:Cx} {elts:List Expr} {x1} {tpos:Pos} {a:Expr} {ta:TA} {p pos:Pos} (hg:Gl X "enumerate") (hm:X.mg "enumerate"=none) (ha:PA X [a] ta) (hs:starEach [a] X.env=[(false,eval a X.env)]:=by rfl):PI X (.Tuple elts x1 tpos) (.Call (.Name "enumerate" p) [a] [] pos) (aAZ X.K ta):=by
 intro pins s σ H R I h;refine Call_ (gF I hg hm pY (PyProof.Rows.callWith_type1 (thn (ha pos pins s σ H _ I h) fun us s1 ⟨vs,H1,I1,r1,q1⟩=>?_) hs rfl));obtain⟨a,xs,e,hq,q⟩:=q1;subst e;obtain⟨u,rfl,rx⟩:=hU r1;cases rx;obtain⟨its,rv,pl,hz⟩:=I1.list hq;refine call_enumerate_list pl.isList fun h' g1 g2 g3 kp=>?_;have I2:Inv X pins σ H1 { s1 with heap:=h' }:=I1.kept (t':=s1.toks) kp;refine wpAny_pyIter_enum g1 ?_;refine⟨s1.heap.objs.size+1,[s1.heap.objs.size+1,s1.heap.objs.size],_,_,H1,rfl,I2,E3 a _ _ (aBe (Nat.lt_succ_self _)),⟨⟨_,g1⟩,g2⟩,fun b hb=>?_,q⟩;have e:s1.heap.objs.size<=b:=by
  rcases aBr.mp hb with z | z
  ·rw[z];exact Nat.le_succ _
  ·have z:b=s1.heap.objs.size:=by simpa using z
   rw[z];exact Nat.le_refl _
 exact I1.fpOk e (I1.hok.fresh e)
theorem Q0 {K:PySem.W.Frag} {a:Addr} {xs:List V} {g:TG} {tb:TS} {D:pO} {σ:St} {H:Hp} (Pv:Nat->St->Hp->Prop) (h0:Pv 0 σ H) (hl:∀ i σ H,i<=xs.length->Pv i σ H->SqL K H a xs)
 (hs:∀ i x σ H t,xs[i]?=some x->Pv i σ H->H t=none->g (.ref t) σ (upd H t (.tup [.int i,x])) fun σ2 H2=>tb { D with nx:=Pv (i+1),ct:=Pv (i+1),bk:=D.nx } σ2 H2) (hd:∀ σ H,Pv xs.length σ H->D.nx σ H) :
 ∃ W:Nat->Nat->St->Hp->Prop,(∃ m,W 0 m σ H)/\∀ i m σ H,W i m σ H ->
  ((Ite K a).stop i H/\D.nx σ H)\/((Ite K a).go i H/\∃ N:St->Hp->Prop,(∀ σ' H',N σ' H'->∃ m',m'<m/\W (i+1) m' σ' H')/\∀ x H',(Ite K a).yld i H x H'->g x σ H' fun σ2 H2=>tb { D with nx:=N,ct:=N,bk:=D.nx } σ2 H2):=by
 refine⟨fun i m σ H=>m=xs.length - i/\i<=xs.length/\Pv i σ H,⟨xs.length,by simp,Nat.zero_le _,h0⟩,?_⟩;rintro i m σ H ⟨rfl,hi,p⟩;have q:=hl i σ H hi p
 by_cases hlt:i<xs.length
 ·refine .inr ⟨⟨xs,xs[i],q,by simp[hlt]⟩,Pv (i+1),fun σ' H' p'=>⟨xs.length - (i+1),by omega,rfl,hlt,p'⟩,fun x H' y=>?_⟩;obtain⟨t,x,rfl,hn,y,rfl⟩:=y;exact hs i x σ _ t (y xs q) p hn
 ·have e:i=xs.length:=by omega
  subst e;exact .inl ⟨⟨xs,q,Nat.le_refl _⟩,hd σ H p⟩
end L2
namespace CW
open PySem L2
def LP (H:Hp) (a:Addr) (ps:List (Int×Int)):Prop:=∃ us,H a=some (.lst us)/\Prs H us ps
theorem LP.mono {H H':Hp} (h:Same H H') {a:Addr} {ps:List (Int×Int)} (r:LP H a ps):LP H' a ps:=let ⟨us,e,p⟩:=r;⟨us,h _ _ e,p.mono (TupS.same h)⟩
theorem Prs.len {H:Hp} {us:List V} {ps:List (Int×Int)} (h:Prs H us ps):us.length=ps.length:=Paired.length h
theorem LP.den {H:Hp} {a:Addr} {ps:List (Int×Int)} (h:LP H a ps):Den H (.ref a) (.list (ps.map pD)):=let ⟨_,e,p⟩:=h;.lst e p.dens
def szs (ps:List (Int×Int)):List Int:=ps.map (·.1)
def Y8 (j:Int) (p:Int×Int):Int:=if p.1<j then p.1 else j
def vV (ps:List (Int×Int)) (j:Int):Int:=(ps.map (Y8 j)).sum
structure Trn (ps:List (Int×Int)):Prop where
 pos:∀ p∈ps,1<=p.1
 few:(szs ps).sum<=60
theorem cU:∀ {ps:List (Int×Int)},(∀ p∈ps,1<=p.1)->(ps.length:Int)<=(szs ps).sum
 | [],_=>by simp[szs]
 | p :: r,h=>by
  have h1:=h p (aBP);have h2:=cU (ps:=r) fun q hq=>h q (aBQ _ hq);simp only[szs,aBd,aBg,aBh]at h2 ⊢;omega
theorem Trn.len {ps:List (Int×Int)} (h:Trn ps):ps.length<=60:=by
 have h1:=cU h.pos;have:=h.few;omega
inductive mM (vs:List V) (H:Hp) (Q:VK) (E_:XK):Prop
 | mk (a:Addr) (ps:List (Int×Int)) (h0_:vs=[.ref a]) (h1_:LP H a ps) (h2_:Trn ps) (h3_:∀ H',Same H H'->Q .non H'):mM vs H Q E_
inductive kL (vs:List V) (H:Hp) (Q:VK) (E_:XK):Prop
 | mk (a:Addr) (ps:List (Int×Int)) (j:Int) (h0_:vs=[.ref a,.int j]) (h1_:LP H a ps) (h2_:ps.length<=200) (h3_:∀ H',Same H H'->Q (.int (vV ps j)) H'):kL vs H Q E_
theorem bP {H:Hp} {us:List V} {ps:List (Int×Int)} (h:Prs H us ps) {i:Nat} {x:V} (e:us[i]?=some x):∃ p t,ps[i]?=some p/\x=.ref t/\H t=some (.tup [.int p.1,.int p.2]):=by
 obtain⟨p,hp,t,e1,e2⟩:=paired_get h e;exact⟨p,t,hp,e1,e2⟩
theorem dU {ps:List (Int×Int)} {i:Nat} {p:Int×Int} (f:Int×Int->Int) (h:ps[i]?=some p):((ps.take i).map f).map V.int++[V.int (f p)]=((ps.take (i+1)).map f).map V.int:=by
 rw[aBj,h];simp
end CW
namespace L2
open PySem PySem.Spec PyProof.Rows
section
variable {X:Cx} {tg:Expr}
end
open PySem.W
section
variable {O:KeyOrd} {key:Nat->O.α} {n:Nat} {cmp:Nat->Nat->(Bool->Shared->Prop)->Shared->Prop} {s:Shared}
def Ans (O:KeyOrd) (key:Nat->O.α) (n:Nat) (cmp:Nat->Nat->(Bool->Shared->Prop)->Shared->Prop) (s:Shared):Prop:=∀ i j C,i<n->j<n->C (O.blt (key i) (key j)) s->cmp i j C s
def KP (O:KeyOrd) (key:Nat->O.α) (p:Array Nat) (i:Nat):O.α:=key (p.getD i 0)
structure InR (n:Nat) (p:Array Nat):Prop where
 pos:0<n
 size:p.size=n
 mem:∀ x∈p,x<n
theorem InR.at {p:Array Nat} (h:InR n p) (i:Nat):p.getD i 0<n:=by
 unfold Array.getD;split
 ·exact h.mem _ (Array.getElem_mem _)
 ·exact h.pos
theorem InR.perm {p q:Array Nat} (h:InR n p) (e:q.Perm p):InR n q:=⟨h.pos,e.size_eq.trans h.size,fun x hx=>h.mem x (e.mem_iff.mp hx)⟩
theorem mN {p q:Array Nat} {i j:Nat} (h:p[i]?=q[j]?):p.getD i 0=q.getD j 0:=by
 rw[Array.getD_eq_getD_getElem?,Array.getD_eq_getD_getElem?,h]
theorem yB {p:Array Nat} {i j:Nat} (hj:j<=p.size) (k:Nat):KP O key (kas_rev p i j) k=if i<=k/\k<j then KP O key p (i+j - 1 - k)else KP O key p k:=by
 have e:=getElem?_mirror_all (i:=i) hj k;unfold KP kas_rev
 by_cases h:i<=k/\k<j
 ·rw[if_pos h]at e ⊢;exact congrArg key (mN e)
 ·rw[if_neg h]at e ⊢;exact congrArg key (mN e)
theorem v0 {p:Array Nat} {k d:Nat} (hk:k<p.size) (hd:d<=k) (x:Nat):KP O key (bubble p k d) x=if x=k - d then KP O key p k else if k - d<x/\x<=k then KP O key p (x - 1)else KP O key p x:=by
 have e:=getElem?_bubble hk d hd x;unfold KP
 by_cases h1:x=k - d
 ·rw[if_pos h1]at e ⊢;exact congrArg key (mN e)
 ·rw[if_neg h1]at e ⊢
  by_cases h2:k - d<x/\x<=k
  ·rw[if_pos h2]at e ⊢;exact congrArg key (mN e)
  ·rw[if_neg h2]at e ⊢;exact congrArg key (mN e)
def Up (O:KeyOrd) (key:Nat->O.α) (p:Array Nat) (m:Nat):Prop:=∀ i j,i<=j->j<m->O.kle (KP O key p i) (KP O key p j)
def Dn (O:KeyOrd) (key:Nat->O.α) (p:Array Nat) (m:Nat):Prop:=∀ i j,i<=j->j<m->O.kle (KP O key p j) (KP O key p i)
theorem Up.more {p:Array Nat} {m:Nat} (h:Up O key p m) (hm:1<=m) (hl:O.kle (KP O key p (m - 1)) (KP O key p m)):Up O key p (m+1):=fun i j hij hj=>by
 by_cases q:j<m
 ·exact h i j hij q
 ·have:j=m:=by omega
  subst this
  by_cases r:i=j
  ·subst r;exact KeyOrd.kle_refl _
  ·exact KeyOrd.kle_trans (h i (j - 1) (by omega) (by omega)) hl
theorem Dn.more {p:Array Nat} {m:Nat} (h:Dn O key p m) (hm:1<=m) (hl:O.kle (KP O key p m) (KP O key p (m - 1))):Dn O key p (m+1):=fun i j hij hj=>by
 by_cases q:j<m
 ·exact h i j hij q
 ·have:j=m:=by omega
  subst this
  by_cases r:i=j
  ·subst r;exact KeyOrd.kle_refl _
  ·exact KeyOrd.kle_trans hl (h i (j - 1) (by omega) (by omega))
theorem yC (A:Ans O key n cmp s) {p:Array Nat} (hp:InR n p):∀ (f m:Nat) (Q:Nat->Shared->Prop),1<=m->Up O key p m ->
 (∀ m',m<=m'->m'<=m+f->Up O key p m'->(m'<m+f->O.klt (KP O key p m') (KP O key p (m' - 1)))->Q m' s)->(kas_asc p f m).kasWp cmp Q s
 | 0,m,Q,hm,hu,hQ=>hQ m (Nat.le_refl _) (Nat.le_refl _) hu fun z=>absurd z (Nat.lt_irrefl _)
 | f+1,m,Q,hm,hu,hQ=>by
  show cmp _ _ _ s;refine A _ _ _ (hp.at _) (hp.at _) ?_;cases hb:O.blt (key (p.getD m 0)) (key (p.getD (m - 1) 0))with
  | true =>
   show KasT.kasWp cmp (if true=true then _ else _) Q s;rw[if_pos rfl];exact hQ m (Nat.le_refl _) (Nat.le_add_right _ _) hu fun _=>hb
  | false =>
   show KasT.kasWp cmp (if false=true then _ else _) Q s;rw[if_neg aB0];exact yC A hp f (m+1) Q (by omega) (hu.more hm hb) fun m' h1 h2 h3 h4=>hQ m' (by omega) (by omega) h3 fun z=>h4 (by omega)
def Q3 (O:KeyOrd) (key:Nat->O.α) (p:Array Nat) (m q:Nat):Prop:=∀ k,m - (q+1)<=k->k<m->KP O key p k=KP O key p (m - 1)
theorem pZ {p:Array Nat} {i j:Nat} (hj:j<=p.size) (h:∀ k,i<=k->k<j->KP O key p k=KP O key p (j - 1)) (k:Nat):KP O key (kas_rev p i j) k=KP O key p k:=by
 rw[yB hj]
 by_cases q:i<=k/\k<j
 ·rw[if_pos q,h _ (by omega) (by omega),h k q.1 q.2]
 ·rw[if_neg q]
theorem Dn.same {p q:Array Nat} {m:Nat} (h:Dn O key p m) (e:∀ k,KP O key q k=KP O key p k):Dn O key q m:=fun i j h1 h2=>by rw[e,e];exact h i j h1 h2
theorem fU (p:Array Nat) (i j:Nat):(kas_rev p i j).Perm p:=mirror_perm _ _ _ _
theorem pE (A:Ans O key n cmp s):∀ (f:Nat) (p:Array Nat) (m q:Nat) (Q:Array Nat×Nat×Nat->Shared->Prop),InR n p->m+f<=n->1<=m->q+1<=m->Dn O key p m->Q3 O key p m q ->
 (∀ p' m' q',p'.Perm p->m<=m'->m'<=n->q'+1<=m'->Dn O key p' m'->Q3 O key p' m' q'->Q (p',m',q') s)->(kas_desc f p m q).kasWp cmp Q s
 | 0,p,m,q,Q,hp,hf,hm,hq,hd,he,hQ=>hQ p m q (Array.Perm.refl _) (Nat.le_refl _) (by omega) hq hd he
 | f+1,p,m,q,Q,hp,hf,hm,hq,hd,he,hQ=>by
  show cmp _ _ _ s;refine A _ _ _ (hp.at _) (hp.at _) ?_;have one:∀ p:Array Nat,Q3 O key p (m+1) 0:=fun p k h1 h2=>by rw[show k=m+1 - 1 by omega]
  cases hb:O.blt (key (p.getD m 0)) (key (p.getD (m - 1) 0))with
  | true =>
   show KasT.kasWp cmp (if true=true then _ else _) Q s;rw[if_pos rfl];have hl:O.kle (KP O key p m) (KP O key p (m - 1)):=KeyOrd.kle_of_klt hb
   by_cases q0:q > 0
   ·rw[if_pos q0];have sm:=pZ (O:=O) (key:=key) (p:=p) (i:=m - (q+1)) (j:=m) (by rw[hp.size];omega) he;refine pE A f _ (m+1) 0 Q (hp.perm (fU ..)) (by omega) (by omega) (by omega) (Dn.same (hd.more hm hl) sm) (one _) fun p' m' q' e h1 h2 h3 h4 h5=>hQ p' m' q' (e.trans (fU ..)) (by omega) h2 h3 h4 h5
   ·rw[if_neg q0];exact pE A f p (m+1) 0 Q hp (by omega) (by omega) (by omega) (hd.more hm hl) (one _) fun p' m' q' e h1 h2 h3 h4 h5=>hQ p' m' q' e (by omega) h2 h3 h4 h5
  | false =>
   show KasT.kasWp cmp (if false=true then _ else _) Q s;rw[if_neg aB0];show cmp _ _ _ s;refine A _ _ _ (hp.at _) (hp.at _) ?_;cases hc:O.blt (key (p.getD (m - 1) 0)) (key (p.getD m 0))with
   | true =>
    show KasT.kasWp cmp (if true=true then _ else _) Q s;rw[if_pos rfl];exact hQ p m q (Array.Perm.refl _) (Nat.le_refl _) (by omega) hq hd he
   | false =>
    show KasT.kasWp cmp (if false=true then _ else _) Q s;rw[if_neg aB0];have eq:KP O key p m=KP O key p (m - 1):=O.total _ _ hb hc;refine pE A f p (m+1) (q+1) Q hp (by omega) (by omega) (by omega) (hd.more hm hc) (fun k h1 h2=>?_) fun p' m' q' e h1 h2 h3 h4 h5=>hQ p' m' q' e (by omega) h2 h3 h4 h5;show KP O key p k=KP O key p m
    by_cases z:k=m
    ·rw[z]
    ·rw[eq];exact he k (by omega) (by omega)
theorem zZ (A:Ans O key n cmp s) {p:Array Nat} {m:Nat} {Q:Nat×Array Nat->Shared->Prop} (hp:InR n p) (hm:1<=m) (hn:m<=n) (hd:Dn O key p m)
 (hQ:∀ m' p',p'.Perm p->1<=m'->m'<=n->Up O key p' m'->Q (m',p') s):(kas_tail3 m n p).kasWp cmp Q s:=by
 unfold kas_tail3;rw[KasT.kasWp_bind];have up:Up O key (kas_rev p 0 m) m:=fun i j h1 h2=>by
  rw[yB (by rw[hp.size];exact hn),yB (by rw[hp.size];exact hn),if_pos (by omega),if_pos (by omega)];exact hd _ _ (by omega) (by omega)
 exact yC A (hp.perm (fU ..)) _ _ _ hm up fun m' h1 h2 h3 _=>hQ m' _ (fU ..) (by omega) (by omega) h3
theorem A0 (A:Ans O key n cmp s) {p:Array Nat} {m:Nat} {Q:Nat×Array Nat->Shared->Prop} (hp:InR n p) (hn:m+1<=n) (hd:Dn O key p (m+1))
 (hQ:∀ m' p',p'.Perm p->1<=m'->m'<=n->Up O key p' m'->Q (m',p') s):(kas_descPart m n p).kasWp cmp Q s:=by
 unfold kas_descPart;rw[KasT.kasWp_bind];refine pE A _ p (m+1) 0 _ hp (by omega) (by omega) (by omega) hd (fun k h1 h2=>by rw[show k=m+1 - 1 by omega]) fun p' m' q' e h1 h2 h3 h4 h5=>?_;show KasT.kasWp cmp (if q' > 0 then _ else _) Q s
 by_cases q0:q' > 0
 ·rw[if_pos q0];have hp':=hp.perm e;have sm:=pZ (O:=O) (key:=key) (p:=p') (i:=m' - (q'+1)) (j:=m') (by rw[hp'.size];exact h2) h5;exact zZ A (hp'.perm (fU ..)) (show 1<=m' by omega) h2 (Dn.same h4 sm) fun m2 p2 e2 a b c=>hQ m2 p2 ((e2.trans (fU ..)).trans e) a b c
 ·rw[if_neg q0];exact zZ A (hp.perm e) (show 1<=m' by omega) h2 h4 fun m2 p2 e2 a b c=>hQ m2 p2 (e2.trans e) a b c
theorem Q4 (A:Ans O key n cmp s) {p:Array Nat} {Q:Nat×Array Nat->Shared->Prop} (hp:InR n p)
 (hQ:∀ m' p',p'.Perm p->1<=m'->m'<=n->Up O key p' m'->Q (m',p') s):(kas_count n p).kasWp cmp Q s:=by
 have h1n:=hp.pos;unfold kas_count;rw[KasT.kasWp_bind];refine yC A hp _ 1 _ (Nat.le_refl _) (fun i j h1 h2=>by rw[show i=j by omega];exact KeyOrd.kle_refl _) fun m h1 h2 hu hl=>?_;show KasT.kasWp cmp (if (m == n)=true then _ else _) Q s
 by_cases e:m=n
 ·rw[if_pos (by simpa using e)];exact hQ m p (Array.Perm.refl _) h1 (by omega) hu
 ·rw[if_neg (by simpa using e)];have hl:=hl (by omega)
  by_cases g:m > 1
  ·rw[if_pos g];show cmp _ _ _ s;refine A _ _ _ (hp.at _) (hp.at _) ?_;cases hb:O.blt (key (p.getD 0 0)) (key (p.getD (m - 1) 0))with
   | true =>
    show KasT.kasWp cmp (if true=true then _ else _) Q s;rw[if_pos rfl];exact hQ m p (Array.Perm.refl _) h1 (by omega) hu
   | false =>
    show KasT.kasWp cmp (if false=true then _ else _) Q s;rw[if_neg aB0];have all:∀ k,0<=k->k<m->KP O key p k=KP O key p (m - 1):=fun k _ hk =>
     KeyOrd.kle_antisymm (hu k (m - 1) (by omega) (by omega)) (KeyOrd.kle_trans (show O.kle (KP O key p (m - 1)) (KP O key p 0) from hb) (hu 0 k (by omega) hk))
    have sm:=pZ (O:=O) (key:=key) (p:=p) (i:=0) (j:=m) (by rw[hp.size];omega) all;refine A0 A (hp.perm (fU ..)) (by omega) (Dn.same (Dn.more (fun i j h1 h2=>?_) h1 (KeyOrd.kle_of_klt hl)) sm) fun m2 p2 e2 a b c=>hQ m2 p2 (e2.trans (fU ..)) a b c;rw[all i (by omega) (by omega),all j (by omega) h2];exact KeyOrd.kle_refl _
  ·rw[if_neg g];refine A0 A hp (by omega) (Dn.more (fun i j h1 h2=>?_) h1 (KeyOrd.kle_of_klt hl)) hQ;rw[show i=j by omega];exact KeyOrd.kle_refl _
theorem qA (A:Ans O key n cmp s) {p:Array Nat} (hp:InR n p) {k:Nat}:∀ (f l r:Nat) (Q:Nat->Shared->Prop),Up O key p k->l<=r->r<=k->r - l<=f->(∀ i,i<l->O.kle (KP O key p i) (KP O key p k))->(∀ i,r<=i->i<k->O.kle (KP O key p k) (KP O key p i)) ->
 (∀ l',l'<=k->(∀ i,i<l'->O.kle (KP O key p i) (KP O key p k))->(∀ i,l'<=i->i<k->O.kle (KP O key p k) (KP O key p i))->Q l' s)->(kas_place p k f l r).kasWp cmp Q s
 | 0,l,r,Q,hu,h1,h2,h3,h4,h5,hQ=>hQ l (by omega) h4 fun i a b=>h5 i (by omega) b
 | f+1,l,r,Q,hu,h1,h2,h3,h4,h5,hQ=>by
  unfold kas_place
  by_cases e:l≥r
  ·rw[if_pos e];exact hQ l (by omega) h4 fun i a b=>h5 i (by omega) b
  ·rw[if_neg e];show cmp _ _ _ s;refine A _ _ _ (hp.at _) (hp.at _) ?_;have m1:l<=(l+r) / 2:=by omega
   have m2:(l+r) / 2<r:=by omega
   cases hb:O.blt (key (p.getD k 0)) (key (p.getD ((l+r) / 2) 0))with
   | true =>
    show KasT.kasWp cmp (if true=true then _ else _) Q s;rw[if_pos rfl];refine qA A hp f l ((l+r) / 2) Q hu m1 (by omega) (by omega) h4 (fun i a b=>?_) hQ;exact KeyOrd.kle_trans (KeyOrd.kle_of_klt (show O.klt (KP O key p k) (KP O key p ((l+r) / 2)) from hb)) (hu _ i a b)
   | false =>
    show KasT.kasWp cmp (if false=true then _ else _) Q s;rw[if_neg aB0];refine qA A hp f ((l+r) / 2+1) r Q hu (by omega) h2 (by omega) (fun i a=>?_) h5 hQ;exact KeyOrd.kle_trans (hu i ((l+r) / 2) (by omega) (by omega)) (show O.kle (KP O key p ((l+r) / 2)) (KP O key p k) from hb)
theorem Q5 (A:Ans O key n cmp s):∀ (f:Nat) (p:Array Nat) (k:Nat) (Q:Array Nat->Shared->Prop),InR n p->1<=k->k+f=n->Up O key p k->(∀ p',p'.Perm p->Up O key p' n->Q p' s)->(kas_bin f p k).kasWp cmp Q s
 | 0,p,k,Q,hp,hk,hf,hu,hQ=>hQ p (Array.Perm.refl _) (by rw[<- hf];exact hu)
 | f+1,p,k,Q,hp,hk,hf,hu,hQ=>by
  unfold kas_bin;rw[KasT.kasWp_bind];refine qA A hp k 0 k _ hu (Nat.zero_le _) (Nat.le_refl _) (by omega) (fun i a=>absurd a (Nat.not_lt_zero _)) (fun i a b=>by omega) fun l hl h1 h2=>?_;have bp:(bubble p k (k - l)).Perm p:=bubble_perm _ _ _;refine Q5 A f _ (k+1) Q (hp.perm bp) (by omega) (by omega) (fun i j hij hj=>?_) fun p' e u=>hQ p' (e.trans bp) u;have kb:=fun x=>v0 (O:=O) (key:=key) (p:=p) (k:=k) (d:=k - l) (by rw[hp.size];omega) (by omega) x;rw[kb i,kb j,show k - (k - l)=l by omega]
  by_cases i1:i=l
  ·rw[if_pos i1]
   by_cases j1:j=l
   ·rw[if_pos j1];exact KeyOrd.kle_refl _
   ·rw[if_neg j1,if_pos (by omega)];exact h2 (j - 1) (by omega) (by omega)
  ·rw[if_neg i1]
   by_cases i2:l<i/\i<=k
   ·rw[if_pos i2,if_neg (show ¬ j=l by omega),if_pos (by omega)];exact hu (i - 1) (j - 1) (by omega) (by omega)
   ·rw[if_neg i2]
    by_cases j1:j=l
    ·rw[if_pos j1];exact h1 i (by omega)
    ·rw[if_neg j1]
     by_cases j2:l<j/\j<=k
     ·rw[if_pos j2];exact hu i (j - 1) (by omega) (by omega)
     ·rw[if_neg j2];exact hu i j hij (by omega)
theorem Y9 (A:Ans O key n cmp s) (hn:0<n) {Q:Array Nat->Shared->Prop} (hQ:∀ p,p.Perm (List.range n).toArray->Up O key p n->Q p s):(kas_sort n).kasWp cmp Q s:=by
 unfold kas_sort;rw[KasT.kasWp_bind];have hp:InR n (List.range n).toArray:=⟨hn,by simp,fun x hx=>by simpa using hx⟩;refine Q4 A hp fun m p e h1 h2 hu=>?_;show KasT.kasWp cmp (if m<n then _ else _) Q s
 by_cases q:m<n
 ·rw[if_pos q];have em:max m 1=m:=by omega
  show KasT.kasWp cmp (kas_bin (n - max m 1) p (max m 1)) Q s;rw[em];exact Q5 A _ p m Q (hp.perm e) h1 (by omega) hu fun p' e' u=>hQ p' (e'.trans e) u
 ·rw[if_neg q];have:m=n:=by omega
  subst this;exact hQ p e hu
end
end L2
namespace CW
open PySem L2
def rkP (p q:Int×Int):Prop:=p.2 - p.1<=q.2 - q.1/\p.2 - p.1+1<=q.1 - p.2 - 1
def Rnk (ps:List (Int×Int)):Prop:=∀ (j:Nat) (p q:Int×Int),ps[j]?=some p->ps[j+1]?=some q->rkP p q
theorem sQ (us:List V) (k:Nat):gK us (some (k:Int)) none=us.drop k:=by
 unfold gK;rw[HT.sIx_none,HT.sIx_nat]
 by_cases h:k<=us.length
 ·rw[Nat.min_eq_left h,List.take_of_length_le (by simp)]
 ·rw[Nat.min_eq_right (by omega),Nat.sub_self,List.take_zero,List.drop_eq_nil_of_le (by omega)]
theorem uB (us:List V) (k:Nat):gK us none (some (k:Int))=us.take k:=by
 unfold gK;rw[HT.sIx_none,HT.sIx_nat,List.drop_zero,Nat.sub_zero]
 by_cases h:k<=us.length
 ·rw[Nat.min_eq_left h]
 ·rw[Nat.min_eq_right (by omega),List.take_of_length_le (by omega),List.take_of_length_le (by omega)]
theorem Rnk.nil:Rnk (o3 []):=fun j p q h=>by simp[o3]at h
theorem Rnk.snoc {ps:List (Int×Int)} {q:Int×Int} (h:Rnk ps) (hl:∀ p,ps.getLast?=some p->rkP p q):Rnk (ps++[q]):=by
 intro j a b ha hb;have hj:j+1<(ps++[q]).length:=(aBq.mp hb).1;simp only[aBW,List.length_singleton]at hj
 by_cases hlt:j+1<ps.length
 ·rw[List.getElem?_append_left (by omega)]at ha;rw[List.getElem?_append_left hlt]at hb;exact h j a b ha hb
 ·have e:j+1=ps.length:=by omega
  rw[List.getElem?_append_left (by omega)]at ha;rw[List.getElem?_append_right (by omega),e,Nat.sub_self]at hb;have eb:q=b:=by simpa using hb
  subst eb;refine hl a ?_;rw[List.getLast?_eq_getElem?,show ps.length - 1=j by omega];exact ha
def RowAt (H:Hp) (u:V):Prop:=∃ l row,u=.ref l/\H l=some (.lst (row.map V.int))/\Row row/\row.length<=60
def RowsOk (H:Hp) (lr:Addr) (us:List V):Prop:=H lr=some (.lst us)/\(∃ x r,us=.ref x :: r)/\∀ u∈us,RowAt H u
theorem Z0 {row:List Int} {x:Addr} {r:List V}:HO.lst (row.map V.int)≠HO.lst (.ref x :: r):=by
 intro z;cases row with
 | nil=>cases z
 | cons a b=>cases z
theorem RowAt.set {H:Hp} {lr x:Addr} {r vs:List V} (h:H lr=some (.lst (.ref x :: r))) {u:V} (q:RowAt H u):RowAt (upd H lr (.lst vs)) u:=by
 obtain⟨l,row,e,q,z⟩:=q;exact⟨l,row,e,by rw[aH (fS q h Z0)];exact q,z⟩
theorem RowsOk.snoc {H:Hp} {lr:Addr} {us:List V} {u:V} (h:RowsOk H lr us) (hu:RowAt H u):RowsOk (upd H lr (.lst (us++[u]))) lr (us++[u]):=by
 obtain⟨e,⟨x,r,rfl⟩,q⟩:=h;refine⟨aB,⟨x,r++[u],rfl⟩,fun v hv=>?_⟩;rcases aBs.mp hv with z | z
 ·exact(q v z).set e
 ·rw[aBk.mp z];exact hu.set e
def cnt (l:List Int) (p:Int):Nat:=(l.filter fun x=>decide (x<=p)).length
end CW
namespace L2
open PySem PySem.W PySem.Spec PyProof.Rows
def plt (a b:Int×Int):Bool:=decide (a.1<b.1) || (decide (a.1=b.1) && decide (a.2<b.2))
theorem gM {a b:Int×Int}:plt a b=true↔a.1<b.1\/(a.1=b.1/\a.2<b.2):=by simp[plt]
theorem gN {a b:Int×Int}:plt a b=false↔¬ (a.1<b.1\/(a.1=b.1/\a.2<b.2)):=by rw[<- gM];simp
def kM:KeyOrd where
 α:=Int×Int
 blt:=plt
 irrefl a:=by rw[gN];omega
 trans a b c h1 h2:=by rw[gM]at *;omega
 negTrans a b c h:=by rw[gM]at *;rw[gM];omega
 total a b h1 h2:=by
  rw[gN]at h1 h2;exact Prod.ext (by omega) (by omega)
def PairV (h:Heap) (v:Value) (p:Int×Int):Prop:=∃ t o n k1 k2,v=.ref t/\h.get? t=some o/\o.cls=.type "tuple"/\o.data=.seq #[.int p.1 k1,.int p.2 k2] n
theorem dW {α β:Type} {F:α->β->Prop} {x:α} {y:β}:∀ {l:List α} {m:List β} {i:Nat},Paired F l m->i<l.length->F (l.getD i x) (m.getD i y)
 | _,_,0,.cons r _,_=>r
 | _,_,i+1,.cons _ t,h=>by
  simp only[List.getD_cons_succ];exact dW t (by simpa using h)
 | _,_,_,.nil,h=>absurd h (Nat.not_lt_zero _)
section
variable {prog:Program} {w:World} {A:Around} {E:Value->Shared->Prop} {s:Shared}
theorem Q6 {x y:Value} {p q:Int×Int} {Q:Bool->Shared->Prop} (hx:PairV s.heap x p) (hy:PairV s.heap y q) (h:Q (plt p q) s):wpAny (model prog w) A (keyLt' (tuples' true) x y) Q E s:=by
 obtain⟨t,o,n,k1,k2,rfl,e1,c1,d1⟩:=hx;obtain⟨t',o',n',k1',k2',rfl,e2,c2,d2⟩:=hy;refine kat_lt e1 d1 e2 d2 ?_;refine kat_cons (wpAny_eqBool_int ?_)
 by_cases g1:p.1=q.1
 ·rw[show (p.1 == q.1)=true by simpa using g1];refine kat_yes (kat_cons (wpAny_eqBool_int ?_))
  by_cases g2:p.2=q.2
  ·rw[show (p.2 == q.2)=true by simpa using g2];refine kat_yes (kat_nil ?_);have e:plt p q=false:=by rw[gN];omega
   rw[e]at h;exact h
  ·rw[show (p.2 == q.2)=false by simpa using g2];refine kat_no (kat_one _ _ (lt_int ?_));have e:plt p q=decide (p.2<q.2):=by
    rw[Bool.eq_iff_iff,gM];simp;omega
   rw[e]at h;exact h
 ·rw[show (p.1 == q.1)=false by simpa using g1];refine kat_no (oneLt_int ?_);have e:plt p q=decide (p.1<q.1):=by
   rw[Bool.eq_iff_iff,gM];simp;omega
  rw[e]at h;exact h
theorem sR {h:Heap}:∀ {vs:List Value} {ps:List (Int×Int)},Paired (PairV h) vs ps->∃ fs:List Value,KatTups h vs fs/\fs.length=vs.length/\∀ v∈fs,∃ i t,v=Value.int i t
 | _,_,.nil=>⟨[],.nil,rfl,fun v hv=>(by cases hv)⟩
 | _,_,.cons ⟨t,o,n,k1,k2,e,ho,hc,hd⟩ r=>by
  subst e;obtain⟨fs,a,b,c⟩:=sR r;refine⟨.int _ k1 :: fs,.cons ho hc hd rfl a,by simp[b],fun v hv=>?_⟩;rcases aBr.mp hv with z | z
  ·exact⟨_,_,z⟩
  ·exact c v z
abbrev uC (vs:List Value) (p:Array Nat):List Value:=p.toList.map fun i=>vs.getD i Value.none
theorem E4 {vs:List Value} (hl:vs.length<2):uC vs (List.range vs.length).toArray=vs:=by
 cases vs with
 | nil=>rfl
 | cons v t =>
  cases t with
  | nil=>rfl
  | cons w r=>exact absurd hl (by show ¬ r.length+1+1<2;omega)
theorem yD {a:Addr} {vs:List Value} {ps:List (Int×Int)} {n:Nat} {P:Fin->Shared->Prop} (ho:s.heap.get? a=some (seqObj "list" vs.toArray n)) (hv:Paired (PairV s.heap) vs ps) (h64:vs.length<64)
 (h:∀ p:Array Nat,p.Perm (List.range vs.length).toArray->Up kM (fun i=>ps.getD i (0,0)) p vs.length->P (.done (.ret .none)) { s with heap:=sortedHeap s.heap a vs (uC vs p).toArray }) :
 wpAny (model prog w) A (Builtin.«list.sort» ⟨[.ref a],[]⟩) P E s:=by
 have ha:a<s.heap.objs.size:=aBT ho;have hbig:vs.length<=sizeLine:=Nat.le_trans (Nat.le_of_lt h64) (by decide);rw[list_sort_plain];refine aBL (listItems_at ho rfl (aBL (listUpdate_at ho rfl ?_ (by rw[aBV];omega) (Nat.zero_le _))));obtain⟨e1,ho1⟩:∃ e1,(s.heap.update a (Obj.mapSeq fun _=>(#[]:Array Value))).get? a=some (seqObj "list" #[] e1):=⟨_,get?_update_seq ho _⟩;refine aBL (seqEpoch_at ho1 rfl (aBL (wpAny_newTuple (aBL (wpAny_newList (wpAny_holding ?_) (Nat.zero_le _))) (by show vs.length<=_;exact hbig))));have k6:∀ b o,b≠a->s.heap.get? b=some o->(((s.heap.update a (Obj.mapSeq fun _=>(#[]:Array Value))).push (seqObj "tuple" vs.toArray 0)).push (seqObj "list" #[] 0)).get? b=some o:=fun b o hb q =>
  aBO _ (aBO _ ((Heap.get?_update_ne _ _ _ _ hb).trans q))
 have ho6:(((s.heap.update a (Obj.mapSeq fun _=>(#[]:Array Value))).push (seqObj "tuple" vs.toArray 0)).push (seqObj "list" #[] 0)).get? a=some (seqObj "list" #[] e1):=aBO _ (aBO _ ho1);have hv6:Paired (PairV (((s.heap.update a (Obj.mapSeq fun _=>(#[]:Array Value))).push (seqObj "tuple" vs.toArray 0)).push (seqObj "list" #[] 0))) vs ps:=Paired.mapP hv fun v p ⟨t,o,n,k1,k2,e,q,c,d⟩ =>
  ⟨t,o,n,k1,k2,e,k6 t o (fun z=>by subst z;rw[ho]at q;cases q;exact absurd c (by simp[seqObj])) q,c,d⟩
 show wpAny (model prog w) A _ P E { s with heap:=((s.heap.update a (Obj.mapSeq fun _=>(#[]:Array Value))).push (seqObj "tuple" vs.toArray 0)).push (seqObj "list" #[] 0) };have fin:∀ p:Array Nat,p.Perm (List.range vs.length).toArray->Up kM (fun i=>ps.getD i (0,0)) p vs.length->P (.done (.ret .none)) { s with heap:=sortedHeap s.heap a vs (uC vs p).toArray }:=h;clear h;unfold sortedHeap at fin;generalize ((s.heap.update a (Obj.mapSeq fun _=>(#[]:Array Value))).push (seqObj "tuple" vs.toArray 0)).push (seqObj "list" #[] 0)=h6 at ho6 hv6 fin;dsimp only
 by_cases h2:vs.toArray.size<2
 ·rw[if_pos h2,if_pos h2];refine aBL (aBM ?_);rw[StateT.run_pure];refine aBL (aBM ?_);dsimp only;have eo:uC vs (List.range vs.length).toArray=vs:=E4 (by simpa using h2);have ea:(arrOf (SortSt.mk' general' (vs.toArray.zip vs.toArray) #[] 7 none)).map (·.2)=vs.toArray:=by
   show (vs.toArray.zip vs.toArray).map (·.2)=vs.toArray;apply Array.toList_inj.mp
   simp;exact List.map_snd_zip (Nat.le_refl _)
  rw[ea];refine aBL (seqEpoch_at ho6 rfl (aBL (listUpdate_at ho6 rfl ?_ (Nat.zero_le _) (by rw[aBV];omega))));simp only[bne_self_eq_false,Bool.false_eq_true,if_false];have f:=fin (List.range vs.length).toArray (Array.Perm.refl _) fun i j hij hj=>by
   have:i=j:=by simp at h2;omega
   subst this;exact KeyOrd.kle_refl _
  rw[eo]at f;exact aBM f
 ·rw[if_neg h2,if_neg h2];have hl2:2<=vs.length:=by simp at h2;omega
  obtain⟨fs,t6,lf,hf⟩:=sR hv6;refine aBL (kat_kind (s:={ s with heap:=h6 }) (T:=.type "int") t6 (by omega) (fun v hv=>?_) rfl ?_)
  ·obtain⟨i,t,rfl⟩:=hf v hv;exact Looks.now
  have A2:Ans kM (fun i=>ps.getD i (0,0)) vs.length (kas_ask prog w A (tuples' true) vs) { s with heap:=h6 }:=fun i j C hi hj hC=>by
   unfold kas_ask;exact Q6 (s:={ s with heap:=h6 }) (dW hv6 hi) (dW hv6 hj) hC
  refine aBL (wpAny_mono (kat_run (s:={ s with heap:=h6 }) (κ:=tuples' true) (ks:=vs) (vs:=vs) (Q:=fun st' s'=>s'={ s with heap:=h6 }/\failedOf st'=none/\∃ p:Array Nat,p.Perm (List.range vs.length).toArray/\Up kM (fun i=>ps.getD i (0,0)) p vs.length/\(arrOf st').map (·.2)=(uC vs p).toArray)
   (G:=fun p s'=>s'={ s with heap:=h6 }/\p.Perm (List.range vs.length).toArray/\Up kM (fun i=>ps.getD i (0,0)) p vs.length) rfl hl2 h64 (fun p st' s' g1 g2 g3 ⟨g4,g5,g6⟩=>⟨g4,g3,p,g5,g6,kat_snds rfl g2⟩) (Y9 A2 (by omega) fun p e u=>⟨rfl,e,u⟩)) ?_ fun _ _ e=>e)
  rintro ⟨⟨⟩,st'⟩ s' ⟨rfl,hf',p,e,u,ea⟩;dsimp only;rw[ea,hf'];have hsz:(uC vs p).toArray.size<=sizeLine:=by
   have:=e.size_eq;simp only[aBV,List.length_range]at this;rw[aBV,aBN,Array.length_toList,this];exact hbig
  refine aBL (seqEpoch_at ho6 rfl (aBL (listUpdate_at ho6 rfl ?_ (Nat.zero_le _) (by omega))));simp only[bne_self_eq_false,Bool.false_eq_true,if_false];exact aBM (fin p e u)
theorem Z1 {l:Addr} {vs:List Value} {ps:List (Int×Int)} {Q:Value->Shared->Prop} (hl:s.heap.IsList l vs.toArray) (hv:Paired (PairV s.heap) vs ps) (h64:vs.length<64)
 (h:∀ p:Array Nat,p.Perm (List.range vs.length).toArray->Up kM (fun i=>ps.getD i (0,0)) p vs.length->Q (.ref (s.heap.objs.size+1)) { s with heap:=sortedAll s.heap vs (uC vs p).toArray }) :
 wpAny (model prog w) A (call (.builtin "sorted") [.ref l]) Q E s:=by
 have hbig:vs.length<=sizeLine:=Nat.le_trans (Nat.le_of_lt h64) (by decide);refine Calls.call_function_entry kind_sorted plain_sorted entry_sorted (args_sorted1 _) ?_;unfold Builtin.«sorted»;refine aBL (m:=checkCount "sorted" 1 1 _) (aBM (aBL (collect_list hl (aBL (wpAny_newList ?_ hbig)) hbig)));unfold sortedAll at h;have z1:((s.heap.push (seqObj "list" #[] 0)).update s.heap.objs.size (Obj.mapSeq (·++vs.toArray))).objs.size=s.heap.objs.size+1:=by rw[Heap.size_update,size_push']
 have oL:(((s.heap.push (seqObj "list" #[] 0)).update s.heap.objs.size (Obj.mapSeq (·++vs.toArray))).push (seqObj "list" vs.toArray 0)).get? (s.heap.objs.size+1)=some (seqObj "list" vs.toArray 0):=z1 ▸ aBU _ rfl;have kp:∀ b o,s.heap.get? b=some o->(((s.heap.push (seqObj "list" #[] 0)).update s.heap.objs.size (Obj.mapSeq (·++vs.toArray))).push (seqObj "list" vs.toArray 0)).get? b=some o:=fun b o q =>
  aBO _ ((Heap.get?_update_ne _ _ _ _ (aBb (aBT q))).trans (aBO _ q))
 show wpAny _ _ _ _ _ { s with heap:=((s.heap.push (seqObj "list" #[] 0)).update s.heap.objs.size (Obj.mapSeq (·++vs.toArray))).push (seqObj "list" vs.toArray 0) };rw[z1];generalize ((s.heap.push (seqObj "list" #[] 0)).update s.heap.objs.size (Obj.mapSeq (·++vs.toArray))).push (seqObj "list" vs.toArray 0)=h2 at oL kp h;have hv2:Paired (PairV h2) vs ps:=Paired.mapP hv fun v p ⟨t,o,n,k1,k2,e,q,c,d⟩=>⟨t,o,n,k1,k2,e,kp t o q,c,d⟩;refine aBL (wpAny_holding (wpAny_call_entry slot_list_sort ⟨_,oL,rfl⟩ entry_list_sort (yD (s:={ s with heap:=h2 }) oL hv2 h64 fun p e u=>⟨_,rfl,?_⟩) (args_list_sort _)));exact aBM ⟨_,rfl,h p e u⟩
end
def ple (a b:Int×Int):Prop:=a.1<b.1\/(a.1=b.1/\a.2<=b.2)
theorem rK {α:Type} (d:α) (l:List α) {p:List Nat} (h:p.Perm (List.range l.length)):(p.map fun i=>l.getD i d).Perm l:=by
 have e:(List.range l.length).map (fun i=>l.getD i d)=l:=by
  apply List.ext_getElem
  ·simp
  ·intro i h1 h2;simp[h2]
 have:=h.map fun i=>l.getD i d
 rwa [e]at this
section
variable {X:Cx}
theorem gO:eY X (.builtin "sorted") (fun xs H Q=>∃ (a:Addr) (us:List V) (ps:List (Int×Int)),xs=[.ref a]/\H a=some (.lst us)/\CW.Prs H us ps/\ps.length<64 /\
 ∀ (l:Addr) (us':List V) (qs:List (Int×Int)),H l=none->CW.Prs H us' qs->qs.Perm ps->qs.Pairwise ple->Q (.ref l) (upd H l (.lst us'))):=by
 intro pins s σ H xs us Q I r h;obtain⟨a,us0,ps,rfl,ha,pr,h64,q⟩:=h;obtain⟨u,rfl,rx⟩:=hU r;cases rx;obtain⟨its,rv,pl,hz⟩:=I.list (SqL.of ha);have l1:us0.length=ps.length:=Paired.length pr;have l2:us0.length=its.length:=rv.length;have hv:Paired (PairV s.heap) its ps:=by
  have go:∀ (us0:List V) (its:List Value) (ps:List (Int×Int)),Vals us0 its->CW.Prs H us0 ps->Paired (PairV s.heap) its ps:=by
   intro us0
   induction us0 with
   | nil=>intro its ps r p;cases r;cases p;exact .nil
   | cons x xs ih =>
    intro its ps r p;cases r with
    | cons r1 r2 =>
     cases p with
     | cons p1 p2 =>
      refine .cons ?_ (ih _ _ r2 p2);obtain⟨t,e,et⟩:=p1;subst e;cases r1;obtain⟨_,its',rv',o,ho,hc,n,hd⟩:=(show ObjOk X.prog X.w H s.heap t (.tup [.int _,.int _]) from I.hok t _ et);obtain⟨u1,u2,rfl,⟨k1,rfl⟩,⟨k2,rfl⟩⟩:=rv'.two;exact⟨t,o,n,k1,k2,rfl,ho,hc,hd⟩
  exact go us0 its ps rv pr
 refine Z1 pl.isList hv (by omega) fun p e u=>?_;have pl':p.toList.Perm (List.range its.length):=by
  have:=e.toList;simpa using this
 have pmem:∀ i∈p.toList,i<its.length:=fun i hi=>by
  have:=pl'.mem_iff.mp hi;simpa using this
 have psz:p.toList.length=its.length:=by rw[pl'.length_eq,List.length_range]
 have key:∀ (q:List Nat),(∀ i∈q,i<its.length)->Vals (q.map fun i=>us0.getD i V.non) (q.map fun i=>its.getD i Value.none)/\CW.Prs H (q.map fun i=>us0.getD i V.non) (q.map fun i=>ps.getD i (0,0)):=by
  intro q
  induction q with
  | nil=>intro _;exact⟨.nil,.nil⟩
  | cons i q ih =>
   intro hq;have hi:=hq i aBP;obtain⟨a1,a2⟩:=ih fun j hj=>hq j (aBQ _ hj);exact⟨.cons (dW rv (by omega)) a1,.cons (dW pr (by omega)) a2⟩
 obtain⟨k1,k2⟩:=key p.toList pmem;obtain⟨e0,at0⟩:=sortedAll_at s.heap its (uC its p).toArray;have hn:H (s.heap.objs.size+1)=none:=I.hok.fresh (Nat.le_succ _);refine⟨.ref (s.heap.objs.size+1),_,I.laid (t':=s.toks) (o:=.lst (p.toList.map fun i=>us0.getD i V.non)) (fun b o e=>sortedAll_old e) (Nat.le_succ _) ⟨?_,uC its p,e0,k1,at0⟩,rfl,q _ _ (p.toList.map fun i=>ps.getD i (0,0)) hn k2 ?_ ?_⟩
 ·rw[aBN,psz];exact Nat.le_trans (show its.length<=64 by omega) (by decide)
 ·exact rK (0,0) ps (by rw[<- l1,l2];exact pl')
 ·rw[List.pairwise_iff_getElem];intro i j hi hj hij;simp only[aBN]at hi hj;have z:=u i j (Nat.le_of_lt hij) (by omega);have gd:∀ (k:Nat) (hk:k<p.toList.length),(p.toList.map fun i=>ps.getD i (0,0))[k]'(by simpa using hk)=KP kM (fun i=>ps.getD i (0,0)) p k:=fun k hk=>by
   unfold KP;rw[List.getElem_map]
   congr 1
   rw[Array.getElem_toList,Array.getD,dif_pos (by simpa using hk)];rfl
  rw[gd i hi,gd j hj];have z':plt (KP kM (fun i=>ps.getD i (0,0)) p j) (KP kM (fun i=>ps.getD i (0,0)) p i)=false:=z;generalize KP kM (fun i=>ps.getD i (0,0)) p j=x at z';generalize KP kM (fun i=>ps.getD i (0,0)) p i=y at z';have z2:=gN.mp z';show (y:Int×Int).1<(x:Int×Int).1\/((y:Int×Int).1=(x:Int×Int).1/\(y:Int×Int).2<=(x:Int×Int).2);have z3:¬ ((x:Int×Int).1<(y:Int×Int).1\/((x:Int×Int).1=(y:Int×Int).1/\(x:Int×Int).2<(y:Int×Int).2)):=z2;omega
theorem uD:eY X (.builtin "sorted") (fun xs H Q=>∃ (a:Addr) (ns:List Int),xs=[.ref a]/\H a=some (.lst (ns.map V.int))/\ns.length<64 /\
 ∀ (l:Addr) (ms:List Int),H l=none->ms.Perm ns->ms.Pairwise (·<=·)->Q (.ref l) (upd H l (.lst (ms.map V.int)))):=by
 intro pins s σ H xs us Q I r h;obtain⟨a,ns,rfl,ha,h64,q⟩:=h;obtain⟨u,rfl,rx⟩:=hU r;cases rx;obtain⟨its,rv,pl,hz⟩:=I.list (SqL.of ha);have hl:=rv.length;rw[aBN]at hl;refine sorted_ints pl.isList (hX rv) (by omega) fun out ns' hI hp hs=>?_;obtain⟨e0,at0⟩:=sortedAll_at s.heap its out;have hn:H (s.heap.objs.size+1)=none:=I.hok.fresh (Nat.le_succ _);refine⟨.ref (s.heap.objs.size+1),_,I.laid (t':=s.toks) (o:=.lst (ns'.map V.int)) (fun b o e=>sortedAll_old e) (Nat.le_succ _) ⟨?_,out.toList,e0,iX hI,at0⟩,rfl,q _ ns' hn hp hs⟩;rw[aBN,hp.length_eq];exact Nat.le_trans (show ns.length<=64 by omega) (by decide)
end
end L2
namespace L2
open PySem PySem.Spec PyProof.Rows
section
variable {κ:Type} [DecidableEq κ]
def dJ (kvs:List (κ×V)) (k:κ):Option V:=(kvs.find? fun kv=>decide (kv.1=k)).map (·.2)
def hZ (kvs:List (κ×V)) (k:κ) (v:V):List (κ×V) :=
 if (kvs.any fun kv=>decide (kv.1=k))=true then kvs.map (fun kv=>if kv.1=k then (kv.1,v)else kv)else kvs++[(k,v)]
def oF (kvs:List (κ×V)) (k:κ):List (κ×V):=kvs.filter fun kv=>decide (kv.1≠k)
theorem dF {p:κ×V} {r:List (κ×V)} {k:κ} (e:p.1=k):dJ (p :: r) k=some p.2:=by simp[dJ,List.find?_cons,e]
theorem dG {p:κ×V} {r:List (κ×V)} {k:κ} (e:¬ p.1=k):dJ (p :: r) k=dJ r k:=by simp[dJ,List.find?_cons,e]
theorem kN (k:κ):∀ kvs:List (κ×V),(kvs.any fun kv=>decide (kv.1=k))=(dJ kvs k).isSome
 | []=>rfl
 | p :: r=>by
  rw[List.any_cons]
  by_cases e:p.1=k
  ·simp only[dF e,aBa e,Bool.true_or,Option.isSome_some]
  ·rw[dG e,aB9 e,Bool.false_or];exact kN k r
theorem vW (k j:κ) (y:V):∀ kvs:List (κ×V),dJ (kvs.map fun kv=>if kv.1=k then (kv.1,y)else kv) j=(dJ kvs j).map fun x=>if j=k then y else x
 | []=>rfl
 | p :: r=>by
  have ih:=vW k j y r;rw[aBd]
  by_cases h:p.1=k
  ·rw[if_pos h]
   by_cases e:p.1=j
   ·rw[dF (p:=(p.1,y)) e,dF e,Option.map_some,if_pos (e.symm.trans h)]
   ·rw[dG (p:=(p.1,y)) e,dG e,ih]
  ·rw[if_neg h]
   by_cases e:p.1=j
   ·rw[dF (p:=p) e,dF e,Option.map_some,if_neg (fun z=>h (e.trans z))]
   ·rw[dG (p:=p) e,dG e,ih]
theorem sS (k j:κ) (y:V):∀ kvs:List (κ×V),dJ kvs k=none->dJ (kvs++[(k,y)]) j=if j=k then some y else dJ kvs j
 | [],_=>by
  by_cases e:k=j
  ·rw[if_pos e.symm];exact dF (p:=(k,y)) e
  ·rw[if_neg (fun z=>e z.symm)];exact dG (p:=(k,y)) e
 | p :: r,hn=>by
  rw[List.cons_append];have hk:¬ p.1=k:=fun z=>by rw[dF z]at hn;cases hn
  rw[dG hk]at hn;have ih:=sS k j y r hn
  by_cases e:p.1=j
  ·rw[dF e,dF e,if_neg (fun z=>hk (e.trans z))]
  ·rw[dG e,dG e,ih]
theorem vX (kvs:List (κ×V)) (k j:κ) (y:V):dJ (hZ kvs k y) j=if j=k then some y else dJ kvs j:=by
 unfold hZ
 by_cases a:(kvs.any fun kv=>decide (kv.1=k))=true
 ·rw[if_pos a,vW];rw[kN]at a
  by_cases e:j=k
  ·obtain⟨x,hx⟩:=Option.isSome_iff_exists.mp a;rw[if_pos e,e,hx,Option.map_some,if_pos rfl]
  ·rw[if_neg e];cases dJ kvs j with
   | none=>rfl
   | some x=>rw[Option.map_some,if_neg e]
 ·rw[if_neg a];refine sS k j y kvs ?_;rw[kN]at a;cases q:dJ kvs k with
  | none=>rfl
  | some x=>rw[q]at a;exact(a rfl).elim
theorem iJ (kvs:List (κ×V)) (k:κ) (v:V):(hZ kvs k v).length<=kvs.length+1:=by
 unfold hZ;split
 ·rw[aBN];omega
 ·rw[aBW,aBh,List.length_nil];omega
theorem vY {kvs:List (κ×V)} {k:κ} (v:V) (h:dJ kvs k=none):hZ kvs k v=kvs++[(k,v)]:=by
 unfold hZ;rw[kN,h];exact if_neg (by decide)
theorem RelO.isSome_eq {o:Option V} {u:Option Value} (r:RelO o u):o.isSome=u.isSome:=by
 cases o with
 | none=>cases u with
  | none=>rfl
  | some _=>exact(show False from r).elim
 | some _=>cases u with
  | none=>exact(show False from r).elim
  | some _=>rfl
theorem RelO.getD {o:Option V} {u:Option Value} {d:V} {d':Value} (r:RelO o u) (rd:RelV d d'):RelV (o.getD d) (u.getD d'):=by
 cases o with
 | none=>cases u with
  | none=>exact rd
  | some _=>exact(show False from r).elim
 | some _=>cases u with
  | none=>exact(show False from r).elim
  | some _=>exact r
theorem KV.val {kvs:List (κ×V)} {vs:List (κ×Value)} (r:KV kvs vs) (k:κ):RelO (dJ kvs k) (valueAt vs k):=by
 unfold KV at r
 induction r with
 | nil=>exact True.intro
 | @cons p q ps qs h t ih =>
  obtain⟨h1,h2⟩:=h
  by_cases e:p.1=k
  ·have e':q.1=k:=h1.symm.trans e;have b:valueAt (q :: qs) k=some q.2:=by simp[valueAt,List.find?_cons,e']
   rw[dF e,b];exact h2
  ·have e':¬ q.1=k:=fun z=>e (h1.trans z);have b:valueAt (q :: qs) k=valueAt qs k:=by simp[valueAt,List.find?_cons,e']
   rw[dG e,b];exact ih
theorem KV.any {kvs:List (κ×V)} {vs:List (κ×Value)} (r:KV kvs vs) (k:κ):(kvs.any fun kv=>decide (kv.1=k))=vs.any fun kv=>decide (kv.1=k):=by
 unfold KV at r
 induction r with
 | nil=>rfl
 | cons h t ih=>rw[List.any_cons,List.any_cons,ih,h.1]
theorem KV.repl {kvs:List (κ×V)} {vs:List (κ×Value)} (r:KV kvs vs) (k:κ) {y:V} {u:Value} (ry:RelV y u) :
 KV (kvs.map fun kv=>if kv.1=k then (kv.1,y)else kv) (vs.map fun kv=>if kv.1=k then (kv.1,u)else kv):=by
 unfold KV at r ⊢
 induction r with
 | nil=>exact .nil
 | @cons p q ps qs h t ih =>
  rw[aBd,aBd];refine .cons ?_ ih;obtain⟨h1,h2⟩:=h
  by_cases e:p.1=k
  ·rw[if_pos e,if_pos (h1.symm.trans e)];exact⟨h1,ry⟩
  ·rw[if_neg e,if_neg (fun z=>e (h1.trans z))];exact⟨h1,h2⟩
theorem KV.put {kvs:List (κ×V)} {vs:List (κ×Value)} (r:KV kvs vs) (k:κ) {y:V} {u:Value} (ry:RelV y u):KV (hZ kvs k y) (stored vs k u):=by
 unfold hZ stored;rw[r.any k]
 by_cases e:(vs.any fun kv=>decide (kv.1=k))=true
 ·rw[if_pos e,if_pos e];exact r.repl k ry
 ·rw[if_neg e,if_neg e];exact Paired.snoc r ⟨rfl,ry⟩
theorem KV.drop {kvs:List (κ×V)} {vs:List (κ×Value)} (r:KV kvs vs) (k:κ):KV (oF kvs k) (without vs k):=by
 unfold KV at r ⊢;unfold oF without
 induction r with
 | nil=>exact .nil
 | @cons p q ps qs h t ih =>
  obtain⟨h1,h2⟩:=h;rw[List.filter_cons,List.filter_cons]
  by_cases e:p.1=k
  ·have a:¬ decide (p.1≠k)=true:=by simp[e]
   have b:¬ decide (q.1≠k)=true:=by simp[h1.symm.trans e]
   rw[if_neg a,if_neg b];exact ih
  ·have e':¬ q.1=k:=fun z=>e (h1.trans z);have a:decide (p.1≠k)=true:=by simp[e]
   have b:decide (q.1≠k)=true:=by simp[e']
   rw[if_pos a,if_pos b];exact .cons ⟨h1,h2⟩ ih
theorem KV.length {kvs:List (κ×V)} {vs:List (κ×Value)} (r:KV kvs vs):kvs.length=vs.length:=Paired.length r
theorem Q7 (kvs:List (κ×V)) (k:κ):(oF kvs k).length<=kvs.length:=List.length_filter_le _ _
end
theorem sT {P:Program} {w:World} {k:Key} {u:Value} (r:RelV (kV k) u):(bR P w).is k u=true:=by
 cases k with
 | inl i=>obtain⟨t,e⟩:=(show ∃ t,u=Value.int i t from r);subst e;exact vI P w i t
 | inr x=>obtain⟨t,e⟩:=(show ∃ t,u=Value.str x t from r);subst e;exact vJ P w x t
theorem sU {P:Program} {w:World}:∀ {ks:List Key} {us:List Value},Vals (ks.map kV) us->ItemsAre (bR P w) ks us
 | [],_,r=>by rw[List.map_nil]at r;cases r;exact .nil
 | k :: ks,_,r=>by
  rw[aBd]at r;cases r with
  | cons h t=>exact .cons (sT h) (sU t)
abbrev KT (H:Hp):List (List Key×V)->List (List Key×Addr×Value)->Prop:=Paired fun p q=>p.1=q.1/\H q.2.1=some (.tup (p.1.map kV))/\RelV p.2 q.2.2
theorem KT.val {H:Hp} {kvs:List (List Key×V)} {xs:List (List Key×Addr×Value)} (r:KT H kvs xs) (k:List Key):RelO (dJ kvs k) ((atKey xs k).map (·.2)):=by
 induction r with
 | nil=>exact True.intro
 | @cons p q ps qs h t ih =>
  obtain⟨h1,_,h2⟩:=h
  by_cases e:p.1=k
  ·have e':q.1=k:=h1.symm.trans e;have b:atKey (q :: qs) k=some q.2:=by simp[atKey,List.find?_cons,e']
   rw[dF e,b];exact h2
  ·have e':¬ q.1=k:=fun z=>e (h1.trans z);have b:atKey (q :: qs) k=atKey qs k:=by simp[atKey,List.find?_cons,e']
   rw[dG e,b];exact ih
theorem KT.repl {H:Hp} {kvs:List (List Key×V)} {xs:List (List Key×Addr×Value)} (r:KT H kvs xs) (k:List Key) {y:V} {u:Value} (ry:RelV y u) :
 KT H (kvs.map fun kv=>if kv.1=k then (kv.1,y)else kv) (xs.map (putAt k u)):=by
 induction r with
 | nil=>exact .nil
 | @cons p q ps qs h t ih =>
  rw[aBd,aBd];refine .cons ?_ ih;obtain⟨h1,h2,h3⟩:=h;unfold putAt
  by_cases e:p.1=k
  ·rw[if_pos e,if_pos (h1.symm.trans e)];exact⟨h1,h2,ry⟩
  ·rw[if_neg e,if_neg (fun z=>e (h1.trans z))];exact⟨h1,h2,h3⟩
theorem KT.put {H:Hp} {kvs:List (List Key×V)} {xs:List (List Key×Addr×Value)} (r:KT H kvs xs) (k:List Key) {b:Addr} {y:V} {u:Value} (hb:H b=some (.tup (k.map kV))) (ry:RelV y u) :
 KT H (hZ kvs k y) (storedH xs k b u):=by
 have e:(kvs.any fun kv=>decide (kv.1=k))=(atKey xs k).isSome:=by
  rw[kN,(r.val k).isSome_eq,Option.isSome_map]
 unfold hZ storedH;rw[e]
 by_cases q:(atKey xs k).isSome=true
 ·rw[if_pos q,if_pos q];exact r.repl k ry
 ·rw[if_neg q,if_neg q];exact Paired.snoc r ⟨rfl,hb,ry⟩
theorem KT.keeps {H H':Hp} {kvs:List (List Key×V)} {xs:List (List Key×Addr×Value)} (r:KT H kvs xs) (ht:∀ b ys,H b=some (.tup ys)->H' b=some (.tup ys)):KT H' kvs xs :=
 Paired.mapP r fun _ _ z=>⟨z.1,ht _ _ z.2.1,z.2.2⟩
section
variable {P:Program} {w:World} {H:Hp} {h:Heap} {a:Addr}
theorem o4 {u:HO} (ok:HOk P w H h) (e:Rd H a u):ObjOk P w H h a u:=e.ok ok
theorem sV {kvs:List (Key×V)} (ok:HOk P w H h) (e:Rd H a (.dK kvs)):kvs.length<=sizeLine/\(a == sysModules)=false/\∃ vs,KV kvs vs/\h.DictOf (bR P w) a vs :=
 show ObjOk P w H h a (.dK kvs) from o4 ok e
theorem oG {kvs:List (Key×V)} (ok:HOk P w H h) (e:H a=some (.dK kvs)):kvs.length<=sizeLine/\(a == sysModules)=false/\∃ vs,KV kvs vs/\h.DictOf (bR P w) a vs:=sV ok (.inl e)
theorem uE {ks:List Key} (ok:HOk P w H h) (e:H a=some (.tup (ks.map kV))):(tupleKind (bR P w)).is h ks a:=by
 obtain⟨_,its,r,o,h1,h2,n,h3⟩:=(show ObjOk P w H h a (.tup (ks.map kV)) from ok a _ e);exact⟨o,its.toArray,n,h1,h2,h3,by simpa using sU r⟩
theorem vZ {kvs:List (List Key×V)} (ok:HOk P w H h) (e:Rd H a (.dT kvs)):kvs.length<=sizeLine/\(a == sysModules)=false /\
 ∃ xs,KT H kvs xs/\h.DictOfH (tupleKind (bR P w)) a xs:=by
 obtain⟨z,y,xs,r,o,es,ep,h1,h2,h3,h4,h5⟩:=(show ObjOk P w H h a (.dT kvs) from o4 ok e);refine⟨z,y,xs,r,o,es,ep,h1,h2,h3,h4,fun x hx=>?_,h5⟩;have all:∀ {l:List (List Key×V)} {m:List (List Key×Addr×Value)},KT H l m->∀ x∈m,(tupleKind (bR P w)).is h x.1 x.2.1:=by
  intro l m q
  induction q with
  | nil=>intro x hx;exact nomatch hx
  | @cons p q ps qs hq t ih =>
   intro x hx;rcases aBr.mp hx with e | hx
   ·subst e;exact uE ok (by rw[<- hq.1];exact hq.2.1)
   ·exact ih x hx
 exact all r x hx
theorem aA0 {kvs:List (List Key×V)} (ok:HOk P w H h) (e:H a=some (.dT kvs)):kvs.length<=sizeLine/\(a == sysModules)=false /\
 ∃ xs,KT H kvs xs/\h.DictOfH (tupleKind (bR P w)) a xs:=vZ ok (.inl e)
end
def DGet (H:Hp) (a:Addr) (y:V) (r:Option V):Prop :=
 (∃ kvs k,Rd H a (.dK kvs)/\y=kV k/\r=dJ kvs k)\/∃ kvs k b,Rd H a (.dT kvs)/\y=.ref b/\H b=some (.tup (k.map kV))/\r=dJ kvs k
def DPut (H:Hp) (a:Addr) (y v:V) (H':Hp):Prop :=
 (∃ kvs k,H a=some (.dK kvs)/\y=kV k/\kvs.length<sizeLine/\H'=upd H a (.dK (hZ kvs k v))) \/
 ∃ kvs k b,H a=some (.dT kvs)/\y=.ref b/\H b=some (.tup (k.map kV))/\kvs.length<sizeLine/\H'=upd H a (.dT (hZ kvs k v))
theorem DGet.k {H:Hp} {a:Addr} {kvs:List (Key×V)} {k:Key} (e:H a=some (.dK kvs)):DGet H a (kV k) (dJ kvs k):=.inl ⟨kvs,k,.inl e,rfl,rfl⟩
theorem DPut.k {H:Hp} {a:Addr} {kvs:List (Key×V)} {k:Key} {v:V} (e:H a=some (.dK kvs)) (hl:kvs.length<sizeLine):DPut H a (kV k) v (upd H a (.dK (hZ kvs k v))):=.inl ⟨kvs,k,e,rfl,hl,rfl⟩
section
variable {X:Cx} {pins:List (Addr×Obj)} {σ:St} {H:Hp} {s:Shared} {a:Addr} {y v:V} {u r:Value} {o:Option V} {A:Around} {E:Value->Shared->Prop}
theorem Inv.big (I:Inv X pins σ H s):sysModules<s.heap.objs.size:=by
 have h:mainGlobals<s.heap.objs.size:=(I.mod.glob.keeps I.bk).lt;exact Nat.lt_trans (by decide) h
theorem E5 {Q:Value->Shared->Prop} (hu:A.units+1<cLine) (I:Inv X pins σ H s) (g:DGet H a y (some v)) (ry:RelV y u) (h:∀ w' s',Inv X pins σ H s'->RelV v w'->Q w' s') :
 wpAny (model X.prog X.w) A (getItem (.ref a) u) Q E s:=by
 rcases g with ⟨kvs,k,e,ey,l⟩ | ⟨kvs,k,b,e,ey,eb,l⟩
 ·subst ey;obtain⟨z,hd,vs,rel,dd⟩:=sV I.hok e;obtain⟨w',hw,rw'⟩:=RelO.some_of (v:=v) (o:=valueAt vs k) (by rw[l];exact rel.val k);exact wpAny_getItem_of (sT ry) dd.mapOf hw (h w' _ (I.tok _) rw')
 ·subst ey;cases (show u=Value.ref b from ry);obtain⟨z,hd,xs,rel,dd⟩:=vZ I.hok e;obtain⟨w',hw,rw'⟩:=RelO.some_of (v:=v) (o:=(atKey xs k).map (·.2)) (by rw[l];exact rel.val k);obtain⟨p,hp,hp2⟩:=aBp.mp hw;refine wpAny_getItem_heap (tupleKind_room_in1 hu) (uE I.hok eb) dd hp ?_;rw[hp2];exact h w' _ (I.tok _) rw'
theorem pF {h':Heap} {t':Nat} {ob:HO} (I:Inv X pins σ H s) (mu:Mut (H a)) (hs:Heap.SameBut a s.heap h') (he:∃ q,h'.get? a=some q) (new:ObjOk X.prog X.w (upd H a ob) h' a ob) :
 Inv X pins σ (upd H a ob) { s with heap:=h',toks:=t' } :=
 I.write (x:=a) (e:=a) mu (.inl rfl) (fun b q hb z=>(hs.2 b hb).trans z) he new
theorem yE {P:Program} {w:World} {H':Hp} {h':Heap} {kvs:List (Key×V)} {vs:List (Key×Value)} (z:kvs.length<=sizeLine) (hd:(a == sysModules)=false) (rel:KV kvs vs) (dd:h'.DictOf (bR P w) a vs) :
 ObjOk P w H' h' a (.dK kvs):=⟨z,hd,vs,rel,dd⟩
theorem E6 {H':Hp} {Q:Unit->Shared->Prop} (hu:A.units+1<cLine) (I:Inv X pins σ H s) (g:DPut H a y v H') (ry:RelV y u) (rv:RelV v r) (h:∀ s',Inv X pins σ H' s'->Q () s') :
 wpAny (model X.prog X.w) A (setItem (.ref a) u r) Q E s:=by
 rcases g with ⟨kvs,k,e,ey,l,eH⟩ | ⟨kvs,k,b,e,ey,eb,l,eH⟩
 ·subst ey eH;obtain⟨z,hd,vs,rel,dd⟩:=oG I.hok e;have hz:vs.length<=sizeLine:=by rw[<- rel.length];exact z
  have hl:(hZ kvs k v).length<=sizeLine:=by have:=iJ kvs k v;omega
  refine wpAny_setItem_pairs (hsz:=hz) (sT ry) dd fun h' dd' hs=>h _ ?_;have he:∃ q,h'.get? a=some q:=let ⟨q,_,_,hq,_⟩:=dd';⟨q,hq⟩;exact pF I (by rw[e];exact True.intro) hs he (yE hl hd (rel.put k rv) dd')
 ·subst ey eH;cases (show u=Value.ref b from ry);obtain⟨z,hd,xs,rel,dd⟩:=aA0 I.hok e;have hz:xs.length<=sizeLine:=by rw[<- Paired.length rel];exact z
  have hl:(hZ kvs k v).length<=sizeLine:=by have:=iJ kvs k v;omega
  refine wpAny_setItem_heap (hsz:=hz) (tupleKind_room_in1 hu) (uE I.hok eb) dd fun h' dd' hs=>h _ ?_;obtain⟨q,es,ep,hq,h2,h3,h4,_,h5⟩:=dd';refine pF I (by rw[e];exact True.intro) hs ⟨q,hq⟩ ⟨hl,hd,_,(rel.put k eb rv).keeps fun c ys ec=>?_,q,es,ep,hq,h2,h3,h4,h5⟩;rw[aH (fS ec e (fun z=>nomatch z))];exact ec
end
section
variable {X:Cx} {pins:List (Addr×Obj)} {σ:St} {H:Hp} {s:Shared} {a:Addr} {kvs:List (Key×V)} {k:Key} {u:Value} {A:Around} {E:Value->Shared->Prop}
theorem E7 {Q:Unit->Shared->Prop} (I:Inv X pins σ H s) (e:H a=some (.dK kvs)) (ry:RelV (kV k) u) (l:(dJ kvs k).isSome=true) (h:∀ s',Inv X pins σ (upd H a (.dK (oF kvs k))) s'->Q () s') :
 wpAny (model X.prog X.w) A (delItem (.ref a) u) Q E s:=by
 obtain⟨z,hd,vs,rel,dd⟩:=oG I.hok e;refine wpAny_delItem_slot dd.typeIs (by decide) PySem.F.slot_dict_delitem
  (call_meetsIn PySem.F.slot_dict_delitem dd.typeIs PySem.F.entry_dict_delitem (PySem.F.args_dict_delitem_2 _ _) (meets_dict_delitem_pairs (bR X.prog X.w) a (sT ry)) ⟨vs,dd,by rw[<- rel.length];exact z,by rw[<- (rel.val k).isSome_eq];exact l,fun h' dd' hs=>h _ ?_⟩)
 have he:∃ q,h'.get? a=some q:=let ⟨q,_,_,hq,_⟩:=dd';⟨q,hq⟩;exact pF I (by rw[e];exact True.intro) hs he (yE (Nat.le_trans (Q7 kvs k) z) hd (rel.drop k) dd')
theorem Z2 {Q:Bool->Shared->Prop} (I:Inv X pins σ H s) (e:Rd H a (.dK kvs)) (h:∀ s',Inv X pins σ H s'->Q (!kvs.isEmpty) s'):wpAny (model X.prog X.w) A (truthy (.ref a)) Q E s:=by
 obtain⟨z,hd,vs,rel,dd⟩:=sV I.hok e;refine wpAny_truthy_dict hd dd (by rw[<- rel.length];rw[sizeLine_eq]at z;omega) ?_;have q:kvs.isEmpty=vs.isEmpty:=by cases rel <;> rfl
 rw[<- q];exact h _ (I.tok _)
end
def aA1 (i:Expr):Prop:=∀ ov iv,subscripted i false ov iv=operate [ov,iv] (getItem ov iv)
theorem Z3 {prog:Program} {w:World} {A:Around} {E:Value->Shared->Prop} {s:Shared} {env:Env} {value slice:Expr} {pos:Pos} {T id:String} {Q:Value->Shared->Prop}
 (hl:typeLookup (.type T) "__getitem__"=pure (some (.builtin id))) (hs:aA1 slice)
 (h:wpAny (model prog w) A (eval value env) (fun o s₁=>wpAny (model prog w) A (eval slice env) (fun i s₂=>s₂.TypeIs o T/\wpAny (model prog w) A (getItem o i) Q E s₂) E s₁) E s) :
 wpAny (model prog w) A (eval (.Subscript value slice pos) env) Q E s:=by
 refine Subscript_ (wpAny_mono h (fun o s₁ h₁=>wpAny_mono h₁ (fun i s₂ h₂=>?_) fun _ _ x=>x) fun _ _ x=>x);obtain⟨hT,h₂⟩:=h₂;unfold subscriptTail;refine aBL ?_;rw[getitemInPython_of_ne hT.not_modules];refine aBL (wpAny_specialOf hT hl ?_);have fin:wpAny (model prog w) A (subscripted slice false o i) (fun r s₃=>wpAny (model prog w) A (letTemporaryGo value o r >>= fun _=>pure r) Q E s₃) E s₂:=by
  rw[hs o i];exact wpAny_operating (wpAny_mono h₂ (fun r s₃ h₃=>aBL (wpAny_letTemporaryGo (aBM h₃))) fun _ _ x=>x)
 first
  | exact aBM (aBL fin)
  | exact aBL (aBM (aBL fin))
  | exact aBL fin
theorem wA {X:Cx} {pins:List (Addr×Obj)} {σ:St} {H:Hp} {s:Shared} {a:Addr} {y:V} {o:Option V} (I:Inv X pins σ H s) (g:DGet H a y o):s.TypeIs (.ref a) "dict":=by
 rcases g with ⟨kvs,k,e,_,_⟩ | ⟨kvs,k,b,e,_,_,_⟩
 ·obtain⟨_,_,vs,_,dd⟩:=sV I.hok e;exact dd.typeIs
 ·obtain⟨_,_,xs,_,dd⟩:=vZ I.hok e;exact dd.typeIs
def aA2 (td ty:TE):TE:=fun σ H Q=>td σ H fun x H1=>ty σ H1 fun y H2=>∃ a v,x=.ref a/\DGet H2 a y (some v)/\Q v H2
def aA3 (td ty tv:TE):TS:=fun D σ H=>tv σ H fun v H1=>td σ H1 fun x H2=>ty σ H2 fun y H3=>∃ a H4,x=.ref a/\DPut H3 a y v H4/\D.nx σ H4
def aA4 (td ty:TE):TS:=fun D σ H=>td σ H fun x H1=>ty σ H1 fun y H2=>∃ a kvs k,x=.ref a/\H2 a=some (.dK kvs)/\y=kV k/\(dJ kvs k).isSome=true/\D.nx σ (upd H2 a (.dK (oF kvs k)))
section
variable {X:Cx} {o i e value:Expr} {pos pos' tpos:Pos} {td ty tv:TE}
theorem gP (hu:X.A.units+1<cLine) (ho:PE X o td) (hi:PE X i ty) (hs:aA1 i):PE X (.Subscript o i pos) (aA2 td ty):=by
 intro pins s σ H Q I h;refine Z3 PySem.F.slot_dict_getitem.lookup hs (thn (ho pins s σ H _ I h) fun u s1 ⟨x,H1,I1,rx,q1⟩=>thn (hi pins s1 σ H1 _ I1 q1) fun iv s2 ⟨y,H2,I2,ry,a,v,ex,g,q2⟩=>?_);subst ex;obtain rfl:u=Value.ref a:=rx;exact⟨wA I2 g,E5 hu I2 g ry fun w' s3 I3 rw'=>⟨v,H2,I3,rw',q2⟩⟩
theorem A1 (hu:X.A.units+1<cLine) (ho:PE X o td) (hi:PE X i ty) (hv:PE X value tv) (hs:swapsWith value (some (.Subscript o i pos')) pos.line X.env=pure false) :
 PS X (.Assign [.Subscript o i pos'] value pos) (aA3 td ty tv):=by
 intro pins s σ H D I h;refine wpAny_Assign_Subscript (thn (hv pins s σ H _ I h) fun r s1 ⟨v,H1,I1,rv,q1⟩=>thn (ho pins s1 σ H1 _ I1 q1) fun u s2 ⟨x,H2,I2,rx,q2⟩=>thn (hi pins s2 σ H2 _ I2 q2) fun iv s3 ⟨y,H3,I3,ry,a,H4,ex,g,q3⟩=>?_) hs;subst ex;obtain rfl:u=Value.ref a:=rx;exact E6 hu I3 g ry rv fun s4 I4=>⟨σ,H4,I4,q3⟩
theorem Z4 (ho:PE X o td) (hi:PE X i ty):PS X (.Delete [.Subscript o i tpos] pos) (aA4 td ty):=by
 intro pins s σ H D I h;refine wpAny_Delete (wpAny_deleteEach_cons (wpAny_delete_Subscript (thn (ho pins s σ H _ I h) fun u s1 ⟨x,H1,I1,rx,q1⟩=>thn (hi pins s1 σ H1 _ I1 q1) fun iv s2 ⟨y,H2,I2,ry,a,kvs,k,ex,e,ey,l,q2⟩=>?_)));subst ex ey;obtain rfl:u=Value.ref a:=rx;exact E7 I2 e ry l fun s3 I3=>wpAny_deleteEach_nil ⟨σ,_,I3,q2⟩
end
theorem Q8 {P:Program} {w:World} {H:Hp} (h:Heap) (hb:sysModules<h.objs.size):ObjOk P w H (h.push { cls:=.type "dict",data:=.dict #[] }) h.objs.size (.dK []) :=
 ⟨Nat.zero_le _,beq_eq_false_iff_ne.mpr (Ne.symm (aBb hb)),[],.nil,Heap.DictOf.new h⟩
def v8:TE:=fun _ H Q=>∀ p,H p=none->Q (.ref p) (upd H p (.dK []))
section
variable {X:Cx} {pos:Pos}
theorem mO:PE X (.Dict [] [] pos) v8:=fun pins s σ H Q I h =>
 wpAny_Dict_empty ⟨.ref s.heap.objs.size,_,I.laid (a:=s.heap.objs.size) (o:=.dK []) (t':=s.toks) (fun _ _ q=>aBO _ q) (Nat.le_refl _) (Q8 s.heap I.big),rfl,h _ (I.hok.fresh (Nat.le_refl _))⟩
end
structure M1 (X:Cx) (o:Expr) (m:Str) (apos:Pos) (e:Expr) (cpos:Pos):Prop where
 base:attributeBase o m X.env (eval o X.env)=eval o X.env
 few:((backTo cpos (starEach [e] X.env)).all (fun x=>!x.1) && (backToKw cpos (keywordEach [] X.env)).all (fun x=>x.1.isSome)
  && decide (([e]:List Expr).length+([]:List Keyword).length+(if ([]:List Keyword).isEmpty then 0 else 1)<30))=true
 line:(apos.endLine == cpos.line)=true
 trees:backTo cpos (starEach [e] X.env)=[(false,eval e X.env)]
structure M2 (X:Cx) (o:Expr) (m:Str) (apos:Pos) (e f:Expr) (cpos:Pos):Prop where
 base:attributeBase o m X.env (eval o X.env)=eval o X.env
 few:((backTo cpos (starEach [e,f] X.env)).all (fun x=>!x.1) && (backToKw cpos (keywordEach [] X.env)).all (fun x=>x.1.isSome)
  && decide (([e,f]:List Expr).length+([]:List Keyword).length+(if ([]:List Keyword).isEmpty then 0 else 1)<30))=true
 line:(apos.endLine == cpos.line)=true
 trees:backTo cpos (starEach [e,f] X.env)=[(false,eval e X.env),(false,eval f X.env)]
def IsD (H:Hp) (a:Addr):Prop:=(∃ kvs,Rd H a (.dK kvs))\/∃ kvs,Rd H a (.dT kvs)
theorem uF {X:Cx} {pins:List (Addr×Obj)} {σ:St} {H:Hp} {s:Shared} {a:Addr} (I:Inv X pins σ H s) (d:IsD H a) :
 s.TypeIs (.ref a) "dict"/\(∀ b,Value.ref a=.ref b->∃ ob,s.heap.get? b=some ob/\ob.dict=none)/\(a == sysModules)=false:=by
 rcases d with ⟨kvs,e⟩ | ⟨kvs,e⟩
 ·obtain⟨_,hd,vs,_,dd⟩:=sV I.hok e;refine⟨dd.typeIs,fun b q=>?_,hd⟩;cases q;obtain⟨ob,_,_,h1,h2,_⟩:=dd;exact⟨ob,h1,h2.2.1⟩
 ·obtain⟨_,hd,xs,_,dd⟩:=vZ I.hok e;refine⟨dd.typeIs,fun b q=>?_,hd⟩;cases q;obtain⟨ob,_,_,h1,h2,_⟩:=dd;exact⟨ob,h1,h2.2.1⟩
section
variable {X:Cx} {pins:List (Addr×Obj)} {σ:St} {H:Hp} {s:Shared} {a:Addr} {y d:V} {u r:Value} {o:Option V} {A:Around} {E:Value->Shared->Prop}
theorem v9 {Q:Value->Shared->Prop} (hu:A.units+1<cLine) (I:Inv X pins σ H s) (g:DGet H a y o) (ry:RelV y u) (rd:RelV d r) (h:∀ w' s',Inv X pins σ H s'->RelV (o.getD d) w'->Q w' s') :
 wpAny (model X.prog X.w) A (call (.builtin "dict.get") [.ref a,u,r]) Q E s:=by
 rcases g with ⟨kvs,k,e,ey,l⟩ | ⟨kvs,k,b,e,ey,eb,l⟩
 ·subst ey;obtain⟨z,hd,vs,rel,dd⟩:=sV I.hok e;refine call_meetsIn PySem.F.slot_dict_get dd.typeIs PySem.F.entry_dict_get (PySem.F.args_dict_get_3 _ _ _) (meets_dict_get_default (bR X.prog X.w) a (sT ry) hd r) ⟨_,dd.mapOf,h _ _ (I.tok _) ?_⟩;rw[l];exact(rel.val k).getD rd
 ·subst ey;cases (show u=Value.ref b from ry);obtain⟨z,hd,xs,rel,dd⟩:=vZ I.hok e;refine call_meetsIn PySem.F.slot_dict_get dd.typeIs PySem.F.entry_dict_get (PySem.F.args_dict_get_3 _ _ _) (meetsH_dict_get_default (tupleKind (bR X.prog X.w)) a b hd r) ⟨tupleKind_room_in1 hu,k,xs,uE I.hok eb,dd,h _ _ (I.tok _) ?_⟩;rw[l];exact(rel.val k).getD rd
end
def w6 (td ty tx:TE):TE:=fun σ H Q=>td σ H fun x H1=>∃ a,x=.ref a/\IsD H1 a/\ty σ H1 fun y H2=>tx σ H2 fun z H3=>∃ o,DGet H3 a y o/\Q (o.getD z) H3
section
variable {X:Cx} {o e f:Expr} {apos cpos:Pos} {td ty tx:TE}
theorem qB (hu:X.A.units+1<cLine) (ho:PE X o td) (he:PE X e ty) (hf:PE X f tx) (m:M2 X o "get" apos e f cpos):PE X (.Call (.Attribute o "get" apos) [e,f] [] cpos) (w6 td ty tx):=by
 intro pins s σ H Q I h;refine wpAny_Call_method m.base m.few m.line PySem.F.plainAttrs_dict PySem.F.slot_dict_get PySem.F.type_dict_get (thn (ho pins s σ H _ I h) fun u s1 ⟨x,H1,I1,rx,a,ex,d,q1⟩=>?_);subst ex;obtain rfl:u=Value.ref a:=rx;obtain⟨t1,t2,_⟩:=uF I1 d;refine⟨t1,t2,?_⟩;rw[m.trees];refine Calls.callWith_builtin rfl (Calls.evalArgs_plain (Calls.spliced_cons (thn (he pins s1 σ H1 _ I1 q1) fun iv s2 ⟨y,H2,I2,ry,q2⟩ =>
  Calls.spliced_cons (thn (hf pins s2 σ H2 _ I2 q2) fun fv s3 ⟨z,H3,I3,rz,ov,g,q3⟩=>Calls.spliced_nil ?_))))
 exact v9 hu I3 g ry rz fun w' s4 I4 rw'=>⟨_,H3,I4,rw',q3⟩
end
section
variable {X:Cx} {pins:List (Addr×Obj)} {σ:St} {H:Hp} {s:Shared} {a:Addr} {kvs:List (Key×V)} {A:Around} {E:Value->Shared->Prop}
end
section
variable {X:Cx} {pins:List (Addr×Obj)} {σ:St} {H:Hp} {s:Shared} {a:Addr} {y:V} {u:Value} {A:Around} {E:Value->Shared->Prop}
end
section
variable {X:Cx} {pins:List (Addr×Obj)} {σ:St} {H:Hp} {s:Shared} {d:Addr} {kvs:List (Key×V)}
theorem Inv.freezeD (I:Inv X pins σ H s) (e:H d=some (.dK kvs)):∃ od,s.heap.get? d=some od/\Inv X pins σ (upd H d (.frz od (.dK kvs))) s:=by
 obtain⟨z,hd,vs,rel,dd⟩:=oG I.hok e;obtain⟨ep,hat⟩:=dd.dictAt;obtain⟨od,es,ho,_⟩:=id hat;refine⟨od,ho,?_⟩;have ne:∀ b u,H b=some u->(∀ ks,u≠.dK ks)->b≠d:=fun b u q n z=>by rw[z,e]at q;cases q;exact n _ rfl
 have nb:∀ b,H b=none->b≠d:=fun b q z=>by rw[z,e]at q;cases q
 have up:∀ b u,H b=some u->(∀ ks,u≠.dK ks)->upd H d (.frz od (.dK kvs)) b=some u:=fun b u q n=>by rw[aH (ne b u q n)];exact q
 have un:Un X.fs [] H (upd H d (.frz od (.dK kvs))) s.heap s.heap:=⟨fun _ _ q _ _ _=>q,fun _ o q _ _ _=>⟨o.slots,q⟩,fun b _ _ n _=>by rw[aH (nb b n)];exact n,fun _ o q _=>⟨o,q⟩,
  fun b xs q=>up b _ q (fun _ z=>by cases z),fun b o u q=>up b _ q (fun _ z=>by cases z),fun b ps q=>⟨#[],by rw[up b _ q (fun _ z=>by cases z)];simp⟩⟩
 exact I.un (t':=s.toks) un fun b u q=>by
  by_cases hb:b=d
  ·subst hb;rw[aB]at q;cases q;exact⟨ho,z,hd,vs,rel,dd⟩
  ·rw[aH hb]at q;exact(I.hok b u q).stay (fun _ _ _ z=>z) (fun c z=>up c _ z fun _ z=>by cases z) fun c xs z=>up c _ z fun _ z=>by cases z
end
def Itd (d:Addr) (od:Obj) (kvs:List (Key×V)):It :=
 ⟨fun i H=>H d=some (.frz od (.dK kvs))/\i<kvs.length,fun i H v H'=>∃ t k x,v=.ref t/\H t=none/\kvs[i]?=some (k,x)/\H'=upd H t (.tup [kV k,x]),fun i H=>H d=some (.frz od (.dK kvs))/\kvs.length<=i⟩
theorem A3 {kvs:List (Key×V)} {vs:List (Key×Value)} (r:KV kvs vs) {i:Nat} {k:Key} {x:V} (e:kvs[i]?=some (k,x)):∃ u,vs[i]?=some (k,u)/\RelV x u:=by
 induction r generalizing i with
 | nil=>simp at e
 | cons h _ ih =>
  cases i with
  | zero =>
   rename_i p q _ _ _
   obtain⟨p1,p2⟩:=p;obtain⟨q1,q2⟩:=q;simp only[List.getElem?_cons_zero,Option.some.injEq,Prod.mk.injEq]at e;obtain⟨rfl,rfl⟩:=e;obtain⟨h1,h2⟩:=h;simp only at h1 h2;subst h1;exact⟨_,rfl,h2⟩
  | succ i=>exact ih e
theorem w8 {P:Program} {w:World} {k:Key} {u:Value} (h:(bR P w).is k u=true):RelV (kV k) u:=by
 rw[lU]at h;rcases cF h with ⟨i,t,rfl,rfl⟩ | ⟨x,t,rfl,rfl⟩
 ·exact⟨_,rfl⟩
 ·exact⟨_,rfl⟩
theorem yF {P:Program} {w:World} {K:PySem.W.Frag} {elts:List Expr} {x1} {pos:Pos} (d it:Addr) (od:Obj) (kvs:List (Key×V)) (vs:List (Key×Value)) (ep:Nat) (rel:KV kvs vs) (hat:∀ h:Heap,h.get? d=some od->h.DictAt (bR P w) d vs ep) (hne:d≠it) :
 tR P w K (.Tuple elts x1 pos) (Itd d od kvs) [it] it (fun i h=>∃ ok ov,IsItemIter h it d i vs.length ep ok ov) where
 mem:=by simp
 obj:=fun i h st b hb=>by
  obtain⟨ok,ov,he⟩:=st;have z:b=it:=by simpa using hb
  subst z;exact⟨_,he,fun v z=>by have z':Data.fields _=Data.cell v:=z;cases z'⟩
 keep:=fun i h h' st k=>let ⟨ok,ov,he⟩:=st;⟨ok,ov,k it (by simp) _ he⟩
 item:=by
  intro X hP hw hK hc i pins s σ H E I hf st hg;subst hP hw hK;obtain⟨hd,hi⟩:=hg;obtain⟨⟨k,x⟩,hx⟩:∃ p,kvs[i]?=some p:=⟨kvs[i],by simp[hi]⟩;obtain⟨u,hu,ru⟩:=A3 rel hx;obtain⟨ok,ov,he⟩:=st;have hod:s.heap.get? d=some od:=(I.hok d _ hd).1;have li:it<s.heap.objs.size:=aBT he;refine wpAny_pyNext_items_item he (hat _ hod) hu fun key h' hkey ho hT hsz kp=>?_;refine⟨_,rfl,?_⟩;have hn:H s.heap.objs.size=none:=I.hok.fresh (Nat.le_refl _);have tupOk:∀ h2:Heap,h2.get? s.heap.objs.size=some { cls:=.type "tuple",data:=.seq #[key,u] }->ObjOk X.prog X.w (upd H s.heap.objs.size (.tup [kV k,x])) h2 s.heap.objs.size (.tup [kV k,x]):=fun h2 q =>
   ⟨by show 2<=sizeLine;decide,[key,u],.cons (w8 hkey) (.cons ru .nil),_,q,rfl,_,rfl⟩
  refine wpAny_letOwnedTupleGo_items ho fun h2 f1 sb=>?_;have k2:∀ b o,b∉[it]->s.heap.get? b=some o->h2.get? b=some o:=fun b o hb q=>sb.extBut b o (fun z=>hb (by simp[z])) (kp b o (fun z=>hb (by simp[z])) q);have n1:s.heap.objs.size≠it:=aBe li;refine⟨.ref s.heap.objs.size,_,I.turnLaid (t':=s.toks) (h':=h2) (o:=.tup [kV k,x]) k2 hf (Nat.le_refl _) (tupOk _ (sb.extBut _ _ n1 hT)),rfl,⟨_,k,x,rfl,hn,hx,rfl⟩,⟨_,_,f1⟩,fun b hb=>?_⟩;have hb':b≠s.heap.objs.size:=by
   have z:b=it:=by simpa using hb
   subst z;exact aBb li
  rw[aH hb'];exact(hf b hb).1
 done:=by
  intro X hP hw hK hc i pins s σ H E I hf st hg;subst hP hw hK;obtain⟨hd,hi⟩:=hg;obtain⟨ok,ov,he⟩:=st;have hod:s.heap.get? d=some od:=(I.hok d _ hd).1;have hl:=rel.length;exact wpAny_pyNext_items_end (I.ok.hd hc) he (hat _ hod) (by simp;omega) fun h' eb=>⟨rfl,I.turnedF (fp:=[it]) (t':=s.toks) (fun b o hb e=>eb b o (fun z=>hb (by simp[z])) e) hf⟩
 self:=fun _ _ _ _ _ st h=>let ⟨_,_,he⟩:=st;PySem.W.kcp_self he h
def x3 (td:TE):TI:=fun σ H R=>td σ H fun x H1=>∃ d kvs,x=.ref d/\H1 d=some (.dK kvs)/\∀ od,R (Itd d od kvs) (upd H1 d (.frz od (.dK kvs)))
theorem mP {X:Cx} {elts:List Expr} {x1} {tpos:Pos} {o:Expr} {td:TE} {apos pos:Pos} (ho:PE X o td) (hbase:attributeBase o "items" X.env (eval o X.env)=eval o X.env:=by rfl) (hline:(apos.endLine == pos.line)=true:=by rfl) :
 PI X (.Tuple elts x1 tpos) (.Call (.Attribute o "items" apos) [] [] pos) (x3 td):=by
 intro pins s σ H R I h;refine wpAny_Call_method0_late hbase hline (thn (ho pins s σ H _ I h) fun u s1 ⟨x,H1,I1,rx,d,kvs,ex,hd,q⟩=>?_);subst ex;obtain rfl:u=Value.ref d:=rx;obtain⟨z,hsys,vs,rel,dd⟩:=oG I1.hok hd;obtain⟨ep,hat⟩:=id dd.dictAt;obtain⟨od,hod,I2⟩:=I1.freezeD hd;obtain⟨t1,t2,_⟩:=uF I1 (.inl ⟨kvs,.inl hd⟩);refine⟨"dict","dict.items",PySem.F.plainAttrs_dict,PySem.F.slot_dict_items,PySem.F.type_dict_items,t1,t2,Calls.callWith_builtin rfl (PySem.evalArgs_none ?_)⟩;refine call_meetsIn PySem.F.slot_dict_items dd.typeIs PySem.F.entry_dict_items (PySem.F.args_dict_items_1 _) (meets_dict_items (bR X.prog X.w) d hsys) ⟨⟨vs,dd⟩,?_⟩;have hv:(s1.heap.push { cls:=.type "dict_items",data:=.fields #[.ref d] }).IsItemsView s1.heap.objs.size d:=⟨_,aBU _ rfl,rfl,rfl⟩;have h1:(s1.heap.push { cls:=.type "dict_items",data:=.fields #[.ref d] }).get? d=some od:=aBO _ hod;have hat':∀ h:Heap,h.get? d=some od->h.DictAt (bR X.prog X.w) d vs ep:=fun h e=>hat.at fun o q=>by rw[hod]at q;cases q;exact e
 refine wpAny_pyIter_items hv (hat' _ h1) ?_;generalize hob:({ cls:=.type "dict_itemiterator",data:=.fields #[.none,.bool false,.ref d,.int 0 0,.int vs.length 0,.int ep 0,.none,.none] }:Obj)=ob;have kp:∀ b o,s1.heap.get? b=some o->((s1.heap.push { cls:=.type "dict_items",data:=.fields #[.ref d] }).push ob).get? b=some o:=fun b o e=>aBO _ (aBO _ e);have hsz:(s1.heap.push { cls:=.type "dict_items",data:=.fields #[.ref d] }).objs.size=s1.heap.objs.size+1:=Heap.size_push ..;have I3:=I2.kept (t':=s1.toks) kp;have hge:s1.heap.objs.size<=(s1.heap.push { cls:=.type "dict_items",data:=.fields #[.ref d] }).objs.size:=by rw[hsz];exact Nat.le_succ _
 have hne:d≠(s1.heap.push { cls:=.type "dict_items",data:=.fields #[.ref d] }).objs.size:=fun z=>by
  have:=aBT hod;rw[z]at this;exact absurd this (Nat.not_lt.mpr hge)
 refine⟨_,[_],_,_,_,rfl,I3,yF d _ od kvs vs ep rel hat' hne,⟨.none,.none,?_⟩,fun b hb=>?_,q od⟩
 ·rw[<- hob];exact aBU _ rfl
 ·have z:b=(s1.heap.push { cls:=.type "dict_items",data:=.fields #[.ref d] }).objs.size:=by simpa using hb
  rw[z];exact I2.fpOk hge (I2.hok.fresh hge)
theorem lY {d:Addr} {od:Obj} {kvs:List (Key×V)} {σ0:St} {g:TG} {tt:TT} {te:TE} {H:Hp} {Q:VK} (Pv:Nat->List V->Hp->Prop) (h0:Pv 0 [] H) (hl:∀ i ys H,i<=kvs.length->Pv i ys H->H d=some (.frz od (.dK kvs))/\ys.length<sizeLine)
 (hs:∀ i k x ys H t,kvs[i]?=some (k,x)->Pv i ys H->H t=none->g (.ref t) σ0 (upd H t (.tup [kV k,x])) fun σ2 H2=>tt σ2 H2 fun b H3=>if b=true then te σ2 H3 fun y H4=>Pv (i+1) (ys++[y]) H4 else Pv (i+1) ys H3) (hd:∀ ys H,Pv kvs.length ys H->∀ D,H D=none->Q (.ref D) (upd H D (.lst ys))) :
 sL (Itd d od kvs) σ0 g tt te Q H:=by
 refine⟨fun i m ys H=>m=kvs.length - i/\i<=kvs.length/\Pv i ys H,⟨kvs.length,by simp,Nat.zero_le _,h0⟩,?_⟩;rintro i m ys H ⟨rfl,hi,p⟩;obtain⟨q,hz⟩:=hl i ys H hi p;refine⟨hz,?_⟩
 by_cases hlt:i<kvs.length
 ·refine .inr ⟨⟨q,hlt⟩,Pv (i+1),fun ys' H' p'=>⟨kvs.length - (i+1),by omega,rfl,hlt,p'⟩,fun x H' y=>?_⟩;obtain⟨t,k,v,rfl,hn,hx,rfl⟩:=y;exact hs i k v ys _ t hx p hn
 ·have e:i=kvs.length:=by omega
  subst e;exact .inl ⟨⟨q,Nat.le_refl _⟩,hd ys H p⟩
def aA5 (td ty tx:TE):TE:=fun σ H Q=>td σ H fun x H1=>∃ a,x=.ref a/\IsD H1 a/\ty σ H1 fun y H2=>tx σ H2 fun z H3=>∃ kvs k,H3 a=some (.dK kvs)/\y=kV k/\kvs.length<sizeLine /\
 (∀ v,dJ kvs k=some v->Q v H3)/\(dJ kvs k=none->Q z (upd H3 a (.dK (hZ kvs k z))))
section
variable {X:Cx} {o e f:Expr} {apos cpos:Pos} {td ty tx:TE}
theorem A4 (ho:PE X o td) (he:PE X e ty) (hf:PE X f tx) (m:M2 X o "setdefault" apos e f cpos):PE X (.Call (.Attribute o "setdefault" apos) [e,f] [] cpos) (aA5 td ty tx):=by
 intro pins s σ H Q I h;refine wpAny_Call_method m.base m.few m.line PySem.F.plainAttrs_dict PySem.F.slot_dict_setdefault PySem.F.type_dict_setdefault (thn (ho pins s σ H _ I h) fun u s1 ⟨x,H1,I1,rx,a,ex,d,q1⟩=>?_);subst ex;obtain rfl:u=Value.ref a:=rx;obtain⟨t1,t2,_⟩:=uF I1 d;refine⟨t1,t2,?_⟩;rw[m.trees];refine Calls.callWith_builtin rfl (Calls.evalArgs_plain (Calls.spliced_cons (thn (he pins s1 σ H1 _ I1 q1) fun iv s2 ⟨y,H2,I2,ry,q2⟩ =>
  Calls.spliced_cons (thn (hf pins s2 σ H2 _ I2 q2) fun fv s3 ⟨z,H3,I3,rz,kvs,k,ea,ey,hl,q3,q4⟩=>Calls.spliced_nil ?_))))
 subst ey;obtain⟨hz,hsys,vs,rel,dd⟩:=oG I3.hok ea;refine call_meetsIn PySem.F.slot_dict_setdefault dd.typeIs PySem.F.entry_dict_setdefault (PySem.F.args_dict_setdefault_3 _ _ _) (kt_meets_setdefault (bR X.prog X.w) a (sT ry) hsys fv) ⟨vs,dd,by rw[<- rel.length];exact hz,fun v hv=>?_,fun hn h' hd' hs=>?_⟩
 ·have r:=rel.val k;rw[hv]at r;cases hq:dJ kvs k with
  | none=>rw[hq]at r;exact r.elim
  | some v'=>rw[hq]at r;exact⟨v',H3,I3.tok _,r,q3 v' hq⟩
 ·have r:=rel.val k;rw[hn]at r;have hq:dJ kvs k=none:=by
   cases hq:dJ kvs k with
   | none=>rfl
   | some v'=>rw[hq]at r;exact r.elim
  refine⟨z,_,pF (t':=_) I3 (by rw[ea];exact True.intro) hs ?_ (yE ?_ hsys (rel.put k rz) hd'),rz,q4 hq⟩
  ·obtain⟨_,hat⟩:=hd'.dictAt;obtain⟨o,es,ho,_⟩:=id hat;exact⟨o,ho⟩
  ·have:=iJ kvs k z;omega
end
end L2
namespace CW
open PySem L2
theorem cK {α β:Type} {f:α->β}:∀ {l:List α},(l.map f).Nodup->∀ {x y:α},x∈l->y∈l->f x=f y->x=y
 | [],_,_,_,hx,_,_=>by cases hx
 | z :: r,h,x,y,hx,hy,e=>by
  rw[aBd,List.nodup_cons]at h;rcases aBr.mp hx with ex | hx'
  ·rcases aBr.mp hy with ey | hy'
   ·rw[ex,ey]
   ·exact absurd (aBt.mpr ⟨y,hy',by rw[<- e,ex]⟩) h.1
  ·rcases aBr.mp hy with ey | hy'
   ·exact absurd (aBt.mpr ⟨x,hx',by rw[e,ey]⟩) h.1
   ·exact cK h.2 hx' hy' e
abbrev Grp:=Int×Addr×List Int
def kvG (gs:List Grp):List (Key×V):=gs.map fun g=>((Sum.inl g.1:Key),V.ref g.2.1)
structure DG (H:Hp) (d:Addr) (gs:List Grp):Prop where
 at_:H d=some (.dK (kvG gs))
 lst:∀ g∈gs,H g.2.1=some (.lst (g.2.2.map V.int))
 adr:(gs.map (·.2.1)).Nodup
 key:(gs.map (·.1)).Nodup
def SameD (d:Addr) (H H':Hp):Prop:=∀ b o,b≠d->H b=some o->H' b=some o
theorem SameD.trans {d:Addr} {H H1 H2:Hp} (a:SameD d H H1) (b:SameD d H1 H2):SameD d H H2:=fun c o n h=>b c o n (a c o n h)
def wgt (f:Int->Int) (gs:List Grp):Int:=(gs.map fun g=>f g.1 * (g.2.2.length:Int)).sum
def tot (f:Int->Int) (ps:List (Int×Int)):Int:=(ps.map fun p=>f p.1).sum
theorem dX (k:Int):∀ gs:List Grp,dJ (kvG gs) (Sum.inl k:Key)=(gs.find? fun g=>decide (g.1=k)).map fun g=>V.ref g.2.1
 | []=>rfl
 | g :: r=>by
  by_cases h:g.1=k
  ·have:dJ (kvG (g :: r)) (Sum.inl k:Key)=some (V.ref g.2.1):=dF (p:=((Sum.inl g.1:Key),V.ref g.2.1)) (by rw[h]);rw[this,List.find?_cons,aBa h];rfl
  ·have:dJ (kvG (g :: r)) (Sum.inl k:Key)=dJ (kvG r) (Sum.inl k:Key):=dG (p:=((Sum.inl g.1:Key),V.ref g.2.1)) (fun z=>h (Sum.inl.inj z));rw[this,List.find?_cons,aB9 h];exact dX k r
def fG (k o:Int) (gs:List Grp):List Grp:=gs.map fun g=>if g.1=k then (g.1,g.2.1,g.2.2++[o])else g
theorem wB (k o:Int) (gs:List Grp):kvG (fG k o gs)=kvG gs:=by
 unfold kvG fG;rw[aBi];refine List.map_congr_left fun g _=>?_;simp only[Function.comp];split <;> rfl
theorem wC (k o:Int) (gs:List Grp):(fG k o gs).map (·.2.1)=gs.map (·.2.1):=by
 unfold fG;rw[aBi];refine List.map_congr_left fun g _=>?_;simp only[Function.comp];split <;> rfl
theorem wD (k o:Int) (gs:List Grp):(fG k o gs).map (·.1)=gs.map (·.1):=by
 unfold fG;rw[aBi];refine List.map_congr_left fun g _=>?_;simp only[Function.comp];split <;> rfl
theorem Q9 (k o:Int) (gs:List Grp):(fG k o gs).length=gs.length:=by simp[fG]
theorem nU {k o:Int}:∀ {gs:List Grp},(∀ g∈gs,g.1≠k)->fG k o gs=gs
 | [],_=>rfl
 | g :: r,h=>by
  have h1:=h g aBP;unfold fG;rw[aBd,if_neg h1]
  congr 1
  exact nU fun x hx=>h x (aBQ _ hx)
theorem wE (f:Int->Int) {k o:Int}:∀ {gs:List Grp},(gs.map (·.1)).Nodup->(∃ g∈gs,g.1=k)->wgt f (fG k o gs)=wgt f gs+f k
 | [],_,⟨g,h,_⟩=>by cases h
 | g :: r,hn,hex=>by
  have hn':=List.nodup_cons.mp hn
  by_cases h:g.1=k
  ·have hr:fG k o r=r:=nU fun x hx e=>hn'.1 (aBt.mpr ⟨x,hx,e.trans h.symm⟩);have:fG k o (g :: r)=(g.1,g.2.1,g.2.2++[o]) :: r:=by
    show (if g.1=k then (g.1,g.2.1,g.2.2++[o])else g) :: fG k o r=_;rw[if_pos h,hr]
   rw[this];simp only[wgt,aBd,aBg,aBW,List.length_singleton];rw[<- h];have:f g.1 * ((g.2.2.length+1:Nat):Int)=f g.1 * (g.2.2.length:Int)+f g.1:=by
    rw[show ((g.2.2.length+1:Nat):Int)=(g.2.2.length:Int)+1 by omega,Int.mul_add,Int.mul_one]
   rw[this];omega
  ·have hex':∃ g∈r,g.1=k:=by
    obtain⟨x,hx,e⟩:=hex;rcases aBr.mp hx with rfl | hx
    ·exact absurd e h
    ·exact⟨x,hx,e⟩
   have ih:=wE f (o:=o) hn'.2 hex';have:fG k o (g :: r)=g :: fG k o r:=by
    show (if g.1=k then (g.1,g.2.1,g.2.2++[o])else g) :: fG k o r=_;rw[if_neg h]
   rw[this];simp only[wgt,aBd,aBg]at ih ⊢;omega
def gQ (j k:Int):Int:=if k<j then k else j
section
variable {P:Program} {w:World} {K:PySem.W.Frag} {mg:Str->Option Value} {base:Heap}
end
end CW
namespace L2
open PySem PySem.Spec PyProof.Rows
theorem Inv.thaw {X:Cx} {pins:List (Addr×Obj)} {σ:St} {H:Hp} {s:Shared} {d:Addr} {od:Obj} {kvs:List (Key×V)} (I:Inv X pins σ H s) (e:H d=some (.frz od (.dK kvs))) (h0:∀ o u,X.H₀ d≠some (.frz o u)):Inv X pins σ (upd H d (.dK kvs)) s:=by
 obtain⟨ho,hok⟩:=I.hok d _ e;have ne:∀ b u,H b=some u->(∀ o v,u≠.frz o v)->b≠d:=fun b u q n z=>by rw[z,e]at q;cases q;exact n _ _ rfl
 have nb:∀ b,H b=none->b≠d:=fun b q z=>by rw[z,e]at q;cases q
 have up:∀ b u,H b=some u->(∀ o v,u≠.frz o v)->upd H d (.dK kvs) b=some u:=fun b u q n=>by rw[aH (ne b u q n)];exact q
 refine⟨I.ok,I.os,I.bare,⟨I.base.keep,I.base.slot,fun b o q n x=>?_,I.base.there,fun b xs q=>up b _ (I.base.tups b xs q) (fun _ _ z=>by cases z),fun b o u q=>?_,fun b ps q=>?_⟩,I.loc,I.cell,?_,fun x c q=>?_,fun p q=>?_,fun b u q=>?_,I.len⟩
 ·rw[aH (nb b (I.base.free b o q n x))];exact I.base.free b o q n x
 ·have hb:b≠d:=fun z=>by rw[z]at q;exact h0 _ _ q
  rw[aH hb];exact I.base.frzs b o u q
 ·obtain⟨more,e'⟩:=I.base.tbls b ps q;exact⟨more,up b _ e' (fun _ _ z=>by cases z)⟩
 ·rw[aH (nb _ I.free)];exact I.free
 ·rw[aH (nb _ (I.freeC x c q))];exact I.freeC x c q
 ·obtain⟨e',n,ne',nf,dd⟩:=I.pin p q;exact⟨e',by rw[aH (nb _ n)];exact n,ne',nf,dd⟩
 ·by_cases hb:b=d
  ·subst hb;rw[aB]at q;cases q;exact hok
  ·rw[aH hb]at q;exact(I.hok b u q).stay (fun _ _ _ z=>z) (fun c z=>up c _ z fun _ _ z=>by cases z) fun c xs z=>up c _ z fun _ _ z=>by cases z
def aA6 (t:TE):TE:=fun σ H Q=>∃ d kvs,H d=some (.dK kvs)/\t σ H fun v H'=>∃ od,H' d=some (.frz od (.dK kvs))/\Q v (upd H' d (.dK kvs))
theorem uG {X:Cx} {e:Expr} {t:TE} (h:PE X e t):PE X e (aA6 t):=by
 intro pins s σ H Q I q;obtain⟨d,kvs,hd,q⟩:=q;have h0:∀ o u,X.H₀ d≠some (.frz o u):=fun o u z=>by
  have:=I.base.frzs d o u z;rw[hd]at this;cases this
 exact thn (h pins s σ H _ I q) fun u s1 ⟨v,H1,I1,rv,od,hf,q1⟩=>⟨v,_,I1.thaw hf h0,rv,q1⟩
open PySem.W
theorem uH {P:Program} {w:World} {ks:List Int} {vs:List Value} (hl:vs.length=ks.length) (h:∀ (j:Nat) (v:Value),vs[j]?=some v->∃ k,ks[j]?=some k/\(bR P w).is (Sum.inl k) v=true):IntsAre vs ks:=by
 induction vs generalizing ks with
 | nil=>cases ks with
  | nil=>exact .nil
  | cons _ _=>cases hl
 | cons v r ih=>cases ks with
  | nil=>cases hl
  | cons k ks =>
   obtain⟨k',h1,h2⟩:=h 0 v rfl;cases h1;rw[lU]at h2;rcases cF h2 with ⟨i,t,e1,e2⟩ | ⟨x,t,e1,e2⟩
   ·cases e1;subst e2;exact .cons _ _ (ih (by simpa using hl) fun j v e=>h (j+1) v e)
   ·cases e1
def jX (kvs:List (Key×V)) (ks:List Int):Prop:=kvs.map Prod.fst=ks.map Sum.inl
section
variable {X:Cx}
theorem gR (hc:X.calm=true):eY X (.builtin "sorted") (fun xs H Q=>∃ (a:Addr) (kvs:List (Key×V)) (ks:List Int),xs=[.ref a]/\H a=some (.dK kvs)/\jX kvs ks/\ks.length<64 /\
 ∀ (l:Addr) (ms:List Int),H l=none->ms.Perm ks->ms.Pairwise (·<=·)->Q (.ref l) (upd H l (.lst (ms.map V.int)))):=by
 intro pins s σ H xs us Q I r h;obtain⟨a,kvs,ks,rfl,ha,hk,h64,q⟩:=h;obtain⟨u,rfl,rx⟩:=hU r;cases rx;obtain⟨z,hsys,vs,rel,dd⟩:=oG I.hok ha;obtain⟨ep,hat⟩:=id dd.dictAt;have hlen:vs.length=ks.length:=by
  have e1:=rel.length;have e2:=congrArg List.length hk;simp at e2;omega
 have hbig:vs.length<=sizeLine:=Nat.le_trans (show vs.length<=64 by omega) (by decide);refine Calls.call_function_entry kind_sorted plain_sorted entry_sorted (args_sorted1 _) ?_;unfold Builtin.«sorted»;refine aBL (m:=checkCount "sorted" 1 1 _) (aBM ?_);refine aBL (kdu_collect (A:=X.A.in1) (kdl_dict (knd:=bR X.prog X.w) (kvs:=vs) (ep:=ep) hsys) (I.ok.hd hc) hat hbig fun h' tk acc hk' hacc=>?_);have hl:acc.toList.length=vs.length:=by rw[Array.length_toList];exact hacc.1
 have hI:IntsAre acc.toList ks:=uH (P:=X.prog) (w:=X.w) (by omega) fun j v e=>by
  obtain⟨k,x,h1,h2⟩:=hacc.2 j v (by rw[<- Array.getElem?_toList];exact e);have hj:j<vs.length:=(aBq.mp h1).1;have h3:(kvs.map Prod.fst)[j]?=some k:=by
   have hj':j<kvs.length:=by rw[rel.length];exact hj
   obtain⟨u,e1,e2⟩:=A3 rel (i:=j) (k:=(kvs[j]).1) (x:=(kvs[j]).2) (aBX hj');rw[h1]at e1;cases e1;simp[hj']
  rw[hk,aBc]at h3;obtain⟨n,h4,h5⟩:=aBp.mp h3;subst h5;exact⟨n,h4,h2⟩
 refine aBL (wpAny_newList ?_ (by omega));have e0:(h'.push (seqObj "list" acc.toList.toArray 0)).get? h'.objs.size=some (seqObj "list" acc.toList.toArray 0):=aBU _ rfl;have kp:∀ b o,h'.get? b=some o->(h'.push (seqObj "list" acc.toList.toArray 0)).get? b=some o:=fun b o e=>aBO _ e;have I':=I.kept (t':=tk) hk';have hlt2:h'.objs.size<(h'.push (seqObj "list" acc.toList.toArray 0)).objs.size:=by rw[size_push'];exact Nat.lt_succ_self _
 have hsz2:(h'.push (seqObj "list" acc.toList.toArray 0)).objs.size=h'.objs.size+1:=size_push' ..;show wpAny _ _ _ _ _ { s with heap:=h'.push (seqObj "list" acc.toList.toArray 0),toks:=tk };generalize h'.push (seqObj "list" acc.toList.toArray 0)=h2 at e0 kp hlt2 hsz2;refine aBL (wpAny_holding (wpAny_call_entry slot_list_sort ⟨_,e0,rfl⟩ entry_list_sort (list_sort_tree (s:={ s with heap:=h2,toks:=tk }) e0 hI (by omega) fun out ns' hI' hp hs=>⟨_,rfl,?_⟩) (args_list_sort _)));obtain⟨n0,at0⟩:=sortedHeap_at (out:=out) e0;have hn:H h'.objs.size=none:=I'.hok.fresh (Nat.le_refl _);refine aBM ⟨_,rfl,.ref h'.objs.size,_,I'.laid (t':=tk) (o:=.lst (ns'.map V.int)) (fun b o e=>?_) (Nat.le_refl _) ⟨?_,out.toList,n0,iX hI',at0⟩,rfl,q _ ns' hn hp hs⟩
 ·have hb:=aBT e;have hb':b<h'.objs.size:=hb;exact(sortedHeap_old (aBb hb') (by show b<h2.objs.size;rw[hsz2];exact Nat.lt_succ_of_lt hb')).trans (kp b o e)
 ·rw[aBN,hp.length_eq];exact Nat.le_trans (show ks.length<=64 by omega) (by decide)
end
end L2
namespace L2
open PySem PySem.Spec PyProof.Rows
def Itw (d:Addr) (od:Obj) (kvs:List (Key×V)):It :=
 ⟨fun i H=>H d=some (.frz od (.dK kvs))/\i<kvs.length,fun i H v H'=>H'=H/\∃ k,kvs[i]?=some (k,v),fun i H=>H d=some (.frz od (.dK kvs))/\kvs.length<=i⟩
theorem wF {P:Program} {w:World} {K:PySem.W.Frag} {tg:Expr} (d it:Addr) (od:Obj) (kvs:List (Key×V)) (vs:List (Key×Value)) (ep:Nat) (rel:KV kvs vs) (hat:∀ h:Heap,h.get? d=some od->h.DictAt (bR P w) d vs ep) (hne:d≠it) :
 tR P w K tg (Itw d od kvs) [it] it (fun i h=>h.IsValIter it d i vs.length ep) where
 mem:=by simp
 obj:=fun i h st b hb=>by
  obtain⟨o,he,hc,hd⟩:=st;have z:b=it:=by simpa using hb
  subst z;exact⟨o,he,fun v z=>by rw[hd]at z;cases z⟩
 keep:=fun i h h' st k=>let ⟨o,he,r⟩:=st;⟨o,k it (by simp) _ he,r⟩
 item:=by
  intro X hP hw hK hc i pins s σ H E I hf st hg;subst hP hw hK;obtain⟨hd,hi⟩:=hg;obtain⟨⟨k,x⟩,hx⟩:∃ p,kvs[i]?=some p:=⟨kvs[i],by simp[hi]⟩;obtain⟨u,hu,ru⟩:=A3 rel hx;have hod:s.heap.get? d=some od:=(I.hok d _ hd).1;refine wpAny_pyNext_values_item st (hat _ hod) hu fun h' st' sb=>?_;obtain⟨o,e,c,dd⟩:=id st';exact⟨u,rfl,O0 (s:={ s with heap:=h' }) e c dd (by decide) ⟨x,H,I.turnedF (fp:=[it]) (t':=s.toks) (fun b o hb e=>sb.extBut b o (fun z=>hb (by simp[z])) e) hf,ru,⟨rfl,k,hx⟩,st',fun b hb=>(hf b hb).1⟩⟩
 done:=by
  intro X hP hw hK hc i pins s σ H E I hf st hg;subst hP hw hK;obtain⟨hd,hi⟩:=hg;have hod:s.heap.get? d=some od:=(I.hok d _ hd).1;have hl:=rel.length;exact wpAny_pyNext_values_end (I.ok.hd hc) st (hat _ hod) (by simp;omega) fun h' eb=>⟨rfl,I.turnedF (fp:=[it]) (t':=s.toks) (fun b o hb e=>eb b o (fun z=>hb (by simp[z])) e) hf⟩
 self:=fun _ _ _ _ _ st h=>wpAny_pyIter_valiter st h
def Z5 (td:TE):TI:=fun σ H R=>td σ H fun x H1=>∃ d kvs,x=.ref d/\H1 d=some (.dK kvs)/\∀ od,R (Itw d od kvs) (upd H1 d (.frz od (.dK kvs)))
theorem E8 {X:Cx} {tg:Expr} {o:Expr} {td:TE} {apos pos:Pos} (ho:PE X o td) (hbase:attributeBase o "values" X.env (eval o X.env)=eval o X.env:=by rfl) (hline:(apos.endLine == pos.line)=true:=by rfl) :
 PI X tg (.Call (.Attribute o "values" apos) [] [] pos) (Z5 td):=by
 intro pins s σ H R I h;refine wpAny_Call_method0_late hbase hline (thn (ho pins s σ H _ I h) fun u s1 ⟨x,H1,I1,rx,d,kvs,ex,hd,q⟩=>?_);subst ex;obtain rfl:u=Value.ref d:=rx;obtain⟨z,hsys,vs,rel,dd⟩:=oG I1.hok hd;obtain⟨ep,hat⟩:=id dd.dictAt;obtain⟨od,hod,I2⟩:=I1.freezeD hd;obtain⟨t1,t2,_⟩:=uF I1 (.inl ⟨kvs,.inl hd⟩);refine⟨"dict","dict.values",PySem.F.plainAttrs_dict,PySem.F.slot_dict_values,PySem.F.type_dict_values,t1,t2,Calls.callWith_builtin rfl (PySem.evalArgs_none ?_)⟩;refine call_meetsIn PySem.F.slot_dict_values dd.typeIs PySem.F.entry_dict_values (PySem.F.args_dict_values_1 _) (meets_dict_values (bR X.prog X.w) d hsys) ⟨⟨vs,dd⟩,?_⟩;have hv:(s1.heap.push { cls:=.type "dict_values",data:=.fields #[.ref d] }).IsValuesView s1.heap.objs.size d:=⟨_,aBU _ rfl,rfl,rfl⟩;have h1:(s1.heap.push { cls:=.type "dict_values",data:=.fields #[.ref d] }).get? d=some od:=aBO _ hod;have hat':∀ h:Heap,h.get? d=some od->h.DictAt (bR X.prog X.w) d vs ep:=fun h e=>hat.at fun o q=>by rw[hod]at q;cases q;exact e
 refine wpAny_pyIter_values hv (hat' _ h1) ?_;generalize hob:({ cls:=.type "dict_valueiterator",data:=.fields #[.ref d,.int 0 0,.int vs.length 0,.int ep 0] }:Obj)=ob;have kp:∀ b o,s1.heap.get? b=some o->((s1.heap.push { cls:=.type "dict_values",data:=.fields #[.ref d] }).push ob).get? b=some o:=fun b o e=>aBO _ (aBO _ e);have hsz:(s1.heap.push { cls:=.type "dict_values",data:=.fields #[.ref d] }).objs.size=s1.heap.objs.size+1:=Heap.size_push ..;have I3:=I2.kept (t':=s1.toks) kp;have hge:s1.heap.objs.size<=(s1.heap.push { cls:=.type "dict_values",data:=.fields #[.ref d] }).objs.size:=by rw[hsz];exact Nat.le_succ _
 have hne:d≠(s1.heap.push { cls:=.type "dict_values",data:=.fields #[.ref d] }).objs.size:=fun z=>by
  have:=aBT hod;rw[z]at this;exact absurd this (Nat.not_lt.mpr hge)
 refine⟨_,[_],_,_,_,rfl,I3,wF d _ od kvs vs ep rel hat' hne,?_,fun b hb=>?_,q od⟩
 ·rw[<- hob];exact⟨_,aBU _ rfl,rfl,rfl⟩
 ·have z:b=(s1.heap.push { cls:=.type "dict_values",data:=.fields #[.ref d] }).objs.size:=by simpa using hb
  rw[z];exact I2.fpOk hge (I2.hok.fresh hge)
theorem wG {d:Addr} {od:Obj} {kvs:List (Key×V)} {σ0:St} {g:TG} {tt:TT} {te:TE} {H:Hp} {Q:VK} (Pv:Nat->List V->Hp->Prop) (h0:Pv 0 [] H) (hl:∀ i ys H,i<=kvs.length->Pv i ys H->H d=some (.frz od (.dK kvs))/\ys.length<sizeLine)
 (hs:∀ i k x ys H,kvs[i]?=some (k,x)->Pv i ys H->g x σ0 H fun σ2 H2=>tt σ2 H2 fun b H3=>if b=true then te σ2 H3 fun y H4=>Pv (i+1) (ys++[y]) H4 else Pv (i+1) ys H3) (hd:∀ ys H,Pv kvs.length ys H->∀ D,H D=none->Q (.ref D) (upd H D (.lst ys))) :
 sL (Itw d od kvs) σ0 g tt te Q H:=by
 refine⟨fun i m ys H=>m=kvs.length - i/\i<=kvs.length/\Pv i ys H,⟨kvs.length,by simp,Nat.zero_le _,h0⟩,?_⟩;rintro i m ys H ⟨rfl,hi,p⟩;obtain⟨q,hz⟩:=hl i ys H hi p;refine⟨hz,?_⟩
 by_cases hlt:i<kvs.length
 ·refine .inr ⟨⟨q,hlt⟩,Pv (i+1),fun ys' H' p'=>⟨kvs.length - (i+1),by omega,rfl,hlt,p'⟩,fun x H' y=>?_⟩;obtain⟨rfl,k,hx⟩:=y;exact hs i k x ys _ hx p
 ·have e:i=kvs.length:=by omega
  subst e;exact .inl ⟨⟨q,Nat.le_refl _⟩,hd ys H p⟩
theorem wH (A:Around) (s:Shared) (a:Int) (t:Tok) (c:Int) (u:Tok) (prog:Program) (w:World) (E:Value->Shared->Prop) (Q:Value->Shared->Prop) (h:Q (.bool (decide (c<a))) s) :
 wpAny (model prog w) A (richCompare .Gt (.int a t) (.int c u)) Q E s :=
 (PyProof.Rows.gt_int h:wpAny (model prog w) A (compareOp .Gt (.int a t) (.int c u)) Q E s)
section
open PySem.SeqAt
open PySem.AutoSeq1 (wpAny_loadPart')
open PySem.MeetsSeq PySem.MeetsSeq2 PySem.MeetsSeq3
theorem Z6 (l b:Addr) (p q:Int×Int) (k1 k2 m1 m2:Tok) (n n2:Nat) (dd dd2:Option Addr) (sl sl2:Array (Option Value)) :
 Meets (Builtin.«tuple.__gt__» ⟨[.ref l,.ref b],[]⟩)
  (fun _ R s=>s.heap.get? l=some { cls:=.type "tuple",dict:=dd,data:=.seq #[.int p.1 k1,.int p.2 k2] n,slots:=sl }/\s.heap.get? b=some { cls:=.type "tuple",dict:=dd2,data:=.seq #[.int q.1 m1,.int q.2 m2] n2,slots:=sl2 } /\
   R (.ok (.ret (.bool (plt q p)))) s) :=
 .of_wp fun prog w A R s h=>by
  obtain⟨hp,g,d,tk,os⟩:=s;obtain⟨hl,hb,h⟩:=h;have f2:=AutoSeq1.sub_tuple_tuple
  wp_walk using wpAny_loadPart' hl,wpAny_loadPart' hb,wpAny_forIn_list _ (fun rest b s'=>b.1=none/\s'=⟨hp,g,d,tk,os⟩/\(rest=[(Value.int p.1 k1,Value.int q.1 m1),(Value.int p.2 k2,Value.int q.2 m2)] \/
   (p.1=q.1/\rest=[(Value.int p.2 k2,Value.int q.2 m2)])\/(p.1=q.1/\p.2=q.2/\rest=[]))) _
  case turn =>
   rintro ⟨y,x⟩ rest b s' ⟨hb',rfl,hc⟩;rcases hc with hz | ⟨e1,hz⟩ | ⟨_,_,hz⟩
   ·injection hz with hyx hrest
    injection hyx with hy hx
    subst hy hx;obtain⟨e,he,hiff⟩:=HT.eqAt_int A.in1 ⟨hp,g,d,tk,os⟩ p.1 k1 q.1 m1;refine aBL (he prog w _ _ ?_);cases e with
    | true =>
     wp_walk
     exact⟨rfl,rfl,.inr (.inl ⟨hiff.mp rfl,hrest⟩)⟩
    | false =>
     have hne:p.1≠q.1:=fun z=>absurd (hiff.mpr z) aB0;have hri:=wH A.in1 ⟨hp,g,d,tk,os⟩ p.1 k1 q.1 m1 prog w;have ev:plt q p=decide (q.1<p.1):=by rw[Bool.eq_iff_iff,gM];simp;omega
     rw[ev]at h
     wp_walk using hri
     exact⟨_,rfl,by simpa using h⟩
   ·injection hz with hyx hrest
    injection hyx with hy hx
    subst hy hx;obtain⟨e,he,hiff⟩:=HT.eqAt_int A.in1 ⟨hp,g,d,tk,os⟩ p.2 k2 q.2 m2;refine aBL (he prog w _ _ ?_);cases e with
    | true =>
     wp_walk
     exact⟨rfl,rfl,.inr (.inr ⟨e1,hiff.mp rfl,hrest⟩)⟩
    | false =>
     have hne:p.2≠q.2:=fun z=>absurd (hiff.mpr z) aB0;have hri:=wH A.in1 ⟨hp,g,d,tk,os⟩ p.2 k2 q.2 m2 prog w;have ev:plt q p=decide (q.2<p.2):=by rw[Bool.eq_iff_iff,gM];simp;omega
     rw[ev]at h
     wp_walk using hri
     exact⟨_,rfl,by simpa using h⟩
   ·cases hz
  case fin =>
   rintro ⟨b1,b2⟩ s' ⟨hb',rfl,hc⟩;simp only at hb';subst hb';rcases hc with hz | ⟨_,hz⟩ | ⟨e1,e2,_⟩
   ·cases hz
   ·cases hz
   have ev:plt q p=false:=by rw[gN];omega
   rw[ev]at h
   wp_walk
   exact⟨_,rfl,by simpa[Builtin.Tuple.tupleCompareSizes]using h⟩
  case h=>exact⟨rfl,rfl,.inl rfl⟩
end
section
variable {prog:Program} {w:World} {A:Around} {E:Value->Shared->Prop} {s:Shared}
theorem R0 {x y:Value} {p q:Int×Int} {Q:Value->Shared->Prop} (hx:PairV s.heap x p) (hy:PairV s.heap y q) (hu:A.units<cLine) (h:Q (.bool (plt q p)) s):wpAny (model prog w) A (richCompare .Gt x y) Q E s:=by
 obtain⟨t,⟨cls,dd,data,sl⟩,n,k1,k2,rfl,ho,hc,hd⟩:=hx;obtain⟨t',⟨cls2,dd2,data2,sl2⟩,n2,m1,m2,rfl,ho2,hc2,hd2⟩:=hy;simp only at hc hd hc2 hd2;subst hc hd hc2 hd2;exact richCompare_meets_room (op:=.Gt) ⟨_,ho,rfl⟩ ⟨_,ho2,rfl⟩ PySem.F.slot_tuple_gt PySem.F.entry_tuple_gt (PySem.F.args_tuple_gt_2 _ _) (Z6 t t' p q k1 k2 m1 m2 n n2 dd dd2 sl sl2)
  ⟨ho,ho2,show Value.bool (plt q p)≠Value.notImplemented/\Q (.bool (plt q p)) s from ⟨(fun x=>nomatch x),h⟩⟩ hu
end
def Top (ps:List (Int×Int)) (i:Nat) (j:Nat):Prop:=j<i/\∀ k,k<i->plt (ps.getD j (0,0)) (ps.getD k (0,0))=false
theorem Top.keep {ps:List (Int×Int)} {i j:Nat} (h:Top ps i j) (g:plt (ps.getD j (0,0)) (ps.getD i (0,0))=false):Top ps (i+1) j:=⟨Nat.lt_succ_of_lt h.1,fun k hk=>by
 by_cases e:k=i
 ·rw[e];exact g
 ·exact h.2 k (by omega)⟩
theorem Top.take {ps:List (Int×Int)} {i j:Nat} (h:Top ps i j) (g:plt (ps.getD j (0,0)) (ps.getD i (0,0))=true):Top ps (i+1) i:=⟨Nat.lt_succ_self i,fun k hk=>by
 by_cases e:k=i
 ·rw[e,gN];omega
 ·have h1:=h.2 k (by omega);rw[gN]at h1 ⊢;rw[gM]at g;omega⟩
abbrev x4 (v:Value) (c:Nat):Obj:={ cls:=.type "list",dict:=none,data:=.seq #[v,v] c,slots:=#[] }
section
variable {prog:Program} {w:World} {A:Around} {R:Result->Shared->Prop} {l it S:Addr} {its:List Value} {ps:List (Int×Int)}
theorem PairV.at {h h':Heap} {v:Value} {p:Int×Int} (x:PairV h v p) (k:∀ t o,v=.ref t->h.get? t=some o->o.cls=.type "tuple"->h'.get? t=some o):PairV h' v p:=by
 obtain⟨t,o,n,k1,k2,e,ho,hc,hd⟩:=x;exact⟨t,o,n,k1,k2,e,k t o e ho hc,hc,hd⟩
theorem Z7 (hh:A.handled=none) (hu:A.in1.units<cLine) (hlt:l≠it) (hiS:it≠S) (hlS:l≠S) :
 ∀ (k i:Nat) (s:Shared) (j:Nat) (c:Nat),its.length - i=k->i<=its.length->Top ps i j->s.heap.IsListIter it l i->s.heap.IsList l its.toArray->s.heap.get? S=some (x4 (its.getD j .none) c)->Paired (PairV s.heap) its ps ->
  (∀ h' tk j',(∀ x o,x≠it->x≠S->s.heap.get? x=some o->h'.get? x=some o)->Top ps its.length j'->R (.ok (.ret (its.getD j' .none))) { s with heap:=h',toks:=tk }) ->
  codeAny (model prog w) A (.builtin "max.loop" ⟨[.ref it,.none,.ref S],[]⟩) R s:=by
 have nm:(toString "max"++toString ".loop":String)="max.loop":=by decide
 intro k
 induction k with
 | zero =>
  intro i s j c hk hi ht st hl hS hP hR;have e:i=its.length:=by omega
  refine codeAny_builtin PySem.F.entry_max_loop (by
   rw[aBZ PySem.F.plain_max_loop _];show wpAny _ A.in1 (seqItems? (Value.ref S) >>= _) _ _ s;refine aBL (wpAny_seqItems hS rfl ?_);show wpAny _ A.in1 (tryCatch (pyNext (Value.ref it)) _ >>= _) _ _ s;refine aBL (wpAny_tryCatch (wpAny_pyNext_list_end hh st hl (by simp;omega) fun h' eb=>?_));have hS':=eb S _ (Ne.symm hiS) hS;show wpAny _ A.in1 (updateSeq S (fun _=>#[]) >>= _) _ _ { s with heap:=h' };refine aBL (wpAny_updateSeq hS' rfl (aBL (wpAny_letGo (aBM ?_))));exact hR (h'.update S (Obj.mapSeq fun _=>#[])) s.toks j (fun x o h1 h2 e=>(aBS _ _ (Ne.symm h2)).trans (eb x o h1 e)) (e ▸ ht))
 | succ k ih =>
  intro i s j c hk hi ht st hl hS hP hR;have hi':i<its.length:=by omega
  have hj':j<its.length:=Nat.lt_trans ht.1 hi';have hx:its[i]?=some (its.getD i .none):=by simp[List.getD_eq_getElem?_getD,hi']
  refine codeAny_builtin PySem.F.entry_max_loop (by
   rw[aBZ PySem.F.plain_max_loop _];show wpAny _ A.in1 (seqItems? (Value.ref S) >>= _) _ _ s;refine aBL (wpAny_seqItems hS rfl ?_);show wpAny _ A.in1 (tryCatch (pyNext (Value.ref it)) _ >>= _) _ _ s;refine aBL (wpAny_tryCatch (wpAny_pyNext_list_item st hl (x:=its.getD i .none) (by simpa using hx) fun h' st' sb=>?_));have hS':=sb.extBut S _ (Ne.symm hiS) hS;have hl':=hl.extBut sb.extBut hlt;have hit:∀ t o,s.heap.get? t=some o->o.cls=.type "tuple"->t≠it:=fun t o e c z=>by
    obtain⟨o',e',c',_⟩:=st;rw[z,e']at e;cases e;rw[c']at c;exact absurd c (by simp)
   have hnS:∀ t o,s.heap.get? t=some o->o.cls=.type "tuple"->t≠S:=fun t o e c z=>by
    rw[z,hS]at e;cases e;exact absurd c (by simp)
   have hP':Paired (PairV h') its ps:=Paired.mapP hP fun v p x=>x.at fun t o _ e c=>sb.extBut t o (hit t o e c) e;have pi:PairV h' (its.getD i .none) (ps.getD i (0,0)):=dW hP' hi';have pj:PairV h' (its.getD j .none) (ps.getD j (0,0)):=dW hP' hj';show wpAny _ A.in1 (tryCatch (holding [its.getD i .none,its.getD i .none] (richCompare .Gt (its.getD i .none) (its.getD j .none) >>= _)) _ >>= _) _ _ { s with heap:=h' };refine aBL (wpAny_tryCatch (wpAny_holding (aBL (R0 (s:={ s with heap:=h' }) pi pj hu ?_))));refine aBL (wpAny_holding (wpAny_truthy_bool (aBL (wpAny_letGo (aBM ?_)))));cases hb:plt (ps.getD j (0,0)) (ps.getD i (0,0))with
   | true =>
    simp only[if_true];refine aBL (wpAny_updateSeq hS' rfl (aBL (wpAny_letGo ?_)));rw[nm];obtain⟨c',e1⟩:∃ c',(h'.update S (Obj.mapSeq fun _=>#[its.getD i .none,its.getD i .none])).get? S=some (x4 (its.getD i .none) c'):=⟨_,aB6 _ hS' rfl⟩;refine aBM ⟨plainId_quiet PySem.F.plain_max_loop _,ih (i+1) { s with heap:=h'.update S (Obj.mapSeq fun _=>#[its.getD i .none,its.getD i .none]) } i _ (by omega) hi' (ht.take hb) (st'.at fun o e=>(aBS _ _ (Ne.symm hiS)).trans e) (hl'.at fun o e=>(aBS _ _ (Ne.symm hlS)).trans e) e1 (Paired.mapP hP fun v p x=>x.at fun t o _ e c=>(aBS _ _ (Ne.symm (hnS t o e c))).trans (sb.extBut t o (hit t o e c) e)) fun h'' tk t' kp=>?_⟩;exact hR h'' tk t' (fun x o h1 h2 e=>kp x o h1 h2 ((aBS _ _ (Ne.symm h2)).trans (sb.extBut x o h1 e)))
   | false =>
    simp only[Bool.false_eq_true,if_false];refine aBL (wpAny_letGo ?_);rw[nm];refine aBM ⟨plainId_quiet PySem.F.plain_max_loop _,ih (i+1) { s with heap:=h' } j c (by omega) hi' (ht.keep hb) st' hl' hS' hP' fun h'' tk t' kp=>?_⟩;exact hR h'' tk t' (fun x o h1 h2 e=>kp x o h1 h2 (sb.extBut x o h1 e)))
theorem R1 (hh:A.handled=none) (hu:A.in1.units<cLine) (hlt:l≠it) (hiS:it≠S) (hlS:l≠S) {s:Shared} {c:Nat} (h0:0<its.length) (st:s.heap.IsListIter it l 0) (hl:s.heap.IsList l its.toArray)
 (hS:s.heap.get? S=some { cls:=.type "list",dict:=none,data:=.seq #[] c,slots:=#[] }) (hP:Paired (PairV s.heap) its ps)
 (hR:∀ h' tk j',(∀ x o,x≠it->x≠S->s.heap.get? x=some o->h'.get? x=some o)->Top ps its.length j'->R (.ok (.ret (its.getD j' .none))) { s with heap:=h',toks:=tk }) :
 codeAny (model prog w) A (.builtin "max.loop" ⟨[.ref it,.none,.ref S],[]⟩) R s:=by
 have nm:(toString "max"++toString ".loop":String)="max.loop":=by decide
 have hx:its[0]?=some (its.getD 0 .none):=by simp[List.getD_eq_getElem?_getD,h0]
 refine codeAny_builtin PySem.F.entry_max_loop (by
  rw[aBZ PySem.F.plain_max_loop _];show wpAny _ A.in1 (seqItems? (Value.ref S) >>= _) _ _ s;refine aBL (wpAny_seqItems hS rfl ?_);show wpAny _ A.in1 (tryCatch (pyNext (Value.ref it)) _ >>= _) _ _ s;refine aBL (wpAny_tryCatch (wpAny_pyNext_list_item st hl (x:=its.getD 0 .none) (by simpa using hx) fun h' st' sb=>?_));have hS':=sb.extBut S _ (Ne.symm hiS) hS;have hl':=hl.extBut sb.extBut hlt;have hit:∀ t o,s.heap.get? t=some o->o.cls=.type "tuple"->t≠it:=fun t o e c z=>by
   obtain⟨o',e',c',_⟩:=st;rw[z,e']at e;cases e;rw[c']at c;exact absurd c (by simp)
  have hnS:∀ t o,s.heap.get? t=some o->o.cls=.type "tuple"->t≠S:=fun t o e c z=>by
   rw[z,hS]at e;cases e;exact absurd c (by simp)
  show wpAny _ A.in1 (updateSeq S (fun _=>#[its.getD 0 .none,its.getD 0 .none]) >>= _) _ _ { s with heap:=h' };refine aBL (wpAny_updateSeq hS' rfl ?_);rw[nm];obtain⟨c',e1⟩:∃ c',(h'.update S (Obj.mapSeq fun _=>#[its.getD 0 .none,its.getD 0 .none])).get? S=some (x4 (its.getD 0 .none) c'):=⟨_,aB6 _ hS' rfl⟩;have t1:Top ps 1 0:=⟨by decide,fun k hk=>by
   have e:k=0:=by omega
   rw[e,gN];omega⟩
  refine aBM ⟨plainId_quiet PySem.F.plain_max_loop _,Z7 (ps:=ps) (its:=its) hh hu hlt hiS hlS _ 1 { s with heap:=h'.update S (Obj.mapSeq fun _=>#[its.getD 0 .none,its.getD 0 .none]) } 0 _ rfl h0 t1 (st'.at fun o e=>(aBS _ _ (Ne.symm hiS)).trans e) (hl'.at fun o e=>(aBS _ _ (Ne.symm hlS)).trans e) e1 (Paired.mapP hP fun v p x=>x.at fun t o _ e c=>(aBS _ _ (Ne.symm (hnS t o e c))).trans (sb.extBut t o (hit t o e c) e)) fun h'' tk t' kp=>?_⟩;exact hR h'' tk t' (fun x o h1 h2 e=>kp x o h1 h2 ((aBS _ _ (Ne.symm h2)).trans (sb.extBut x o h1 e))))
theorem sW (a:Value):argsOk "max" ⟨[a],[]⟩:=by unfold argsOk;kernel_rfl
theorem yG {E:Value->Shared->Prop} {s:Shared} {Q:Value->Shared->Prop} (hh:A.handled=none) (hu:A.in1.in1.units<cLine) (hl:s.heap.IsList l its.toArray) (h0:0<its.length) (hP:Paired (PairV s.heap) its ps)
 (h:∀ h' tk j,(∀ x o,s.heap.get? x=some o->h'.get? x=some o)->Top ps its.length j->Q (its.getD j .none) { s with heap:=h',toks:=tk }):wpAny (model prog w) A (call (.builtin "max") [.ref l]) Q E s:=by
 have nm:(toString "max"++toString ".loop":String)="max.loop":=by decide
 refine kmk_tree PySem.F.kind_max PySem.F.plain_max PySem.F.entry_max (sW _) (by
  show wpAny _ A.in1 (Builtin.Builtins.bindParams "max" ["key","default"] 0 ⟨[],[]⟩ >>= _) _ _ s;refine aBL (wpAny_of_eq (show Builtin.Builtins.bindParams "max" ["key","default"] 0 ⟨[],[]⟩=pure [none,none] from rfl) (aBL (aBM ?_)));refine aBL (wpAny_pyIter_list hl ?_);refine aBL (wpAny_newObj_type ?_);rw[nm];have hlt:l<s.heap.objs.size:=by obtain⟨_,e,_⟩:=hl;exact aBT e
  refine aBM ⟨plainId_quiet PySem.F.plain_max_loop _,R1 (l:=l) (it:=s.heap.objs.size) (its:=its) (ps:=ps) hh (by first | exact hu | (simp at hu ⊢;omega)) (aBb hlt) (by rw[Heap.size_push];exact aBb (Nat.lt_succ_self _)) (by rw[Heap.size_push];exact aBb (Nat.lt_succ_of_lt hlt)) h0 ⟨_,aBO _ (aBU _ rfl),rfl,rfl⟩ ((hl.push _).push _) (aBU _ rfl) (Paired.mapP hP fun v p x=>x.at fun t o _ e _=>aBO _ (aBO _ e)) fun h' tk j kp ht=>?_⟩;refine h h' tk j (fun x o e=>?_) ht;have hx:=aBT e;exact kp x o (aBb hx) (by rw[Heap.size_push];exact aBb (Nat.lt_succ_of_lt hx)) (aBO _ (aBO _ e)))
end
section
variable {X:Cx} {pins:List (Addr×Obj)} {σ:St} {H:Hp} {s:Shared}
theorem qC (I:Inv X pins σ H s):∀ {us0:List V} {its:List Value} {ps:List (Int×Int)},Vals us0 its->CW.Prs H us0 ps->Paired (PairV s.heap) its ps:=by
 intro us0
 induction us0 with
 | nil=>intro its ps r p;cases r;cases p;exact .nil
 | cons x xs ih =>
  intro its ps r p;cases r with
  | cons r1 r2 =>
   cases p with
   | cons p1 p2 =>
    refine .cons ?_ (ih r2 p2);obtain⟨t,e,et⟩:=p1;subst e;cases r1;obtain⟨_,its',rv',o,ho,hc,n,hd⟩:=(show ObjOk X.prog X.w H s.heap t (.tup [.int _,.int _]) from I.hok t _ et);obtain⟨u1,u2,rfl,⟨k1,rfl⟩,⟨k2,rfl⟩⟩:=rv'.two;exact⟨t,o,n,k1,k2,rfl,ho,hc,hd⟩
theorem E9 (hc:X.calm=true) (hu:X.A.units+64<cLine):eY X (.builtin "max") (fun xs H Q=>∃ (a:Addr) (us:List V) (ps:List (Int×Int)),xs=[.ref a]/\H a=some (.lst us)/\CW.Prs H us ps/\us≠[] /\
 ∀ j x,Top ps ps.length j->us[j]?=some x->Q x H):=by
 intro pins s σ H xs us Q I r h;obtain⟨a,us0,ps,rfl,ha,pr,hne,q⟩:=h;obtain⟨u,rfl,rx⟩:=hU r;cases rx;obtain⟨its,rv,pl,hz⟩:=I.list (SqL.of ha);have l1:us0.length=ps.length:=Paired.length pr;have l2:us0.length=its.length:=rv.length;have h0:0<its.length:=by rw[<- l2];exact List.length_pos_iff.mpr hne
 refine yG (I.ok.hd hc) (by simp only[Around.in1_units];omega) pl.isList h0 (qC I rv pr) fun h' tk j kp ht=>?_;have hj:j<us0.length:=by rw[l2];exact ht.1
 have hx:us0[j]?=some us0[j]:=aBX hj;obtain⟨v,hv,rv'⟩:=rv.get hx;refine⟨us0[j],H,I.kept kp,?_,q j us0[j] (by rw[<- l1,l2];exact ht) hx⟩;rw[List.getD_eq_getElem?_getD,hv];exact rv'
end
theorem G0 {X:Cx} {a:Expr} {ta:TE} (ha:PE X a ta) (he:∀ whole,isTrue a X.env whole=(do let v <- whole;standAt a.pos;holding [v] (truthy v))) :
 PT X a (fun σ H Q=>ta σ H fun x H'=>∃ d kvs,x=.ref d/\H' d=some (.dK kvs)/\Q (!kvs.isEmpty) H'):=by
 intro pins s σ H Q I h;refine isTrue_plain (thn (ha pins s σ H _ I h) fun v s1 ⟨x,H1,I1,r1,d,kvs,ex,hd,q1⟩=>?_) (he _);subst ex;obtain rfl:v=Value.ref d:=r1;exact Z2 I1 (.inl hd) fun s' I'=>⟨H1,I',q1⟩
end L2
namespace CW
open PySem L2
def StayG (d:Addr) (gs:List Grp) (H H':Hp):Prop:=∀ b o,b≠d->(∀ g∈gs,b≠g.2.1)->H b=some o->H' b=some o
def pops (k:Int) (gs:List Grp):List Grp:=gs.map fun g=>if g.1=k then (g.1,g.2.1,g.2.2.dropLast)else g
def outs (k:Int) (gs:List Grp):List Grp:=gs.filter fun g=>decide (g.1≠k)
theorem R3 (k:Int) (gs:List Grp):kvG (pops k gs)=kvG gs:=by
 unfold kvG pops;rw[aBi];refine List.map_congr_left fun g _=>?_;simp only[Function.comp];split <;> rfl
theorem R4 (k:Int) (gs:List Grp):(pops k gs).map (·.2.1)=gs.map (·.2.1):=by
 unfold pops;rw[aBi];refine List.map_congr_left fun g _=>?_;simp only[Function.comp];split <;> rfl
theorem kO (k:Int) (gs:List Grp):(pops k gs).map (·.1)=gs.map (·.1):=by
 unfold pops;rw[aBi];refine List.map_congr_left fun g _=>?_;simp only[Function.comp];split <;> rfl
theorem mQ {k:Int} {gs:List Grp} {g':Grp} (h:g'∈pops k gs):∃ g∈gs,g'.2.1=g.2.1/\g'.1=g.1/\g'.2.2=if g.1=k then g.2.2.dropLast else g.2.2:=by
 obtain⟨g,hg,rfl⟩:=aBt.mp h;refine⟨g,hg,?_⟩
 by_cases hk:g.1=k
 ·rw[if_pos hk,if_pos hk];exact⟨rfl,rfl,rfl⟩
 ·rw[if_neg hk,if_neg hk];exact⟨rfl,rfl,rfl⟩
theorem DG.pops {H:Hp} {d:Addr} {gs:List Grp} (dg:DG H d gs) {g:Grp} (hg:g∈gs):DG (upd H g.2.1 (.lst (g.2.2.dropLast.map V.int))) d (pops g.1 gs):=by
 have hnd:d≠g.2.1:=fS dg.at_ (dg.lst g hg) (by intro z;cases z);refine⟨by rw[R3,aH hnd];exact dg.at_,fun g' hg'=>?_,by rw[R4];exact dg.adr,by rw[kO];exact dg.key⟩;obtain⟨g0,h0,e1,e2,e3⟩:=mQ hg';rw[e1,e3]
 by_cases ha:g0.2.1=g.2.1
 ·have:g0=g:=cK (f:=fun g:Grp=>g.2.1) dg.adr h0 hg ha;subst this;rw[aB,if_pos rfl]
 ·have hk:g0.1≠g.1:=fun e=>ha (by rw[cK (f:=fun g:Grp=>g.1) dg.key h0 hg e]);rw[aH ha,if_neg hk];exact dg.lst g0 h0
theorem R5 (k:Int):∀ gs:List Grp,oF (kvG gs) (Sum.inl k:Key)=kvG (outs k gs):=by
 intro gs;unfold oF kvG outs;rw[List.filter_map]
 congr 1
 refine List.filter_congr fun g _=>?_;simp only[Function.comp,ne_eq,Sum.inl.injEq]
theorem DG.outs {H:Hp} {d:Addr} {gs:List Grp} (dg:DG H d gs) (k:Int):DG (upd H d (.dK (oF (kvG gs) (Sum.inl k:Key)))) d (outs k gs):=by
 refine⟨by rw[aB,R5],fun g hg=>?_,?_,?_⟩
 ·have hm:=(aBu.mp hg).1;rw[aH (fS (dg.lst g hm) dg.at_ (by intro z;cases z))];exact dg.lst g hm
 ·exact dg.adr.sublist (List.filter_sublist.map _)
 ·exact dg.key.sublist (List.filter_sublist.map _)
theorem mR {gs:List Grp} {g:Grp} (hk:(gs.map (·.1)).Nodup) (hg:g∈gs):gs.find? (fun x=>decide (x.1=g.1))=some g:=by
 cases h:gs.find? (fun x=>decide (x.1=g.1))with
 | none=>exact absurd (List.find?_eq_none.mp h g hg) (by simp)
 | some x =>
  have h1:=List.mem_of_find?_eq_some h;have h2:x.1=g.1:=by simpa using List.find?_some h
  rw[cK (f:=fun g:Grp=>g.1) hk h1 hg h2]
theorem DG.get {H:Hp} {d:Addr} {gs:List Grp} (dg:DG H d gs) {g:Grp} (hg:g∈gs):DGet H d (.int g.1) (some (.ref g.2.1)):=by
 have h:=DGet.k (k:=(Sum.inl g.1:Key)) dg.at_;rw[dX,mR dg.key hg]at h;exact h
def shr (k:Int) (gs:List Grp):List Grp:=if (pops k gs).any (fun g=>decide (g.1=k) && g.2.2.isEmpty)then outs k (pops k gs)else pops k gs
section
variable {P:Program} {w:World} {K:PySem.W.Frag} {mg:Str->Option Value} {base:Heap}
inductive mS (vs:List V) (H:Hp) (Q:VK) (E_:XK):Prop
 | mk (d:Addr) (gs:List Grp) (j:Int) (h0_:vs=[.ref d,.int j]) (h1_:DG H d gs) (h2_:gs.length<=60) (h3_:(∀ g∈gs,g.2.2.length<=60)) (h4_:∀ H',Same H H'->Q (.int (2 * wgt (gQ j) gs)) H'):mS vs H Q E_
inductive iA (vs:List V) (H:Hp) (Q:VK) (E_:XK):Prop
 | mk (d:Addr) (gs:List Grp) (g:Grp) (h0_:vs=[.ref d,.int g.1]) (h1_:DG H d gs) (h2_:g∈gs) (h3_:g.2.2≠[]) (h4_:∀ H',StayG d gs H H'->DG H' d (shr g.1 gs)->Q .non H'):iA vs H Q E_
end
def GoodG (gs:List Grp):Prop:=∀ g∈gs,1<=g.1/\g.2.2≠[]
def sto (gs:List Grp):Int:=wgt (fun k=>k) gs
theorem cM (f:Int->Int) (g:Grp) (r:List Grp):wgt f (g :: r)=f g.1 * (g.2.2.length:Int)+wgt f r:=by simp[wgt]
theorem GoodG.tail {g:Grp} {r:List Grp} (h:GoodG (g :: r)):GoodG r:=fun x hx=>h x (aBQ _ hx)
theorem GoodG.one {g:Grp} {r:List Grp} (h:GoodG (g :: r)):(g.2.2.length:Int)<=g.1 * (g.2.2.length:Int)/\1<=(g.2.2.length:Int):=by
 obtain⟨h1,h2⟩:=h g aBP;have h3:0<g.2.2.length:=List.length_pos_iff.mpr h2;refine⟨?_,by omega⟩;have:=Int.mul_le_mul_of_nonneg_right h1 (show (0:Int)<=(g.2.2.length:Int)by omega);omega
theorem GoodG.bound:∀ {gs:List Grp},GoodG gs->(gs.length:Int)<=sto gs/\∀ g∈gs,(g.2.2.length:Int)<=sto gs
 | [],_=>⟨Int.le_refl _,fun g hg=>(nomatch hg)⟩
 | g :: r,h=>by
  obtain⟨a,b⟩:=GoodG.bound h.tail;obtain⟨c,d⟩:=h.one;unfold sto at a b ⊢;rw[cM];refine⟨by simp only[aBh];omega,fun x hx=>?_⟩;rcases aBr.mp hx with e | hx
  ·rw[e];omega
  ·have:=b x hx;omega
theorem nV {k:Int}:∀ {gs:List Grp},(∀ g∈gs,g.1≠k)->pops k gs=gs
 | [],_=>rfl
 | g :: r,h=>by
  have h1:=h g aBP;show (if g.1=k then (g.1,g.2.1,g.2.2.dropLast)else g) :: pops k r=g :: r;rw[if_neg h1,nV fun x hx=>h x (aBQ _ hx)]
theorem qD (f:Int->Int):∀ {gs:List Grp},(gs.map (·.1)).Nodup->∀ {g:Grp},g∈gs->g.2.2≠[]->wgt f (pops g.1 gs)=wgt f gs - f g.1
 | [],_,g,hg,_=>by cases hg
 | x :: r,hn,g,hg,hne=>by
  have hn':=List.nodup_cons.mp hn;have e0:pops g.1 (x :: r)=(if x.1=g.1 then (x.1,x.2.1,x.2.2.dropLast)else x) :: pops g.1 r:=rfl;rw[e0]
  by_cases h:x.1=g.1
  ·have hx:x=g:=cK (f:=fun g:Grp=>g.1) hn aBP hg h;subst hx;rw[if_pos rfl,nV fun y hy e=>hn'.1 (aBt.mpr ⟨y,hy,e⟩),cM,cM];have h3:0<x.2.2.length:=List.length_pos_iff.mpr hne;have h4:((x.2.2.dropLast.length:Nat):Int)=(x.2.2.length:Int) - 1:=by rw[List.length_dropLast];omega
   simp only[h4,Int.mul_sub,Int.mul_one];omega
  ·have hg':g∈r:=by
    rcases aBr.mp hg with e | e
    ·exact absurd (by rw[e]) h
    ·exact e
   rw[if_neg h,cM,cM,qD f hn'.2 hg' hne];omega
theorem wI (f:Int->Int) {k:Int}:∀ {gs:List Grp},(∀ g∈gs,g.1=k->g.2.2=[])->wgt f (outs k gs)=wgt f gs
 | [],_=>rfl
 | g :: r,h=>by
  have ih:=wI f (k:=k) (gs:=r) fun x hx=>h x (aBQ _ hx);unfold outs at ih ⊢;rw[List.filter_cons,cM]
  by_cases e:g.1=k
  ·have:=h g aBP e;rw[if_neg (by simp[e]),ih,this];simp
  ·rw[if_pos (by simp[e]),cM,ih]
theorem A5 (f:Int->Int) {gs:List Grp} (hn:(gs.map (·.1)).Nodup) {g:Grp} (hg:g∈gs) (hne:g.2.2≠[]):wgt f (shr g.1 gs)=wgt f gs - f g.1:=by
 unfold shr;split
 ·next h =>
  obtain⟨x,hx,hp⟩:=List.any_eq_true.mp h;simp only[Bool.and_eq_true,decide_eq_true_eq,List.isEmpty_iff]at hp;rw[wI f fun y hy e=>?_,qD f hn hg hne];have:y=x:=cK (f:=fun g:Grp=>g.1) (by rw[kO];exact hn) hy hx (e.trans hp.1.symm);rw[this];exact hp.2
 ·exact qD f hn hg hne
theorem GoodG.shr {gs:List Grp} (h:GoodG gs) (k:Int):GoodG (shr k gs):=by
 have hp:∀ x∈pops k gs,1<=x.1/\(x.1≠k->x.2.2≠[]):=fun x hx=>by
  obtain⟨g,hg,e1,e2,e3⟩:=mQ hx;obtain⟨h1,h2⟩:=h g hg;refine⟨by rw[e2];exact h1,fun n=>?_⟩;rw[e3,if_neg (by rw[<- e2];exact n)];exact h2
 intro x hx;unfold CW.shr at hx;split at hx
 ·obtain⟨h1,h2⟩:=aBu.mp hx;exact⟨(hp x h1).1,(hp x h1).2 (by simpa using h2)⟩
 ·next hn =>
  refine⟨(hp x hx).1,fun e=>?_⟩
  by_cases hk:x.1=k
  ·exact hn (List.any_eq_true.mpr ⟨x,hx,by simp[hk,e]⟩)
  ·exact(hp x hx).2 hk e
theorem A6 {gs:List Grp} {k:Int} {x:Grp} (hx:x∈shr k gs):∃ g∈gs,x.2.1=g.2.1:=by
 unfold shr at hx;have hp:x∈pops k gs:=by
  split at hx
  ·exact(aBu.mp hx).1
  ·exact hx
 obtain⟨g,hg,e1,_⟩:=mQ hp;exact⟨g,hg,e1⟩
def qE (H:Hp) (k o:Int) (gs gs':List Grp):Prop:=(∃ g∈gs,g.1=k)/\gs'=fG k o gs\/(∀ g∈gs,g.1≠k)/\∃ z,H z=none/\gs'=gs++[(k,z,[o])]
theorem R6 (f:Int->Int) {H:Hp} {k o:Int} {gs gs':List Grp} (hn:(gs.map (·.1)).Nodup) (h:qE H k o gs gs'):wgt f gs'=wgt f gs+f k:=by
 rcases h with ⟨hg,rfl⟩ | ⟨_,z,_,rfl⟩
 ·exact wE f hn hg
 ·simp[wgt]
theorem GoodG.puts {H:Hp} {k o:Int} {gs gs':List Grp} (g:GoodG gs) (hk:1<=k) (h:qE H k o gs gs'):GoodG gs':=by
 rcases h with ⟨hg,rfl⟩ | ⟨_,z,_,rfl⟩
 ·intro x hx;obtain⟨g0,h0,rfl⟩:=aBt.mp hx;obtain⟨h1,h2⟩:=g g0 h0
  by_cases e:g0.1=k
  ·rw[if_pos e];exact⟨h1,by simp⟩
  ·rw[if_neg e];exact⟨h1,h2⟩
 ·intro x hx;rcases aBs.mp hx with hx | hx
  ·exact g x hx
  ·rw[aBk.mp hx];exact⟨hk,by simp⟩
theorem wJ {H:Hp} {k o:Int} {gs gs':List Grp} (h:qE H k o gs gs') {x:Grp} (hx:x∈gs'):(∃ g∈gs,x.2.1=g.2.1)\/H x.2.1=none:=by
 rcases h with ⟨hg,rfl⟩ | ⟨_,z,hz,rfl⟩
 ·obtain⟨g0,h0,rfl⟩:=aBt.mp hx;refine .inl ⟨g0,h0,?_⟩;split <;> rfl
 ·rcases aBs.mp hx with hx | hx
  ·exact .inl ⟨x,hx,rfl⟩
  ·rw[aBk.mp hx];exact .inr hz
section
variable {P:Program} {w:World} {K:PySem.W.Frag} {mg:Str->Option Value} {base:Heap}
end
theorem StayG.same {H H1 H2:Hp} {d r:Addr} {gs:List Grp} (st:StayG d gs H1 H2) (sm:Same H H1) (hd:H d=none) (hfr:∀ g∈gs,H g.2.1=none/\g.2.1≠r):Same H H2:=fun b o e =>
 st b o (fun z=>by rw[z,hd]at e;cases e) (fun g hg z=>by rw[z,(hfr g hg).1]at e;cases e) (sm b o e)
end CW
namespace CW
abbrev Trs:=List (Int×Int)
def les (ps:Trs) (j:Int):Int:=(ps.map fun q=>min j q.1).sum
theorem A7 (j:Int):les [] j=0:=rfl
theorem bM (q:Int×Int) (ps:Trs) (j:Int):les (q :: ps) j=min j q.1+les ps j:=by simp[les]
theorem qF (ps qs:Trs) (j:Int):les (ps++qs) j=les ps j+les qs j:=by simp[les]
theorem aW {ps qs:Trs} (h:ps.Perm qs) (j:Int):les ps j=les qs j:=by
 unfold les
 induction h with
 | nil=>rfl
 | cons x _ ih=>simp only[aBd,aBg];omega
 | swap x y l=>simp only[aBd,aBg];omega
 | trans _ _ h1 h2=>exact h1.trans h2
def Bd (ps:Trs) (n:Int):Prop:=∀ q∈ps,1<=q.1/\q.2+2 * les ps q.1<=n
theorem Bd.perm {ps qs:Trs} {n:Int} (h:Bd ps n) (e:ps.Perm qs):Bd qs n:=fun q hq=>by
 have:=h q (e.mem_iff.mpr hq);rw[aW e]at this;exact this
theorem Bd.mono {ps:Trs} {n m:Int} (h:Bd ps n) (e:n<=m):Bd ps m:=fun q hq=>⟨(h q hq).1,Int.le_trans (h q hq).2 e⟩
def Add (ps:Trs) (p:Int) (qs:Trs):Prop:=∃ (s:Int) (rest:Trs),0<=s/\(s=0/\ps.Perm rest\/1<=s/\ps.Perm ((s,p - 1 - 2 * les ps s) :: rest))/\(∀ q∈ps,s<q.1->q.2+2 * les ps q.1≠p - 1)/\qs.Perm ((s+1,p - 2 * les rest (s+1) - 2 * (s+1)) :: rest)
theorem Add.perm {ps ps' qs qs':Trs} {p:Int} (h:Add ps p qs) (e:ps.Perm ps') (f:qs.Perm qs'):Add ps' p qs':=by
 obtain⟨s,rest,h0,h1,h2,h3⟩:=h;refine⟨s,rest,h0,?_,fun q hq hs=>?_,f.symm.trans h3⟩
 ·rcases h1 with ⟨a,b⟩ | ⟨a,b⟩
  ·exact .inl ⟨a,e.symm.trans b⟩
  ·refine .inr ⟨a,?_⟩;rw[<- aW e];exact e.symm.trans b
 ·rw[<- aW e];exact h2 q (e.mem_iff.mpr hq) hs
theorem Add.uniq {ps qs qs':Trs} {p:Int} (h:Add ps p qs) (h':Add ps p qs'):qs.Perm qs':=by
 obtain⟨s,rest,h0,h1,h2,h3⟩:=h;obtain⟨s',rest',h0',h1',h2',h3'⟩:=h';have hs:s=s':=by
  rcases h1 with ⟨a,b⟩ | ⟨a,b⟩ <;> rcases h1' with ⟨a',b'⟩ | ⟨a',b'⟩
  ·omega
  ·exact absurd (show (p - 1 - 2 * les ps s')+2 * les ps s'=p - 1 by omega) (h2 _ (b'.mem_iff.mpr aBP) (show s<s' by omega))
  ·exact absurd (show (p - 1 - 2 * les ps s)+2 * les ps s=p - 1 by omega) (h2' _ (b.mem_iff.mpr aBP) (show s'<s by omega))
  ·rcases Int.lt_trichotomy s s' with l | l | l
   ·exact absurd (show (p - 1 - 2 * les ps s')+2 * les ps s'=p - 1 by omega) (h2 _ (b'.mem_iff.mpr aBP) l)
   ·exact l
   ·exact absurd (show (p - 1 - 2 * les ps s)+2 * les ps s=p - 1 by omega) (h2' _ (b.mem_iff.mpr aBP) l)
 subst hs;have hr:rest.Perm rest':=by
  rcases h1 with ⟨a,b⟩ | ⟨a,b⟩ <;> rcases h1' with ⟨a',b'⟩ | ⟨a',b'⟩
  ·exact b.symm.trans b'
  ·omega
  ·omega
  ·exact List.Perm.cons_inv (b.symm.trans b')
 refine h3.trans (List.Perm.trans ?_ h3'.symm);rw[aW hr];exact hr.cons _
theorem Add.bd {ps qs:Trs} {p:Int} (h:Add ps p qs) (b:Bd ps (p - 1)):Bd qs p:=by
 obtain⟨s,rest,h0,h1,h2,h3⟩:=h;have hl:∀ j,1<=j->les qs j=les ps j+if s<j then 1 else 0:=fun j hj=>by
  rw[aW h3,bM];rcases h1 with ⟨a,b⟩ | ⟨a,b⟩
  ·rw[aW b];simp only;split <;> omega
  ·rw[aW b,bM];simp only;split <;> omega
 intro q hq;rcases aBr.mp (h3.mem_iff.mp hq)with rfl | hq
 ·refine⟨show 1<=s+1 by omega,?_⟩;have:les qs (s+1)=s+1+les rest (s+1):=by
   rw[aW h3,bM];simp only;omega
  show (p - 2 * les rest (s+1) - 2 * (s+1))+2 * les qs (s+1)<=p;omega
 ·have hm:q∈ps:=by
   rcases h1 with ⟨_,e⟩ | ⟨_,e⟩
   ·exact e.mem_iff.mpr hq
   ·exact e.mem_iff.mpr (aBQ _ hq)
  obtain⟨b1,b2⟩:=b q hm;refine⟨b1,?_⟩;have:=h2 q hm;rw[hl q.1 b1];split <;> omega
def Tak (ps:Trs) (p:Int) (qs:Trs):Prop:=∃ (s:Int) (rest:Trs),1<=s/\ps.Perm ((s,p - 2 * les ps s) :: rest)/\(∀ q∈ps,q.2+2 * les ps q.1<=p)/\(∀ q∈ps,q.1<s->q.2+2 * les ps q.1<p) /\
 (s=1/\qs.Perm rest\/2<=s/\qs.Perm ((s - 1,p - 1 - 2 * les rest (s - 1) - 2 * (s - 1)) :: rest))
theorem Tak.add {ps qs:Trs} {p:Int} (h:Tak ps p qs) (hp:∀ q∈ps,1<=q.1):Bd qs (p - 1)/\Add qs p ps:=by
 obtain⟨s,rest,h0,h1,h2,h3,h4⟩:=h;have hl:∀ j,0<=j->les ps j=les qs j+if s<=j then 1 else 0:=fun j hj=>by
  rw[aW h1,bM];rcases h4 with ⟨a,b⟩ | ⟨a,b⟩
  ·rw[aW b];simp only;split <;> omega
  ·rw[aW b,bM];simp only;split <;> omega
 have hold:∀ q∈rest,1<=q.1/\q.2+2 * les qs q.1<=p - 1/\(s<=q.1->q.2+2 * les qs q.1<=p - 2):=fun q hq=>by
  have hm:q∈ps:=h1.mem_iff.mpr (aBQ _ hq);have a1:=hp q hm;have a2:=h2 q hm;have a3:=h3 q hm;have a4:=hl q.1 (by omega);refine⟨a1,?_,fun hs=>?_⟩
  ·by_cases hs:s<=q.1
   ·rw[if_pos hs]at a4;omega
   ·rw[if_neg hs]at a4;have:=a3 (by omega);omega
  ·rw[if_pos hs]at a4;omega
 have hnew:2<=s->les qs (s - 1)=(s - 1)+les rest (s - 1):=fun h=>by
  rcases h4 with ⟨a,b⟩ | ⟨a,b⟩
  ·omega
  ·rw[aW b,bM];simp only;omega
 refine⟨fun q hq=>?_,s - 1,rest,by omega,?_,fun q hq hs=>?_,?_⟩
 ·rcases h4 with ⟨a,b⟩ | ⟨a,b⟩
  ·have:=hold q (b.mem_iff.mp hq);exact⟨this.1,this.2.1⟩
  ·rcases aBr.mp (b.mem_iff.mp hq)with rfl | hq
   ·refine⟨show 1<=s - 1 by omega,?_⟩;have:=hnew a;show (p - 1 - 2 * les rest (s - 1) - 2 * (s - 1))+2 * les qs (s - 1)<=p - 1;omega
   ·have:=hold q hq;exact⟨this.1,this.2.1⟩
 ·rcases h4 with ⟨a,b⟩ | ⟨a,b⟩
  ·exact .inl ⟨by omega,b⟩
  ·refine .inr ⟨by omega,?_⟩;have e:p - 1 - 2 * les qs (s - 1)=p - 1 - 2 * les rest (s - 1) - 2 * (s - 1):=by have:=hnew a;omega
   rw[e];exact b
 ·have hq':q∈rest:=by
   rcases h4 with ⟨a,b⟩ | ⟨a,b⟩
   ·exact b.mem_iff.mp hq
   ·rcases aBr.mp (b.mem_iff.mp hq)with rfl | hq
    ·exact absurd hs (by show ¬ (s - 1<s - 1);omega)
    ·exact hq
  have:=(hold q hq').2.2 (by omega);omega
 ·have e:s - 1+1=s:=by omega
  rw[e];have e2:p - 2 * les rest s - 2 * s=p - 2 * les ps s:=by rw[aW h1,bM];simp only;omega
  rw[e2];exact h1
theorem Add.tak {ps qs:Trs} {p:Int} (h:Add ps p qs) (b:Bd ps (p - 1)):Tak qs p ps:=by
 have hb:=h.bd b;obtain⟨s,rest,h0,h1,h2,h3⟩:=h;have hl:∀ j,0<=j->les qs j=les ps j+if s<j then 1 else 0:=fun j hj=>by
  rw[aW h3,bM];rcases h1 with ⟨a,b⟩ | ⟨a,b⟩
  ·rw[aW b];simp only;split <;> omega
  ·rw[aW b,bM];simp only;split <;> omega
 have e2:p - 2 * les qs (s+1)=p - 2 * les rest (s+1) - 2 * (s+1):=by rw[aW h3,bM];simp only;omega
 refine⟨s+1,rest,by omega,by rw[e2];exact h3,fun q hq=>(hb q hq).2,fun q hq hs=>?_,?_⟩
 ·rcases aBr.mp (h3.mem_iff.mp hq)with rfl | hq
  ·exact absurd hs (by show ¬ (s+1<s+1);omega)
  ·have hm:q∈ps:=by
    rcases h1 with ⟨_,e⟩ | ⟨_,e⟩
    ·exact e.mem_iff.mpr hq
    ·exact e.mem_iff.mpr (aBQ _ hq)
   obtain⟨b1,b2⟩:=b q hm;have:=hl q.1 (by omega);rw[if_neg (by omega)]at this;omega
 ·rcases h1 with ⟨a,e⟩ | ⟨a,e⟩
  ·exact .inl ⟨by omega,e⟩
  ·refine .inr ⟨by omega,?_⟩;have e3:s+1 - 1=s:=by omega
   rw[e3];have e4:p - 1 - 2 * les rest s - 2 * s=p - 1 - 2 * les ps s:=by rw[aW e,bM];simp only;omega
   rw[e4];exact e
theorem Tak.uniq {ps ps' qs qs':Trs} {p p':Int} (h:Tak ps p qs) (h':Tak ps' p' qs') (e:ps.Perm ps'):p=p'/\qs.Perm qs':=by
 obtain⟨s,rest,h0,h1,h2,h3,h4⟩:=h;obtain⟨s',rest',h0',h1',h2',h3',h4'⟩:=h';have m1:(s,p - 2 * les ps s)∈ps:=h1.mem_iff.mpr aBP;have m2:(s',p' - 2 * les ps' s')∈ps':=h1'.mem_iff.mpr aBP;have a1:=h2' _ (e.mem_iff.mp m1);have a2:=h2 _ (e.mem_iff.mpr m2);have l1:=aW e s;have l2:=aW e s';simp only at a1 a2;have hp:p=p':=by omega
 subst hp;have b1:=h3' _ (e.mem_iff.mp m1);have b2:=h3 _ (e.mem_iff.mpr m2);simp only at b1 b2;have hs:s=s':=by
  rcases Int.lt_trichotomy s s' with l | l | l
  ·have:=b1 l;omega
  ·exact l
  ·have:=b2 l;omega
 subst hs;rw[<- l1]at h1';have hr:rest.Perm rest':=List.Perm.cons_inv ((h1.symm.trans e).trans h1');refine⟨rfl,?_⟩;rcases h4 with ⟨a,b⟩ | ⟨a,b⟩ <;> rcases h4' with ⟨a',b'⟩ | ⟨a',b'⟩
 ·exact b.trans (hr.trans b'.symm)
 ·omega
 ·omega
 ·refine b.trans (List.Perm.trans ?_ b'.symm);rw[aW hr];exact hr.cons _
inductive Lst:List Int->Trs->Prop
 | nil:Lst [] []
 | snoc {r:List Int} {ps:Trs} {p:Int} {qs:Trs}:Lst r ps->(∀ x∈r,x<p)->Add ps p qs->Lst (r++[p]) qs
theorem Add.ne {ps qs:Trs} {p:Int} (h:Add ps p qs):qs≠[]:=by
 obtain⟨s,rest,_,_,_,h3⟩:=h;intro e;rw[e]at h3;exact absurd h3.symm.eq_nil (by simp)
theorem Lst.perm {r:List Int} {ps qs:Trs} (h:Lst r ps) (e:ps.Perm qs):Lst r qs:=by
 cases h with
 | nil=>rw[e.symm.eq_nil];exact .nil
 | snoc a b c=>exact .snoc a b (c.perm (.refl _) e)
theorem Lst.inv {r:List Int} {p:Int} {qs:Trs} (h:Lst (r++[p]) qs):∃ ps,Lst r ps/\(∀ x∈r,x<p)/\Add ps p qs:=by
 generalize e:r++[p]=t at h;cases h with
 | nil=>simp at e
 | snoc a b c =>
  obtain⟨rfl,e2⟩:=List.append_inj' e rfl;obtain rfl:p=_:=by simpa using e2
  exact⟨_,a,b,c⟩
theorem Lst.nilr {qs:Trs} (h:Lst [] qs):qs=[]:=by
 generalize e:([]:List Int)=t at h;cases h with
 | nil=>rfl
 | snoc a b c=>simp at e
theorem Lst.bd {r:List Int} {ps:Trs} (h:Lst r ps) {n:Int}:(∀ x∈r,x<=n)->Bd ps n:=by
 induction h generalizing n with
 | nil=>intro _ q hq;cases hq
 | snoc a b c ih =>
  intro hn
  rename_i r ps p qs
  have hp:p<=n:=hn p (by simp);have:=ih (n:=p - 1) fun x hx=>by have:=b x hx;omega
  exact(c.bd this).mono hp
theorem Lst.uniq {r:List Int} {ps qs:Trs} (h:Lst r ps) (h':Lst r qs):ps.Perm qs:=by
 induction h generalizing qs with
 | nil=>rw[h'.nilr]
 | snoc a b c ih =>
  obtain⟨ps',a',b',c'⟩:=h'.inv;exact(c.perm (ih a') (.refl _)).uniq c'
theorem Lst.row {r:List Int} {ps:Trs} (h:Lst r ps) {r':List Int} {qs:Trs} (h':Lst r' qs) (e:ps.Perm qs):r=r':=by
 induction h generalizing r' qs with
 | nil =>
  cases h' with
  | nil=>rfl
  | snoc a b c=>exact absurd e.symm.eq_nil c.ne
 | snoc a b c ih =>
  cases h' with
  | nil=>exact absurd e.eq_nil c.ne
  | snoc a' b' c' =>
   rename_i r ps p qs r' ps' p'
   have bd:=a.bd (n:=p - 1) fun x hx=>by have:=b x hx;omega
   have bd':=a'.bd (n:=p' - 1) fun x hx=>by have:=b' x hx;omega
   obtain⟨rfl,e2⟩:=(c.tak bd).uniq (c'.tak bd') e;rw[ih a' e2]
theorem Lst.tak {r:List Int} {ps qs:Trs} {p:Int} (h:Lst r qs) (t:Tak ps p qs) (hp:∀ q∈ps,1<=q.1) (hr:∀ x∈r,x<p):Lst (r++[p]) ps:=.snoc h hr (t.add hp).2
def siz (ps:Trs):Int:=(ps.map (·.1)).sum
theorem jC {ps qs:Trs} (h:ps.Perm qs):siz ps=siz qs:=by
 unfold siz
 induction h with
 | nil=>rfl
 | cons x _ ih=>simp only[aBd,aBg];omega
 | swap x y l=>simp only[aBd,aBg];omega
 | trans _ _ h1 h2=>exact h1.trans h2
theorem qG (q:Int×Int) (ps:Trs):siz (q :: ps)=q.1+siz ps:=by simp[siz]
theorem Add.sizx {ps qs:Trs} {p:Int} (h:Add ps p qs):siz qs=siz ps+1:=by
 obtain⟨s,rest,h0,h1,h2,h3⟩:=h;rw[jC h3,qG];rcases h1 with ⟨a,b⟩ | ⟨a,b⟩
 ·rw[jC b];simp only;omega
 ·rw[jC b,qG];simp only;omega
theorem Lst.sizx {r:List Int} {ps:Trs} (h:Lst r ps):siz ps=(r.length:Int):=by
 induction h with
 | nil=>rfl
 | snoc a b c ih=>rw[c.sizx,ih];simp
theorem Lst.pos {r:List Int} {ps:Trs} (h:Lst r ps):∀ q∈ps,1<=q.1:=by
 obtain⟨n,hn⟩:∃ n:Int,∀ x∈r,x<=n:=by
  clear h
  induction r with
  | nil=>exact⟨0,fun x hx=>(nomatch hx)⟩
  | cons a r ih =>
   obtain⟨n,hn⟩:=ih;refine⟨max a n,fun x hx=>?_⟩;rcases aBr.mp hx with rfl | hx
   ·omega
   ·have:=hn x hx;omega
 exact fun q hq=>(h.bd hn q hq).1
end CW
namespace CW
open PySem L2
def bH (gs:List Grp):Trs:=gs.flatMap fun g=>g.2.2.map fun o=>(g.1,o)
theorem cX (g:Grp) (r:List Grp):bH (g :: r)=g.2.2.map (fun o=>(g.1,o))++bH r:=rfl
theorem wK (a b:List Grp):bH (a++b)=bH a++bH b:=by simp[bH]
theorem fV {gs:List Grp} {q:Int×Int}:q∈bH gs↔∃ g∈gs,g.1=q.1/\q.2∈g.2.2:=by
 unfold bH;rw[List.mem_flatMap]
 constructor
 ·rintro ⟨g,hg,h⟩;obtain⟨o,ho,rfl⟩:=aBt.mp h;exact⟨g,hg,rfl,ho⟩
 ·rintro ⟨g,hg,h1,h2⟩;exact⟨g,hg,aBt.mpr ⟨q.2,h2,by rw[h1]⟩⟩
theorem yH (f:Int->Int) (a b:Trs):tot f (a++b)=tot f a+tot f b:=by simp[tot]
theorem qH (f:Int->Int):∀ gs:List Grp,wgt f gs=tot f (bH gs)
 | []=>rfl
 | g :: r=>by
  rw[cM,cX,yH,qH f r]
  congr 1
  generalize g.2.2=l
  induction l with
  | nil=>simp[tot]
  | cons x l ih =>
   have:tot f ((x :: l).map fun o=>(g.1,o))=f g.1+tot f (l.map fun o=>(g.1,o)):=by simp[tot]
   rw[this,<- ih,aBh,show ((l.length+1:Nat):Int)=(l.length:Int)+1 by omega,Int.mul_add,Int.mul_one];omega
theorem mT (j k:Int):gQ j k=min j k:=by unfold gQ;split <;> omega
theorem wL (ps:Trs) (j:Int):tot (gQ j) ps=les ps j:=by
 unfold tot les
 congr 1
 exact List.map_congr_left fun q _=>mT j q.1
theorem iB (ps:Trs) (j:Int):vV ps j=les ps j:=wL ps j
theorem uI (gs:List Grp) (j:Int):wgt (gQ j) gs=les (bH gs) j:=by rw[qH,wL]
theorem pG (gs:List Grp):sto gs=siz (bH gs):=qH _ gs
theorem sX {k o:Int}:∀ {gs:List Grp},(gs.map (·.1)).Nodup->(∃ g∈gs,g.1=k)->(bH (fG k o gs)).Perm ((k,o) :: bH gs)
 | [],_,⟨g,h,_⟩=>by cases h
 | g :: r,hn,hex=>by
  have hn':=List.nodup_cons.mp hn
  by_cases h:g.1=k
  ·have hr:fG k o r=r:=nU fun x hx e=>hn'.1 (aBt.mpr ⟨x,hx,e.trans h.symm⟩);have:fG k o (g :: r)=(g.1,g.2.1,g.2.2++[o]) :: r:=by
    show (if g.1=k then (g.1,g.2.1,g.2.2++[o])else g) :: fG k o r=_;rw[if_pos h,hr]
   rw[this,cX,cX];simp only[aB2,aBd,List.map_nil,List.append_assoc,h];exact List.perm_middle
  ·have hex':∃ g∈r,g.1=k:=by
    obtain⟨x,hx,e⟩:=hex;rcases aBr.mp hx with rfl | hx
    ·exact absurd e h
    ·exact⟨x,hx,e⟩
   have ih:=sX (o:=o) hn'.2 hex';have:fG k o (g :: r)=g :: fG k o r:=by
    show (if g.1=k then (g.1,g.2.1,g.2.2++[o])else g) :: fG k o r=_;rw[if_neg h]
   rw[this,cX,cX];exact(ih.append_left _).trans List.perm_middle
theorem gX {H:Hp} {k o:Int} {gs gs':List Grp} (hn:(gs.map (·.1)).Nodup) (h:qE H k o gs gs'):(bH gs').Perm ((k,o) :: bH gs):=by
 rcases h with ⟨hg,rfl⟩ | ⟨_,z,_,rfl⟩
 ·exact sX hn hg
 ·rw[wK];exact List.perm_append_comm
theorem nW:∀ {gs:List Grp},(gs.map (·.1)).Nodup->∀ {g:Grp} (_:g∈gs) (hne:g.2.2≠[]),(bH gs).Perm ((g.1,g.2.2.getLast hne) :: bH (pops g.1 gs))
 | [],_,g,hg,_=>by cases hg
 | x :: r,hn,g,hg,hne=>by
  have hn':=List.nodup_cons.mp hn;have e0:pops g.1 (x :: r)=(if x.1=g.1 then (x.1,x.2.1,x.2.2.dropLast)else x) :: pops g.1 r:=rfl;rw[e0]
  by_cases h:x.1=g.1
  ·have hx:x=g:=cK (f:=fun g:Grp=>g.1) hn aBP hg h;subst hx;rw[if_pos rfl,nV fun y hy e=>hn'.1 (aBt.mpr ⟨y,hy,e⟩),cX,cX];have e1:x.2.2.map (fun o=>(x.1,o))=x.2.2.dropLast.map (fun o=>(x.1,o))++[(x.1,x.2.2.getLast hne)]:=by
    conv=>lhs;rw[<- List.dropLast_concat_getLast hne]
    rw[aB2];rfl
   rw[e1,List.append_assoc];exact List.perm_middle
  ·have hg':g∈r:=by
    rcases aBr.mp hg with e | e
    ·exact absurd (by rw[e]) h
    ·exact e
   rw[if_neg h,cX,cX];exact((nW hn'.2 hg' hne).append_left _).trans List.perm_middle
theorem sY {k:Int}:∀ {gs:List Grp},(∀ g∈gs,g.1=k->g.2.2=[])->bH (outs k gs)=bH gs
 | [],_=>rfl
 | g :: r,h=>by
  have ih:=sY (k:=k) (gs:=r) fun x hx=>h x (aBQ _ hx);unfold outs at ih ⊢;rw[List.filter_cons,cX]
  by_cases e:g.1=k
  ·have:=h g aBP e;rw[if_neg (by simp[e]),ih,this];rfl
  ·rw[if_pos (by simp[e]),cX,ih]
theorem wM {gs:List Grp} (hn:(gs.map (·.1)).Nodup) {g:Grp} (hg:g∈gs) (hne:g.2.2≠[]):(bH gs).Perm ((g.1,g.2.2.getLast hne) :: bH (shr g.1 gs)):=by
 unfold shr;split
 ·next h =>
  obtain⟨x,hx,hp⟩:=List.any_eq_true.mp h;simp only[Bool.and_eq_true,decide_eq_true_eq,List.isEmpty_iff]at hp;rw[sY fun y hy e=>?_]
  ·exact nW hn hg hne
  have:y=x:=cK (f:=fun g:Grp=>g.1) (by rw[kO];exact hn) hy hx (e.trans hp.1.symm);rw[this];exact hp.2
 ·exact nW hn hg hne
def Asc (gs:List Grp):Prop:=∀ g∈gs,g.2.2.Pairwise (·<=·)
theorem Asc.last {gs:List Grp} (h:Asc gs) {g:Grp} (hg:g∈gs) (hne:g.2.2≠[]) {o:Int} (ho:o∈g.2.2):o<=g.2.2.getLast hne:=by
 have hp:=h g hg;rw[<- List.dropLast_concat_getLast hne]at ho hp;rcases aBs.mp ho with h1 | h1
 ·exact(List.pairwise_append.mp hp).2.2 o h1 _ (by simp)
 ·rw[aBk.mp h1];exact Int.le_refl _
theorem Asc.shr {gs:List Grp} (h:Asc gs) (k:Int):Asc (shr k gs):=by
 have hp:Asc (pops k gs):=fun x hx=>by
  obtain⟨g,hg,e1,e2,e3⟩:=mQ hx;rw[e3];split
  ·exact(h g hg).sublist (List.dropLast_sublist _)
  ·exact h g hg
 intro x hx;unfold CW.shr at hx;split at hx
 ·exact hp x (aBu.mp hx).1
 ·exact hp x hx
theorem Asc.puts {H:Hp} {k o:Int} {gs gs':List Grp} (h:Asc gs) (hp:qE H k o gs gs') (hle:∀ q∈bH gs,q.1=k->q.2<=o):Asc gs':=by
 rcases hp with ⟨hg,rfl⟩ | ⟨_,z,_,rfl⟩
 ·intro x hx;obtain⟨g0,h0,rfl⟩:=aBt.mp hx
  by_cases e:g0.1=k
  ·rw[if_pos e];refine List.pairwise_append.mpr ⟨h g0 h0,by simp,fun a ha b hb=>?_⟩;rw[aBk.mp hb];exact hle (g0.1,a) (fV.mpr ⟨g0,h0,rfl,ha⟩) e
  ·rw[if_neg e];exact h g0 h0
 ·intro x hx;rcases aBs.mp hx with hx | hx
  ·exact h x hx
  ·rw[aBk.mp hx];simp
theorem uJ {gs:List Grp} (k:Int) (h:(gs.map (·.1)).Nodup):((shr k gs).map (·.1)).Nodup:=by
 unfold shr;split
 ·exact(show ((pops k gs).map (·.1)).Nodup by rw[kO];exact h).sublist (List.filter_sublist.map _)
 ·rw[kO];exact h
theorem yI {H:Hp} {gs gs':List Grp} {p s:Int} (hn:(gs.map (·.1)).Nodup) (gd:GoodG gs) (ac:Asc gs) (bd:Bd (bH gs) (p - 1)) {gs1:List Grp}
 (hs:s=0/\gs1=gs\/1<=s/\∃ g∈gs,∃ hne:g.2.2≠[],g.1=s/\g.2.2.getLast hne=p - 1 - 2 * les (bH gs) s/\gs1=shr s gs)
 (htop:∀ g∈gs,∀ hne:g.2.2≠[],s<g.1->g.2.2.getLast hne≠p - 1 - 2 * les (bH gs) g.1)
 (hp:qE H (s+1) (p - 2 * les (bH gs1) (s+1) - 2 * (s+1)) gs1 gs'):Add (bH gs) p (bH gs')/\Asc gs'/\GoodG gs':=by
 have ha:Add (bH gs) p (bH gs'):=by
  refine⟨s,bH gs1,?_,?_,fun q hq hlt e=>?_,?_⟩
  ·rcases hs with h | h <;> omega
  ·rcases hs with ⟨h,rfl⟩ | ⟨h,g,hg,hne,e1,e2,rfl⟩
   ·exact .inl ⟨h,.refl _⟩
   ·refine .inr ⟨h,?_⟩;have:=wM hn hg hne;rw[e1,e2]at this;exact this
  ·obtain⟨g,hg,e1,e2⟩:=fV.mp hq;have hne:=(gd g hg).2;have h1:=ac.last hg hne e2;have h2:=(bd (g.1,g.2.2.getLast hne) (fV.mpr ⟨g,hg,rfl,List.getLast_mem hne⟩)).2;simp only at h2;rw[<- e1]at e hlt;exact htop g hg hne hlt (by omega)
  ·have hn1:(gs1.map (·.1)).Nodup:=by
    rcases hs with ⟨h,rfl⟩ | ⟨h,g,hg,hne,e1,e2,rfl⟩
    ·exact hn
    ·exact uJ s hn
   exact gX hn1 hp
 have hb:=ha.bd bd;have hn1:(gs1.map (·.1)).Nodup/\Asc gs1/\GoodG gs1:=by
  rcases hs with ⟨h,rfl⟩ | ⟨h,g,hg,hne,e1,e2,rfl⟩
  ·exact⟨hn,ac,gd⟩
  ·exact⟨uJ s hn,ac.shr s,gd.shr s⟩
 have hfp:=gX hn1.1 hp;refine⟨ha,hn1.2.1.puts hp fun q hq e=>?_,hn1.2.2.puts (by rcases hs with h | h <;> omega) hp⟩;have h1:=(hb q (hfp.mem_iff.mpr (aBQ _ hq))).2;rw[aW hfp,bM,e]at h1;simp only at h1;omega
theorem qI {H:Hp} {gs gs':List Grp} {p:Int} (hn:(gs.map (·.1)).Nodup) (gd:GoodG gs) (ac:Asc gs) {g:Grp} (hg:g∈gs) (hne:g.2.2≠[]) (hp:g.2.2.getLast hne+2 * les (bH gs) g.1=p)
 (htop:∀ x∈gs,∀ hx:x.2.2≠[],x.2.2.getLast hx+2 * les (bH gs) x.1<=p/\(x.1<g.1->x.2.2.getLast hx+2 * les (bH gs) x.1<p))
 (hq:g.1=1/\gs'=shr g.1 gs\/2<=g.1/\qE H (g.1 - 1) (p - 1 - 2 * les (bH (shr g.1 gs)) (g.1 - 1) - 2 * (g.1 - 1)) (shr g.1 gs) gs'):Tak (bH gs) p (bH gs')/\Asc gs'/\GoodG gs':=by
 have hn1:=uJ g.1 hn;have hfs:=wM hn hg hne;have hpos:∀ q∈bH gs,1<=q.1:=fun q hq=>by
  obtain⟨x,hx,e1,_⟩:=fV.mp hq;rw[<- e1];exact(gd x hx).1
 have hlast:g.2.2.getLast hne=p - 2 * les (bH gs) g.1:=by omega
 have ht:Tak (bH gs) p (bH gs'):=by
  refine⟨g.1,bH (shr g.1 gs),(gd g hg).1,by rw[<- hlast];exact hfs,fun q hq=>?_,fun q hq hl=>?_,?_⟩
  ·obtain⟨x,hx,e1,e2⟩:=fV.mp hq;have h1:=ac.last hx (gd x hx).2 e2;have h2:=(htop x hx (gd x hx).2).1;rw[<- e1];omega
  ·obtain⟨x,hx,e1,e2⟩:=fV.mp hq;have h1:=ac.last hx (gd x hx).2 e2;have h2:=(htop x hx (gd x hx).2).2 (by rw[e1];exact hl);rw[<- e1];omega
  ·rcases hq with ⟨h,rfl⟩ | ⟨h,h2⟩
   ·exact .inl ⟨h,.refl _⟩
   ·exact .inr ⟨h,gX hn1 h2⟩
 refine⟨ht,?_⟩;obtain⟨hb,_⟩:=ht.add hpos;rcases hq with ⟨h,rfl⟩ | ⟨h,h2⟩
 ·exact⟨ac.shr _,gd.shr _⟩
 ·have hfp:=gX hn1 h2;refine⟨(ac.shr _).puts h2 fun q hq e=>?_,(gd.shr _).puts (by omega) h2⟩;have h1:=(hb q (hfp.mem_iff.mpr (aBQ _ hq))).2;rw[aW hfp,bM,e]at h1;simp only at h1;omega
def lng (b:Int) (gs:List Grp):Int:=wgt (fun k=>if b<k then 1 else 0) gs
theorem uK (f h:Int->Int):∀ gs:List Grp,wgt (fun k=>f k+h k) gs=wgt f gs+wgt h gs
 | []=>rfl
 | g :: r=>by
  rw[cM,cM,cM,uK f h r];have:(f g.1+h g.1) * (g.2.2.length:Int)=f g.1 * (g.2.2.length:Int)+h g.1 * (g.2.2.length:Int):=Int.add_mul ..;omega
theorem A8 (c:Int) (f:Int->Int):∀ gs:List Grp,wgt (fun k=>c * f k) gs=c * wgt f gs
 | []=>by simp[wgt]
 | g :: r=>by rw[cM,cM,A8 c f r,Int.mul_add,Int.mul_assoc]
theorem lH {f h:Int->Int} {gs:List Grp} (e:∀ g∈gs,f g.1=h g.1):wgt f gs=wgt h gs:=by
 unfold wgt
 congr 1
 exact List.map_congr_left fun g hg=>by rw[e g hg]
theorem qJ:∀ gs:List Grp,wgt (fun _=>0) gs=0
 | []=>rfl
 | g :: r=>by rw[cM,qJ r];simp
theorem yJ {gs:List Grp} {b m:Int} (hbm:b<=m) (h:∀ g∈gs,b<g.1->m<=g.1):wgt (gQ m) gs=wgt (gQ b) gs+(m - b) * lng b gs:=by
 unfold lng;rw[<- A8,<- uK];refine lH fun g hg=>?_;rw[mT,mT];have:=h g hg;split
 ·have:=this (by assumption);omega
 ·omega
theorem R7 {gs:List Grp} {b m:Int} (hbm:b<m) (h:∀ g∈gs,b<g.1->m<=g.1) (hn:(gs.map (·.1)).Nodup) {g:Grp} (hg:g∈gs) (hm:g.1=m):lng m gs=lng b gs - (g.2.2.length:Int):=by
 have h1:lng b gs=lng m gs+wgt (fun k=>if k=m then 1 else 0) gs:=by
  unfold lng;rw[<- uK];refine lH fun x hx=>?_;have:=h x hx
  by_cases c:b<x.1
  ·have:=this c;rw[if_pos c]
   by_cases d:x.1=m
   ·rw[if_neg (by omega),if_pos d];omega
   ·rw[if_pos (by omega),if_neg d];omega
  ·rw[if_neg c,if_neg (by omega),if_neg (by omega)];omega
 have h2:wgt (fun k=>if k=m then 1 else 0) gs=(g.2.2.length:Int):=by
  clear h1 h
  induction gs with
  | nil=>cases hg
  | cons x r ih =>
   have hn':=List.nodup_cons.mp hn;rw[cM];rcases aBr.mp hg with e | e
   ·subst e;have:wgt (fun k=>if k=m then 1 else 0) r=0:=by
     have:wgt (fun k=>if k=m then 1 else 0) r=wgt (fun _=>0) r:=lH fun y hy=>if_neg fun z=>hn'.1 (aBt.mpr ⟨y,hy,by show y.1=g.1;omega⟩);rw[this];exact qJ r
    rw[this,if_pos hm];omega
   ·have hx:x.1≠m:=fun z=>hn'.1 (aBt.mpr ⟨g,e,by show g.1=x.1;omega⟩);rw[if_neg hx,ih hn'.2 e];omega
 omega
theorem R8 {gs:List Grp} (gd:GoodG gs):lng 0 gs=(gs.map (fun g:Grp=>(g.2.2.length:Int))).sum:=by
 unfold lng wgt
 congr 1
 exact List.map_congr_left fun g hg=>by show (if 0<g.1 then (1:Int)else 0) * _=_;rw[if_pos (by have:=(gd g hg).1;omega)];omega
theorem R9 {gs:List Grp} (gd:GoodG gs):wgt (gQ 0) gs=0:=by
 have:wgt (gQ 0) gs=wgt (fun _=>0) gs:=lH fun g hg=>by rw[mT];have:=(gd g hg).1;omega
 rw[this];exact qJ gs
end CW
namespace L2
open PySem PySem.Spec PyProof.Rows
def A9 (J:It) (σ0:St) (g:TG) (tt:TT) (te:TE) (ys0:List V) (N:List V->Hp->Prop) (H1:Hp):Prop:=∃ W:Nat->Nat->List V->Hp->Prop,(∃ m,W 0 m ys0 H1)/\∀ i m ys H,W i m ys H ->
 ys.length<sizeLine/\((J.stop i H/\N ys H) \/
  (J.go i H/\∃ N':List V->Hp->Prop,(∀ ys' H',N' ys' H'->∃ m',m'<m/\W (i+1) m' ys' H')/\∀ x H',J.yld i H x H'->g x σ0 H' fun σ2 H2=>tt σ2 H2 fun b H3 =>
   if b=true then te σ2 H3 fun y H4=>N' (ys++[y]) H4 else N' ys H3))
def yK (J:It) (σ0:St) (g:TG) (tt:TT) (wi:TI) (g2:TG) (tt2:TT) (te:TE) (Q:VK) (H1:Hp):Prop:=∃ W:Nat->Nat->List V->Hp->Prop,(∃ m,W 0 m [] H1)/\∀ i m ys H,W i m ys H ->
 ys.length<sizeLine/\((J.stop i H/\∀ D,H D=none->Q (.ref D) (upd H D (.lst ys))) \/
  (J.go i H/\∃ N:List V->Hp->Prop,(∀ ys' H',N ys' H'->∃ m',m'<m/\W (i+1) m' ys' H')/\∀ x H',J.yld i H x H'->g x σ0 H' fun σ2 H2=>tt σ2 H2 fun b H3 =>
   if b=true then wi σ2 H3 fun J2 H4=>A9 J2 σ2 g2 tt2 te ys N H4 else N ys H3))
def x5 (wi:TI) (nt:Nat) (js:List Nat) (g:TG) (tt:TT) (wi2:TI) (g2:TG) (tt2:TT) (te:TE):TE:=fun σ H Q=>wi σ H fun J H1=>yK J (sIn nt js σ) g tt wi2 g2 tt2 te Q H1
def GR (lo hi:Nat) (g:TG):Prop:=∀ v σ H Q,g v σ H Q->g v σ H fun σ' H'=>((∀ i,(i<lo\/hi<=i)->σ'[i]?=σ[i]?)/\σ'.length=σ.length)/\Q σ' H'
theorem Z8 {lo hi i:Nat} (h:lo<=i) (h2:i<hi):GR lo hi (rZ i):=fun v σ H Q q=>⟨⟨fun j hj=>by rw[List.getElem?_set_ne (by omega)],by simp⟩,q⟩
theorem oW (elt t1 i1 t2 i2:Expr) (f1 f2:List Expr) (scope:Scope) (pos:Pos) (it acc:Value) (env:Env) :
 compTurn (.ListComp elt [⟨t1,i1,f1,0⟩,⟨t2,i2,f2,0⟩] scope pos) 0 it acc env=(do
  standAt i1.pos
  match <- pyNext it with
  | none=>pure (.done .next)
  | some v =>
   letOwnedTupleGo t1 it v
   assign t1 env v
   let mut ok:=true
   for c in f1 do
    if ok then ok <- isTrue c env (eval c env)
   if ok then
    let x <- eval i2 env
    standAt i2.pos
    let x <- foldedSetIterable i2 env x
    let _ <- runOwn (.compStart (.ListComp elt [⟨t1,i1,f1,0⟩,⟨t2,i2,f2,0⟩] scope pos) 1 (<- holding [x] (pyIter x)) acc env) env
   again (.compLoop (.ListComp elt [⟨t1,i1,f1,0⟩,⟨t2,i2,f2,0⟩] scope pos) 0 it acc env)):=by rfl
theorem oX (elt t1 i1 t2 i2:Expr) (f1 f2:List Expr) (scope:Scope) (pos:Pos) (it acc:Value) (env:Env) :
 compTurn (.ListComp elt [⟨t1,i1,f1,0⟩,⟨t2,i2,f2,0⟩] scope pos) 1 it acc env=(do
  standAt i2.pos
  match <- pyNext it with
  | none=>pure (.done .next)
  | some v =>
   letOwnedTupleGo t2 it v
   assign t2 env v
   let mut ok:=true
   for c in f2 do
    if ok then ok <- isTrue c env (eval c env)
   if ok then
    (do let _ <- call (.builtin "list.append") [acc,<- eval elt env])
   again (.compLoop (.ListComp elt [⟨t1,i1,f1,0⟩,⟨t2,i2,f2,0⟩] scope pos) 1 it acc env)):=by rfl
theorem jD {prog:Program} {w:World} {A:Around} {R:Result->Shared->Prop} {s:Shared} {elt g1 target iter ifs rest scope pos it acc env}
 (h0:codeAny (model prog w) A (.compLoop (.ListComp elt (g1 :: ⟨target,iter,ifs,0⟩ :: rest) scope pos) 1 it acc env) R s)
 (h:wpAny (model prog w) A (pyIter it) (fun it' s'=>codeAny (model prog w) A (.compLoop (.ListComp elt (g1 :: ⟨target,iter,ifs,0⟩ :: rest) scope pos) 1 it' acc env) R s')
  (notedBy (model prog w) A env fun x s'=>R (.error x) s') s) :
 codeAny (model prog w) A (.compStart (.ListComp elt (g1 :: ⟨target,iter,ifs,0⟩ :: rest) scope pos) 1 it acc env) R s:=by
 refine codeAny_of_tree ?_;show wpAny _ _ ((compStart (.ListComp elt (g1 :: ⟨target,iter,ifs,0⟩ :: rest) scope pos) 1 it acc env).onRaise (fun x=>do noteFrame x env;standAt theWindowsPlace)) _ _ s;refine wpAny_notedAt ?_;unfold compStart;show wpAny _ _ (ask >>= _) _ _ s;refine aBL (wpAny_askSetting (wpAny_ite ?_));split
 ·first
   | exact aBL (aBM (aBM (And.intro rfl h0)))
   | exact aBM (And.intro rfl h0)
 ·first
   | exact aBL (wpAny_rule (aBL (wpAny_standAt (aBL (wpAny_mono h (fun it' s' h'=>aBM (And.intro rfl h')) fun _ _ x=>x)))))
   | (refine aBL (wpAny_rule ?_);show wpAny _ _ (standAt iter.pos >>= _) _ _ s;exact aBL (wpAny_standAt (aBL (wpAny_mono h (fun it' s' h'=>aBM (And.intro rfl h')) fun _ _ x=>x))))
theorem yL {X:Cx} {pl:List (Addr×Obj)} {σ:St} {elt t1 i1 tg iter:Expr} {f1 ifs:List Expr} {inn:Scope} {pos:Pos} {g:TG} {tt:TT} {te:TE} {lo hi:Nat} {J:It} {fp:List Addr} {it:Addr} {tn:Nat->Heap->Prop} {H2:Hp} {s2:Shared} {ys0:List V} {N:List V->Hp->Prop} {RR:Result->Shared->Prop} {D:Addr}
 (hcalm:X.calm=true) (hxe:X.xe=fun _ _=>False) (DX:D∈X.ex) (Dl:D≠X.env.locals) (hpl:∀ p∈X.pn++pl,p.1≠D) (hDf:D∉fp)
 (hgX:PG X tg g) (hk:GR lo hi g) (htX:PIf X ifs tt) (heX:PE X elt te) (hσ:∀ i v,lo<=i->i<hi->σ[i]?≠some (some v))
 (I2:Inv X pl σ H2 s2) (T:tR X.prog X.w X.K tg J fp it tn) (st2:tn 0 s2.heap) (f2:∀ b∈fp,jZ X pl H2 b) (fD2:H2 D=none) {its0:List Value} {c0:Nat} (rv0:Vals ys0 its0) (eD0:s2.heap.get? D=some { cls:=.type "list",data:=.seq its0.toArray c0 })
 (R:A9 J σ g tt te ys0 N H2)
 (hRR:∀ s' H' ys its c,Inv X pl σ H' s'->Vals ys its->s'.heap.get? D=some { cls:=.type "list",data:=.seq its.toArray c }->H' D=none->N ys H'->RR (.ok .next) s') :
 codeAny (model X.prog X.w) X.A (.compStart (.ListComp elt [⟨t1,i1,f1,0⟩,⟨tg,iter,ifs,0⟩] inn pos) 1 (.ref it) (.ref D) X.env) RR s2:=by
 have okX:=I2.ok;obtain⟨W,⟨m0,w0⟩,turn⟩:=R;have stat:∀ {H':Hp} {ql:List (Addr×Obj)},(∀ b∈fp,H' b=none)->(∀ p∈ql,p.1=D)->∀ b∈fp,jZ X (pl++ql) H' b:=fun {H' ql} hn hql b hb=>by
  obtain⟨_,a1,a2,a3,a4,a5⟩:=f2 b hb;refine⟨hn b hb,a1,a2,a3,a4,fun p hp=>?_⟩;rw[<- List.append_assoc]at hp;rcases aBs.mp hp with hp | hp
  ·exact a5 p hp
  ·rw[hql p hp];intro e;exact hDf (e ▸ hb)
 have loop:codeAny (model X.prog X.w) X.A (.compLoop (.ListComp elt [⟨t1,i1,f1,0⟩,⟨tg,iter,ifs,0⟩] inn pos) 1 (.ref it) (.ref D) X.env) RR s2:=by
  refine codeAny_loop rfl (fun n s'=>∃ i ys H',Inv X pl σ H' s'/\tn i s'.heap/\(∀ b∈fp,H' b=none)/\H' D=none/\(∃ (its:List Value) (c:Nat),Vals ys its/\s'.heap.get? D=some { cls:=.type "list",data:=.seq its.toArray c })/\W i n ys H') ?_ m0
   ⟨0,ys0,H2,I2,st2,fun b hb=>(f2 b hb).1,fD2,⟨its0,c0,rv0,eD0⟩,w0⟩
  rintro n s5 ⟨i,ys,H5,I5,st5,fr5,fD5,⟨its,c,rv,eD⟩,w5⟩;show wpAny _ X.A ((compTurn (.ListComp elt [⟨t1,i1,f1,0⟩,⟨tg,iter,ifs,0⟩] inn pos) 1 (.ref it) (.ref D) X.env).onRaise (fun x=>do noteFrame x X.env;theTreesLotGoes x)) _ _ s5;refine wpAny_noted ?_;rw[oX];refine aBL (wpAny_standAt (aBL ?_));have pinD:Inv X (pl++cS [D] s5.heap) σ H5 s5:=by
   refine I5.pinned (fp:=[D]) (fun b hb=>?_) (fun b hb=>?_)
   ·have e:b=D:=by simpa using hb
    subst e;exact⟨fD5,Dl,fun z=>okX.exfs b DX z,.inl DX,(okX.exf b DX).2,hpl⟩
   ·have e:b=D:=by simpa using hb
    subst e;exact⟨_,eD,fun v z=>by cases z⟩
  have plD:∀ p∈cS [D] s5.heap,p.1=D:=fun p hp=>by simpa using (iW hp).1
  have memD:(D,({ cls:=.type "list",data:=.seq its.toArray c }:Obj))∈cS [D] s5.heap:=cH (by simp) eD;obtain⟨hz,tn5⟩:=turn i n ys H5 w5;rcases tn5 with ⟨stop,fin⟩ | ⟨go,N',hN,step⟩
  ·have q:=T.done X rfl rfl rfl hcalm i _ s5 _ H5 (notedBy (model X.prog X.w) X.A X.env fun e s'=>RR (.error e) s') pinD (stat fr5 plD) st5 stop;refine wpAny_mono q (fun r s6 ⟨hr,I6⟩=>?_) fun _ _ z=>z;subst hr;refine aBM ?_;have eD6:=(I6.pin (D,_) (aBR _ (aBR _ memD))).1;exact hRR s6 H5 ys its c (I6.pins_of fun p hp=>I6.pin p (aBR _ (aB7 _ hp))) rv eD6 fD5 fin
  ·have q:=T.item X rfl rfl rfl hcalm i _ s5 _ H5 (notedBy (model X.prog X.w) X.A X.env fun e s'=>RR (.error e) s') pinD (stat fr5 plD) st5 go;refine wpAny_mono q (fun r s6 ⟨u,hr,h6⟩=>?_) fun _ _ z=>z;subst hr;refine aBL (wpAny_mono h6 (fun _ s7 ⟨x,H7,I7,r7,y7,st7,fr7⟩=>?_) fun _ _ z=>z);have I7':=I7.pinned (fp:=fp) (fun b hb=>stat fr7 plD b hb) (T.obj _ _ st7);have q8:=hgX _ s7 _ H7 x u _ I7' r7 (hk x _ H7 _ (step x H7 y7));rw[hxe]at q8;refine aBL (wpAny_mono q8 (fun _ s8 ⟨σ8,H8,I8,⟨k8,l8⟩,q8⟩=>?_) fun _ _ z=>z.elim);have q9:=htX _ s8 σ8 H8 _ I8 q8;rw[hxe]at q9;refine aBL (wpAny_mono q9 (fun ok s9 ⟨H9,I9,q9⟩=>?_) fun _ _ z=>z.elim);have keepσ:∀ (j:Nat) v,σ[j]?=some (some v)->σ8[j]?=some (some v):=fun j v e=>by
    by_cases hj:j<lo\/hi<=j
    ·rw[k8 j hj];exact e
    ·exact absurd e (hσ j v (by omega) (by omega))
   have ends:∀ {H9:Hp} {s9:Shared} {ys':List V},Inv X ((pl++cS [D] s5.heap)++cS fp s7.heap) σ8 H9 s9->∀ {h':Heap} {its':List Value} {c':Nat},(∀ b o,b≠D->s9.heap.get? b=some o->h'.get? b=some o)->Vals ys' its'->h'.get? D=some { cls:=.type "list",data:=.seq its'.toArray c' }->N' ys' H9 ->
    ∀ tk,∃ m,m<n/\∃ i ys H',Inv X pl σ H' { s9 with heap:=h',toks:=tk }/\tn i h'/\(∀ b∈fp,H' b=none)/\H' D=none/\(∃ (its:List Value) (c:Nat),Vals ys its/\h'.get? D=some { cls:=.type "list",data:=.seq its.toArray c })/\W i m ys H':=fun {H9 s9 ys'} I9 {h' its' c'} kp rv' eD' n9 tk=>by
    obtain⟨m',hm,w9⟩:=hN ys' H9 n9;have fD9:H9 D=none:=(I9.pin (D,_) (aBR _ (aB7 _ (aBR _ memD)))).2.1;have fr9:∀ b∈fp,H9 b=none:=fun b hb=>by
     obtain⟨o,e,d⟩:=T.obj _ _ st7 b hb;exact(I9.pin (b,o) (aBR _ (aBR _ (cH hb e)))).2.1
    have I10:Inv X pl σ8 H9 s9:=I9.pins_of fun p hp=>I9.pin p (aBR _ (aB7 _ (aB7 _ hp)));have I11:Inv X pl σ8 H9 { s9 with heap:=h',toks:=tk }:=I10.turned (it:=D) kp fD9 Dl (.inl DX) (okX.exf D DX).2 hpl;refine⟨m',hm,i+1,ys',H9,I11.weak l8.symm keepσ,T.keep _ _ _ st7 fun b hb o e=>kp b o (fun z=>hDf (z ▸ hb)) (I9.pin (b,o) (aBR _ (aBR _ (cH hb e)))).1,fr9,fD9,⟨its',c',rv',eD'⟩,w9⟩
   cases ok with
   | false =>
    rw[if_neg aB0]at q9;have eD9:=(I9.pin (D,_) (aBR _ (aB7 _ (aBR _ memD)))).1;exact aBM ⟨rfl,ends I9 (h':=s9.heap) (fun _ _ _ e=>e) rv eD9 q9 s9.toks⟩
   | true =>
    rw[if_pos rfl]at q9;have q10:=heX _ s9 σ8 H9 _ I9 q9;rw[hxe]at q10;refine aBL (aBL (wpAny_mono q10 (fun v s10 ⟨y,H10,I10,r10,q10⟩=>?_) fun _ _ z=>z.elim));have eD10:=(I10.pin (D,_) (aBR _ (aB7 _ (aBR _ memD)))).1;have hlen:=rv.length;refine aBL (wpAny_list_append_plain (items:=its.toArray) ⟨c,eD10⟩ (fun h' hl hs=>aBM (aBM ⟨rfl,?_⟩)) (by rw[aBV];omega));obtain⟨c',e'⟩:=hl;have e'':h'.get? D=some { cls:=.type "list",data:=.seq (its++[v]).toArray c' }:=by rw[e'];simp
    exact ends I10 (h':=h') (fun b o hb e=>hs.extBut b o hb e) (rv.append (.cons r10 .nil)) e'' q10 s10.toks
 refine jD loop ?_;exact T.self X.A 0 _ _ _ st2 loop
section
variable {X:Cx} {pins:List (Addr×Obj)} {σ:St} {inn:Scope} {js:List Nat} {cs ts:List Str} {nt lo:Nat} {elt tg iter t2 i2:Expr} {ifs f2:List Expr} {pos:Pos} {g g2:TG} {tt tt2:TT} {te:TE} {wi wi2:TI}
theorem yM {J:It} {fp:List Addr} {it:Addr} {tn:Nat->Heap->Prop} {H2:Hp} {s2:Shared} {E:Value->Shared->Prop} {Q:VK} {RR:Value->Addr->Result->Shared->Prop}
 (hcalm:X.calm=true) (O:CompOk X.env.scope inn X.N js cs) (hts:ts.length=nt)
 (hlo:lo<=nt) (hg:∀ s₀ H₀ ex,PG (fT X inn (ts++cs) s₀ H₀ ex) tg g) (hk:GK lo g) (hi2:∀ s₀ H₀ ex,PI (fT X inn (ts++cs) s₀ H₀ ex) t2 i2 wi2) (hg2:∀ s₀ H₀ ex,PG (fT X inn (ts++cs) s₀ H₀ ex) t2 g2) (hk2:GR lo nt g2) (ht2:∀ s₀ H₀ ex,PIf (fT X inn (ts++cs) s₀ H₀ ex) f2 tt2) (hs2:∀ env x,foldedSetIterable i2 env x=pure x) (ht:∀ s₀ H₀ ex,PIf (fT X inn (ts++cs) s₀ H₀ ex) ifs tt) (he:∀ s₀ H₀ ex,PE (fT X inn (ts++cs) s₀ H₀ ex) elt te)
 (I2:Inv X pins σ H2 s2) (T:tR X.prog X.w X.K tg J fp it tn) (st2:tn 0 s2.heap) (fo:∀ b∈fp,jZ X pins H2 b)
 (R:yK J (sIn nt js σ) g tt wi2 g2 tt2 te Q H2)
 (hRR:∀ D C s' H',Inv X pins σ H' s'->(∃ m,s'.heap.Ns C m)->H' C=none->C≠X.env.locals->X.s₀.heap.objs.size<=C->(∀ x c,X.env.cells.lookup x=some c->c≠C)->(∀ p∈X.pn++pins,p.1≠C)->Q (.ref D) H'->RR (.ref D) C (.ok .next) s') :
 wpAny (model X.prog X.w) X.A (newList []) (fun acc s₃=>wpAny (model X.prog X.w) X.A (newFunctionEnv inn X.env.globals (kC inn X.env) [] X.env.qual none .none (some X.env)) (fun cenv s₄ =>
  codeAny (model X.prog X.w) X.A (.compStart (.ListComp elt [⟨tg,iter,ifs,0⟩,⟨t2,i2,f2,0⟩] inn pos) 0 (.ref it) acc { cenv with scope:=relabel inn X.env }) (RR acc cenv.locals) s₄) E s₃) E s2:=by
 refine wpAny_newObj_type (wpAny_newFunctionEnv O.nocell (by intro y hy;simp at hy) (fun h₁ hns₁ hsb₁=>?_) O.kind);dsimp only at hns₁ hsb₁ ⊢;generalize hD:s2.heap.objs.size=D;have I3:Inv X pins σ H2 { s2 with heap:=s2.heap.push { cls:=.type "list",dict:=none,data:=.seq ([]:List Value).toArray } }:=I2.kept (t':=s2.toks) fun b o e=>aBO _ e;generalize hs3:({ s2 with heap:=s2.heap.push { cls:=.type "list",dict:=none,data:=.seq ([]:List Value).toArray } }:Shared)=s3 at I3;have e3:s3.heap=s2.heap.push { cls:=.type "list",dict:=none,data:=.seq ([]:List Value).toArray }:=by rw[<- hs3]
 have hD3:s3.heap.get? D=some { cls:=.type "list",dict:=none,data:=.seq ([]:List Value).toArray }:=by rw[e3,<- hD];exact aBU _ rfl
 have hsz3:s3.heap.objs.size=D+1:=by rw[e3,Heap.size_push,hD]
 have e3':(s2.heap.push { cls:=.type "list",dict:=none,data:=.seq ([]:List Value).toArray })=s3.heap:=e3.symm;rw[e3']at hns₁ hsb₁ ⊢;have fH2D:H2 D=none:=I2.hok.fresh (by rw[hD];exact Nat.le_refl _);have up:∀ b o,s3.heap.get? b=some o->h₁.get? b=some o:=fun b o e=>hsb₁.extBut b o (aBb (aBT e)) (aBO _ e);have fpo:∀ b∈fp,b<s3.heap.objs.size/\b≠D:=fun b hb=>by
  obtain⟨o,eo,_⟩:=T.obj 0 _ st2 b hb;have h1:=aBT eo;rw[hD]at h1;exact⟨by rw[hsz3];exact Nat.lt_succ_of_lt h1,aBb h1⟩
 have nb:∀ b,X.s₀.heap.objs.size<=b->∀ o,X.base.get? b≠some o:=fun b hb o e=>absurd (aB4 (aBT e) (Nat.le_trans I2.ok.bsz hb)) (Nat.lt_irrefl _);have dge:s2.heap.objs.size<=D:=by rw[hD];exact Nat.le_refl _
 have fD:jZ X pins H2 D:=I2.fpOk dge fH2D;have hex:∀ b∈D :: fp,b<s3.heap.objs.size/\b≠X.env.locals/\b∉X.fs/\(∀ x c,X.env.cells.lookup x=some c->c≠b)/\∀ o,X.base.get? b≠some o:=fun b hb=>by
  rcases aBr.mp hb with rfl | hb
  ·exact⟨by rw[hsz3];exact Nat.lt_succ_self _,fD.2.1,fD.2.2.1,fD.2.2.2.2.1,nb _ (Nat.le_trans I2.sz dge)⟩
  ·obtain⟨f0,f1,f2',f3,f4,f5⟩:=fo b hb;refine⟨(fpo b hb).1,f1,f2',f4,fun o e=>?_⟩;rcases f3 with z | z
   ·exact I2.ok.noex b o e z
   ·exact nb b z o e
 have hC:s3.heap.objs.size=s3.heap.objs.size:=rfl;generalize hXi:fT X inn (ts++cs) s3 H2 (D :: fp)=Xi;have I4:Inv Xi [] (sIn nt js σ) H2 { s3 with heap:=h₁,toks:=s3.toks }:=by
  rw[<- hXi];exact P2 hts I3 O hex ⟨_,hns₁⟩ up
 have xp:Xi.prog=X.prog:=by rw[<- hXi];rfl
 have xw:Xi.w=X.w:=by rw[<- hXi];rfl
 have xK:Xi.K=X.K:=by rw[<- hXi];rfl
 have xA:Xi.A=X.A:=by rw[<- hXi];rfl
 have xc:Xi.calm=true:=by rw[<- hXi];exact hcalm
 have xe:Xi.env=compEnvC inn (kC inn X.env) s3.heap.objs.size X.env:=by rw[<- hXi];rfl
 have xx:Xi.xe=fun _ _=>False:=by rw[<- hXi];rfl
 have xex:Xi.ex=D :: fp:=by rw[<- hXi];rfl
 have xpn:Xi.pn=[]:=by rw[<- hXi];rfl
 have xs0:Xi.s₀=s3:=by rw[<- hXi];rfl
 have xH0:Xi.H₀=H2:=by rw[<- hXi];rfl
 have xfs:Xi.fs=frs X.stack:=by rw[<- hXi];rfl
 have hgX:PG Xi tg g:=by rw[<- hXi];exact hg _ _ _
 have htX:PIf Xi ifs tt:=by rw[<- hXi];exact ht _ _ _
 have heX:PE Xi elt te:=by rw[<- hXi];exact he _ _ _
 have hi2X:PI Xi t2 i2 wi2:=by rw[<- hXi];exact hi2 _ _ _
 have hg2X:PG Xi t2 g2:=by rw[<- hXi];exact hg2 _ _ _
 have ht2X:PIf Xi f2 tt2:=by rw[<- hXi];exact ht2 _ _ _
 have okX:=I4.ok;have xl:Xi.env.locals=s3.heap.objs.size:=by rw[xe];rfl
 have Dl:D≠Xi.env.locals:=by rw[xl,hsz3];exact aBb (Nat.lt_succ_self _)
 have stat:∀ {H':Hp} {pl:List (Addr×Obj)},(∀ b∈fp,H' b=none)->(∀ p∈pl,p.1=D)->∀ b∈fp,jZ Xi pl H' b:=fun {H' pl} hn hpl b hb=>by
  have hbx:b∈Xi.ex:=by rw[xex];exact aBQ _ hb
  refine⟨hn b hb,(okX.exf b hbx).1,fun z=>okX.exfs b hbx z,.inl hbx,(okX.exf b hbx).2,fun p hp=>?_⟩;rw[xpn,List.nil_append]at hp;rw[hpl p hp];exact Ne.symm (fpo b hb).2
 have DX:D∈Xi.ex:=by rw[xex];exact aBP
 obtain⟨W,⟨m0,w0⟩,turn⟩:=R;have loop:codeAny (model X.prog X.w) X.A (.compLoop (.ListComp elt [⟨tg,iter,ifs,0⟩,⟨t2,i2,f2,0⟩] inn pos) 0 (.ref it) (.ref D) Xi.env) (RR (.ref D) s3.heap.objs.size) { s3 with heap:=h₁,toks:=s3.toks }:=by
  refine codeAny_loop rfl (fun n s'=>∃ i ys H',Inv Xi [] (sIn nt js σ) H' s'/\tn i s'.heap/\(∀ b∈fp,H' b=none)/\H' D=none/\(∃ (its:List Value) (c:Nat),Vals ys its/\s'.heap.get? D=some { cls:=.type "list",data:=.seq its.toArray c })/\W i n ys H') ?_ m0
   ⟨0,[],H2,I4,?_,fun b hb=>(fo b hb).1,fH2D,⟨[],0,.nil,up D _ hD3⟩,w0⟩
  ·rintro n s5 ⟨i,ys,H5,I5,st5,fr5,fD5,⟨its,c,rv,eD⟩,w5⟩;show wpAny _ X.A ((compTurn (.ListComp elt [⟨tg,iter,ifs,0⟩,⟨t2,i2,f2,0⟩] inn pos) 0 (.ref it) (.ref D) Xi.env).onRaise (fun x=>do noteFrame x Xi.env;theTreesLotGoes x)) _ _ s5;refine wpAny_noted ?_;rw[oW];refine aBL (wpAny_standAt (aBL ?_));have pinD:Inv Xi (cS [D] s5.heap) (sIn nt js σ) H5 s5:=by
    have q:=I5.pinned (fp:=[D]) (fun b hb=>?_) (fun b hb=>?_)
    ·simpa using q
    ·have e:b=D:=by simpa using hb
     subst e;refine⟨fD5,Dl,fun z=>okX.exfs b DX z,.inl DX,(okX.exf b DX).2,fun p hp=>?_⟩;rw[xpn,List.nil_append]at hp;cases hp
    ·have e:b=D:=by simpa using hb
     subst e;exact⟨_,eD,fun v z=>by cases z⟩
   have plD:∀ p∈cS [D] s5.heap,p.1=D:=fun p hp=>by simpa using (iW hp).1
   have memD:(D,({ cls:=.type "list",data:=.seq its.toArray c }:Obj))∈cS [D] s5.heap:=cH (by simp) eD;obtain⟨hz,tn5⟩:=turn i n ys H5 w5;rcases tn5 with ⟨stop,fin⟩ | ⟨go,N,hN,step⟩
   ·have q:=T.done Xi xp xw xK xc i _ s5 _ H5 (notedBy (model X.prog X.w) X.A Xi.env fun e s'=>RR (.ref D) s3.heap.objs.size (.error e) s') pinD (stat fr5 plD) st5 stop;rw[xA]at q;refine wpAny_mono q (fun r s6 ⟨hr,I6⟩=>?_) fun _ _ z=>z;subst hr;refine aBM ?_;have eD6:=(I6.pin (D,_) (aBR _ memD)).1;have un:Un (frs X.stack) (D :: fp) H2 H5 s3.heap s6.heap:=by
     have z:=I6.base;rw[xfs,xex,xH0,xs0]at z;exact z
    have os6:s6.os=s3.os:=by have z:=I6.os;rw[xs0]at z;exact z
    have hok6:HOk X.prog X.w H5 s6.heap:=by have z:=I6.hok;rw[xp,xw]at z;exact z
    have I7:Inv X pins σ H5 s6:=I3.call' os6 un hok6 I6.bare fun b hb=>by
     rcases aBr.mp hb with e | hb
     ·rw[e];exact⟨.inr (Nat.le_trans I2.sz dge),fD.2.1,fD.2.2.2.2.1,fD.2.2.2.2.2⟩
     ·obtain⟨f0,f1,f2',f3,f4,f5⟩:=fo b hb;exact⟨f3,f1,f4,f5⟩
    have I8:Inv X pins σ (upd H5 D (.lst ys)) s6:=I7.track fD5 (Nat.le_trans I2.sz dge) fD.2.1 fD.2.2.2.2.1 fD.2.2.2.2.2 ⟨Nat.le_of_lt hz,its,c,rv,eD6⟩;have Cge:s3.heap.objs.size<=s3.heap.objs.size:=Nat.le_refl _;have fC:jZ X pins (upd H5 D (.lst ys)) s3.heap.objs.size:=I3.fpOk Cge (by
     rw[aH (by rw[<- xl];exact Ne.symm Dl)];have z:=I6.free;rw[xl]at z;exact z)
    obtain⟨mm,hmm,_⟩:=I6.loc;rw[xl]at hmm;exact hRR D _ s6 _ I8 ⟨mm,hmm⟩ fC.1 fC.2.1 (Nat.le_trans I3.sz Cge) fC.2.2.2.2.1 fC.2.2.2.2.2 (fin D fD5)
   ·have q:=T.item Xi xp xw xK xc i _ s5 _ H5 (notedBy (model X.prog X.w) X.A Xi.env fun e s'=>RR (.ref D) s3.heap.objs.size (.error e) s') pinD (stat fr5 plD) st5 go;rw[xA]at q;refine wpAny_mono q (fun r s6 ⟨u,hr,h6⟩=>?_) fun _ _ z=>z;subst hr;refine aBL (wpAny_mono h6 (fun _ s7 ⟨x,H7,I7,r7,y7,st7,fr7⟩=>?_) fun _ _ z=>z);have I7':=I7.pinned (fp:=fp) (fun b hb=>stat fr7 plD b hb) (T.obj _ _ st7);have q8:=hgX _ s7 _ H7 x u _ I7' r7 (hk x _ H7 _ (step x H7 y7));rw[xp,xw,xA,xx]at q8;refine aBL (wpAny_mono q8 (fun _ s8 ⟨σ8,H8,I8,⟨k8,l8⟩,q8⟩=>?_) fun _ _ z=>z.elim);have q9:=htX _ s8 σ8 H8 _ I8 q8;rw[xp,xw,xA,xx]at q9;refine aBL (wpAny_mono q9 (fun ok s9 ⟨H9,I9,q9⟩=>?_) fun _ _ z=>z.elim);have keepσ:∀ (j:Nat) v,(sIn nt js σ)[j]?=some (some v)->σ8[j]?=some (some v):=fun j v e=>by
     have hj:=(pA e).1;rw[k8 j (Nat.le_trans hlo hj)];exact e
    have ends:∀ {H9:Hp} {s9:Shared} {ys':List V},Inv Xi (cS [D] s5.heap++cS fp s7.heap) σ8 H9 s9->∀ {h':Heap} {its':List Value} {c':Nat},(∀ b o,b≠D->s9.heap.get? b=some o->h'.get? b=some o)->Vals ys' its'->h'.get? D=some { cls:=.type "list",data:=.seq its'.toArray c' }->N ys' H9 ->
     ∀ tk,∃ m,m<n/\∃ i ys H',Inv Xi [] (sIn nt js σ) H' { s9 with heap:=h',toks:=tk }/\tn i h'/\(∀ b∈fp,H' b=none)/\H' D=none/\(∃ (its:List Value) (c:Nat),Vals ys its/\h'.get? D=some { cls:=.type "list",data:=.seq its.toArray c })/\W i m ys H':=fun {H9 s9 ys'} I9 {h' its' c'} kp rv' eD' n9 tk=>by
     obtain⟨m',hm,w9⟩:=hN ys' H9 n9;have fD9:H9 D=none:=(I9.pin (D,_) (aBR _ (aB7 _ memD))).2.1;have fr9:∀ b∈fp,H9 b=none:=fun b hb=>by
      obtain⟨o,e,d⟩:=T.obj _ _ st7 b hb;exact(I9.pin (b,o) (aBR _ (aBR _ (cH hb e)))).2.1
     have I10:Inv Xi [] σ8 H9 s9:=I9.pins_of fun p hp=>by cases hp
     have I11:Inv Xi [] σ8 H9 { s9 with heap:=h',toks:=tk }:=I10.turned (it:=D) kp fD9 Dl (.inl DX) (okX.exf D DX).2 (fun p hp=>by rw[xpn]at hp;cases hp);refine⟨m',hm,i+1,ys',H9,I11.weak l8.symm keepσ,T.keep _ _ _ st7 fun b hb o e=>kp b o (fpo b hb).2 (I9.pin (b,o) (aBR _ (aBR _ (cH hb e)))).1,fr9,fD9,⟨its',c',rv',eD'⟩,w9⟩
    cases ok with
    | false =>
     rw[if_neg aB0]at q9;have eD9:=(I9.pin (D,_) (aBR _ (aB7 _ memD))).1;exact aBM ⟨rfl,ends I9 (h':=s9.heap) (fun _ _ _ e=>e) rv eD9 q9 s9.toks⟩
    | true =>
     rw[if_pos rfl]at q9;have q10:=hi2X _ s9 σ8 H9 _ I9 q9;rw[xp,xw,xA,xx]at q10;refine aBL (wpAny_mono q10 (fun v s10 q11=>?_) fun _ _ z=>z.elim);refine aBL (wpAny_standAt (aBL (wpAny_of_eq (hs2 _ v) (aBL (wpAny_holding (wpAny_mono q11 (fun itv s11 q12=>?_) fun _ _ z=>z.elim))))));obtain⟨it2,fp2,tn2,J2,H11,ei,I11,T2,st11,f11,R11⟩:=q12;subst ei;have pm:(D,({ cls:=.type "list",data:=.seq its.toArray c }:Obj))∈Xi.pn++(cS [D] s5.heap++cS fp s7.heap):=aBR _ (aB7 _ memD);have eD11:=(I11.pin (D,_) pm).1;have fD11:H11 D=none:=(I11.pin (D,_) pm).2.1;have hpl:∀ p∈Xi.pn++cS fp s7.heap,p.1≠D:=fun p hp=>by
      rw[xpn,List.nil_append]at hp;exact(fpo p.1 (iW hp).1).2
     have xcc:Xi.calm=true:=xc;refine aBL (wpAny_runOwn ?_);have core:=yL (X:=Xi) (pl:=cS fp s7.heap) (σ:=σ8) (elt:=elt) (t1:=tg) (i1:=iter) (tg:=t2) (iter:=i2) (f1:=ifs) (ifs:=f2) (inn:=inn) (pos:=pos) (lo:=lo) (hi:=nt) (D:=D) (N:=N)
      (RR:=fun r s'=>match r with | .ok f=>wpAny (model Xi.prog Xi.w) Xi.A (again (.compLoop (.ListComp elt [⟨tg,iter,ifs,0⟩,⟨t2,i2,f2,0⟩] inn pos) 0 (.ref it) (.ref D) Xi.env)) (fun f s'=>f=Fin.again (.compLoop (.ListComp elt [⟨tg,iter,ifs,0⟩,⟨t2,i2,f2,0⟩] inn pos) 0 (.ref it) (.ref D) Xi.env)/\∃ m,m<n/\∃ i ys H',Inv Xi [] (sIn nt js σ) H' s'/\tn i s'.heap/\(∀ b∈fp,H' b=none)/\H' D=none/\(∃ (its:List Value) (c:Nat),Vals ys its/\s'.heap.get? D=some { cls:=.type "list",data:=.seq its.toArray c })/\W i m ys H') (fun _ _=>False) s' | .error e=>False)
      xc xx DX Dl hpl (fun hb=>(f11 D hb).2.2.2.2.2 _ pm rfl) hg2X hk2 ht2X heX (fun j v h1 h2 e=>?_) (I11.pins_of fun p hp=>I11.pin p (aBR _ (aBR _ hp))) T2 st11
      (fun b hb=>let ⟨a0,a1,a2,a3,a4,a5⟩:=f11 b hb;⟨a0,a1,a2,a3,a4,fun p hp=>a5 p ((aBs.mp hp).elim (aB7 _) fun z=>aBR _ (aBR _ z))⟩) fD11 rv eD11 R11 ?_
     ·rw[xp,xw,xA]at core;refine codeAny_mono core fun r s' hr=>?_;cases r with
      | ok f=>exact wpAny_mono hr (fun _ _ z=>by obtain⟨rfl,z⟩:=z;exact⟨rfl,z⟩) fun _ _ z=>z.elim
      | error e=>exact hr.elim
     ·have e':=(k8 j h1).symm.trans e;exact absurd (pA e').1 (by omega)
     ·intro s' H' ys' its' c' I' rv' eD' fD' n';obtain⟨m',hm,w9⟩:=hN ys' H' n';have fr':∀ b∈fp,H' b=none:=fun b hb=>by
       obtain⟨o,e,d⟩:=T.obj _ _ st7 b hb;exact(I'.pin (b,o) (aBR _ (cH hb e))).2.1
      refine aBM ⟨rfl,m',hm,i+1,ys',H',(I'.pins_of fun p hp=>by cases hp).weak l8.symm keepσ,T.keep _ _ _ st7 fun b hb o e=>(I'.pin (b,o) (aBR _ (cH hb e))).1,fr',fD',⟨its',c',rv',eD'⟩,w9⟩
  ·exact T.keep 0 _ _ st2 fun b hb o e=>up b o (by rw[e3];exact aBO _ e)
 have e4:({ s2 with heap:=h₁,toks:=s2.toks+([]:List (Str×Value)).length }:Shared)={ s3 with heap:=h₁,toks:=s3.toks }:=by rw[<- hs3];rfl
 rw[e4];show codeAny _ _ (.compStart (.ListComp elt [⟨tg,iter,ifs,0⟩,⟨t2,i2,f2,0⟩] inn pos) 0 (.ref it) (.ref D) (compEnvC inn (kC inn X.env) s3.heap.objs.size X.env)) (RR (.ref D) s3.heap.objs.size) _;rw[<- xe];refine codeAny_compStart_list loop ?_;refine T.self X.A 0 _ _ _ ?_ loop;exact T.keep 0 _ _ st2 fun b hb o e=>up b o (by rw[e3];exact aBO _ e)
theorem S0 (ts1 ts2 cs:List Str) (js:List Nat) (hcalm:X.calm=true) (O:CompOk X.env.scope inn X.N js cs) (hi:PI X tg iter wi)
 (hg:∀ s₀ H₀ ex,PG (fT X inn ((ts1++ts2)++cs) s₀ H₀ ex) tg g) (hk:GK ts1.length g) (ht:∀ s₀ H₀ ex,PIf (fT X inn ((ts1++ts2)++cs) s₀ H₀ ex) ifs tt)
 (hi2:∀ s₀ H₀ ex,PI (fT X inn ((ts1++ts2)++cs) s₀ H₀ ex) t2 i2 wi2) (hg2:∀ s₀ H₀ ex,PG (fT X inn ((ts1++ts2)++cs) s₀ H₀ ex) t2 g2) (hk2:GR ts1.length (ts1++ts2).length g2) (ht2:∀ s₀ H₀ ex,PIf (fT X inn ((ts1++ts2)++cs) s₀ H₀ ex) f2 tt2) (he:∀ s₀ H₀ ex,PE (fT X inn ((ts1++ts2)++cs) s₀ H₀ ex) elt te)
 (hs:∀ x,foldedSetIterable iter X.env x=pure x:=by intro _;rfl) (hs2:∀ env x,foldedSetIterable i2 env x=pure x:=by intro _ _;rfl):PE X (.ListComp elt [⟨tg,iter,ifs,0⟩,⟨t2,i2,f2,0⟩] inn pos) (x5 wi (ts1++ts2).length js g tt wi2 g2 tt2 te):=by
 intro pins s σ H Q I h;rw[eval_ListComp];refine wpAny_comprehension_free (use:=none) rfl hs (tU fun y hy e=>I.ok.has y.1 (O.frees y hy e)) O.kind O.names (thn (hi pins s σ H _ I h) fun xv s1 h1=>thn h1 fun itv s2 h2=>?_);obtain⟨it,fp,tn,J,H2,e,I2,T,st2,f2,R⟩:=h2;subst e;refine yM (Q:=Q) (RR:=fun acc C=>compPost (model X.prog X.w) X.A X.xe none (EP X pins σ Q) acc C) hcalm O rfl (lo:=ts1.length) (by simp) hg hk hi2 hg2 hk2 ht2 hs2 ht he I2 T st2 f2 R ?_;intro D C s' H' I' ⟨m,hm⟩ c1 c2 c3 c4 c5 q;refine⟨m,hm,fun h' hsb=>?_⟩;exact⟨.ref D,H',I'.turned (it:=C) (t':=s'.toks) (fun b o hb e=>hsb.extBut b o hb e) c1 c2 (.inr c3) c4 c5,rfl,q⟩
end
theorem S1 {X:Cx} {tg:Expr} (K:PySem.W.Frag) (h:X.K=K) {l:Expr} {tl:TE} (hl:PE X l tl):PI X tg l (j8 K tl):=h ▸ bL hl
theorem yN {K:PySem.W.Frag} {a:Addr} {xs:List V} {σ0:St} {g g2:TG} {tt tt2:TT} {wi:TI} {te:TE} {H:Hp} {Q:VK} (Pv:Nat->List V->Hp->Prop) (h0:Pv 0 [] H) (hl:∀ i ys H,i<=xs.length->Pv i ys H->SqL K H a xs/\ys.length<sizeLine)
 (hs:∀ i x ys H,xs[i]?=some x->Pv i ys H->g x σ0 H fun σ2 H2=>tt σ2 H2 fun b H3=>if b=true then wi σ2 H3 fun J2 H4=>A9 J2 σ2 g2 tt2 te ys (Pv (i+1)) H4 else Pv (i+1) ys H3) (hd:∀ ys H,Pv xs.length ys H->∀ D,H D=none->Q (.ref D) (upd H D (.lst ys))) :
 yK (Itl K a) σ0 g tt wi g2 tt2 te Q H:=by
 refine⟨fun i m ys H=>m=xs.length - i/\i<=xs.length/\Pv i ys H,⟨xs.length,by simp,Nat.zero_le _,h0⟩,?_⟩;rintro i m ys H ⟨rfl,hi,p⟩;obtain⟨q,hz⟩:=hl i ys H hi p;refine⟨hz,?_⟩
 by_cases hlt:i<xs.length
 ·refine .inr ⟨⟨xs,xs[i],q,by simp[hlt]⟩,Pv (i+1),fun ys' H' p'=>⟨xs.length - (i+1),by omega,rfl,hlt,p'⟩,fun x H' y=>?_⟩;obtain⟨e,y⟩:=y;subst e;exact hs i x ys _ (y xs q) p
 ·have e:i=xs.length:=by omega
  subst e;exact .inl ⟨⟨xs,q,Nat.le_refl _⟩,hd ys H p⟩
theorem yO {K:PySem.W.Frag} {a:Addr} {xs:List V} {σ0:St} {g:TG} {tt:TT} {te:TE} {H:Hp} {N:List V->Hp->Prop} {ys0:List V} (Pv:Nat->List V->Hp->Prop) (h0:Pv 0 ys0 H) (hl:∀ i ys H,i<=xs.length->Pv i ys H->SqL K H a xs/\ys.length<sizeLine)
 (hs:∀ i x ys H,xs[i]?=some x->Pv i ys H->g x σ0 H fun σ2 H2=>tt σ2 H2 fun b H3=>if b=true then te σ2 H3 fun y H4=>Pv (i+1) (ys++[y]) H4 else Pv (i+1) ys H3) (hd:∀ ys H,Pv xs.length ys H->N ys H) :
 A9 (Itl K a) σ0 g tt te ys0 N H:=by
 refine⟨fun i m ys H=>m=xs.length - i/\i<=xs.length/\Pv i ys H,⟨xs.length,by simp,Nat.zero_le _,h0⟩,?_⟩;rintro i m ys H ⟨rfl,hi,p⟩;obtain⟨q,hz⟩:=hl i ys H hi p;refine⟨hz,?_⟩
 by_cases hlt:i<xs.length
 ·refine .inr ⟨⟨xs,xs[i],q,by simp[hlt]⟩,Pv (i+1),fun ys' H' p'=>⟨xs.length - (i+1),by omega,rfl,hlt,p'⟩,fun x H' y=>?_⟩;obtain⟨e,y⟩:=y;subst e;exact hs i x ys _ (y xs q) p
 ·have e:i=xs.length:=by omega
  subst e;exact .inl ⟨⟨xs,q,Nat.le_refl _⟩,hd ys H p⟩
def aA7 (t u:TS):TS:=fun D σ H=>∀ M:St->Hp->Prop,(∀ σ' H',u D σ' H'->M σ' H')->t { D with nx:=M } σ H
theorem aQ {X:Cx} {st:Stmt} {rest:List Stmt} {t u:TS} (h1:PS X st t) (h2:PSs X rest u):PSs X (st :: rest) (aA7 t u):=fun pins s σ H D I h=>aG h1 h2 pins s σ H D I (h (u D) fun _ _ z=>z)
end L2
namespace L2
open PySem
open PyProof.Rows PySem.MeetsSeq PySem.SeqAt PySem.Spec
open PySem.AutoSeq1 (wpAny_loadPart')
theorem rL (l:Addr) (items:Array Value) (n:Nat) (x:Value) (e:Value->Bool) (j:Nat) (hj:j<items.size) (hit:e items[j]=true) (k:Nat) (hs1:items.size<=sizeLine) :
 ∀ i:Nat,j - i=k->i<=j->(∀ m (hm:m<items.size),i<=m->m<j->e items[m]=false)->Meets (Builtin.«list.remove.loop» ⟨[.ref l,x,rawInt i],[]⟩)
  (fun A R s=>s.heap.get? l=some { cls:=.type "list",dict:=none,data:=.seq items n,slots:=#[] }/\(∀ y,y∈items->EqAt A.in1 s y x (e y))/\R (.ok (.ret .none)) { s with heap:=s.heap.update l (Obj.mapSeq fun xs=>xs.eraseIdxIfInBounds j) }):=by
 induction k with
 | zero =>
  intro i hk hij hno prog w A R s h;obtain⟨hp,g,d,tk,os⟩:=s;obtain⟨hl,he,h⟩:=h;have hij':i=j:=by omega
  subst hij'
  wp_walk using wpAny_loadPart' hl
  have hi:items[((i:Nat):Int).toNat]?=some items[i]:=by simp[hj]
  rw[hi];refine aBL (he _ (Array.getElem_mem hj) prog w _ _ ?_);rw[hit];have hz':(items.eraseIdxIfInBounds i).size<=sizeLine+1:=Nat.le_trans (size_erased items _) (Nat.le_succ_of_le hs1)
  wp_walk using (wpAny_updateSeq hl rfl (hz:=hs1) (_hz':=hz')),wpAny_loadPart' hl
  simpa using h
 | succ k ih =>
  intro i hk hij hno prog w A R s h;obtain⟨hp,g,d,tk,os⟩:=s;obtain⟨hl,he,h⟩:=h;have hlt:i<items.size:=by omega
  wp_walk using wpAny_loadPart' hl
  have hi:items[((i:Nat):Int).toNat]?=some items[i]:=by simp[hlt]
  have hc:((i:Int)+1)=((i+1:Nat):Int):=by push_cast;rfl
  rw[hi];refine aBL (he _ (Array.getElem_mem hlt) prog w _ _ ?_);rw[hno i hlt (Nat.le_refl _) (by omega)]
  wp_walk
  rw[hc];exact⟨plainId_quiet plain_remove_loop _,codeAny_builtin entry_remove_loop (by
   rw[aBZ plain_remove_loop _];exact ih (i+1) (by omega) (by omega) (fun m hm h1 h2=>hno m hm (by omega) h2) prog w A R _ ⟨hl,he,h⟩)⟩
theorem rM (l:Addr) (items:Array Value) (n:Nat) (x:Value) (e:Value->Bool) (j:Nat) (hj:j<items.size)
 (hit:e items[j]=true) (hno:∀ m (hm:m<items.size),m<j->e items[m]=false) (hs1:items.size<=sizeLine) :
 Meets (Builtin.«list.remove» ⟨[.ref l,x],[]⟩)
  (fun A R s=>s.heap.get? l=some { cls:=.type "list",dict:=none,data:=.seq items n,slots:=#[] }/\(∀ y,y∈items->EqAt A.in1 s y x (e y))/\R (.ok (.ret .none)) { s with heap:=s.heap.update l (Obj.mapSeq fun xs=>xs.eraseIdxIfInBounds j) }):=by
 intro prog w A R s h;obtain⟨hp,g,d,tk,os⟩:=s;obtain⟨hl,he,h⟩:=h
 wp_walk using wpAny_loadPart' hl
 exact⟨plainId_quiet plain_remove_loop _,codeAny_builtin entry_remove_loop (by
  rw[aBZ plain_remove_loop _];exact rL l items n x e j hj hit _ hs1 0 rfl (Nat.zero_le _) (fun m hm _ h2=>hno m hm h2) prog w A R _ ⟨hl,he,h⟩)⟩
theorem PairV.inj {h:Heap} {v:Value} {p q:Int×Int} (a:PairV h v p) (b:PairV h v q):p=q:=by
 obtain⟨t,o,n,k1,k2,rfl,ho,_,hd⟩:=a;obtain⟨t',o',n',k1',k2',e,ho',_,hd'⟩:=b;cases e;rw[ho]at ho';cases ho';rw[hd]at hd';obtain⟨p1,p2⟩:=p;obtain⟨q1,q2⟩:=q;simp only[Data.seq.injEq,Array.mk.injEq,List.cons.injEq,Value.int.injEq,and_true]at hd';obtain⟨⟨⟨rfl,_⟩,rfl,_⟩,_⟩:=hd';rfl
theorem EqAt.pairs {A:Around} {s:Shared} {x y:Value} {p q:Int×Int} (hx:PairV s.heap x p) (hy:PairV s.heap y q) (hu:A.units+1<cLine):EqAt A s x y (decide (p=q)):=by
 obtain⟨t,o,n,k1,k2,rfl,ho,hc,hd⟩:=id hx;obtain⟨t',o',n',k1',k2',rfl,ho',hc',hd'⟩:=id hy
 by_cases ht:t=t'
 ·subst ht;have:p=q:=hx.inj hy;rw[aBa this];exact EqAt.same _
 ·refine EqAt.of_refs ht ?_;have h:=RcAt.tuples (A:=A) (s:=s) (l:=t) (b:=t') (e:=fun j=>if j=0 then p.1 == q.1 else p.2 == q.2) ⟨o,ho,hc,n,hd⟩ ⟨o',ho',hc',n',hd'⟩ (by omega) fun j h1 h2=>?_
  ·have e:((List.range (min (#[Value.int p.1 k1,Value.int p.2 k2]:Array Value).size (#[Value.int q.1 k1',Value.int q.2 k2']:Array Value).size)).all (fun j=>if j=0 then p.1 == q.1 else p.2 == q.2) && (#[Value.int p.1 k1,Value.int p.2 k2]:Array Value).size == (#[Value.int q.1 k1',Value.int q.2 k2']:Array Value).size)=decide (p=q):=by
    show ((p.1 == q.1) && ((p.2 == q.2) && true) && true)=decide (p=q);obtain⟨p1,p2⟩:=p;obtain⟨q1,q2⟩:=q;rw[Bool.eq_iff_iff];simp
   rw[e]at h;exact h
  ·match j,h1,h2 with
   | 0,_,_=>exact EqAt.int_int p.1 k1 q.1 k1'
   | 1,_,_=>exact EqAt.int_int p.2 k2 q.2 k2'
section
variable {X:Cx}
open Classical in
def S2:V->List V->Hp->VK->Prop:=fun x vs H Q=>∃ l us ps t p,x=.ref l/\vs=[.ref t]/\H l=some (.lst us)/\CW.Prs H us ps/\H t=some (.tup [.int p.1,.int p.2])/\p∈ps/\∀ us':List V,CW.Prs H us' (ps.erase p)->us'.length<us.length->Q .non (upd H l (.lst us'))
theorem sZ {H:Hp} {p:Int×Int}:∀ {us:List V} {ps:List (Int×Int)},CW.Prs H us ps->p∈ps->∃ j,j<ps.length/\ps[j]?=some p/\(∀ m,m<j->ps[m]?≠some p)/\CW.Prs H (us.eraseIdx j) (ps.erase p)
 | [],[],_,h=>by cases h
 | u :: us,q :: ps,.cons a r,h=>by
  by_cases e:q=p
  ·subst e;refine⟨0,by simp,rfl,fun m hm=>by omega,?_⟩;rw[List.erase_cons_head];exact r
  ·have hp:p∈ps:=by
    rcases aBr.mp h with z | z
    ·exact absurd z.symm e
    ·exact z
   obtain⟨j,h1,h2,h3,h4⟩:=sZ r hp;refine⟨j+1,by simpa using h1,h2,fun m hm=>?_,?_⟩
   ·cases m with
    | zero=>simpa using e
    | succ m=>exact h3 m (by omega)
   ·rw[List.erase_cons_tail (by simpa using e)];exact .cons a h4
theorem qK (hu:X.A.units+64<cLine):MtM X "list.remove" S2:=by
 intro pins s σ H x vs v us Q I rx rv h;obtain⟨l,xs,ps,t,p,rfl,rfl,hH,pr,ht,hp,q⟩:=h;cases rx;obtain⟨u,rfl,ru⟩:=rv.one;obtain⟨z,its,n,r,hl,e⟩:=I.lstM hH;obtain⟨j,h1,h2,h3,h4⟩:=sZ pr hp;have hv:=qC I r pr;have hu2:PairV s.heap u p:=by
  have:=qC I (us0:=[.ref t]) (its:=[u]) (ps:=[p]) (.cons ru .nil) (.cons ⟨t,rfl,ht⟩ .nil);cases this with
  | cons a _=>exact a
 have hlp:xs.length=ps.length:=CW.Prs.len pr;have at':∀ m (hm:m<its.toArray.size),PairV s.heap its.toArray[m] (ps[m]'(by simp at hm;omega)):=fun m hm=>by
  have hm':m<its.length:=by simpa using hm
  obtain⟨q',hq,hP⟩:=CW.paired_get hv (i:=m) (x:=its[m]) (by simp[hm']);have:ps[m]'(by omega)=q':=by
   have:=aBX (l:=ps) (i:=m) (by omega);rw[this]at hq;exact Option.some.inj hq
  rw[this];simpa using hP
 refine call_meets F.slot_list_remove ⟨_,e,rfl⟩ F.entry_list_remove (F.args_list_remove_2 _ _) (rM l its.toArray n u (fun y=>@decide (PairV s.heap y p) (Classical.propDecidable _)) j (by simp;omega) ?_ (fun m hm hlt=>?_) (by rw[aBV];omega)) ⟨e,fun y hy=>?_,?_⟩
 ·have:=at' j (by simp;omega);have e2:ps[j]'(by omega)=p:=by
   have:=aBX (l:=ps) (i:=j) (by omega);rw[this]at h2;exact Option.some.inj h2
  rw[e2]at this;exact @decide_eq_true _ (Classical.propDecidable _) this
 ·refine @decide_eq_false _ (Classical.propDecidable _) fun hP=>h3 m hlt ?_;have e2:=(at' m hm).inj hP;rw[aBX (by simp at hm;omega),e2]
 ·obtain⟨m,hm,rfl⟩:=Array.mem_iff_getElem.mp hy;have hP:=at' m hm;have h5:=EqAt.pairs (A:=X.A.in1) hP hu2 (by show X.A.units+1+1<cLine;omega);have:(@decide (PairV s.heap its.toArray[m] p) (Classical.propDecidable _))=decide (ps[m]'(by simp at hm;omega)=p):=by
   rw[Bool.eq_iff_iff,@decide_eq_true_iff _ (Classical.propDecidable _),decide_eq_true_iff];exact⟨fun z=>hP.inj z,fun z=>z ▸ hP⟩
  rw[this];exact h5
 ·have hlen:(xs.eraseIdx j).length<xs.length:=by rw[List.length_eraseIdx];split <;> omega
  refine⟨.non,_,I.lset (its':=its.eraseIdx j) hH e ?_ (r.eraseIdx j) (by omega),rfl,q _ h4 hlen⟩;apply Array.toList_inj.mp
  simp[Array.toList_eraseIdxIfInBounds]
def x6 (t:TS):TS:=fun D σ H=>∃ d kvs,H d=some (.dK kvs)/\t { D with nx:=fun σ' H'=>∃ od,H' d=some (.frz od (.dK kvs))/\D.nx σ' (upd H' d (.dK kvs)) } σ H
theorem Z9 {st:Stmt} {t:TS} (h:PS X st t):PS X st (x6 t):=by
 intro pins s σ H D I q;obtain⟨d,kvs,hd,q⟩:=q;have h0:∀ o u,X.H₀ d≠some (.frz o u):=fun o u z=>by
  have:=I.base.frzs d o u z;rw[hd]at this;cases this
 refine thn (h pins s σ H _ I q) fun f s1 q1=>?_;cases f with
 | next =>
  obtain⟨σ',H',I',od,hf,q1⟩:=q1;exact⟨σ',_,I'.thaw hf h0,q1⟩
 | ret v=>exact q1
 | brk=>exact q1
 | cont=>exact q1
end
end L2
namespace CW
open PySem L2
theorem S3 {b:Int}:∀ {gs:List Grp},(∀ g∈gs,g.2.2.length<=60)->0<=lng b gs/\lng b gs<=60 * (gs.length:Int)
 | [],_=>⟨Int.le_refl _,Int.le_refl _⟩
 | g :: r,h=>by
  obtain⟨h1,h2⟩:=S3 (b:=b) (gs:=r) fun x hx=>h x (aBQ _ hx);have h3:=h g aBP;unfold lng at h1 h2 ⊢;rw[cM,aBh]
  by_cases c:b<g.1
  ·rw[if_pos c];omega
  ·rw[if_neg c];omega
theorem mU:∀ {a b:Trs},a.Perm b->a.Pairwise ple->b.Pairwise ple->a=b:=fun {a b} h ha hb =>
 List.Perm.eq_of_pairwise (le:=ple) (fun x y _ _ h1 h2=>by
  obtain⟨x1,x2⟩:=x;obtain⟨y1,y2⟩:=y;unfold ple at h1 h2;simp only at h1 h2;have e1:x1=y1:=by omega
  have e2:x2=y2:=by omega
  rw[e1,e2]) ha hb h
def laid (ms:List Int) (gs:List Grp):Trs:=ms.flatMap fun m=>match gs.find? (fun g=>decide (g.1=m))with | some g=>g.2.2.map fun o=>(m,o) | none=>[]
theorem nX (m:Int) (ms:List Int) (gs:List Grp):laid (m :: ms) gs=(match gs.find? (fun g=>decide (g.1=m))with | some g=>g.2.2.map (fun o=>(m,o)) | none=>[])++laid ms gs:=rfl
theorem oH (a b:List Int) (gs:List Grp):laid (a++b) gs=laid a gs++laid b gs:=by simp[laid]
theorem S4 {gs:List Grp} (hn:(gs.map (·.1)).Nodup) {g:Grp} (hg:g∈gs):laid [g.1] gs=g.2.2.map fun o=>(g.1,o):=by
 rw[nX,mR hn hg];exact List.append_nil _
theorem tB {ms ks:List Int} (gs:List Grp) (h:ms.Perm ks):(laid ms gs).Perm (laid ks gs):=h.flatMap_right _
theorem tD:∀ {gs:List Grp},(gs.map (·.1)).Nodup->laid (gs.map (·.1)) gs=bH gs:=by
 intro gs hn;have go:∀ us:List Grp,(∀ g∈us,g∈gs)->laid (us.map (·.1)) gs=bH us:=by
  intro us
  induction us with
  | nil=>intro _;rfl
  | cons g r ih =>
   intro h;rw[aBd,nX,mR hn (h g aBP),cX,ih fun x hx=>h x (aBQ _ hx)]
 exact go gs fun _ h=>h
theorem S5 {ms:List Int} {gs:List Grp} {q:Int×Int} (h:q∈laid ms gs):q.1∈ms:=by
 unfold laid at h;obtain⟨m,hm,hq⟩:=List.mem_flatMap.mp h;split at hq
 ·obtain⟨o,_,rfl⟩:=aBt.mp hq;exact hm
 ·cases hq
theorem oJ {gs:List Grp} (ac:Asc gs):∀ {ms:List Int},ms.Pairwise (·<·)->(laid ms gs).Pairwise ple
 | [],_=>List.Pairwise.nil
 | m :: ms,h=>by
  obtain⟨h1,h2⟩:=List.pairwise_cons.mp h;rw[nX];refine List.pairwise_append.mpr ⟨?_,oJ ac h2,fun a ha b hb=>?_⟩
  ·split
   ·next g hg =>
    rw[List.pairwise_map];exact(ac g (List.mem_of_find?_eq_some hg)).imp fun {x y} hxy=>.inr ⟨rfl,hxy⟩
   ·exact List.Pairwise.nil
  ·have hb1:=h1 _ (S5 hb);split at ha
   ·obtain⟨o,_,rfl⟩:=aBt.mp ha;exact .inl hb1
   ·cases ha
theorem tE {ms ks:List Int} (hp:ms.Perm ks) (hs:ms.Pairwise (·<=·)) (hn:ks.Nodup):ms.Pairwise (·<·):=by
 have h:=hp.nodup_iff.mpr hn;exact(List.pairwise_and_iff.mpr ⟨hs,h⟩).imp fun {x y} ⟨a,b⟩=>by omega
section
variable {P:Program} {w:World} {K:PySem.W.Frag} {mg:Str->Option Value} {base:Heap}
inductive jE (vs:List V) (H:Hp) (Q:VK) (E_:XK):Prop
 | mk (d:Addr) (gs:List Grp) (h0_:vs=[.ref d]) (h1_:DG H d gs) (h2_:GoodG gs) (h3_:gs.length<=60) (h4_:(∀ g∈gs,g.2.2.length<=60)) (h5_:∀ (e:Addr) (kvs:List (Key×V)) (H':Hp),H e=none->Same H H'->H' e=some (.dK kvs)->(∀ g∈gs,dJ kvs (Sum.inl g.1:Key)=some (.int (2 * les (bH gs) g.1)))->Q (.ref e) H'):jE vs H Q E_
inductive fW (vs:List V) (H:Hp) (Q:VK) (E_:XK):Prop
 | mk (d:Addr) (gs:List Grp) (k p:Int) (h0_:vs=[.ref d,.int k,.int p]) (h1_:DG H d gs) (h2_:gs.length<=60) (h3_:(∀ g∈gs,g.2.2.length<=60)) (h4_:∀ (gs':List Grp) (H':Hp),StayG d gs H H'->DG H' d gs'->qE H k (p - 2 * wgt (gQ k) gs - 2 * k) gs gs'->Q .non H'):fW vs H Q E_
inductive jO (vs:List V) (H:Hp) (Q:VK) (E_:XK):Prop
 | mk (d:Addr) (gs:List Grp) (p:Int) (H0:Hp) (h0_:vs=[.ref d,.int p]) (h1_:DG H d gs) (h2_:GoodG gs) (h3_:Asc gs) (h4_:sto gs<=59) (h5_:Bd (bH gs) (p - 1)) (h6_:Same H0 H) (h7_:H0 d=none) (h8_:(∀ g∈gs,H0 g.2.1=none)) (h9_:∀ (gs':List Grp) (H':Hp),Same H0 H'->DG H' d gs'->GoodG gs'->Asc gs'->Add (bH gs) p (bH gs')->(∀ g∈gs',H0 g.2.1=none)->Q .non H'):jO vs H Q E_
inductive fI (vs:List V) (H:Hp) (Q:VK) (E_:XK):Prop
 | mk (a:Addr) (row:List Int) (h0_:vs=[.ref a]) (h1_:H a=some (.lst (row.map V.int))) (h2_:Row row) (h3_:row.length<=60) (h4_:∀ qs:Trs,Lst row qs->qs.Pairwise ple->P5 H Q qs):fI vs H Q E_
inductive jF (vs:List V) (H:Hp) (Q:VK) (E_:XK):Prop
 | mk (a:Addr) (row:List Int) (h0_:vs=[.ref a]) (h1_:H a=some (.lst (row.map V.int))) (h2_:Row row) (h3_:row.length<=60) (h4_:∀ qs:Trs,Lst row qs->qs.Pairwise ple->P5 H Q qs):jF vs H Q E_
end
theorem uL {l:List Int} (h:l≠[]):atI (l.map V.int) (-1)=some (V.int (l.getLast h)):=by
 have e:l.map V.int=l.dropLast.map V.int++[V.int (l.getLast h)]:=by
  rw[<- List.map_singleton (f:=V.int),<- aB2,List.dropLast_concat_getLast h]
 rw[e];exact O9 _ _
theorem dH:∀ (r:List Int) (n:Int),(r.foldl max n=n\/r.foldl max n∈r)/\n<=r.foldl max n/\∀ x∈r,x<=r.foldl max n
 | [],n=>⟨.inl rfl,Int.le_refl _,fun x hx=>(nomatch hx)⟩
 | a :: r,n=>by
  obtain⟨h1,h2,h3⟩:=dH r (max n a);rw[aBf];refine⟨?_,by omega,fun x hx=>?_⟩
  ·rcases h1 with h1 | h1
   ·rcases Int.le_total n a with c | c
    ·right;rw[h1];rw[show max n a=a by omega];exact aBP
    ·left;rw[h1];omega
   ·exact .inr (aBQ _ h1)
  ·rcases aBr.mp hx with rfl | hx
   ·omega
   ·exact h3 x hx
theorem G1 {gs:List Grp} {p:Int} (gd:GoodG gs) {ns:List Int} (h1:∀ n∈ns,∃ g∈gs,∃ hne:g.2.2≠[],n=g.1/\g.2.2.getLast hne=p - 1 - 2 * les (bH gs) g.1)
 (h2:∀ g∈gs,∀ hne:g.2.2≠[],g.2.2.getLast hne=p - 1 - 2 * les (bH gs) g.1->g.1∈ns) :
 ∃ s:Int,mxD ns (.int 0)=.int s/\0<=s/\(s=0\/1<=s/\∃ g∈gs,∃ hne:g.2.2≠[],g.1=s/\g.2.2.getLast hne=p - 1 - 2 * les (bH gs) s)/\(∀ g∈gs,∀ hne:g.2.2≠[],s<g.1->g.2.2.getLast hne≠p - 1 - 2 * les (bH gs) g.1):=by
 cases ns with
 | nil=>exact⟨0,rfl,Int.le_refl _,.inl rfl,fun g hg hne _ e=>(nomatch (h2 g hg hne e))⟩
 | cons n r =>
  obtain⟨a1,a2,a3⟩:=dH r n;have hm:r.foldl max n∈n :: r:=by
   rcases a1 with h | h
   ·rw[h];exact aBP
   ·exact aBQ _ h
  obtain⟨g,hg,hne,e1,e2⟩:=h1 _ hm;have hg1:=(gd g hg).1;refine⟨r.foldl max n,rfl,by omega,.inr ⟨by omega,g,hg,hne,e1.symm,by rw[e1];exact e2⟩,fun x hx hnx hlt e=>?_⟩;have:=h2 x hx hnx e;rcases aBr.mp this with z | z
  ·omega
  ·have:=a3 _ z;omega
theorem S6 {ps:Trs} {p:Int} (hpos:∀ q∈ps,1<=q.1) {ns:List Int} (h1:∀ n∈ns,∃ q∈ps,n=q.1/\q.2=p - 1 - 2 * les ps q.1) (h2:∀ q∈ps,q.2=p - 1 - 2 * les ps q.1->q.1∈ns) :
 ∃ s:Int,mxD ns (.int 0)=.int s/\0<=s/\(s=0\/1<=s/\(s,p - 1 - 2 * les ps s)∈ps)/\(∀ q∈ps,s<q.1->q.2+2 * les ps q.1≠p - 1):=by
 cases ns with
 | nil=>exact⟨0,rfl,Int.le_refl _,.inl rfl,fun q hq _ e=>(nomatch (h2 q hq (by omega)))⟩
 | cons n r =>
  obtain⟨a1,a2,a3⟩:=dH r n;have hm:r.foldl max n∈n :: r:=by
   rcases a1 with h | h
   ·rw[h];exact aBP
   ·exact aBQ _ h
  obtain⟨q,hq,e1,e2⟩:=h1 _ hm;have hq1:=hpos q hq;refine⟨r.foldl max n,rfl,by omega,.inr ⟨by omega,?_⟩,fun x hx hlt e=>?_⟩
  ·have:(r.foldl max n,p - 1 - 2 * les ps (r.foldl max n))=q:=by rw[e1,<- e2]
   rw[this];exact hq
  have:=h2 x hx (by omega);rcases aBr.mp this with z | z
  ·omega
  ·have:=a3 _ z;omega
theorem add_list {ps ps1:Trs} {p s:Int} (h0:0<=s) (hs:s=0/\ps1=ps\/1<=s/\(s,p - 1 - 2 * les ps s)∈ps/\ps1=ps.erase (s,p - 1 - 2 * les ps s)) (htop:∀ q∈ps,s<q.1->q.2+2 * les ps q.1≠p - 1) :
 Add ps p (ps1++[(s+1,p - 2 * les (ps1++[(s+1,0)]) (s+1))]):=by
 refine⟨s,ps1,h0,?_,htop,?_⟩
 ·rcases hs with ⟨a,rfl⟩ | ⟨a,b,rfl⟩
  ·exact .inl ⟨a,.refl _⟩
  ·exact .inr ⟨a,List.perm_cons_erase b⟩
 ·have:p - 2 * les (ps1++[(s+1,0)]) (s+1)=p - 2 * les ps1 (s+1) - 2 * (s+1):=by
   rw[qF,bM,A7];simp only;omega
  rw[this];exact List.perm_append_comm
theorem Lst.few {row:List Int} {qs:Trs} (h:Lst row qs) (hl:row.length<=60):qs.length<=60:=by
 have h3:=cU h.pos;have h4:(szs qs).sum=siz qs:=rfl;have h5:=h.sizx;omega
end CW
namespace L2
open PySem PySem.Spec PyProof.Rows
section
variable {prog:Program} {w:World} {A:Around} {R:Result->Shared->Prop} {l it S:Addr} {its:List Value} {ns:List Int}
theorem S7 (hh:A.handled=none) (hI:IntsAre its ns) (hlt:l≠it) (hiS:it≠S) (hlS:l≠S) :
 ∀ (k i:Nat) (s:Shared) (b:Int) (t:Tok) (c:Nat),ns.length - i=k->i<=ns.length->s.heap.IsListIter it l i->s.heap.IsList l its.toArray->s.heap.get? S=some (two b t c) ->
  (∀ h' tk t',(∀ x o,x≠it->x≠S->s.heap.get? x=some o->h'.get? x=some o)->R (.ok (.ret (.int ((ns.drop i).foldl max b) t'))) { s with heap:=h',toks:=tk }) ->
  codeAny (model prog w) A (.builtin "max.loop" ⟨[.ref it,.none,.ref S],[]⟩) R s:=by
 have nm:(toString "max"++toString ".loop":String)="max.loop":=by decide
 intro k
 induction k with
 | zero =>
  intro i s b t c hk hi st hl hS hR;have e:i=ns.length:=by omega
  refine codeAny_builtin PySem.F.entry_max_loop (by
   rw[aBZ PySem.F.plain_max_loop _];show wpAny _ A.in1 (seqItems? (Value.ref S) >>= _) _ _ s;refine aBL (wpAny_seqItems hS rfl ?_);show wpAny _ A.in1 (tryCatch (pyNext (Value.ref it)) _ >>= _) _ _ s;refine aBL (wpAny_tryCatch (wpAny_pyNext_list_end hh st hl (by have:=hI.length;simp;omega) fun h' eb=>?_));have hS':=eb S _ (Ne.symm hiS) hS;show wpAny _ A.in1 (updateSeq S (fun _=>#[]) >>= _) _ _ { s with heap:=h' };refine aBL (wpAny_updateSeq hS' rfl (aBL (wpAny_letGo (aBM ?_))));have q:=hR (h'.update S (Obj.mapSeq fun _=>#[])) s.toks t (fun x o h1 h2 e=>(aBS _ _ (Ne.symm h2)).trans (eb x o h1 e));rw[e,List.drop_length]at q;exact q)
 | succ k ih =>
  intro i s b t c hk hi st hl hS hR;have hi':i<ns.length:=by omega
  obtain⟨u,hu⟩:=mL (i:=i) (n:=ns[i]) hI (by simp[hi']);have hdr:ns.drop i=ns[i] :: ns.drop (i+1):=List.drop_eq_getElem_cons hi';refine codeAny_builtin PySem.F.entry_max_loop (by
   rw[aBZ PySem.F.plain_max_loop _];show wpAny _ A.in1 (seqItems? (Value.ref S) >>= _) _ _ s;refine aBL (wpAny_seqItems hS rfl ?_);show wpAny _ A.in1 (tryCatch (pyNext (Value.ref it)) _ >>= _) _ _ s;refine aBL (wpAny_tryCatch (wpAny_pyNext_list_item st hl (x:=.int ns[i] u) (by simpa using hu) fun h' st' sb=>?_));have hS':=sb.extBut S _ (Ne.symm hiS) hS;have hl':=hl.extBut sb.extBut hlt;show wpAny _ A.in1 (tryCatch (holding [.int ns[i] u,.int ns[i] u] (richCompare .Gt (.int ns[i] u) (.int b t) >>= _)) _ >>= _) _ _ { s with heap:=h' };refine aBL (wpAny_tryCatch (wpAny_holding (aBL (gt_int (s:={ s with heap:=h' }) ?_))));refine aBL (wpAny_holding (wpAny_truthy_bool (aBL (wpAny_letGo (aBM ?_)))))
   by_cases hb:b<ns[i]
   ·have hd:decide (b<ns[i])=true:=aBa hb;simp only[hd,if_true];refine aBL (wpAny_updateSeq hS' rfl (aBL (wpAny_letGo ?_)));rw[nm];obtain⟨c',e1⟩:∃ c',(h'.update S (Obj.mapSeq fun _=>#[Value.int ns[i] u,Value.int ns[i] u])).get? S=some (two ns[i] u c'):=⟨_,aB6 _ hS' rfl⟩;refine aBM ⟨plainId_quiet PySem.F.plain_max_loop _,ih (i+1) { s with heap:=h'.update S (Obj.mapSeq fun _=>#[Value.int ns[i] u,Value.int ns[i] u]) } ns[i] u _ (by omega) hi' (st'.at fun o e=>(aBS _ _ (Ne.symm hiS)).trans e) (hl'.at fun o e=>(aBS _ _ (Ne.symm hlS)).trans e) e1 fun h'' tk t' kp=>?_⟩;have q:=hR h'' tk t' (fun x o h1 h2 e=>kp x o h1 h2 ((aBS _ _ (Ne.symm h2)).trans (sb.extBut x o h1 e)));rw[hdr,aBf,show max b ns[i]=ns[i]by omega]at q;exact q
   ·have hd:decide (b<ns[i])=false:=aB9 hb;simp only[hd,Bool.false_eq_true,if_false];refine aBL (wpAny_letGo ?_);rw[nm];refine aBM ⟨plainId_quiet PySem.F.plain_max_loop _,ih (i+1) { s with heap:=h' } b t c (by omega) hi' st' hl' hS' fun h'' tk t' kp=>?_⟩;have q:=hR h'' tk t' (fun x o h1 h2 e=>kp x o h1 h2 (sb.extBut x o h1 e));rw[hdr,aBf,show max b ns[i]=b by omega]at q;exact q)
theorem G2 (hh:A.handled=none) (hI:IntsAre its ns) (hne:ns≠[]) (hlt:l≠it) (hiS:it≠S) (hlS:l≠S) {s:Shared} {c:Nat} (st:s.heap.IsListIter it l 0) (hl:s.heap.IsList l its.toArray)
 (hS:s.heap.get? S=some { cls:=.type "list",dict:=none,data:=.seq #[] c,slots:=#[] })
 (hR:∀ h' tk v u,(∀ x o,x≠it->x≠S->s.heap.get? x=some o->h'.get? x=some o)->RelV v u->(v=match ns with | []=>.non | n :: r=>.int (r.foldl max n))->R (.ok (.ret u)) { s with heap:=h',toks:=tk }) :
 codeAny (model prog w) A (.builtin "max.loop" ⟨[.ref it,.none,.ref S],[]⟩) R s:=by
 have nm:(toString "max"++toString ".loop":String)="max.loop":=by decide
 cases hI with
 | nil=>exact absurd rfl hne
 | @cons n t its' ns' r =>
  refine codeAny_builtin PySem.F.entry_max_loop (by
   rw[aBZ PySem.F.plain_max_loop _];show wpAny _ A.in1 (seqItems? (Value.ref S) >>= _) _ _ s;refine aBL (wpAny_seqItems hS rfl ?_);show wpAny _ A.in1 (tryCatch (pyNext (Value.ref it)) _ >>= _) _ _ s;refine aBL (wpAny_tryCatch (wpAny_pyNext_list_item st hl (x:=.int n t) (by simp) fun h' st' sb=>?_));have hS':=sb.extBut S _ (Ne.symm hiS) hS;have hl':=hl.extBut sb.extBut hlt;show wpAny _ A.in1 (updateSeq S (fun _=>#[Value.int n t,Value.int n t]) >>= _) _ _ { s with heap:=h' };refine aBL (wpAny_updateSeq hS' rfl ?_);rw[nm];obtain⟨c',e1⟩:∃ c',(h'.update S (Obj.mapSeq fun _=>#[Value.int n t,Value.int n t])).get? S=some (two n t c'):=⟨_,aB6 _ hS' rfl⟩;refine aBM ⟨plainId_quiet PySem.F.plain_max_loop _,S7 hh (.cons n t r) hlt hiS hlS _ 1 { s with heap:=h'.update S (Obj.mapSeq fun _=>#[Value.int n t,Value.int n t]) } n t _ rfl (by simp) (st'.at fun o e=>(aBS _ _ (Ne.symm hiS)).trans e) (hl'.at fun o e=>(aBS _ _ (Ne.symm hlS)).trans e) e1 fun h'' tk t' kp=>?_⟩;exact hR h'' tk (.int (ns'.foldl max n)) _ (fun x o h1 h2 e=>kp x o h1 h2 ((aBS _ _ (Ne.symm h2)).trans (sb.extBut x o h1 e))) ⟨t',rfl⟩ rfl)
theorem G3 {E:Value->Shared->Prop} {s:Shared} {Q:Value->Shared->Prop} (hh:A.handled=none) (hI:IntsAre its ns) (hne:ns≠[]) (hl:s.heap.IsList l its.toArray)
 (h:∀ h' tk u,(∀ x o,s.heap.get? x=some o->h'.get? x=some o)->RelV (mxD ns .non) u->Q u { s with heap:=h',toks:=tk }):wpAny (model prog w) A (call (.builtin "max") [.ref l]) Q E s:=by
 have nm:(toString "max"++toString ".loop":String)="max.loop":=by decide
 refine kmk_tree PySem.F.kind_max PySem.F.plain_max PySem.F.entry_max (sW _) (by
  show wpAny _ A.in1 (Builtin.Builtins.bindParams "max" ["key","default"] 0 ⟨[],[]⟩ >>= _) _ _ s;refine aBL (wpAny_of_eq (show Builtin.Builtins.bindParams "max" ["key","default"] 0 ⟨[],[]⟩=pure [none,none] from rfl) (aBL (aBM ?_)));refine aBL (wpAny_pyIter_list hl ?_);refine aBL (wpAny_newObj_type ?_);rw[nm];have hlt:l<s.heap.objs.size:=by obtain⟨_,e,_⟩:=hl;exact aBT e
  refine aBM ⟨plainId_quiet PySem.F.plain_max_loop _,G2 (l:=l) (it:=s.heap.objs.size) (its:=its) hh hI hne (aBb hlt) (by rw[Heap.size_push];exact aBb (Nat.lt_succ_self _)) (by rw[Heap.size_push];exact aBb (Nat.lt_succ_of_lt hlt)) ⟨_,aBO _ (aBU _ rfl),rfl,rfl⟩ ((hl.push _).push _) (aBU _ rfl) fun h' tk v u kp rv ev=>?_⟩;subst ev;refine h h' tk u (fun x o e=>?_) rv;have hx:=aBT e;exact kp x o (aBb hx) (by rw[Heap.size_push];exact aBb (Nat.lt_succ_of_lt hx)) (aBO _ (aBO _ e)))
theorem S8 (hh:A.handled=none) (hI:IntsAre its ns) (hlt:l≠it) (hiS:it≠S) (hlS:l≠S) :
 ∀ (k i:Nat) (s:Shared) (b:Int) (t:Tok) (c:Nat),ns.length - i=k->i<=ns.length->s.heap.IsListIter it l i->s.heap.IsList l its.toArray->s.heap.get? S=some (two b t c) ->
  (∀ h' tk t',(∀ x o,x≠it->x≠S->s.heap.get? x=some o->h'.get? x=some o)->R (.ok (.ret (.int ((ns.drop i).foldl min b) t'))) { s with heap:=h',toks:=tk }) ->
  codeAny (model prog w) A (.builtin "min.loop" ⟨[.ref it,.none,.ref S],[]⟩) R s:=by
 have nm:(toString "min"++toString ".loop":String)="min.loop":=by decide
 intro k
 induction k with
 | zero =>
  intro i s b t c hk hi st hl hS hR;have e:i=ns.length:=by omega
  refine codeAny_builtin PySem.F.entry_min_loop (by
   rw[aBZ PySem.F.plain_min_loop _];show wpAny _ A.in1 (seqItems? (Value.ref S) >>= _) _ _ s;refine aBL (wpAny_seqItems hS rfl ?_);show wpAny _ A.in1 (tryCatch (pyNext (Value.ref it)) _ >>= _) _ _ s;refine aBL (wpAny_tryCatch (wpAny_pyNext_list_end hh st hl (by have:=hI.length;simp;omega) fun h' eb=>?_));have hS':=eb S _ (Ne.symm hiS) hS;show wpAny _ A.in1 (updateSeq S (fun _=>#[]) >>= _) _ _ { s with heap:=h' };refine aBL (wpAny_updateSeq hS' rfl (aBL (wpAny_letGo (aBM ?_))));have q:=hR (h'.update S (Obj.mapSeq fun _=>#[])) s.toks t (fun x o h1 h2 e=>(aBS _ _ (Ne.symm h2)).trans (eb x o h1 e));rw[e,List.drop_length]at q;exact q)
 | succ k ih =>
  intro i s b t c hk hi st hl hS hR;have hi':i<ns.length:=by omega
  obtain⟨u,hu⟩:=mL (i:=i) (n:=ns[i]) hI (by simp[hi']);have hdr:ns.drop i=ns[i] :: ns.drop (i+1):=List.drop_eq_getElem_cons hi';refine codeAny_builtin PySem.F.entry_min_loop (by
   rw[aBZ PySem.F.plain_min_loop _];show wpAny _ A.in1 (seqItems? (Value.ref S) >>= _) _ _ s;refine aBL (wpAny_seqItems hS rfl ?_);show wpAny _ A.in1 (tryCatch (pyNext (Value.ref it)) _ >>= _) _ _ s;refine aBL (wpAny_tryCatch (wpAny_pyNext_list_item st hl (x:=.int ns[i] u) (by simpa using hu) fun h' st' sb=>?_));have hS':=sb.extBut S _ (Ne.symm hiS) hS;have hl':=hl.extBut sb.extBut hlt;show wpAny _ A.in1 (tryCatch (holding [.int ns[i] u,.int ns[i] u] (richCompare .Lt (.int ns[i] u) (.int b t) >>= _)) _ >>= _) _ _ { s with heap:=h' };refine aBL (wpAny_tryCatch (wpAny_holding (aBL (lt_int (s:={ s with heap:=h' }) ?_))));refine aBL (wpAny_holding (wpAny_truthy_bool (aBL (wpAny_letGo (aBM ?_)))))
   by_cases hb:ns[i]<b
   ·have hd:decide (ns[i]<b)=true:=aBa hb;simp only[hd,if_true];refine aBL (wpAny_updateSeq hS' rfl (aBL (wpAny_letGo ?_)));rw[nm];obtain⟨c',e1⟩:∃ c',(h'.update S (Obj.mapSeq fun _=>#[Value.int ns[i] u,Value.int ns[i] u])).get? S=some (two ns[i] u c'):=⟨_,aB6 _ hS' rfl⟩;refine aBM ⟨plainId_quiet PySem.F.plain_min_loop _,ih (i+1) { s with heap:=h'.update S (Obj.mapSeq fun _=>#[Value.int ns[i] u,Value.int ns[i] u]) } ns[i] u _ (by omega) hi' (st'.at fun o e=>(aBS _ _ (Ne.symm hiS)).trans e) (hl'.at fun o e=>(aBS _ _ (Ne.symm hlS)).trans e) e1 fun h'' tk t' kp=>?_⟩;have q:=hR h'' tk t' (fun x o h1 h2 e=>kp x o h1 h2 ((aBS _ _ (Ne.symm h2)).trans (sb.extBut x o h1 e)));rw[hdr,aBf,show min b ns[i]=ns[i]by omega]at q;exact q
   ·have hd:decide (ns[i]<b)=false:=aB9 hb;simp only[hd,Bool.false_eq_true,if_false];refine aBL (wpAny_letGo ?_);rw[nm];refine aBM ⟨plainId_quiet PySem.F.plain_min_loop _,ih (i+1) { s with heap:=h' } b t c (by omega) hi' st' hl' hS' fun h'' tk t' kp=>?_⟩;have q:=hR h'' tk t' (fun x o h1 h2 e=>kp x o h1 h2 (sb.extBut x o h1 e));rw[hdr,aBf,show min b ns[i]=b by omega]at q;exact q)
theorem G4 (hh:A.handled=none) (hI:IntsAre its ns) (hne:ns≠[]) (hlt:l≠it) (hiS:it≠S) (hlS:l≠S) {s:Shared} {c:Nat} (st:s.heap.IsListIter it l 0) (hl:s.heap.IsList l its.toArray)
 (hS:s.heap.get? S=some { cls:=.type "list",dict:=none,data:=.seq #[] c,slots:=#[] })
 (hR:∀ h' tk v u,(∀ x o,x≠it->x≠S->s.heap.get? x=some o->h'.get? x=some o)->RelV v u->(v=match ns with | []=>.non | n :: r=>.int (r.foldl min n))->R (.ok (.ret u)) { s with heap:=h',toks:=tk }) :
 codeAny (model prog w) A (.builtin "min.loop" ⟨[.ref it,.none,.ref S],[]⟩) R s:=by
 have nm:(toString "min"++toString ".loop":String)="min.loop":=by decide
 cases hI with
 | nil=>exact absurd rfl hne
 | @cons n t its' ns' r =>
  refine codeAny_builtin PySem.F.entry_min_loop (by
   rw[aBZ PySem.F.plain_min_loop _];show wpAny _ A.in1 (seqItems? (Value.ref S) >>= _) _ _ s;refine aBL (wpAny_seqItems hS rfl ?_);show wpAny _ A.in1 (tryCatch (pyNext (Value.ref it)) _ >>= _) _ _ s;refine aBL (wpAny_tryCatch (wpAny_pyNext_list_item st hl (x:=.int n t) (by simp) fun h' st' sb=>?_));have hS':=sb.extBut S _ (Ne.symm hiS) hS;have hl':=hl.extBut sb.extBut hlt;show wpAny _ A.in1 (updateSeq S (fun _=>#[Value.int n t,Value.int n t]) >>= _) _ _ { s with heap:=h' };refine aBL (wpAny_updateSeq hS' rfl ?_);rw[nm];obtain⟨c',e1⟩:∃ c',(h'.update S (Obj.mapSeq fun _=>#[Value.int n t,Value.int n t])).get? S=some (two n t c'):=⟨_,aB6 _ hS' rfl⟩;refine aBM ⟨plainId_quiet PySem.F.plain_min_loop _,S8 hh (.cons n t r) hlt hiS hlS _ 1 { s with heap:=h'.update S (Obj.mapSeq fun _=>#[Value.int n t,Value.int n t]) } n t _ rfl (by simp) (st'.at fun o e=>(aBS _ _ (Ne.symm hiS)).trans e) (hl'.at fun o e=>(aBS _ _ (Ne.symm hlS)).trans e) e1 fun h'' tk t' kp=>?_⟩;exact hR h'' tk (.int (ns'.foldl min n)) _ (fun x o h1 h2 e=>kp x o h1 h2 ((aBS _ _ (Ne.symm h2)).trans (sb.extBut x o h1 e))) ⟨t',rfl⟩ rfl)
theorem G5 (a:Value):argsOk "min" ⟨[a],[]⟩:=by unfold argsOk;kernel_rfl
theorem G6 {E:Value->Shared->Prop} {s:Shared} {Q:Value->Shared->Prop} (hh:A.handled=none) (hI:IntsAre its ns) (hne:ns≠[]) (hl:s.heap.IsList l its.toArray)
 (h:∀ h' tk u,(∀ x o,s.heap.get? x=some o->h'.get? x=some o)->RelV (mnD ns .non) u->Q u { s with heap:=h',toks:=tk }):wpAny (model prog w) A (call (.builtin "min") [.ref l]) Q E s:=by
 have nm:(toString "min"++toString ".loop":String)="min.loop":=by decide
 refine kmk_tree PySem.F.kind_min PySem.F.plain_min PySem.F.entry_min (G5 _) (by
  show wpAny _ A.in1 (Builtin.Builtins.bindParams "min" ["key","default"] 0 ⟨[],[]⟩ >>= _) _ _ s;refine aBL (wpAny_of_eq (show Builtin.Builtins.bindParams "min" ["key","default"] 0 ⟨[],[]⟩=pure [none,none] from rfl) (aBL (aBM ?_)));refine aBL (wpAny_pyIter_list hl ?_);refine aBL (wpAny_newObj_type ?_);rw[nm];have hlt:l<s.heap.objs.size:=by obtain⟨_,e,_⟩:=hl;exact aBT e
  refine aBM ⟨plainId_quiet PySem.F.plain_min_loop _,G4 (l:=l) (it:=s.heap.objs.size) (its:=its) hh hI hne (aBb hlt) (by rw[Heap.size_push];exact aBb (Nat.lt_succ_self _)) (by rw[Heap.size_push];exact aBb (Nat.lt_succ_of_lt hlt)) ⟨_,aBO _ (aBU _ rfl),rfl,rfl⟩ ((hl.push _).push _) (aBU _ rfl) fun h' tk v u kp rv ev=>?_⟩;subst ev;refine h h' tk u (fun x o e=>?_) rv;have hx:=aBT e;exact kp x o (aBb hx) (by rw[Heap.size_push];exact aBb (Nat.lt_succ_of_lt hx)) (aBO _ (aBO _ e)))
end
section
variable {X:Cx}
theorem G7 (hc:X.calm=true):eY X (.builtin "max") (fun xs H Q=>∃ (a:Addr) (ns:List Int),xs=[.ref a]/\H a=some (.lst (ns.map V.int))/\ns≠[]/\Q (mxD ns .non) H):=by
 intro pins s σ H xs us Q I r h;obtain⟨a,ns,rfl,ha,hne,q⟩:=h;obtain⟨u,rfl,rx⟩:=hU r;cases rx;obtain⟨its,rv,pl,hz⟩:=I.list (SqL.of ha);exact G3 (I.ok.hd hc) (hX rv) hne pl.isList fun h' tk u kp ru=>⟨_,H,I.kept kp,ru,q⟩
theorem G8 (hc:X.calm=true):eY X (.builtin "min") (fun xs H Q=>∃ (a:Addr) (ns:List Int),xs=[.ref a]/\H a=some (.lst (ns.map V.int))/\ns≠[]/\Q (mnD ns .non) H):=by
 intro pins s σ H xs us Q I r h;obtain⟨a,ns,rfl,ha,hne,q⟩:=h;obtain⟨u,rfl,rx⟩:=hU r;cases rx;obtain⟨its,rv,pl,hz⟩:=I.list (SqL.of ha);exact G6 (I.ok.hd hc) (hX rv) hne pl.isList fun h' tk u kp ru=>⟨_,H,I.kept kp,ru,q⟩
end
end L2
namespace CW
open PySem L2
theorem Lst.le {r:List Int} {ps:Trs} (h:Lst r ps) {n:Int} (b:Bd ps n):∀ x∈r,x<=n:=by
 cases h with
 | nil=>intro x hx;cases hx
 | snoc a hlt c =>
  rename_i r ps0 p
  have bd:=a.bd (n:=p - 1) fun x hx=>by have:=hlt x hx;omega
  obtain⟨s,rest,h0,h1,_⟩:=c.tak bd;have:=(b _ (h1.mem_iff.mpr aBP)).2;simp only at this;intro x hx;rcases aBs.mp hx with hx | hx
  ·have:=hlt x hx;omega
  ·have:x=p:=by simpa using hx
   omega
theorem Lst.rowp {r:List Int} {ps:Trs} (h:Lst r ps):Row r:=by
 induction h with
 | nil=>exact List.Pairwise.nil
 | snoc a b c ih=>exact vT ih b
theorem qL {ps qs ps0:Trs} {p:Int} {done:List Int} (t:Tak ps p qs) (hp:∀ q∈ps,1<=q.1) (fin:∀ r,Lst r ps->Lst (r++done) ps0):∀ r,Lst r qs->Lst (r++p :: done) ps0:=fun r hr=>by
 obtain⟨b,a⟩:=t.add hp;have:=fin (r++[p]) (.snoc hr (fun x hx=>by have:=hr.le b x hx;omega) a);rw[List.append_assoc]at this;exact this
theorem Tak.pos {ps qs:Trs} {p:Int} (h:Tak ps p qs) (hp:∀ q∈ps,1<=q.1):∀ q∈qs,1<=q.1:=fun q hq=>((h.add hp).1 q hq).1
theorem Tak.sizx {ps qs:Trs} {p:Int} (h:Tak ps p qs) (hp:∀ q∈ps,1<=q.1):siz ps=siz qs+1:=(h.add hp).2.sizx
theorem B0 {ps:Trs} (h:∀ q∈ps,1<=q.1):(ps.length:Int)<=siz ps:=cU h
theorem yP {ms row:List Int} (hp:ms.Perm row) (hs:ms.Pairwise (·<=·)) (hr:Row row.reverse):ms=row.reverse :=
 List.Perm.eq_of_pairwise (le:=fun a b:Int=>a<=b) (fun x y _ _ h1 h2=>by omega) hs (hr.imp fun {x y} q=>by omega) (hp.trans (List.reverse_perm _).symm)
theorem kP:∀ (r:List Int) (n:Int),(r.foldl min n=n\/r.foldl min n∈r)/\r.foldl min n<=n/\∀ x∈r,r.foldl min n<=x
 | [],n=>⟨.inl rfl,Int.le_refl _,fun x hx=>(nomatch hx)⟩
 | a :: r,n=>by
  obtain⟨h1,h2,h3⟩:=kP r (min n a);rw[aBf];refine⟨?_,by omega,fun x hx=>?_⟩
  ·rcases h1 with h1 | h1
   ·rcases Int.le_total n a with c | c
    ·left;rw[h1];omega
    ·right;rw[h1];rw[show min n a=a by omega];exact aBP
   ·exact .inr (aBQ _ h1)
  ·rcases aBr.mp hx with rfl | hx
   ·omega
   ·exact h3 x hx
theorem S9 {ns:List Int} (h:ns≠[]):∃ m:Int,mxD ns .non=.int m/\m∈ns/\∀ x∈ns,x<=m:=by
 cases ns with
 | nil=>exact absurd rfl h
 | cons n r =>
  obtain⟨a1,a2,a3⟩:=dH r n;refine⟨_,rfl,?_,fun x hx=>?_⟩
  ·rcases a1 with h | h
   ·rw[h];exact aBP
   ·exact aBQ _ h
  ·rcases aBr.mp hx with rfl | hx
   ·exact a2
   ·exact a3 x hx
theorem T1 {ns:List Int} (h:ns≠[]):∃ m:Int,mnD ns .non=.int m/\m∈ns/\∀ x∈ns,m<=x:=by
 cases ns with
 | nil=>exact absurd rfl h
 | cons n r =>
  obtain⟨a1,a2,a3⟩:=kP r n;refine⟨_,rfl,?_,fun x hx=>?_⟩
  ·rcases a1 with h | h
   ·rw[h];exact aBP
   ·exact aBQ _ h
  ·rcases aBr.mp hx with rfl | hx
   ·exact a2
   ·exact a3 x hx
theorem wN {ps ps2:Trs} {p s:Int} (hpos:∀ q∈ps,1<=q.1) (hm:(s,p - 2 * les ps s)∈ps) (hp:∀ q∈ps,q.2+2 * les ps q.1<=p) (hs:∀ q∈ps,q.2+2 * les ps q.1=p->s<=q.1)
 (h2:s=1/\ps2=ps.erase (s,p - 2 * les ps s)\/2<=s/\ps2=ps.erase (s,p - 2 * les ps s)++[(s - 1,p - 1 - 2 * les (ps.erase (s,p - 2 * les ps s)++[(s - 1,0)]) (s - 1))]):Tak ps p ps2:=by
 refine⟨s,ps.erase (s,p - 2 * les ps s),hpos _ hm,List.perm_cons_erase hm,hp,fun q hq hl=>?_,?_⟩
 ·have h1:=hp q hq;have h2:=hs q hq;rcases Int.lt_or_eq_of_le h1 with c | c
  ·exact c
  ·have:=h2 c;omega
 ·rcases h2 with ⟨a,rfl⟩ | ⟨a,rfl⟩
  ·exact .inl ⟨a,.refl _⟩
  ·refine .inr ⟨a,?_⟩;have:p - 1 - 2 * les (ps.erase (s,p - 2 * les ps s)++[(s - 1,0)]) (s - 1)=p - 1 - 2 * les (ps.erase (s,p - 2 * les ps s)) (s - 1) - 2 * (s - 1):=by
    rw[qF,bM,A7];simp only;omega
   rw[this];exact List.perm_append_comm
theorem yQ {gs:List Grp} (gd:GoodG gs) {qs:List (Int×Int)} {j:Nat} {p:Int×Int} (ht:Top qs qs.length j) (hj:qs[j]?=some p) (h1:∀ q∈qs,∃ g∈gs,∃ hne:g.2.2≠[],q=(g.2.2.getLast hne+2 * les (bH gs) g.1,-g.1))
 (h2:∀ g∈gs,∀ hne:g.2.2≠[],(g.2.2.getLast hne+2 * les (bH gs) g.1,-g.1)∈qs) :
 ∃ g∈gs,∃ hne:g.2.2≠[],p.2=-g.1/\g.2.2.getLast hne+2 * les (bH gs) g.1=p.1/\∀ x∈gs,∀ hx:x.2.2≠[],x.2.2.getLast hx+2 * les (bH gs) x.1<=p.1/\(x.1<g.1->x.2.2.getLast hx+2 * les (bH gs) x.1<p.1):=by
 obtain⟨g,hg,hne,e⟩:=h1 p (aBY hj);refine⟨g,hg,hne,by rw[e],by rw[e],fun x hx hnx=>?_⟩;obtain⟨k,hk,hkx⟩:=List.mem_iff_getElem.mp (h2 x hx hnx);have h3:=ht.2 k hk;have e1:qs.getD j (0,0)=p:=by rw[List.getD_eq_getElem?_getD,hj];rfl
 have e2:qs.getD k (0,0)=(x.2.2.getLast hnx+2 * les (bH gs) x.1,-x.1):=by rw[List.getD_eq_getElem?_getD,aBX hk,hkx];rfl
 rw[e1,e2,gN]at h3;simp only at h3;rw[e]at h3 ⊢;simp only at h3 ⊢;omega
section
variable {P:Program} {w:World} {K:PySem.W.Frag} {mg:Str->Option Value} {base:Heap}
inductive jG (vs:List V) (H:Hp) (Q:VK) (E_:XK):Prop
 | mk (a:Addr) (ps:List (Int×Int)) (h0_:vs=[.ref a]) (h1_:LP H a ps) (h2_:ps.length<=60) (h3_:∀ (d:Addr) (gs:List Grp) (H':Hp),H d=none->Same H H'->DG H' d gs->(bH gs).Perm ps->Asc gs->(∀ g∈gs,g.2.2≠[]/\H g.2.1=none)->Q (.ref d) H'):jG vs H Q E_
inductive x8 (H0:Hp) (ps:Trs) (a d r:Addr) (m:Nat) (σ:St) (Hx:Hp):Prop
 | mk (gs:List Grp) (row:List Int) (v3 v4 v5 v6:Option V) (h0_:σ=[some (.ref a),some (.ref d),some (.ref r),v3,v4,v5,v6]) (h1_:Same H0 Hx) (h2_:DG Hx d gs) (h3_:GoodG gs) (h4_:Asc gs) (h5_:Hx r=some (.lst (row.map V.int))) (h6_:(∀ g∈gs,H0 g.2.1=none/\g.2.1≠r)) (h7_:sto gs=(m:Int)) (h8_:m+row.length<=60) (h9_:∀ r',Lst r' (bH gs)->Lst (r'++row.reverse) ps):x8 H0 ps a d r m σ Hx
inductive mV (vs:List V) (H:Hp) (Q:VK) (E_:XK):Prop
 | mk (a:Addr) (ps:List (Int×Int)) (h0_:vs=[.ref a]) (h1_:LP H a ps) (h2_:Trn ps) (h3_:∀ r:List Int,Lst r ps->E1 H Q r):mV vs H Q E_
inductive mW (vs:List V) (H:Hp) (Q:VK) (E_:XK):Prop
 | mk (a:Addr) (ps:List (Int×Int)) (h0_:vs=[.ref a]) (h1_:LP H a ps) (h2_:Trn ps) (h3_:∀ r:List Int,Lst r ps->E1 H Q r):mW vs H Q E_
end
theorem wO {H:Hp}:∀ {us:List V} {ps:Trs} (n:Nat),Prs H us ps->Prs H (us.drop n) (ps.drop n)
 | _,_,0,r=>r
 | _,_,_+1,.nil=>.nil
 | _,_,n+1,.cons _ t=>wO n t
theorem qM {H:Hp}:∀ {us:List V} {ps:Trs} (n:Nat),Prs H us ps->Prs H (us.take n) (ps.take n)
 | _,_,0,_=>.nil
 | _,_,_+1,.nil=>.nil
 | _,_,n+1,.cons r t=>.cons r (qM n t)
theorem T3 {ps qs:Trs} (h:Trn ps) (e:qs.Perm ps):Trn qs:=⟨fun p hp=>h.pos p (e.mem_iff.mp hp),by have:=jC e;have:=h.few;unfold siz szs at *;omega⟩
def gJ (s:Int) (q:Int×Int):Int:=q.2 * (if s<q.1 then s else q.1)
def fM (ws:List (Int×Int)) (s:Int):Int:=(ws.map (gJ s)).sum
def cR (ps ws:List (Int×Int)):List (Int×Int):=ps.map fun p=>(p.1,p.2+fM ws p.1)
def Crl (ws:List (Int×Int)):Prop:=∀ q∈ws,1<=q.1
inductive pH (vs:List V) (H:Hp) (Q:VK) (E_:XK):Prop
 | mk (a:Addr) (ws:List (Int×Int)) (h0_:vs=[.ref a]) (h1_:LP H a ws) (h2_:Crl ws) (h3_:Q .non H):pH vs H Q E_
inductive uM (vs:List V) (H:Hp) (Q:VK) (E_:XK):Prop
 | mk (a:Addr) (ws:List (Int×Int)) (s:Int) (h0_:vs=[.ref a,.int s]) (h1_:LP H a ws) (h2_:ws.length<=200) (h3_:Crl ws) (h4_:0<=s) (h5_:s<=1000) (h6_:∀ H',Same H H'->Q (.int (fM ws s)) H'):uM vs H Q E_
inductive pI (vs:List V) (H:Hp) (Q:VK) (E_:XK):Prop
 | mk (a b:Addr) (ps ws:List (Int×Int)) (h0_:vs=[.ref a,.ref b]) (h1_:LP H a ps) (h2_:Trn ps) (h3_:LP H b ws) (h4_:ws.length<=200) (h5_:Crl ws) (h6_:∀ qs:List (Int×Int),qs.Perm (cR ps ws)->qs.Pairwise ple->P5 H Q qs):pI vs H Q E_
inductive pJ (vs:List V) (H:Hp) (Q:VK) (E_:XK):Prop
 | mk (a:Addr) (ns:List Int) (m:Nat) (h0_:vs=[.ref a,.int m]) (h1_:H a=some (.lst (ns.map V.int))) (h2_:2 * m+1<=ns.length) (h3_:m<=60) (h4_:∀ ws:List (Int×Int),ws.length<=m->Crl ws->(∀ q∈ws,-4<=q.2/\q.2<=4)->P5 H Q ws):pJ vs H Q E_
inductive uN (vs:List V) (H:Hp) (Q:VK) (E_:XK):Prop
 | mk (a b:Addr) (ps ws:List (Int×Int)) (h0_:vs=[.ref a,.ref b]) (h1_:LP H a ps) (h2_:Trn ps) (h3_:LP H b ws) (h4_:ws.length<=200) (h5_:Crl ws) (h6_:∀ qs:List (Int×Int),qs.Perm (cR ps ws)->qs.Pairwise ple->P5 H Q qs):uN vs H Q E_
theorem T4 {ps:List (Int×Int)} (h:Trn ps) {p:Int×Int} (hp:p∈ps):p.1<=60:=by
 have:=h.few;have:∀ {l:List (Int×Int)},(∀ q∈l,1<=q.1)->p∈l->p.1<=(szs l).sum:=by
  intro l
  induction l with
  | nil=>intro _ z;cases z
  | cons x r ih =>
   intro hpos hm;simp only[szs,aBd,aBg];have hx:=hpos x aBP;have hr:=cU (ps:=r) fun q hq=>hpos q (aBQ _ hq);rcases aBr.mp hm with rfl | hm
   ·simp only[szs]at hr;omega
   ·have:=ih (fun q hq=>hpos q (aBQ _ hq)) hm;simp only[szs]at this;omega
 have:=this h.pos hp;omega
end CW
namespace CW
def tr (s o:Int) (rest:Trs):Trs:=if s=0 then rest else (s,o) :: rest
theorem jP {s o:Int} {rest:Trs} {j:Int} (hs:0<=s) (hj:0<=j):les (tr s o rest) j=min j s+les rest j:=by
 unfold tr;split
 ·omega
 ·rw[bM]
theorem qN {s o:Int} {rest:Trs} {q:Int×Int} (h:q∈tr s o rest):q=(s,o)/\s≠0\/q∈rest:=by
 unfold tr at h;split at h
 ·exact .inr h
 ·rcases aBr.mp h with h | h
  ·exact .inl ⟨h,by assumption⟩
  ·exact .inr h
theorem uO {s o:Int} {rest:Trs} {q:Int×Int} (h:q∈rest):q∈tr s o rest:=by
 unfold tr;split
 ·exact h
 ·exact aBQ _ h
theorem d3 {s o:Int} {a b:Trs} (h:a.Perm b):(tr s o a).Perm (tr s o b):=by
 unfold tr;split
 ·exact h
 ·exact h.cons _
theorem uP {ps qs:Trs} {p s:Int} {rest:Trs} (h0:0<=s) (h1:ps.Perm (tr s (p - 1 - 2 * les ps s) rest)) (h2:∀ q∈ps,s<q.1->q.2+2 * les ps q.1≠p - 1) (h3:qs.Perm ((s+1,p - 2 * les rest (s+1) - 2 * (s+1)) :: rest)):Add ps p qs:=by
 refine⟨s,rest,h0,?_,h2,h3⟩;unfold tr at h1;split at h1
 ·exact .inl ⟨by assumption,h1⟩
 ·exact .inr ⟨by omega,h1⟩
theorem Add.tr' {ps qs:Trs} {p:Int} (h:Add ps p qs):∃ (s:Int) (rest:Trs),0<=s/\ps.Perm (tr s (p - 1 - 2 * les ps s) rest)/\(∀ q∈ps,s<q.1->q.2+2 * les ps q.1≠p - 1)/\qs.Perm ((s+1,p - 2 * les rest (s+1) - 2 * (s+1)) :: rest):=by
 obtain⟨s,rest,h0,h1,h2,h3⟩:=h;refine⟨s,rest,h0,?_,h2,h3⟩;unfold tr;rcases h1 with ⟨a,b⟩ | ⟨a,b⟩
 ·rw[if_pos a];exact b
 ·rw[if_neg (by omega)];exact b
theorem Tak.tr' {ps qs:Trs} {p:Int} (h:Tak ps p qs):∃ (s:Int) (rest:Trs),1<=s/\ps.Perm ((s,p - 2 * les ps s) :: rest)/\(∀ q∈ps,q.2+2 * les ps q.1<=p)/\(∀ q∈ps,q.1<s->q.2+2 * les ps q.1<p)/\qs.Perm (tr (s - 1) (p - 1 - 2 * les rest (s - 1) - 2 * (s - 1)) rest):=by
 obtain⟨s,rest,h0,h1,h2,h3,h4⟩:=h;refine⟨s,rest,h0,h1,h2,h3,?_⟩;unfold tr;rcases h4 with ⟨a,b⟩ | ⟨a,b⟩
 ·rw[if_pos (by omega)];exact b
 ·rw[if_neg (by omega)];exact b
def rnn (p:Int) (k:Nat):List Int:=(List.range k).map fun(j:Nat)=>p+(j:Int)
theorem wP (p:Int) (k:Nat):rnn p (k+1)=rnn p k++[p+(k:Int)]:=by unfold rnn;rw[List.range_succ,aB2];rfl
theorem T5 (p:Int):rnn p 0=[]:=rfl
theorem mX {p:Int} {k:Nat} {x:Int} (h:x∈rnn p k):p<=x/\x<=p+(k:Int) - 1:=by
 unfold rnn at h;obtain⟨j,hj,rfl⟩:=aBt.mp h;have:=List.mem_range.mp hj;omega
theorem uQ {fs:List Int} {p:Int} {k:Nat} (hf:∀ x∈fs,x<p):∀ x∈fs++rnn p k,x<=p+(k:Int) - 1:=fun x hx=>by
 rcases aBs.mp hx with h | h
 ·have:=hf x h;omega
 ·have:=mX h;omega
theorem uR {fs:List Int} {p:Int} {k:Nat} {Y:Trs} (h:Lst (fs++rnn p (k+1)) Y):∃ Y',Lst (fs++rnn p k) Y'/\Tak Y (p+(k:Int)) Y':=by
 rw[wP,<- List.append_assoc]at h;obtain⟨Y',h1,h2,h3⟩:=h.inv;exact⟨Y',h1,h3.tak (h1.bd fun x hx=>by have:=h2 x hx;omega)⟩
theorem uS {fs:List Int} {p:Int} {k:Nat} {X X':Trs} (hf:∀ x∈fs,x<p) (h:Lst (fs++rnn p k) X') (a:Add X' (p+(k:Int)) X):Lst (fs++rnn p (k+1)) X:=by
 rw[wP,<- List.append_assoc];exact .snoc h (fun x hx=>by have:=uQ hf x hx;omega) a
theorem x9 {fs:List Int} {p:Int} (hf:∀ x∈fs,x<p):∀ (k:Nat) (Y rest X:Trs),Lst (fs++rnn p k) Y->(∀ q∈Y,q.1<=(k:Int)->q.2+2 * les Y q.1<=p - 1+q.1) ->
 Y.Perm (tr (k:Int) (p - 1+(k:Int) - 2 * les Y (k:Int)) rest)->X.Perm (tr (k:Int) (p+(k:Int) - 2 * les Y (k:Int)) rest)->Lst (fs++rnn (p+1) k) X:=by
 intro k
 induction k with
 | zero =>
  intro Y rest X hY hC hp hx;have e:∀ o,tr ((0:Nat):Int) o rest=rest:=fun o=>rfl;rw[e]at hp hx;exact hY.perm (hp.trans hx.symm)
 | succ k ih =>
  intro Y rest X hY hC hp hx;obtain⟨Y',hY',hT⟩:=uR hY;obtain⟨t,rT,ht1,hTp,hTm,hTs,hT'⟩:=hT.tr';have hk0:((k+1:Nat):Int)≠0:=by omega
  have hmem:(((k+1:Nat):Int),p - 1+((k+1:Nat):Int) - 2 * les Y ((k+1:Nat):Int))∈Y:=hp.mem_iff.mpr (by unfold tr;rw[if_neg hk0];exact aBP);have htm:(t,p+(k:Int) - 2 * les Y t)∈Y:=hTp.mem_iff.mpr aBP;have a1:=hTs _ hmem;have a2:=hC _ htm;simp only at a1 a2;have htk:t=((k+1:Nat):Int):=by
   rcases Int.lt_trichotomy t ((k+1:Nat):Int)with c | c | c
   ·have:=a2 (by omega);omega
   ·exact c
   ·have:=a1 c;omega
  subst htk;have hrr:rT.Perm rest:=by
   have h5:=hTp.symm.trans hp;unfold tr at h5;rw[if_neg hk0,show p - 1+((k+1:Nat):Int) - 2 * les Y ((k+1:Nat):Int)=p+(k:Int) - 2 * les Y ((k+1:Nat):Int)by omega]at h5;exact List.Perm.cons_inv h5
  have e1:((k+1:Nat):Int) - 1=(k:Int):=by omega
  rw[e1]at hT';have hlY:∀ j,0<=j->les Y j=min j ((k+1:Nat):Int)+les rest j:=fun j hj=>by
   rw[aW hTp,bM,aW hrr]
  have hlY':∀ j,0<=j->les Y' j=min j (k:Int)+les rest j:=fun j hj=>by
   rw[aW hT',jP (by omega) hj,aW hrr]
  have hbd:=hY.bd (uQ hf);have hpos:=hY.pos;have hrY:∀ q∈rest,q∈Y:=fun q hq=>hp.mem_iff.mpr (uO hq);have hX':=ih Y' rest (tr (k:Int) (p+(k:Int) - 2 * les Y' (k:Int)) rest) hY' (fun q hq hle=>by
   rcases qN (hT'.mem_iff.mp hq)with ⟨e,hne⟩ | h
   ·rw[e];simp only;have h6:=hlY' (k:Int) (by omega);have h7:=aW hrr (k:Int);omega
   ·have hq':=hrY q (hrr.mem_iff.mp h);have h5:=hC q hq' (by omega);have h6:=hpos q hq';have h7:=hlY q.1 (by omega);have h8:=hlY' q.1 (by omega);omega) (hT'.trans (by
     have h6:=hlY' (k:Int) (by omega);have h7:=aW hrr (k:Int);rw[show p+(k:Int) - 1 - 2 * les rT (k:Int) - 2 * (k:Int)=p - 1+(k:Int) - 2 * les Y' (k:Int)by omega];exact d3 hrr)) (.refl _)
  refine uS (fun x hx=>by have:=hf x hx;omega) hX' (uP (s:=(k:Int)) (rest:=rest) (by omega) ?_ ?_ ?_)
  ·have hlX:les (tr (k:Int) (p+(k:Int) - 2 * les Y' (k:Int)) rest) (k:Int)=les Y' (k:Int):=by rw[jP (by omega) (by omega),hlY' _ (by omega)]
   rw[hlX,show p+1+(k:Int) - 1 - 2 * les Y' (k:Int)=p+(k:Int) - 2 * les Y' (k:Int)by omega]
  ·intro q hq hgt;rcases qN hq with ⟨e,hne⟩ | h
   ·rw[e]at hgt;exact absurd hgt (by simp)
   ·have hq':=hrY q h;have h5:=(hbd q hq').2;have h6:=hpos q hq';have h7:=hlY q.1 (by omega);rw[jP (by omega) (by omega)];omega
  ·have h8:=hlY ((k+1:Nat):Int) (by omega);have e3:(k:Int)+1=((k+1:Nat):Int):=by omega
   refine hx.trans ?_;unfold tr;rw[if_neg hk0,e3];rw[show p+((k+1:Nat):Int) - 2 * les Y ((k+1:Nat):Int)=p+1+(k:Int) - 2 * les rest ((k+1:Nat):Int) - 2 * ((k+1:Nat):Int)by omega]
theorem y3 {fs:List Int} {p:Int} (hf:∀ x∈fs,x<p) (s:Nat):∀ (d:Nat) (Y rest X:Trs),Lst (fs++rnn p (s+d)) Y->(∀ q∈Y,(q.1<=(s:Int)->q.2+2 * les Y q.1<=p - 1+q.1)/\((s:Int)<q.1->q.2+2 * les Y q.1<=p - 1+q.1 - 1)) ->
 Y.Perm (tr (s:Int) (p - 1+(s:Int) - 2 * les Y (s:Int)) rest)->X.Perm (((s:Int)+1,p+1+(s:Int) - 2 * les rest ((s:Int)+1) - 2 * ((s:Int)+1)) :: rest)->Lst (fs++rnn (p+1) (s+d+1)) X:=by
 intro d
 induction d with
 | zero =>
  intro Y rest X hY hC hp hx;rw[Nat.add_zero]at hY ⊢;have hlY:∀ j,0<=j->les Y j=min j (s:Int)+les rest j:=fun j hj=>by rw[aW hp,jP (by omega) hj]
  have hX':=x9 hf s Y rest (tr (s:Int) (p+(s:Int) - 2 * les Y (s:Int)) rest) hY (fun q hq hle=>(hC q hq).1 hle) hp (.refl _);have hbd:=hY.bd (uQ hf);refine uS (fun x hx=>by have:=hf x hx;omega) hX' (uP (s:=(s:Int)) (rest:=rest) (by omega) ?_ ?_ ?_)
  ·have hlX:les (tr (s:Int) (p+(s:Int) - 2 * les Y (s:Int)) rest) (s:Int)=les Y (s:Int):=by rw[jP (by omega) (by omega),hlY _ (by omega)]
   rw[hlX,show p+1+(s:Int) - 1 - 2 * les Y (s:Int)=p+(s:Int) - 2 * les Y (s:Int)by omega]
  ·intro q hq hgt;rcases qN hq with ⟨e,hne⟩ | h
   ·rw[e]at hgt;exact absurd hgt (by simp)
   ·have hq':=hp.mem_iff.mpr (uO h);have h5:=(hbd q hq').2;have h7:=hlY q.1 (by omega);rw[jP (by omega) (by omega)];omega
  ·exact hx
 | succ d ih =>
  intro Y rest X hY hC hp hx;have e0:s+(d+1)=(s+d)+1:=by omega
  rw[e0]at hY ⊢;obtain⟨Y',hY',hT⟩:=uR hY;obtain⟨t,rT,ht1,hTp,hTm,hTs,hT'⟩:=hT.tr';have htm:(t,p+((s+d:Nat):Int) - 2 * les Y t)∈Y:=hTp.mem_iff.mpr aBP;have hc:=hC _ htm;simp only at hc;have hts:(s:Int)+2<=t:=by
   rcases Int.lt_or_le (s:Int) t with c | c
   ·have:=hc.2 c;omega
   ·have:=hc.1 c;omega
  have hpos:=hY.pos;have htr:(t,p+((s+d:Nat):Int) - 2 * les Y t)∈rest:=by
   rcases qN (hp.mem_iff.mp htm)with ⟨e,_⟩ | h
   ·have:=congrArg Prod.fst e;simp only at this;omega
   ·exact h
  obtain⟨r2,hr2⟩:∃ r2:Trs,rest.Perm ((t,p+((s+d:Nat):Int) - 2 * les Y t) :: r2):=⟨rest.erase _,List.perm_cons_erase htr⟩;have hlY:∀ j,0<=j->les Y j=min j (s:Int)+(min j t+les r2 j):=fun j hj=>by rw[aW hp,jP (by omega) hj,aW hr2,bM]
  have hrT:rT.Perm (tr (s:Int) (p - 1+(s:Int) - 2 * les Y (s:Int)) r2):=by
   refine List.Perm.cons_inv (a:=(t,p+((s+d:Nat):Int) - 2 * les Y t)) (hTp.symm.trans (hp.trans ?_));unfold tr;split
   ·exact hr2
   ·exact(hr2.cons _).trans (List.Perm.swap _ _ _)
  have hlrT:∀ j,0<=j->les rT j=min j (s:Int)+les r2 j:=fun j hj=>by rw[aW hrT,jP (by omega) hj]
  have ht0:t - 1≠0:=by omega
  obtain⟨rest',hrest'⟩:∃ rest':Trs,rest'=(t - 1,p+((s+d:Nat):Int) - 1 - 2 * les rT (t - 1) - 2 * (t - 1)) :: r2:=⟨_,rfl⟩;have hY'p:Y'.Perm (tr (s:Int) (p - 1+(s:Int) - 2 * les Y (s:Int)) rest'):=by
   refine hT'.trans ?_;rw[hrest'];unfold tr at hrT ⊢;rw[if_neg ht0];split at hrT
   ·rw[if_pos (by assumption)];exact hrT.cons _
   ·rw[if_neg (by assumption)];exact(hrT.cons _).trans (List.Perm.swap _ _ _)
  have hlY':∀ j,0<=j->les Y' j=min j (s:Int)+(min j (t - 1)+les r2 j):=fun j hj=>by rw[aW hY'p,jP (by omega) hj,hrest',bM]
  have hles:les Y' (s:Int)=les Y (s:Int):=by rw[hlY' _ (by omega),hlY _ (by omega)];omega
  rw[<- hles]at hY'p;have hX':=ih Y' rest' (((s:Int)+1,p+1+(s:Int) - 2 * les rest' ((s:Int)+1) - 2 * ((s:Int)+1)) :: rest') hY' (fun q hq=>by
   have hq2:=hY'p.mem_iff.mp hq;rw[hrest']at hq2;rcases qN hq2 with ⟨e,hne⟩ | h
   ·rw[e];simp only;omega
   ·rcases aBr.mp h with e | h
    ·rw[e];simp only;have h6:=hlY' (t - 1) (by omega);have h7:=hlrT (t - 1) (by omega);omega
    ·have hq':q∈Y:=hp.mem_iff.mpr (uO (hr2.mem_iff.mpr (aBQ _ h)));have h5:=hC q hq';have h6:=hpos q hq';have h7:=hlY q.1 (by omega);have h8:=hlY' q.1 (by omega);omega) hY'p (.refl _)
  have hlX':∀ j,0<=j->les (((s:Int)+1,p+1+(s:Int) - 2 * les rest' ((s:Int)+1) - 2 * ((s:Int)+1)) :: rest') j=min j ((s:Int)+1)+(min j (t - 1)+les r2 j):=fun j hj=>by
   have h1:les rest' j=min j (t - 1)+les r2 j:=by rw[hrest',bM]
   rw[bM,h1]
  have hrl:les rest' ((s:Int)+1)=((s:Int)+1)+les r2 ((s:Int)+1):=by rw[hrest',bM];simp only;omega
  have hrl2:les rest ((s:Int)+1)=((s:Int)+1)+les r2 ((s:Int)+1):=by rw[aW hr2,bM];simp only;omega
  refine uS (fun x hx=>by have:=hf x hx;omega) hX' (uP (s:=t - 1) (rest:=((s:Int)+1,p+1+(s:Int) - 2 * les rest' ((s:Int)+1) - 2 * ((s:Int)+1)) :: r2) (by omega) ?_ ?_ ?_)
  ·unfold tr;rw[if_neg ht0];have h9:=hlX' (t - 1) (by omega);have h7:=hlrT (t - 1) (by omega);generalize les (((s:Int)+1,p+1+(s:Int) - 2 * les rest' ((s:Int)+1) - 2 * ((s:Int)+1)) :: rest') (t - 1)=L at h9 ⊢;refine(List.Perm.cons _ ?_).trans (List.Perm.swap _ _ _);rw[hrest',show p+((s+d:Nat):Int) - 1 - 2 * les rT (t - 1) - 2 * (t - 1)=p+1+((s+d+1:Nat):Int) - 1 - 2 * L by omega]
  ·intro q hq hgt;have hq2:q∈r2:=by
    rcases aBr.mp hq with e | h
    ·rw[e]at hgt;simp only at hgt;omega
    ·rw[hrest']at h;rcases aBr.mp h with e | h
     ·rw[e]at hgt;exact absurd hgt (by simp)
     ·exact h
   have hq':q∈Y:=hp.mem_iff.mpr (uO (hr2.mem_iff.mpr (aBQ _ hq2)));have h5:=hTm q hq';have h6:=hpos q hq';have h7:=hlY q.1 (by omega);rw[hlX' q.1 (by omega)];omega
  ·have e4:t - 1+1=t:=by omega
   rw[e4];have h9:les (((s:Int)+1,p+1+(s:Int) - 2 * les rest' ((s:Int)+1) - 2 * ((s:Int)+1)) :: r2) t=((s:Int)+1)+les r2 t:=by rw[bM];simp only;omega
   have h10:=hlY t (by omega);rw[h9,hrl];refine hx.trans ?_;rw[hrl2];refine(hr2.cons _).trans ?_;rw[show p+((s+d:Nat):Int) - 2 * les Y t=p+1+((s+d+1:Nat):Int) - 2 * ((s:Int)+1+les r2 t) - 2 * t by omega];exact List.Perm.swap _ _ _
theorem wQ (n:Int) (k:Nat):rnn n (k+1)=n :: rnn (n+1) k:=hW k n
theorem qO {c:Int} {r:List Int}:∀ (k h:Nat) (m:Int),(∀ x∈r,m+(k:Int)<=x)->goM c r h m=rnn m (min h k)++goM c r (h - min h k) (m+(k:Int))
 | 0,h,m,_=>by simp[rnn]
 | k+1,0,m,hr=>by
  simp only[Nat.zero_min,Nat.zero_sub,T5,List.nil_append];exact pW
 | k+1,h+1,m,hr=>by
  have e1:min (h+1) (k+1)=min h k+1:=by omega
  have e2:h+1 - (min h k+1)=h - min h k:=by omega
  have ih:=qO (c:=c) (r:=r) k h (m+1) fun x hx=>by have:=hr x hx;omega
  have e3:goM c r (h+1) m=m :: goM c r h (m+1):=by
   cases r with
   | nil=>exact tX c h m
   | cons p r'=>exact Y4 (by have:=hr p aBP;omega)
  rw[e3,ih,e1,e2,wQ,show m+((k+1:Nat):Int)=m+1+(k:Int)by omega];rfl
theorem T6 {c:Int} (hc:1<=c):∀ (r0:List Int) (h:Nat) (m n:Int),Y5 r0->(∀ x∈r0,x<n/\(m<=x\/h=0))->(m<=n\/h=0)->(h:Int)<=c ->
 ∃ (fs:List Int) (ld:Nat),(∀ x∈fs,x<n)/\(ld:Int)<=c/\∀ r,(∀ x∈r,n<=x)->goM c (r0++r) h m=fs++goM c r ld n
 | [],h,m,n,_,_,hmn,hh=>by
  rcases Nat.eq_zero_or_pos h with e | e
  ·subst e;exact⟨[],0,fun x hx=>(nomatch hx),by omega,fun r _=>by rw[List.nil_append,List.nil_append];exact pW⟩
  ·have hmn':m<=n:=by omega
   refine⟨rnn m (min h (n - m).toNat),h - min h (n - m).toNat,fun x hx=>by have:=mX hx;omega,by omega,fun r hr=>?_⟩;have:=qO (c:=c) (r:=r) (n - m).toNat h m fun x hx=>by have:=hr x hx;omega
   rw[List.nil_append,this,show m+((n - m).toNat:Int)=n by omega]
 | p :: r0,h,m,n,hrow,hx,hmn,hh=>by
  obtain⟨h1,h2⟩:=List.pairwise_cons.mp hrow;have hp:=hx p aBP;have hm:min h (p - m).toNat<=h:=Nat.min_le_left _ _;have key:∀ r,goM c ((p :: r0)++r) h m=rnn m (min h (p - m).toNat)++(if ((h - min h (p - m).toNat:Nat):Int)<c then goM c (r0++r) (h - min h (p - m).toNat+1) (p+1)else p :: goM c (r0++r) (h - min h (p - m).toNat) (p+1)):=fun r=>rfl;have hrnn:∀ x∈rnn m (min h (p - m).toNat),x<n:=fun x hx=>by
   have:=mX hx;rcases hp.2 with q | q
   ·omega
   ·rw[q]at hx;simp[rnn]at hx
  have hr0:∀ x∈r0,x<n/\p+1<=x:=fun x hx'=>⟨(hx x (aBQ _ hx')).1,by have:=h1 x hx';omega⟩
  by_cases hlt:((h - min h (p - m).toNat:Nat):Int)<c
  ·obtain⟨fs,ld,a1,a2,a3⟩:=T6 hc r0 (h - min h (p - m).toNat+1) (p+1) n h2 (fun x hx=>⟨(hr0 x hx).1,.inl (hr0 x hx).2⟩) (.inl (by omega)) (by omega);refine⟨rnn m (min h (p - m).toNat)++fs,ld,fun x hx=>?_,a2,fun r hr=>by rw[key,if_pos hlt,a3 r hr,List.append_assoc]⟩;rcases aBs.mp hx with q | q
   ·exact hrnn x q
   ·exact a1 x q
  ·obtain⟨fs,ld,a1,a2,a3⟩:=T6 hc r0 (h - min h (p - m).toNat) (p+1) n h2 (fun x hx=>⟨(hr0 x hx).1,.inl (hr0 x hx).2⟩) (.inl (by omega)) (by omega);refine⟨rnn m (min h (p - m).toNat)++p :: fs,ld,fun x hx=>?_,a2,fun r hr=>by rw[key,if_neg hlt,a3 r hr,List.append_assoc];rfl⟩;rcases aBs.mp hx with q | q
   ·exact hrnn x q
   ·rcases aBr.mp q with e | q
    ·rw[e];exact hp.1
    ·exact a1 x q
def shf (l:Int) (ps:Trs):Trs:=ps.map fun q=>(q.1,q.2+min l q.1)
theorem iK (l:Int) (ps:Trs) (j:Int):les (shf l ps) j=les ps j:=by
 unfold les shf;rw[aBi];rfl
theorem mY {l:Int} {a b:Trs} (h:a.Perm b):(shf l a).Perm (shf l b):=h.map _
theorem T7 {l s o:Int} {rest:Trs}:shf l (tr s o rest)=tr s (o+min l s) (shf l rest):=by
 unfold tr;split <;> rfl
theorem uT {l:Int} {ps:Trs} {q:Int×Int} (h:q∈shf l ps):∃ q'∈ps,q=(q'.1,q'.2+min l q'.1):=by
 obtain⟨q',h1,h2⟩:=aBt.mp h;exact⟨q',h1,h2.symm⟩
theorem qP {l p:Int} (hl:1<=l) {ps0 ps:Trs} (hb:Bd ps0 (p - 1)) (ha:Add ps0 p ps) {fs:List Int} {ld:Nat} (hf:∀ x∈fs,x<p) (hld:(ld:Int)<=l) (hY:Lst (fs++rnn p ld) (shf l ps0)) :
 Lst (if (ld:Int)<l then fs++rnn (p+1) (ld+1)else fs++rnn p (ld+1)) (shf l ps)/\∃ s rest,0<=s/\ps0.Perm (tr s (p - 1 - 2 * les ps0 s) rest)/\ps.Perm ((s+1,p - 2 * les rest (s+1) - 2 * (s+1)) :: rest)/\((ld:Int)<l↔s<l):=by
 obtain⟨s,rest,h0,h1,h2,h3⟩:=ha.tr';have hsm:s≠0->(s,p - 1 - 2 * les ps0 s)∈ps0:=fun h=>h1.mem_iff.mpr (by unfold tr;rw[if_neg h];exact aBP)
 by_cases hc:(ld:Int)<l
 ·rw[if_pos hc];have hbd:=hY.bd (uQ hf);have hs:s<=(ld:Int):=by
   by_cases hs0:s=0
   ·omega
   ·have:=(hbd (s,p - 1 - 2 * les ps0 s+min l s) (aBt.mpr ⟨_,hsm hs0,rfl⟩)).2;simp only[iK]at this;omega
  obtain⟨sn,rfl⟩:∃ sn:Nat,s=(sn:Int):=⟨s.toNat,by omega⟩;obtain⟨d,hd⟩:∃ d:Nat,ld=sn+d:=⟨ld - sn,by omega⟩;subst hd;refine⟨y3 hf sn d (shf l ps0) (shf l rest) (shf l ps) hY (fun q hq=>?_) ?_ ?_,(sn:Int),rest,h0,h1,h3,by constructor <;> intro _ <;> omega⟩
  ·obtain⟨q',hq',rfl⟩:=uT hq;have h5:=hb q' hq';have h6:=h2 q' hq';simp only[iK];refine⟨fun _=>by omega,fun h=>?_⟩;have:=h6 h;omega
  ·rw[iK];refine(mY h1).trans ?_;rw[T7,show p - 1 - 2 * les ps0 (sn:Int)+min l (sn:Int)=p - 1+(sn:Int) - 2 * les ps0 (sn:Int)by omega]
  ·rw[iK];refine(mY h3).trans ?_;unfold shf;rw[aBd];simp only;rw[show p - 2 * les rest ((sn:Int)+1) - 2 * ((sn:Int)+1)+min l ((sn:Int)+1)=p+1+(sn:Int) - 2 * les rest ((sn:Int)+1) - 2 * ((sn:Int)+1)by omega]
 ·rw[if_neg hc];have hll:(ld:Int)=l:=by omega
  obtain⟨k,hk⟩:∃ k,ld=k+1:=⟨ld - 1,by omega⟩;have hY2:=hY;rw[hk]at hY2;obtain⟨Y',_,hT⟩:=uR hY2;obtain⟨t,rT,ht1,hTp,_⟩:=hT;obtain⟨q',hq',e⟩:=uT (hTp.mem_iff.mpr aBP);have e1:=congrArg Prod.fst e;have e2:=congrArg Prod.snd e;simp only[iK]at e1 e2;have h5:=(hb q' hq').2;have h6:=h2 q' hq';rw[e1]at e2;have hs:l<=s:=by
   rcases Int.lt_or_le s q'.1 with c | c
   ·have:=h6 c;omega
   ·omega
  refine⟨uS hf hY (uP (s:=s) (rest:=shf l rest) h0 ?_ ?_ ?_),s,rest,h0,h1,h3,by constructor <;> intro _ <;> omega⟩
  ·rw[iK];refine(mY h1).trans ?_;rw[T7,show p - 1 - 2 * les ps0 s+min l s=p+(ld:Int) - 1 - 2 * les ps0 s by omega]
  ·intro q hq hgt;obtain⟨q2,hq2,rfl⟩:=uT hq;have:=h2 q2 hq2;simp only[iK]at hgt ⊢;have:=this hgt;omega
  ·rw[iK];refine(mY h3).trans ?_;unfold shf;rw[aBd];simp only;rw[show p - 2 * les rest (s+1) - 2 * (s+1)+min l (s+1)=p+(ld:Int) - 2 * les rest (s+1) - 2 * (s+1)by omega]
theorem Lst.rowP {r:List Int} {ps:Trs} (h:Lst r ps):Y5 r:=by
 induction h with
 | nil=>exact List.Pairwise.nil
 | snoc a b c ih=>exact List.pairwise_append.mpr ⟨ih,by simp,fun x hx y hy=>by rw[aBk.mp hy];exact b x hx⟩
theorem G9 {l:Int} (hl:1<=l) {r:List Int} {p:Int} (hr:Y5 r) (hp:∀ x∈r,x<p):∃ (fs:List Int) (ld:Nat),(∀ x∈fs,x<p)/\(ld:Int)<=l/\pV r l=fs++rnn p ld/\pV (r++[p]) l=if (ld:Int)<l then fs++rnn (p+1) (ld+1)else fs++rnn p (ld+1):=by
 obtain⟨fs,ld,a1,a2,a3⟩:=T6 hl r 0 0 p hr (fun x hx=>⟨hp x hx,.inr rfl⟩) (.inr rfl) (by omega);refine⟨fs,ld,a1,a2,?_,?_⟩
 ·have:=a3 [] fun x hx=>(nomatch hx);rw[List.append_nil]at this;exact this
 ·have:=a3 [p] fun x hx=>by rw[aBk.mp hx];exact Int.le_refl _
  unfold pV;rw[this,tW (.inr (Int.le_refl _))];split
  ·rfl
  ·rw[wQ];rfl
theorem Lst.walk {l:Int} (hl:1<=l) {r:List Int} {ps:Trs} (h:Lst r ps):Lst (pV r l) (shf l ps):=by
 induction h with
 | nil=>exact .nil
 | snoc a b c ih =>
  rename_i r ps0 p ps
  obtain⟨fs,ld,a1,a2,a3,a4⟩:=G9 hl a.rowP b;rw[a3]at ih;rw[a4];exact(qP hl (a.bd fun x hx=>by have:=b x hx;omega) c a1 a2 ih).1
end CW
namespace L2
open PySem PySem.Spec PyProof.Rows
end L2
namespace CW
open PySem L2
theorem y4:∀ {l:List Int},l≠[]->∃ m∈l,∀ x∈l,x<=m:=fun {l} h=>by
 cases l with
 | nil=>exact absurd rfl h
 | cons n r =>
  obtain⟨a1,a2,a3⟩:=dH r n;refine⟨r.foldl max n,?_,fun x hx=>?_⟩
  ·rcases a1 with h | h
   ·rw[h];exact aBP
   ·exact aBQ _ h
  ·rcases aBr.mp hx with rfl | hx
   ·exact a2
   ·exact a3 x hx
theorem Add.ex (ps:Trs) (hp:∀ q∈ps,1<=q.1) (p:Int):∃ qs,Add ps p qs:=by
 by_cases h:(ps.filter fun q=>decide (q.2+2 * les ps q.1=p - 1))=[]
 ·refine⟨_,0,ps,Int.le_refl _,.inl ⟨rfl,.refl _⟩,fun q hq _ e=>?_,.refl _⟩;have:q∈ps.filter fun q=>decide (q.2+2 * les ps q.1=p - 1):=aBu.mpr ⟨hq,by simpa using e⟩;rw[h]at this;cases this
 ·obtain⟨s,hs,hmax⟩:=y4 (l:=(ps.filter fun q=>decide (q.2+2 * les ps q.1=p - 1)).map (·.1)) (by simpa using h);obtain⟨q,hq,e⟩:=aBt.mp hs;obtain⟨h1,h2⟩:=aBu.mp hq;have h3:q.2+2 * les ps q.1=p - 1:=by simpa using h2
  have e':q.1=s:=e;have hm:(s,p - 1 - 2 * les ps s)∈ps:=by
   have:(s,p - 1 - 2 * les ps s)=q:=by rw[<- e',<- h3];exact Prod.ext rfl (by show _=q.2;omega)
   rw[this];exact h1
  have hs1:=hp _ hm;have hs1':1<=s:=hs1;refine⟨_,s,ps.erase (s,p - 1 - 2 * les ps s),by omega,.inr ⟨hs1',List.perm_cons_erase hm⟩,fun x hx hlt e2=>?_,.refl _⟩;have:=hmax x.1 (aBt.mpr ⟨x,aBu.mpr ⟨hx,by simpa using e2⟩,rfl⟩);omega
theorem Lst.ex:∀ (r:List Int),Row r->∃ ps,Lst r ps:=by
 have go:∀ (n:Nat) (r:List Int),r.length=n->Row r->∃ ps,Lst r ps:=by
  intro n
  induction n with
  | zero=>intro r h _;exact⟨[],by rw[List.length_eq_zero_iff.mp h];exact .nil⟩
  | succ n ih =>
   intro r h hr;have hne:r≠[]:=fun e=>by rw[e]at h;cases h
   have e:=List.dropLast_concat_getLast hne;rw[<- e]at hr;obtain⟨h1,_,h2⟩:=List.pairwise_append.mp hr;obtain⟨ps,hps⟩:=ih r.dropLast (by rw[List.length_dropLast];omega) h1;obtain⟨qs,hqs⟩:=Add.ex ps hps.pos (r.getLast hne);refine⟨qs,?_⟩;rw[<- e];exact .snoc hps (fun x hx=>h2 x hx _ (by simp)) hqs
 exact fun r hr=>go r.length r rfl hr
def shn (f:Int->Int) (ps:Trs):Trs:=ps.map fun q=>(q.1,q.2+f q.1)
theorem Lst.walks {l:Int} (hl:1<=l) {r:List Int} {ps:Trs} (h:Lst r ps):Lst (pV r l) (shn (fun s=>min l s) ps):=h.walk hl
theorem I0 (s:Int) (q:Int×Int):gJ s q=q.2 * min q.1 s:=by
 unfold gJ
 congr 1
 split <;> omega
theorem T8 {ps ws:Trs} (h:Trn ps):Trn (cR ps ws):=by
 refine⟨fun q hq=>?_,?_⟩
 ·obtain⟨p,hp,rfl⟩:=aBt.mp hq;exact h.pos p hp
 ·have:szs (cR ps ws)=szs ps:=by
   unfold szs cR;rw[aBi];rfl
  rw[this];exact h.few
theorem Lst.trn {r:List Int} {ps:Trs} (h:Lst r ps) (hl:r.length<=60):Trn ps:=⟨h.pos,by have:=h.sizx;unfold siz at this;unfold szs;omega⟩
section
variable {P:Program} {w:World} {K:PySem.W.Frag} {mg:Str->Option Value} {base:Heap}
inductive B1 (vs:List V) (H:Hp) (Q:VK) (E_:XK):Prop
 | mk (a b:Addr) (row:List Int) (ws:Trs) (h0_:vs=[.ref a,.ref b]) (h1_:H a=some (.lst (row.map V.int))) (h2_:Row row) (h3_:row.length<=60) (h4_:LP H b ws) (h5_:ws.length<=200) (h6_:Crl ws) (h7_:∀ r ps:_,Lst row ps->Lst r (cR ps ws)->E1 H Q r):B1 vs H Q E_
end
theorem yR {c B:Int}:∀ (r:List Int) (h:Nat) (n:Int),(∀ x∈r,x<=B)->n<=B+1->∀ y∈goM c r h n,y<=B+(h:Int)+(r.length:Int)
 | [],h,n,_,hn,y,hy=>by
  obtain⟨k,hk,rfl⟩:=aBt.mp hy;have:=List.mem_range.mp hk;simp only[List.length_nil];omega
 | p :: r,h,n,hx,hn,y,hy=>by
  have hp:=hx p aBP;have hr:∀ x∈r,x<=B:=fun x hx'=>hx x (aBQ _ hx');rw[goM]at hy;rw[aBh];rcases aBs.mp hy with hy | hy
  ·obtain⟨k,hk,rfl⟩:=aBt.mp hy;have:=List.mem_range.mp hk;omega
  ·split at hy
   ·have:=yR r _ (p+1) hr (by omega) y hy;omega
   ·rcases aBr.mp hy with rfl | hy
    ·omega
    ·have:=yR r _ (p+1) hr (by omega) y hy;omega
theorem yS {c L:Int}:∀ (r:List Int) (h:Nat) (n:Int),(∀ x∈r,L<=x)->(L<=n\/h=0)->∀ y∈goM c r h n,L<=y
 | [],h,n,_,hn,y,hy=>by
  obtain⟨k,hk,rfl⟩:=aBt.mp hy;have:=List.mem_range.mp hk;omega
 | p :: r,h,n,hx,hn,y,hy=>by
  have hp:=hx p aBP;have hr:∀ x∈r,L<=x:=fun x hx'=>hx x (aBQ _ hx');rw[goM]at hy;rcases aBs.mp hy with hy | hy
  ·obtain⟨k,hk,rfl⟩:=aBt.mp hy;have:=List.mem_range.mp hk;omega
  ·split at hy
   ·exact yS r _ (p+1) hr (.inl (by omega)) y hy
   ·rcases aBr.mp hy with rfl | hy
    ·omega
    ·exact yS r _ (p+1) hr (.inl (by omega)) y hy
def Near (b:Int) (r:List Int):Prop:=∀ x∈r,-b<=x/\x<=b
theorem Near.walk {b c:Int} {r:List Int} (h:Near b r) (hb:0<=b):Near (b+(r.length:Int)) (pV r c):=fun y hy=>by
 have h1:=yR (c:=c) (B:=b) r 0 0 (fun x hx=>(h x hx).2) (by omega) y hy;have h2:=yS (c:=c) (L:=-b) r 0 0 (fun x hx=>(h x hx).1) (.inr rfl) y hy;omega
section
variable {P:Program} {w:World} {K:PySem.W.Frag} {mg:Str->Option Value} {base:Heap}
end
theorem d4 (s o l:Int) (rest:Trs) (h0:0<=s) (hl:1<=l):les (tr s o rest) l=min l s+les rest l:=by
 unfold tr;split
 ·rename_i e
  rw[e];have:min l 0=0:=by omega
  omega
 ·rw[bM]
def ldG (c:Nat):List Int->Nat->Int->Nat
 | [],_,_=>0
 | p :: r,h,n=>if h - min h (p - n).toNat<c then 1+ldG c r (h - min h (p - n).toNat+1) (p+1)else ldG c r (h - min h (p - n).toNat) (p+1)
def wR (a:Int):List Int->List Int
 | []=>[]
 | [_]=>[]
 | x :: y :: r=>if y=x+1 then (x - 2 * a) :: wR a (y :: r)else wR (a+1) (y :: r)
theorem d6 (c:Nat) {r:List Int} {h:Nat} {n:Int} (d:Nat) (hr:∀ x∈r,n+(d:Int)<=x):ldG c r h n=ldG c r (h - min h d) (n+(d:Int)):=by
 cases r with
 | nil=>rfl
 | cons p r =>
  have hp:=hr p aBP;show (if h - min h (p - n).toNat<c then _ else _)=if h - min h d - min (h - min h d) (p - (n+(d:Int))).toNat<c then _ else _
  have e:h - min h d - min (h - min h d) (p - (n+(d:Int))).toNat=h - min h (p - n).toNat:=by omega
  rw[e]
def wS:List Int->List Int
 | []=>[]
 | [x]=>[x]
 | x :: y :: r=>if y=x+1 then wS (y :: r)else x :: wS (y :: r)
theorem T9 (c:Nat) {r:List Int} {n m:Int}:ldG c r 0 n=ldG c r 0 m:=by
 cases r with
 | nil=>rfl
 | cons p r =>
  show (if 0 - min 0 (p - n).toNat<c then _ else _)=if 0 - min 0 (p - m).toNat<c then _ else _
  simp
theorem yT {c:Nat} (hc:1<=c):∀ (r0:List Int) (h:Nat) (m n:Int),Y5 r0->(∀ x∈r0,x<n/\(m<=x\/h=0))->(m<=n\/h=0)->h<=c ->
 ∃ (fs:List Int) (ld k:Nat),(∀ x∈fs,x<n)/\ld<=c/\∀ r,(∀ x∈r,n<=x)->goM c (r0++r) h m=fs++goM c r ld n/\ldG c (r0++r) h m=k+ldG c r ld n
 | [],h,m,n,_,_,hmn,hh=>by
  rcases Nat.eq_zero_or_pos h with e | e
  ·subst e;exact⟨[],0,0,fun x hx=>(nomatch hx),by omega,fun r _=>⟨by rw[List.nil_append,List.nil_append];exact pW,by rw[List.nil_append,Nat.zero_add];exact T9 c⟩⟩
  ·have hmn':m<=n:=by omega
   refine⟨rnn m (min h (n - m).toNat),h - min h (n - m).toNat,0,fun x hx=>by have:=mX hx;omega,by omega,fun r hr=>⟨?_,?_⟩⟩
   ·have:=qO (c:=c) (r:=r) (n - m).toNat h m fun x hx=>by have:=hr x hx;omega
    rw[List.nil_append,this,show m+((n - m).toNat:Int)=n by omega]
   ·have:=d6 c (r:=r) (h:=h) (n:=m) (n - m).toNat fun x hx=>by have:=hr x hx;omega
    rw[List.nil_append,this,show m+((n - m).toNat:Int)=n by omega];omega
 | p :: r0,h,m,n,hrow,hx,hmn,hh=>by
  obtain⟨h1,h2⟩:=List.pairwise_cons.mp hrow;have hp:=hx p aBP;have hm:min h (p - m).toNat<=h:=Nat.min_le_left _ _;have key:∀ r,goM c ((p :: r0)++r) h m=rnn m (min h (p - m).toNat)++(if ((h - min h (p - m).toNat:Nat):Int)<(c:Int)then goM c (r0++r) (h - min h (p - m).toNat+1) (p+1)else p :: goM c (r0++r) (h - min h (p - m).toNat) (p+1)):=fun r=>rfl;have key2:∀ r,ldG c ((p :: r0)++r) h m=if h - min h (p - m).toNat<c then 1+ldG c (r0++r) (h - min h (p - m).toNat+1) (p+1)else ldG c (r0++r) (h - min h (p - m).toNat) (p+1):=fun r=>rfl
  have hrnn:∀ x∈rnn m (min h (p - m).toNat),x<n:=fun x hx=>by
   have:=mX hx;rcases hp.2 with q | q
   ·omega
   ·rw[q]at hx;simp[rnn]at hx
  have hr0:∀ x∈r0,x<n/\p+1<=x:=fun x hx'=>⟨(hx x (aBQ _ hx')).1,by have:=h1 x hx';omega⟩
  by_cases hlt:h - min h (p - m).toNat<c
  ·obtain⟨fs,ld,k,a1,a2,a3⟩:=yT hc r0 (h - min h (p - m).toNat+1) (p+1) n h2 (fun x hx=>⟨(hr0 x hx).1,.inl (hr0 x hx).2⟩) (.inl (by omega)) (by omega);refine⟨rnn m (min h (p - m).toNat)++fs,ld,k+1,fun x hx=>?_,a2,fun r hr=>⟨by rw[key,if_pos (by omega),(a3 r hr).1,List.append_assoc],by rw[key2,if_pos hlt,(a3 r hr).2];omega⟩⟩;rcases aBs.mp hx with q | q
   ·exact hrnn x q
   ·exact a1 x q
  ·obtain⟨fs,ld,k,a1,a2,a3⟩:=yT hc r0 (h - min h (p - m).toNat) (p+1) n h2 (fun x hx=>⟨(hr0 x hx).1,.inl (hr0 x hx).2⟩) (.inl (by omega)) (by omega);refine⟨rnn m (min h (p - m).toNat)++p :: fs,ld,k,fun x hx=>?_,a2,fun r hr=>⟨by rw[key,if_neg (by omega),(a3 r hr).1,List.append_assoc];rfl,by rw[key2,if_neg hlt,(a3 r hr).2]⟩⟩;rcases aBs.mp hx with q | q
   ·exact hrnn x q
   ·rcases aBr.mp q with e | q
    ·rw[e];exact hp.1
    ·exact a1 x q
theorem Lst.load {c:Nat} (hc:1<=c) {r:List Int} {ps:Trs} (h:Lst r ps):(ldG c r 0 0:Int)=les ps c:=by
 induction h with
 | nil=>rfl
 | snoc a b d ih =>
  rename_i r ps0 p ps
  obtain⟨fs,ld,k,a1,a2,a3⟩:=yT hc r 0 0 p a.rowP (fun x hx=>⟨b x hx,.inr rfl⟩) (.inr rfl) (by omega);have o:=a3 [] fun x hx=>(nomatch hx);have w:=a3 [p] fun x hx=>by rw[aBk.mp hx];exact Int.le_refl _
  rw[List.append_nil]at o;have ow:pV r c=fs++rnn p ld:=o.1;have ol:ldG c r 0 0=k:=o.2;have nl:ldG c (r++[p]) 0 0=k+(if ld<c then 1 else 0):=by
   rw[w.2]
   congr 1
   show (if ld - min ld (p - p).toNat<c then 1+0 else 0)=_;rw[show ld - min ld (p - p).toNat=ld by omega]
  have hw:=a.walk (l:=c) (by omega);rw[ow]at hw;obtain⟨_,s,rest,s0,s1,s2,s3⟩:=qP (l:=c) (by omega) (a.bd fun x hx=>by have:=b x hx;omega) d a1 (by omega) hw;rw[aW s1,d4 s _ c rest s0 (by omega),ol]at ih;rw[aW s2,bM,nl];simp only
  by_cases hl:ld<c
  ·have:=s3.mp (by omega);rw[if_pos hl];omega
  ·have:=mt s3.mpr (by omega);rw[if_neg hl];omega
end CW
namespace L2
open PySem PySem.Spec PyProof.Rows
section
variable {K:PySem.W.Frag} {x qual:Str} {st:Stmt} {f:Addr} {fd:FuncData} {p1 p2 p3 p4:Str}
theorem Fun.binds1 (F:Fun K x qual st f fd) (h:∀ (kV doc pm:Value) (an:Option Addr) (cdv ct u:Value),bindArgs (PySem.W.fnOf x qual (aX st) (aU st) (aE st) .none kV doc pm an cdv ct) ⟨[u],[]⟩=pure [(p1,u)]):Binds K fd [p1] [] :=
 F.binds fun a b c d e g us hl=>match us,hl with | [u],_=>h a b c d e g u
theorem Fun.binds2 (F:Fun K x qual st f fd) (h:∀ (kV doc pm:Value) (an:Option Addr) (cdv ct u v:Value),bindArgs (PySem.W.fnOf x qual (aX st) (aU st) (aE st) .none kV doc pm an cdv ct) ⟨[u,v],[]⟩=pure [(p1,u),(p2,v)]):Binds K fd [p1,p2] [] :=
 F.binds fun a b c d e g us hl=>match us,hl with | [u,v],_=>h a b c d e g u v
theorem Fun.binds3 (F:Fun K x qual st f fd) (h:∀ (kV doc pm:Value) (an:Option Addr) (cdv ct u v w:Value),bindArgs (PySem.W.fnOf x qual (aX st) (aU st) (aE st) .none kV doc pm an cdv ct) ⟨[u,v,w],[]⟩=pure [(p1,u),(p2,v),(p3,w)]):Binds K fd [p1,p2,p3] [] :=
 F.binds fun a b c d e g us hl=>match us,hl with | [u,v,w],_=>h a b c d e g u v w
end
section
variable {M:Model} {A:Around} {E:Value->Shared->Prop} {s:Shared}
end
section
variable {X:Cx} {pins:List (Addr×Obj)} {σ:St} {H H':Hp} {s:Shared} {inn:Scope} {js:List Nat} {cs ts:List Str} {nt:Nat}
end
section
variable {X:Cx} {pins:List (Addr×Obj)} {σ:St} {inn:Scope} {js:List Nat} {cs ts:List Str} {nt:Nat} {elt tg iter:Expr} {ifs:List Expr} {pos:Pos} {g:TG} {tt:TT} {te:TE}
end
section
variable {X:Cx} {inn:Scope} {js:List Nat} {cs ts:List Str} {nt:Nat} {elt tg iter:Expr} {ifs:List Expr} {pos:Pos} {g:TG} {tt:TT} {te:TE} {wi:TI}
end
end L2
namespace CW
open PySem L2
inductive PlI (row:List Int) (i:Nat) (stays:List Int):Prop
 | mk (ah:Nat) (h1_:(wS row).drop ah=wS (row.drop i)) (h2_:stays++wR ah (row.drop i)=wR 0 row) (h3_:∀ z∈(wS row).take ah,∀ y∈row.drop i,z<y):PlI row i stays
theorem PlI.init (row:List Int):PlI row 0 []:=⟨0,rfl,rfl,fun z hz=>by simp at hz⟩
theorem PlI.done {row stays:List Int} {i:Nat} (hi:row.length<=i) (h:PlI row i stays):stays=wR 0 row:=by
 obtain⟨ah,h1,h2,_⟩:=h;rw[List.drop_eq_nil_of_le hi]at h2;rw[<- h2];exact(List.append_nil _).symm
theorem iU:∀ {a b:List Int},a.Perm b->a.Pairwise (·<=·)->b.Pairwise (·<=·)->a=b
 | [],b,h,_,_=>by rw[h.symm.eq_nil]
 | x :: a,[],h,_,_=>by have:=h.eq_nil;cases this
 | x :: a,y :: b,h,ha,hb=>by
  have ha':=List.pairwise_cons.mp ha;have hb':=List.pairwise_cons.mp hb;have hx:x∈y :: b:=h.mem_iff.mp aBP;have hy:y∈x :: a:=h.mem_iff.mpr aBP;have e:x=y:=by
   rcases aBr.mp hx with q | q
   ·exact q
   ·rcases aBr.mp hy with r | r
    ·exact r.symm
    ·have h1:=ha'.1 y r;have h2:=hb'.1 x q;omega
  subst e;rw[iU (List.perm_cons x |>.mp h) ha'.2 hb'.2]
end CW
namespace L2
open PySem PySem.Spec PyProof.Rows
def UpA (xs:Array Nat):Prop:=xs.toList.Pairwise (·<·)
theorem UpA.lt {xs:Array Nat} (h:UpA xs) {i j a b:Nat} (hij:i<j) (hi:xs[i]?=some a) (hj:xs[j]?=some b):a<b:=by
 rw[<- Array.getElem?_toList]at hi hj;obtain⟨h1,e1⟩:=aBq.mp hi;obtain⟨h2,e2⟩:=aBq.mp hj;have:=(List.pairwise_iff_getElem.mp h) i j h1 h2 hij;rw[e1,e2]at this;exact this
theorem qQ {xs:Array Nat} (j:Nat) (U:UpA xs):∀ (fuel lo hi:Nat),hi<=xs.size->lo<=hi->hi - lo<=fuel->(∀ k a,k<lo->xs[k]?=some a->a<j)->(∀ k a,hi<=k->xs[k]?=some a->j<=a) ->
 SetTable.below.go xs j fuel lo hi<=xs.size/\(∀ k a,k<SetTable.below.go xs j fuel lo hi->xs[k]?=some a->a<j)/\(∀ k a,SetTable.below.go xs j fuel lo hi<=k->xs[k]?=some a->j<=a)
 | 0,lo,hi,h1,h2,h3,h4,h5=>by
  have e:hi=lo:=by omega
  subst e;exact⟨h1,h4,h5⟩
 | fuel+1,lo,hi,h1,h2,h3,h4,h5=>by
  unfold SetTable.below.go
  by_cases q:lo<hi
  ·rw[if_pos q];have hm:(lo+hi) / 2<xs.size:=by omega
   have hg:xs.getD ((lo+hi) / 2) j=xs[(lo+hi) / 2]:=by rw[Array.getD,dif_pos hm];rfl
   have hs:xs[(lo+hi) / 2]?=some xs[(lo+hi) / 2]:=aB5 hm;dsimp only;rw[hg]
   by_cases z:xs[(lo+hi) / 2]<j
   ·rw[if_pos z];refine qQ j U fuel _ _ h1 (by omega) (by omega) (fun k a hk ha=>?_) h5;rcases Nat.lt_or_ge k ((lo+hi) / 2)with y | y
    ·exact Nat.lt_trans (U.lt y ha hs) z
    ·have:k=(lo+hi) / 2:=by omega
     subst this;rw[hs]at ha;cases ha;exact z
   ·rw[if_neg z];refine qQ j U fuel _ _ (by omega) (by omega) (by omega) h4 (fun k a hk ha=>?_);rcases Nat.lt_or_ge ((lo+hi) / 2) k with y | y
    ·have:=U.lt y hs ha;omega
    ·have:k=(lo+hi) / 2:=by omega
     subst this;rw[hs]at ha;cases ha;omega
  ·rw[if_neg q];have e:hi=lo:=by omega
   subst e;exact⟨h1,h4,h5⟩
theorem wT {xs:Array Nat} (j:Nat) (U:UpA xs):SetTable.below xs j<=xs.size/\(∀ k a,k<SetTable.below xs j->xs[k]?=some a->a<j)/\(∀ k a,SetTable.below xs j<=k->xs[k]?=some a->j<=a) :=
 qQ j U xs.size 0 xs.size (Nat.le_refl _) (Nat.zero_le _) (by omega) (fun k a hk=>absurd hk (by omega)) (fun k a hk ha=>by
  have:=(Array.getElem?_eq_some_iff.mp ha).1;omega)
theorem wU {xs:Array Nat} {j p:Nat} (U:UpA xs) (hp:p<=xs.size) (h1:∀ k a,k<p->xs[k]?=some a->a<j) (h2:∀ k a,p<=k->xs[k]?=some a->j<=a):SetTable.below xs j=p:=by
 obtain⟨b0,b1,b2⟩:=wT j U;rcases Nat.lt_trichotomy (SetTable.below xs j) p with q | q | q
 ·have hs:xs[SetTable.below xs j]?=some xs[SetTable.below xs j]:=aB5 (by omega);have:=b2 _ _ (Nat.le_refl _) hs;have:=h1 _ _ q hs;omega
 ·exact q
 ·have hs:xs[p]?=some xs[p]:=aB5 (by omega);have:=h2 _ _ (Nat.le_refl _) hs;have:=b1 _ _ q hs;omega
theorem B2 {t:SetTable} (hd:t.dummies=#[]) (j:Nat):t.slot j=.empty\/∃ i,t.slot j=.live i:=by
 unfold SetTable.slot;rw[hd];dsimp only;split
 ·exact .inr ⟨_,rfl⟩
 ·left
  rw[if_neg (by unfold SetTable.has;simp)]
theorem J0 {t:SetTable} (hd:t.dummies=#[]) {j:Nat} (h:j∉t.place.toList):t.slot j=.empty:=by
 unfold SetTable.slot;rw[hd];dsimp only;rw[if_neg,if_neg (by unfold SetTable.has;simp)];intro e;rw[beq_iff_eq]at e;rw[<- Array.getElem?_toList]at e;exact h (aBY e)
theorem U0 {t:SetTable} {j:Nat} (e:t.slot j=.empty):t.place[SetTable.below t.place j]?≠some j:=by
 intro h;unfold SetTable.slot at e;dsimp only at e;rw[if_pos (by rw[h];simp)]at e;cases e
theorem y6 {t:SetTable} (U:UpA t.place) {j:Nat} (e:t.slot j=.empty):UpA (t.put j).1.place:=by
 obtain⟨b0,b1,b2⟩:=wT j U;have hn:=U0 e;show (SetTable.insertAt t.place (SetTable.below t.place j) j).toList.Pairwise (·<·);rw[SetTable.toList_insertAt];have U':t.place.toList.Pairwise (·<·):=U;rw[List.pairwise_append];refine⟨U'.sublist (List.take_sublist ..),?_,?_⟩
 ·rw[List.pairwise_cons];refine⟨fun a ha=>?_,U'.sublist (List.drop_sublist ..)⟩;obtain⟨k,hk⟩:=List.mem_iff_getElem?.mp ha;rw[List.getElem?_drop,Array.getElem?_toList]at hk;have h1:=b2 _ _ (Nat.le_add_right _ k) hk;rcases Nat.eq_zero_or_pos k with z | z
  ·subst z;have:j≠a:=fun q=>hn (by rw[q]at hk ⊢;simpa using hk);omega
  ·have hb:SetTable.below t.place j<t.place.size:=by
    have:=(Array.getElem?_eq_some_iff.mp hk).1;omega
   have hs:t.place[SetTable.below t.place j]?=some t.place[SetTable.below t.place j]:=aB5 hb;have h2:=b2 _ _ (Nat.le_refl _) hs;have h3:=U.lt (by omega) hs hk;omega
 ·intro a ha b hb;obtain⟨k,hk⟩:=List.mem_iff_getElem?.mp ha;have hlt:a<j:=by
   rw[List.getElem?_take]at hk;split at hk
   ·rename_i q
    rw[Array.getElem?_toList]at hk;exact b1 _ _ q hk
   ·cases hk
  rcases aBr.mp hb with q | q
  ·rw[q];exact hlt
  ·obtain⟨k2,hk2⟩:=List.mem_iff_getElem?.mp q;rw[List.getElem?_drop,Array.getElem?_toList]at hk2;have:=b2 _ _ (Nat.le_add_right _ k2) hk2;omega
def mZ (m i:Nat):Nat:=(i * 5+1) % (m+1)
def nA (m:Nat):Nat->Nat->Nat->Nat
 | 0,_,_=>0
 | f+1,i,j=>if i=j then 0 else nA m f (mZ m i) j+1
def oK (m:Nat):Prop:=∀ i j:Fin (m+1),i.val≠j.val->nA m (m+1) i j=nA m (m+1) (mZ m i) j+1
instance (m:Nat):Decidable (oK m):=by unfold oK;infer_instance
theorem aA8:oK 7:=by decide +kernel
theorem y8:oK 31:=by decide +kernel
theorem B3 (m:Nat):∀ f i j,nA m f i j<=f
 | 0,_,_=>Nat.le_refl _
 | f+1,i,j=>by unfold nA;split;omega;have:=B3 m f (mZ m i) j;omega
theorem J1 {m i j:Nat} (h:nA m (m+1) i j=0):i=j:=by
 unfold nA at h;split at h;assumption;omega
section
variable {t:SetTable} {h:Int}
def B4 (m i perturb:Nat):SetTable.Probe:={ j:=i,more:=SetTable.runEnd m i - i,i:=i,perturb:=perturb,dummy:=none }
def qR (t:SetTable) (r:Option SetTable.Met):Prop:=∃ j,r=some (.empty j none)/\t.slot j=.empty
theorem yU (hd:t.dummies=#[]):∀ (more fuel j i perturb:Nat),more<fuel ->
 qR t ((SetTable.probe.go t (fun _=>h+1) h) fuel { j:=j,more:=more,i:=i,perturb:=perturb,dummy:=none }) \/
 (SetTable.probe.go t (fun _=>h+1) h) fuel { j:=j,more:=more,i:=i,perturb:=perturb,dummy:=none }=(SetTable.probe.go t (fun _=>h+1) h) (fuel - (more+1)) (B4 t.mask (SetTable.leap t.mask i perturb).1 (SetTable.leap t.mask i perturb).2)
 | more,0,j,i,perturb,hf=>absurd hf (by omega)
 | 0,fuel+1,j,i,perturb,hf=>by
  rw[SetTable.probe.go];rcases B2 hd j with e | ⟨x,e⟩
  ·left;dsimp only;rw[e];exact⟨j,rfl,e⟩
  ·right
   dsimp only;rw[e];dsimp only;rw[if_neg (by simp;omega)];rfl
 | more+1,fuel+1,j,i,perturb,hf=>by
  rw[SetTable.probe.go];rcases B2 hd j with e | ⟨x,e⟩
  ·left;dsimp only;rw[e];exact⟨j,rfl,e⟩
  ·dsimp only;rw[e];dsimp only;rw[if_neg (by simp;omega)];have ea:t.advance { j:=j,more:=more+1,i:=i,perturb:=perturb,dummy:=none }={ j:=j+1,more:=more,i:=i,perturb:=perturb,dummy:=none }:=by
    unfold SetTable.advance;rw[if_pos (by simp)];simp
   rw[ea];have:=yU hd more fuel (j+1) i perturb (by omega);rw[show fuel+1 - (more+1+1)=fuel - (more+1)by omega];exact this
theorem tF (m i:Nat):SetTable.runEnd m i - i<=9:=by unfold SetTable.runEnd;split <;> omega
theorem cyc (hd:t.dummies=#[]) (F:oK t.mask) {j0:Nat} (hj:j0<=t.mask) (hs:t.slot j0=.empty):∀ (d fuel i:Nat),i<=t.mask->nA t.mask (t.mask+1) i j0=d->10 * d<fuel->qR t ((SetTable.probe.go t (fun _=>h+1) h) fuel (B4 t.mask i 0))
 | 0,0,i,hi,e,hf=>absurd hf (by omega)
 | 0,fuel+1,i,hi,e,hf=>by
  have q:=J1 e;subst q;rw[SetTable.probe.go,show t.slot (B4 t.mask i 0).j=.empty from hs];exact⟨i,rfl,hs⟩
 | d+1,fuel,i,hi,e,hf=>by
  have hr:=tF t.mask i;rcases yU (t:=t) (h:=h) hd (SetTable.runEnd t.mask i - i) fuel i i 0 (by omega)with q | q
  ·exact q
  ·show qR t ((SetTable.probe.go t (fun _=>h+1) h) fuel { j:=i,more:=SetTable.runEnd t.mask i - i,i:=i,perturb:=0,dummy:=none });rw[q];have el:SetTable.leap t.mask i 0=(mZ t.mask i,0):=rfl;rw[el];have ne:i≠j0:=fun z=>by subst z;unfold nA at e;rw[if_pos rfl]at e;cases e
   have:=F ⟨i,by omega⟩ ⟨j0,by omega⟩ ne;dsimp only at this;have hl:mZ t.mask i<=t.mask:=by have:=Nat.mod_lt (i * 5+1) (show 0<t.mask+1 by omega);unfold mZ;omega
   exact cyc hd F hj hs d _ (mZ t.mask i) hl (by omega) (by omega)
theorem tG (hd:t.dummies=#[]) (F:oK t.mask) {j0:Nat} (hj:j0<=t.mask) (hs:t.slot j0=.empty):∀ (k fuel i perturb:Nat),i<=t.mask->perturb<32 ^ k->10 * (k+t.mask+1)<fuel->qR t ((SetTable.probe.go t (fun _=>h+1) h) fuel (B4 t.mask i perturb))
 | 0,fuel,i,perturb,hi,hp,hf=>by
  have:perturb=0:=by simp at hp;exact hp
  subst this;exact cyc hd F hj hs _ fuel i hi rfl (by have:=B3 t.mask (t.mask+1) i j0;omega)
 | k+1,fuel,i,perturb,hi,hp,hf=>by
  have hr:=tF t.mask i;rcases yU (t:=t) (h:=h) hd (SetTable.runEnd t.mask i - i) fuel i i perturb (by omega)with q | q
  ·exact q
  ·show qR t ((SetTable.probe.go t (fun _=>h+1) h) fuel { j:=i,more:=SetTable.runEnd t.mask i - i,i:=i,perturb:=perturb,dummy:=none });rw[q];have hpp:perturb / 32<32 ^ k:=by rw[Nat.div_lt_iff_lt_mul (by decide)];rw[Nat.pow_succ]at hp;exact hp
   exact tG hd F hj hs k _ _ _ (by have:=Nat.mod_lt (i * 5+1+perturb / 32) (show 0<t.mask+1 by omega);show (i * 5+1+perturb / 32) % (t.mask+1)<=t.mask;omega) hpp (by omega)
theorem B5 (h:Int):SetTable.bits h<32 ^ 13:=by
 unfold SetTable.bits;have h1:=Int.emod_lt_of_pos h (show (0:Int)<2 ^ 64 by decide);have h2:=Int.emod_nonneg h (show (2 ^ 64:Int)≠0 by decide);have:(32:Nat) ^ 13=36893488147419103232:=by decide
 rw[this];have e:(2:Int) ^ 64=18446744073709551616:=by decide
 rw[e]at h1 h2 ⊢;omega
theorem aA9 {t:SetTable} (hn:t.place.size<=t.mask):∃ j,j<=t.mask/\j∉t.place.toList:=by
 apply Classical.byContradiction
 intro hc;have hsub:List.range (t.mask+1) ⊆ t.place.toList:=fun j hj=>Classical.byContradiction fun q=>hc ⟨j,by have:=List.mem_range.mp hj;omega,q⟩;have:=List.nodup_range.length_le_of_subset hsub;rw[List.length_range,Array.length_toList]at this;omega
theorem rN (hd:t.dummies=#[]) (F:oK t.mask) (hn:t.place.size<=t.mask):∃ j,t.freeSlot h=some (j,false)/\t.slot j=.empty:=by
 obtain⟨j0,hj,hm⟩:=aA9 hn;have:=tG (h:=h) hd F hj (J0 hd hm) 13 (10 * SetTable.turns t.mask) (SetTable.bits h % (t.mask+1)) (SetTable.bits h) (by have:=Nat.mod_lt (SetTable.bits h) (show 0<t.mask+1 by omega);omega) (B5 h) (by unfold SetTable.turns;omega);obtain⟨j,e,hs⟩:=this;refine⟨j,?_,hs⟩;unfold SetTable.freeSlot;have e2:t.probe (fun _=>h+1) h (t.probeStart h)=some (.empty j none):=e;rw[e2];rfl
end
def rkL (i:Nat):Nat:=if i=24 then 4 else if i=25 then 3 else if i=30\/i=31 then 2 else if 23<=i then 1 else 0
theorem d7:∀ i:Fin 32,22<i.val->rkL (mZ 31 i.val)<rkL i.val:=by decide +kernel
theorem aAa (i:Nat):rkL i<=4:=by unfold rkL;(repeat' split) <;> omega
theorem wV {α:Type}:∀ (l:List (Option α)),(∀ x∈l,x.isSome=true)->(l.filterMap id).length=l.length
 | [],_=>rfl
 | none :: l,h=>by have:=h none aBP;cases this
 | some a :: l,h=>by
  rw[List.filterMap_cons_some (f:=id) (a:=some a) (b:=a) rfl,aBh,aBh,wV l fun x hx=>h x (aBQ _ hx)]
theorem U1 {owner:Array (Option Nat)} (hz:owner.size=32) (hc:(owner.toList.filterMap id).length<10) {i:Nat} (hi:i<=22) :
 ∃ k,(List.range 10).find? (fun k=>(owner.getD (i+k) (some 0)).isNone)=some k/\k<10/\owner[i+k]?=some none:=by
 cases hf:(List.range 10).find? (fun k=>(owner.getD (i+k) (some 0)).isNone)with
 | some k =>
  have h1:=List.find?_some hf;have h2:=List.mem_of_find?_eq_some hf;have hk:=List.mem_range.mp h2;refine⟨k,rfl,hk,?_⟩;have hb:i+k<owner.size:=by omega
  rw[aB5 hb];rw[Array.getD,dif_pos hb]at h1;have h3:owner[i+k].isNone=true:=h1;rw[Option.isNone_iff_eq_none.mp h3]
 | none =>
  exfalso
  have h1:=List.find?_eq_none.mp hf;have hsub:((owner.toList.drop i).take 10).Sublist owner.toList:=(List.take_sublist ..).trans (List.drop_sublist ..);have hle:=(hsub.filterMap id).length_le;have hlen:((owner.toList.drop i).take 10).length=10:=by
   rw[aB3,List.length_drop,Array.length_toList,hz];omega
  have:=wV ((owner.toList.drop i).take 10) fun x hx=>by
   obtain⟨k,hk⟩:=List.mem_iff_getElem?.mp hx;have hk10:k<10:=by rw[<- hlen];exact(aBq.mp hk).1
   rw[List.getElem?_take,if_pos hk10,List.getElem?_drop,Array.getElem?_toList]at hk;have hb:i+k<owner.size:=(Array.getElem?_eq_some_iff.mp hk).1;have h2:=h1 k (List.mem_range.mpr hk10);rw[Array.getD,dif_pos hb]at h2;have h3:¬ owner[i+k].isNone=true:=h2;have h4:owner[i+k]=x:=(Array.getElem?_eq_some_iff.mp hk).2;rw[h4]at h3;cases x with
   | none=>exact absurd rfl h3
   | some _=>rfl
  omega
def d8 (owner:Array (Option Nat)) (r:Option Nat):Prop:=∃ j,r=some j/\owner[j]?=some none
theorem wW {owner:Array (Option Nat)} (hz:owner.size=32) (hc:(owner.toList.filterMap id).length<10) {i:Nat} (hi:i<=22) (fuel perturb:Nat) :
 d8 owner (SetTable.layClean.free 31 owner (fuel+1) i perturb):=by
 obtain⟨k,e,_,h⟩:=U1 hz hc hi;rw[SetTable.layClean.free];have er:SetTable.runEnd 31 i+1 - i=10:=by unfold SetTable.runEnd;rw[if_pos (by omega)];omega
 rw[er,e];exact⟨i+k,rfl,h⟩
theorem B6 {owner:Array (Option Nat)} (hz:owner.size=32) {i:Nat} (hi:22<i) (hi2:i<32) (fuel perturb:Nat) :
 d8 owner (SetTable.layClean.free 31 owner (fuel+1) i perturb) \/
 SetTable.layClean.free 31 owner (fuel+1) i perturb=SetTable.layClean.free 31 owner fuel ((i * 5+1+perturb / 32) % 32) (perturb / 32):=by
 rw[SetTable.layClean.free];have er:SetTable.runEnd 31 i+1 - i=1:=by unfold SetTable.runEnd;rw[if_neg (by omega)];omega
 rw[er];cases hf:(List.range 1).find? (fun k=>(owner.getD (i+k) (some 0)).isNone)with
 | none=>right;rfl
 | some k =>
  left
  have h1:=List.find?_some hf;have h2:=List.mem_of_find?_eq_some hf;have hk:=List.mem_range.mp h2;have hb:i+k<owner.size:=by omega
  refine⟨i+k,rfl,?_⟩;rw[aB5 hb];rw[Array.getD,dif_pos hb]at h1;have h3:owner[i+k].isNone=true:=h1;rw[Option.isNone_iff_eq_none.mp h3]
theorem U2 {owner:Array (Option Nat)} (hz:owner.size=32) (hc:(owner.toList.filterMap id).length<10):∀ (fuel i:Nat),i<32->rkL i<fuel->d8 owner (SetTable.layClean.free 31 owner fuel i 0)
 | 0,i,hi,h=>absurd h (by omega)
 | fuel+1,i,hi,h=>by
  rcases Nat.lt_or_ge 22 i with q | q
  ·rcases B6 hz q hi fuel 0 with z | z
   ·exact z
   ·rw[z];have:=d7 ⟨i,hi⟩ q;have e:(i * 5+1+0 / 32) % 32=mZ 31 i:=rfl;rw[e];exact U2 hz hc fuel _ (Nat.mod_lt _ (by decide)) (by dsimp only at this;omega)
  ·exact wW hz hc q fuel 0
theorem wX {owner:Array (Option Nat)} (hz:owner.size=32) (hc:(owner.toList.filterMap id).length<10):∀ (k fuel i perturb:Nat),i<32->perturb<32 ^ k->k+5<=fuel->d8 owner (SetTable.layClean.free 31 owner fuel i perturb)
 | 0,fuel,i,perturb,hi,hp,hf=>by
  have:perturb=0:=by simp at hp;exact hp
  subst this;exact U2 hz hc fuel i hi (by have:=aAa i;omega)
 | k+1,0,i,perturb,hi,hp,hf=>absurd hf (by omega)
 | k+1,fuel+1,i,perturb,hi,hp,hf=>by
  rcases Nat.lt_or_ge 22 i with q | q
  ·rcases B6 hz q hi fuel perturb with z | z
   ·exact z
   ·rw[z];have hpp:perturb / 32<32 ^ k:=by rw[Nat.div_lt_iff_lt_mul (by decide)];rw[Nat.pow_succ]at hp;exact hp
    exact wX hz hc k fuel _ _ (Nat.mod_lt _ (by decide)) hpp (by omega)
  ·exact wW hz hc q fuel perturb
theorem U3 {l:List (Option Nat)} {j k:Nat} (h:l[j]?=some none):((l.set j (some k)).filterMap id).Perm (l.filterMap id++[k]):=by
 obtain⟨hb,e⟩:=aBq.mp h;have e1:l=l.take j++none :: l.drop (j+1):=by
  rw[<- e,List.getElem_cons_drop,List.take_append_drop]
 rw[List.set_eq_take_append_cons_drop,if_pos hb]
 conv=>rhs;rw[e1]
 rw[List.filterMap_append,List.filterMap_append,List.filterMap_cons_some (f:=id) (a:=some k) (b:=k) rfl,List.filterMap_cons_none (f:=id) (a:=(none:Option Nat)) rfl,List.append_assoc];exact List.Perm.append_left _ (List.perm_append_singleton k _).symm
def U4 (mask:Nat):Option (Array (Option Nat)×Nat)->Int->Option (Array (Option Nat)×Nat):=fun acc h=>do
 let (owner,k) <- acc
 let j <- SetTable.layClean.free mask owner (SetTable.turns mask) (SetTable.bits h % (mask+1)) (SetTable.bits h)
 pure (owner.setIfInBounds j (some k),k+1)
theorem U5:∀ (l:List Int) (owner:Array (Option Nat)) (k:Nat),owner.size=32->(owner.toList.filterMap id).Perm (List.range k)->k+l.length<=5 ->
 ∃ owner',l.foldl (U4 31) (some (owner,k))=some (owner',k+l.length)/\owner'.size=32/\(owner'.toList.filterMap id).Perm (List.range (k+l.length))
 | [],owner,k,hz,hp,hk=>⟨owner,rfl,hz,hp⟩
 | h :: l,owner,k,hz,hp,hk=>by
  rw[aBh]at hk;obtain⟨j,e,hj⟩:=wX (owner:=owner) hz (by rw[hp.length_eq,List.length_range];omega) 13 (SetTable.turns 31) (SetTable.bits h % 32) (SetTable.bits h) (Nat.mod_lt _ (by decide)) (B5 h) (by decide);have e2:U4 31 (some (owner,k)) h=some (owner.setIfInBounds j (some k),k+1):=by
   unfold U4;show (SetTable.layClean.free 31 owner (SetTable.turns 31) (SetTable.bits h % 32) (SetTable.bits h)).bind _=_;rw[e];rfl
  rw[aBf,e2];have:=U5 l (owner.setIfInBounds j (some k)) (k+1) (by rw[Array.size_setIfInBounds];exact hz) (by
   rw[Array.toList_setIfInBounds];refine(U3 (by rw[Array.getElem?_toList];exact hj)).trans ?_;rw[List.range_succ];exact hp.append_right _) (by omega)
  rw[aBh,show k+(l.length+1)=k+1+l.length by omega];exact this
theorem rO {hs:Array Int} (hn:hs.size<=5):∃ owner,SetTable.layClean 31 hs=some owner/\owner.size=32/\(owner.toList.filterMap id).Perm (List.range hs.size):=by
 obtain⟨owner,e,hz,hp⟩:=U5 hs.toList (Array.replicate 32 none) 0 (by simp) (by simp) (by simpa using hn);refine⟨owner,?_,hz,by simpa using hp⟩;unfold SetTable.layClean;have e2:hs.foldl (U4 31) (some (Array.replicate (31+1) none,0))=some (owner,0+hs.toList.length):=by rw[<- Array.foldl_toList];exact e
 show Option.map (·.1) (hs.foldl (U4 31) (some (Array.replicate (31+1) none,0)))=some owner;rw[e2];rfl
theorem wY {owner:Array (Option Nat)} {n:Nat} (hz:owner.size=n):(List.range n).filterMap (fun j=>owner.getD j none)=owner.toList.filterMap id:=by
 subst hz;have e:owner.toList=(List.range owner.size).map fun j=>owner.getD j none:=by
  apply List.ext_getElem
  ·simp
  ·intro i h1 h2;have hb:i<owner.size:=by simpa using h1
   rw[List.getElem_map,List.getElem_range,Array.getElem_toList,Array.getD,dif_pos hb];rfl
 conv=>rhs;rw[e]
 rw[List.filterMap_map];rfl
theorem J3 {hs:Array Int} {f m:Nat} {led:Bool} (hn:hs.size<=5):∃ t' order,SetTable.laid 31 f m led true hs=some (t',order)/\t'.mask=31/\UpA t'.place/\t'.place.size=hs.size/\t'.dummies=#[]/\t'.led=led/\t'.plain=true /\
 order.toList.Perm (List.range hs.size):=by
 obtain⟨owner,e,hz,hp⟩:=rO hn;refine⟨_,_,by unfold SetTable.laid;rw[e];rfl,rfl,?_,?_,rfl,rfl,rfl,?_⟩
 ·show ((List.range 32).filterMap fun j=>(owner.getD j none).map (j,·)).map (·.1) |>.toArray.toList.Pairwise (·<·);rw[List.map_filterMap];refine List.Pairwise.filterMap _ (R:=(·<·)) (fun a a' haa b hb b' hb'=>?_) List.pairwise_lt_range;have g:∀ (x y:Nat),(Option.map (·.1) ((owner.getD x none).map fun k=>(x,k)))=some y->y=x:=fun x y q=>by
   cases ho:owner.getD x none with
   | none=>rw[ho]at q;cases q
   | some z=>rw[ho]at q;cases q;rfl
  rw[g _ _ hb,g _ _ hb'];exact haa
 ·show (((List.range 32).filterMap fun j=>(owner.getD j none).map (j,·)).map (·.1)).toArray.size=_;have:=hp.length_eq;rw[<- wY hz,List.length_range]at this;rw[aBV,aBN,<- this];have g:∀ l:List Nat,(l.filterMap fun j=>(owner.getD j none).map fun k=>(j,k)).length=(l.filterMap fun j=>owner.getD j none).length:=by
   intro l
   induction l with
   | nil=>rfl
   | cons x l ih =>
    cases ho:owner.getD x none with
    | none=>rw[List.filterMap_cons_none (by rw[ho];rfl),List.filterMap_cons_none (f:=fun j=>owner.getD j none) (a:=x) ho,ih]
    | some z=>rw[List.filterMap_cons_some (b:=(x,z)) (by rw[ho];rfl),List.filterMap_cons_some (f:=fun j=>owner.getD j none) (a:=x) (b:=z) ho,aBh,aBh,ih]
  exact g _
 ·show (((List.range 32).filterMap fun j=>(owner.getD j none).map (j,·)).map (·.2)).toArray.toList.Perm _;rw[List.map_filterMap];have g:(fun j=>Option.map (·.2) ((owner.getD j none).map fun k=>(j,k)))=fun j=>owner.getD j none:=by
   funext j
   cases owner.getD j none <;> rfl
  show (List.filterMap (fun j=>Option.map (·.2) ((owner.getD j none).map fun k=>(j,k))) (List.range 32)).Perm _;rw[g,wY hz];exact hp
structure TabG (w:World) (t:SetTable) (n:Nat):Prop where
 plain:t.plain=true
 led:t.led=true\/w.params.followText "set-order"=true
 dum:t.dummies=#[]
 up:UpA t.place
 sz:t.place.size=n
 msk:(t.mask=7/\n<=4)\/(t.mask=31/\n<=18)
theorem TabG.fresh {w:World} {led:Bool} (h:led=true\/w.params.followText "set-order"=true):TabG w (.fresh 0 0 led) 0 :=
 ⟨rfl,h,rfl,.nil,rfl,.inl ⟨rfl,by decide⟩⟩
theorem TabG.full {w:World} {t:SetTable} {n:Nat} (T:TabG w t n):oK t.mask:=by
 rcases T.msk with ⟨e,_⟩ | ⟨e,_⟩
 ·rw[e];exact aA8
 ·rw[e];exact y8
theorem TabG.lay {w:World} {t:SetTable} {n:Nat} (T:TabG w t n) (es:Array (Int×Value)) (hn:es.size=n) (h:Int) (x:Value) :
 ∃ es' t',layNew t es h x=(es',t',false,false)/\t'.plain=true/\t'.led=t.led/\t'.dummies=#[]/\UpA t'.place/\t'.place.size=n+1/\t'.mask=t.mask:=by
 have hm:t.place.size<=t.mask:=by rw[T.sz];rcases T.msk with ⟨e,q⟩ | ⟨e,q⟩ <;> omega
 obtain⟨j,e,hs⟩:=rN (h:=h) T.dum T.full hm;have hz:(t.put j).1.place.size=n+1:=by
  show (SetTable.insertAt t.place (SetTable.below t.place j) j).size=n+1;rw[<- Array.length_toList,(SetTable.insertAt_perm ..).length_eq,Array.length_toList,Array.size_push,T.sz]
 have hd:(t.put j).1.dummies=#[]:=by
  show (if SetTable.has t.dummies j then _ else t.dummies)=#[];rw[T.dum,if_neg (by unfold SetTable.has;simp)]
 have hez:(SetTable.insertAt es (t.put j).2 (h,x)).size=n+1:=by
  rw[<- Array.length_toList,(SetTable.insertAt_perm ..).length_eq,Array.length_toList,Array.size_push,hn]
 have hmk:(t.put j).1.mask=t.mask:=rfl;have hf:(t.put j).1.fits (SetTable.insertAt es (t.put j).2 (h,x)).size=true:=by
  unfold SetTable.fits SetTable.fill;rw[hez,hz,hd,hmk];rcases T.msk with ⟨e,q⟩ | ⟨e,q⟩
  ·rw[e];simp;omega
  ·rw[e];simp;omega
 refine⟨SetTable.insertAt es (t.put j).2 (h,x),(t.put j).1,?_,T.plain,rfl,hd,y6 T.up hs,hz,rfl⟩;unfold layNew;rw[e];dsimp only;unfold SetTable.orStandIn;rw[if_pos hf,hf];rfl
theorem yV {w:World} {t:SetTable} {es:Array (Int×Value)} (hz:es.size=5) (hp:t.plain=true) (hl:t.led=true\/w.params.followText "set-order"=true) :
 ∃ es' t',relayAll t es (SetTable.grown es.size)=(es',t',false)/\TabG w t' 5/\es'.size=5:=by
 have hh:(es.map (·.1)).size<=5:=by rw[Array.size_map,hz];decide
 obtain⟨t',order,e,a1,a2,a3,a4,a5,a6,a7⟩:=J3 (f:=t.finger) (m:=t.movedTo 31) (led:=t.led) hh;rw[Array.size_map,hz]at a3 a7;have e2:t.relaid (es.map (·.1)) (SetTable.grown es.size)=some (t',order):=by
  unfold SetTable.relaid;rw[hz,hp];exact e
 have hpm:=relayAll_perm t es (SetTable.grown es.size);have hcov:coversAll order es.size=true:=by unfold coversAll;rw[hz];exact List.isPerm_iff.mpr a7
 have hsz:(order.filterMap (es[·]?)).size=5:=by
  rw[<- Array.length_toList,Array.toList_filterMap,(a7.filterMap _).length_eq,<- hz,filterMap_getElem?_range,Array.length_toList]
 have hf:t'.fits (order.filterMap (es[·]?)).size=true:=by
  unfold SetTable.fits SetTable.fill;rw[hsz,a3,a4,a1];rfl
 refine⟨order.filterMap (es[·]?),t',?_,⟨a6,by rw[a5];exact hl,a4,a2,a3,.inr ⟨a1,by decide⟩⟩,hsz⟩;unfold relayAll;rw[e2];dsimp only;rw[hcov,hf];rfl
section
variable {prog:Program} {w:World} {A:Around} {E:Value->Shared->Prop} {s:Shared}
def SetG (prog:Program) (w:World) (h:Heap) (a:Addr) (S:Int->Bool) (n:Nat):Prop :=
 ∃ o es ep t,h.get? a=some o/\o.ExactSet/\o.data=.set es ep t/\ElemsOf (intKind prog w) es.toList/\(∀ k,S k=true↔∃ e∈es.toList,(intKind prog w).is k e.2=true)/\es.size=n/\TabG w t n
theorem TabG.le {t:SetTable} {n:Nat} (T:TabG w t n):n<=18:=by rcases T.msk with ⟨_,q⟩ | ⟨_,q⟩ <;> omega
theorem TabG.fits {t:SetTable} {n:Nat} (T:TabG w t n):t.fits n=true:=by
 unfold SetTable.fits SetTable.fill;rw[T.sz,T.dum];rcases T.msk with ⟨e,q⟩ | ⟨e,q⟩ <;> (rw[e];simp;omega)
theorem SetG.congr {h:Heap} {a:Addr} {S S':Int->Bool} {n n':Nat} (hS:SetG prog w h a S n) (e:∀ k,S k=S' k) (en:n=n'):SetG prog w h a S' n':=by
 have:S=S':=funext e;subst this;subst en;exact hS
theorem SetG.at' {h h':Heap} {a:Addr} {S:Int->Bool} {n:Nat} (hS:SetG prog w h a S n) (k:∀ o,h.get? a=some o->h'.get? a=some o):SetG prog w h' a S n:=by
 obtain⟨o,es,ep,t,h1,r⟩:=hS;exact⟨o,es,ep,t,k _ h1,r⟩
theorem U6 {h:Heap} {a:Addr} {o:Obj} {es:Array (Int×Value)} {ep:Nat} {t:SetTable} (ho:h.get? a=some o) (hd:o.data=.set es ep t) (es':Array (Int×Value)) (t':SetTable) :
 (h.update a (Obj.putSet es' t')).get? a=some { o with data:=.set es' (ep+1) t' }:=by
 have:=aB6 (Obj.putSet es' t') ho (by rw[putSet_of es' t' hd];rfl);rw[putSet_of es' t' hd]at this;exact this
theorem aBI {a:Addr} {S:Int->Bool} {n:Nat} {k:Int} {tk:Tok} {Q:Bool->Shared->Prop} (hS:SetG prog w s.heap a S n) (hroom:S k=true\/n+1<=18)
 (h:∀ h',Heap.SameBut a s.heap h'->SetG prog w h' a (fun k'=>S k' || decide (k'=k)) (if S k then n else n+1)->Q (!S k) { s with heap:=h' }) :
 wpAny (model prog w) A (setAddHashed a (.int k tk) (hashInt k)) Q E s:=by
 obtain⟨o,es,ep,t,ho,hex,hd,hel,hmem,hn,T⟩:=hS;have hkey:(intKind prog w).is k (.int k tk)=true:=intKind_is _ _ _ _;have hf:t.fits es.size=true:=by rw[hn];exact T.fits
 have hsb:scanBound=4096:=rfl;have h18:=T.le;have hb:es.size<scanBound:=by omega
 show wpAny (model prog w) A (setAddHashed a (.int k tk) ((intKind prog w).hash k)) Q E s;unfold setAddHashed setAddHashedIn;refine wpAny_holding (aBL (wpAny_setState_of ho hd hf ?_));dsimp only;rw[byScan_of (knd:=intKind prog w) rfl hb hel];simp only[↓reduceIte];unfold setAddByScan;refine aBL ?_;refine aBL (wpAny_rule ?_);refine aBL (wpAny_setScan_of hkey ho hd hf hel ?_);cases hr:List.findIdx? (fun e=>(intKind prog w).is k e.2) es.toList with
 | some j =>
  dsimp only;obtain⟨hj,hpj,_⟩:=List.findIdx?_eq_some_iff_getElem.mp hr;have hSk:S k=true:=(hmem k).mpr ⟨es.toList[j],List.getElem_mem hj,hpj⟩;refine aBM (aBM ?_);have e:s={ s with heap:=s.heap }:=by cases s;rfl
  have:=h s.heap (Heap.SameBut.refl a s.heap) ⟨o,es,ep,t,ho,hex,hd,hel,fun k'=>by
   rw[Bool.or_eq_true,decide_eq_true_eq,<- hmem k'];exact⟨fun hk=>hk.elim id (fun e=>e ▸ hSk),.inl⟩,by rw[hSk];exact hn,by rw[hSk];exact T⟩
  rw[hSk]at this;rw[e];exact this
 | none =>
  dsimp only;have hSk:S k=false:=by
   cases hk:S k with
   | false=>rfl
   | true=>obtain⟨e,he,hp⟩:=(hmem k).mp hk;have:=List.findIdx?_eq_none_iff.mp hr e he;rw[hp]at this;exact Bool.noConfusion this
  have hroom:n+1<=18:=hroom.resolve_left (by rw[hSk];exact aB0);have hperm:=layNew_perm t es ((intKind prog w).hash k) (.int k tk);obtain⟨es1,t1,eL,p1,p2,p3,p4,p5,p6⟩:=T.lay es hn ((intKind prog w).hash k) (.int k tk);rw[eL]at hperm ⊢;dsimp only at hperm ⊢;rw[Array.toList_push]at hperm;have hel1:ElemsOf (intKind prog w) es1.toList:=(hel.push hkey rfl).perm hperm;have hmem1:∀ k',(S k' || decide (k'=k))=true↔∃ e∈es1.toList,(intKind prog w).is k' e.2=true:=mem_push_iff hkey hmem hperm;have hsz1:es1.size=n+1:=by rw[<- Array.length_toList,hperm.length_eq,aBW,Array.length_toList,hn];rfl
  have hl:t1.led=true\/w.params.followText "set-order"=true:=by rw[p2];exact T.led
  have hend:∀ h',Heap.SameBut a s.heap h'->SetG prog w h' a (fun k'=>S k' || decide (k'=k)) (n+1)->Q true { s with heap:=h' }:=by
   intro h' hsb hS';have:=h h' hsb;rw[hSk]at this;exact this hS'
  refine aBL (aBM ?_);rw[p1];simp only[↓reduceIte];rw[hashByValue_scannable 8 (x:=.int k tk) rfl];refine aBL (aBM ?_);have hpk:plainKind (.int k tk)=true:=rfl;rw[hpk];simp only[↓reduceIte];refine aBL (wpAny_storeSet_of ho hd ?_ (fits_of_scanBound (by omega)));have ho1:=U6 ho hd es1 t1;have hsb1:=Heap.SameBut.update s.heap a (Obj.putSet es1 t1);have hfill:t1.fill=n+1:=by unfold SetTable.fill;rw[p5,p3];rfl
  rcases Nat.lt_or_ge t1.mask 8 with q | q
  ·have hm7:t.mask=7:=by rcases T.msk with ⟨e,_⟩ | ⟨e,_⟩;exact e;omega
   have hn4:n<=4:=by rcases T.msk with ⟨e,q4⟩ | ⟨e,_⟩;exact q4;omega
   rcases Nat.lt_or_ge n 4 with z | z
   ·have htf:(!false && t1.tooFull)=false:=by
     unfold SetTable.tooFull;rw[hfill,p6,hm7];simp;omega
    rw[htf];simp only[Bool.false_eq_true,↓reduceIte];refine aBM (aBM ?_);exact hend _ hsb1 ⟨_,es1,ep+1,t1,ho1,hex,rfl,hel1,hmem1,hsz1,⟨p1,hl,p3,p4,p5,.inl ⟨by rw[p6,hm7],by omega⟩⟩⟩
   ·have hn4':n=4:=by omega
    subst hn4';have htf:(!false && t1.tooFull)=true:=by
     unfold SetTable.tooFull;rw[hfill,p6,hm7];rfl
    rw[htf];simp only[↓reduceIte];have hp:=relayAll_perm t1 es1 (SetTable.grown es1.size);obtain⟨es2,t2,eR,T2,hz2⟩:=yV (w:=w) hsz1 p1 hl;rw[eR]at hp ⊢;dsimp only at hp ⊢;refine aBL (aBM ?_);refine aBL (wpAny_storeSet_of ho1 rfl ?_ (fits_of_scanBound (by omega)));have ho2:=U6 ho1 rfl es2 t2;refine aBM (aBM ?_);exact hend _ (hsb1.trans (Heap.SameBut.update _ a _)) ⟨_,es2,ep+1+1,t2,ho2,hex,rfl,hel1.perm hp,
     fun k'=>(hmem1 k').trans ⟨fun⟨e,he,q⟩=>⟨e,hp.mem_iff.mpr he,q⟩,fun⟨e,he,q⟩=>⟨e,hp.mem_iff.mp he,q⟩⟩,hz2,T2⟩
  ·have hm31:t.mask=31:=by rcases T.msk with ⟨e,_⟩ | ⟨e,_⟩;omega;exact e
   have htf:(!false && t1.tooFull)=false:=by
    unfold SetTable.tooFull;rw[hfill,p6,hm31];simp;omega
   rw[htf];simp only[Bool.false_eq_true,↓reduceIte];refine aBM (aBM ?_);exact hend _ hsb1 ⟨_,es1,ep+1,t1,ho1,hex,rfl,hel1,hmem1,hsz1,⟨p1,hl,p3,p4,p5,.inr ⟨by rw[p6,hm31],hroom⟩⟩⟩
end
theorem lR (val:Nat->Int) {i:Nat}:∀ {n:Nat},i<=n->(firstMet val i).length<=(firstMet val n).length
 | 0,h=>by have:i=0:=by omega
           rw[this];exact Nat.le_refl _
 | n+1,h=>by
  rcases Nat.lt_or_ge n i with q | q
  ·have:i=n+1:=by omega
   rw[this];exact Nat.le_refl _
  ·have:=lR val q;rw[firstMet_succ,step_length];split <;> omega
section
variable {prog:Program} {w:World} {A:Around} {R:Result->Shared->Prop} {I:Addr} {fp wr:List Addr} {G:Array GenState->Array GenState->Prop} {n:Nat} {P:Nat->Value->Prop} {St:Nat->Shared->Prop}
theorem J4 (W:WalksS prog w A.in1 I fp wr G n P St) (S:Addr) (hSf:S∉fp)
 (val:Nat->Int) (hval:∀ i v,P i v->∃ t,v=.int (val i) t) (hb:(firstMet val n).length<=18) :
 ∀ (k i:Nat) (s:Shared),n - i=k->i<=n->St i s ->
  SetG prog w s.heap S (fun k'=>(firstMet val i).any (· == k')) (firstMet val i).length ->
  (∀ s',Moved (S :: wr) G s s'->SetG prog w s'.heap S (fun k'=>(firstMet val n).any (· == k')) (firstMet val n).length->R (.ok (.ret .none)) s') ->
  codeAny (model prog w) A (.builtin "set.update.loop" ⟨[.ref S,.ref I],[]⟩) R s:=by
 have hSw:S∉wr:=fun h=>hSf (W.sub _ h);have hsub:∀ b∈wr,b∈S :: wr:=fun b hb=>aBQ _ hb;intro k
 induction k with
 | zero =>
  intro i s hk hi hst hS hR;have hin:i=n:=by omega
  subst hin;refine codeAny_builtin PyProof.Rows.F.entry_set_update_loop ?_;rw[aBZ PyProof.Rows.F.plain_set_update_loop _];show wpAny _ A.in1 (pyNext (.ref I) >>= _) _ _ s;refine aBL (W.done s _ _ hst fun s' hm=>?_);show wpAny _ A.in1 (ret Value.none) _ _ s';exact aBM (hR s' (hm.mono hsub) (hS.at' fun o e=>hm.heap S _ hSw e))
 | succ k ih =>
  intro i s hk hi hst hS hR;have hlt:i<n:=by omega
  refine codeAny_builtin PyProof.Rows.F.entry_set_update_loop ?_;rw[aBZ PyProof.Rows.F.plain_set_update_loop _];show wpAny _ A.in1 (pyNext (.ref I) >>= _) _ _ s;refine aBL (W.item i s _ _ hlt hst fun v s' hP hst' hm=>?_);obtain⟨t,rfl⟩:=hval i v hP;have hS':=hS.at' (h':=s'.heap) fun o e=>hm.heap S _ hSw e;show wpAny _ A.in1 (holding [Value.int (val i) t] (setAdd S (.int (val i) t)) >>= _) _ _ s';refine aBL (wpAny_holding ?_);unfold setAdd;refine wpAny_holding ?_;refine aBL ((intKind prog w).pyHash (k:=val i) (intKind_is _ _ _ _) ?_);have hm1:=lR val (show i+1<=n from hlt);have hroom:(firstMet val i).any (· == val i)=true\/(firstMet val i).length+1<=18:=by
   by_cases q:(firstMet val i).any (· == val i)=true
   ·exact .inl q
   ·right
    rw[firstMet_succ,step_length,if_neg q]at hm1;omega
  refine aBI (s:={ s' with toks:=s'.toks+1 }) hS' hroom fun h' hsb hS2=>?_;have hSi:SetG prog w h' S (fun k'=>(firstMet val (i+1)).any (· == k')) (firstMet val (i+1)).length :=
   hS2.congr (fun k'=>by rw[firstMet_succ,step_any]) (by rw[firstMet_succ,step_length])
  refine aBM ⟨plainId_quiet PyProof.Rows.F.plain_set_update_loop _,ih (i+1) _ (by omega) hlt (W.frame _ s' _ _ hst' (Nat.le_succ _) fun b hb o e=>?_) hSi fun s'' hm'' hS''=>?_⟩
  ·rw[hsb.2 b (fun h:b=S=>hSf (by rw[<- h];exact hb))];exact e
  ·refine hR s'' (Moved.trans W.gtrans ((hm.mono hsub).then_heap (Nat.le_succ _) fun b o hb e=>?_) hm'') hS'';rw[hsb.2 b (fun h:b=S=>hb (by rw[h];exact aBP))];exact e
end
section
variable {prog:Program} {w:World} {A:Around} {E:Value->Shared->Prop} {s:Shared}
def iC (w:World):Obj:={ cls:=.type "set",dict:=none,data:=.set #[] 0 (.fresh 0 0 (!w.params.followText "set-order")) }
theorem U7 (a:Value) {Q₁:Value->Shared->Prop}
 (h:Q₁ (.ref s.heap.objs.size) { s with heap:=s.heap.push (iC w) }) :
 codeAny (model prog w) A (.call (.builtin "set.__new__") ⟨[.type "set",a],[]⟩) (wants Q₁ E) s:=by
 refine codeAny_of_tree ?_;show wpAny _ A.in1 (do checkBuiltinCall "set.__new__" ⟨[.type "set",a],[]⟩;again (.builtin "set.__new__" ⟨[.type "set",a],[]⟩)) _ _ s;refine aBL (wpAny_of_eq (PySem.F.newCall_set_1 a) (aBM ⟨plainId_quiet PySem.F.plain_set_new _,codeAny_builtin PySem.F.entry_set_new ?_⟩));rw[aBZ PySem.F.plain_set_new _];unfold Builtin.«set.__new__» Builtin.Frozenset.newClass;have hsub:=sub_set_self;obtain⟨hp,g,d,tk,os⟩:=s;dsimp only
 wp_walk
 refine wpAny_askSetting (aBM ?_);dsimp only;simp only[newObj];refine aBL (wpAny_alloc (aBM ?_));exact aBM h
theorem yW {h:Heap} {a:Addr} (e:h.get? a=some (iC w)):SetG prog w h a (fun _=>false) 0 :=
 ⟨_,#[],0,_,e,⟨rfl,rfl,rfl⟩,rfl,fun e he=>by simp at he,fun k=>by simp,rfl,.fresh (by cases w.params.followText "set-order";exact .inl rfl;exact .inr rfl)⟩
theorem J5 {l:Addr} {items:Array Value} {ns:List Int} {Q:Value->Shared->Prop}
 (hh:A.handled=none) (hl:s.heap.IsList l items) (hi:IntsAre items.toList ns) (hb:(firstMet (fun i=>ns.getD i 0) items.size).length<=18)
 (h:∀ (h':Heap) (tk:Nat),SetG prog w h' s.heap.objs.size (fun k'=>(firstMet (fun i=>ns.getD i 0) items.size).any (· == k')) (firstMet (fun i=>ns.getD i 0) items.size).length ->
  (∀ b o,b<s.heap.objs.size->s.heap.get? b=some o->h'.get? b=some o)->Q (.ref s.heap.objs.size) { s with heap:=h',toks:=tk }) :
 wpAny (model prog w) A (call (.type "set") [.ref l]) Q E s:=by
 obtain⟨c,tl,hmro⟩:=PySem.F.called_set.mro;have hmade:=PySem.F.called_set.made;have hsub:=PySem.F.called_set.sub;refine wpAny_call (codeAny_of_tree ?_);show wpAny _ _ (callAny (.type "set") _) _ _ _;refine aBM ⟨Code.quiet_builtin _ (by decide +kernel),codeAny_builtin PySem.F.entry_type_call ?_⟩;rw[Around.under_plain (weight_type_call_type "set" [.ref l] []) rfl];have h1:=PySem.F.called_set.notType;have h2:=PySem.F.called_set.canCreate;have hct:=PySem.F.typeCall_set_1 (.ref l)
 repeat (any_goals (first | assumption | wp_step))
 refine codeAny_mono (U7 (.ref l) (E:=E) (Q₁:=fun obj s₁=>obj=.ref s.heap.objs.size/\s₁={ s with heap:=s.heap.push (iC w) }) ⟨rfl,rfl⟩) fun r s₁ hr=>?_;cases r with
 | error e=>exact hr
 | ok fl =>
  cases fl with
  | ret obj =>
   obtain⟨rfl,rfl⟩:=hr;have hS:(s.heap.push (iC w)).get? s.heap.objs.size=some (iC w):=aBU _ rfl;have hT:Shared.TypeIs { s with heap:=s.heap.push (iC w) } (.ref s.heap.objs.size) "set":=⟨_,hS,rfl⟩;have hli:=PySem.F.called_set.init.lookup;have hbi:=PySem.F.called_set.init.bind (.ref s.heap.objs.size)
   repeat (any_goals (first | assumption | wp_step))
   refine codeAny_mono (codeAny_call_builtin (R:=wants (fun r s₂=>r=.none/\∃ h' tk,s₂={ s with heap:=h',toks:=tk } /\
    SetG prog w h' s.heap.objs.size (fun k'=>(firstMet (fun i=>ns.getD i 0) items.size).any (· == k')) (firstMet (fun i=>ns.getD i 0) items.size).length /\
    (∀ b o,b<s.heap.objs.size->s.heap.get? b=some o->h'.get? b=some o)) E) PySem.F.called_set.init.plain PySem.F.entry_set_init (check_set_init_1 hT ?_)) fun r₂ s₂ hr₂=>?_
   ·obtain⟨ol,hol,hcl,nl,hdl⟩:=hl;obtain⟨ocls,odict,odata,oslots⟩:=ol;simp only at hcl hdl;subst hcl;subst hdl;have hol':(s.heap.push (iC w)).get? l=some { cls:=.type "list",dict:=odict,data:=.seq items nl,slots:=oslots }:=aBO _ hol;have hsls:=PySem.F.sub_list_set;have hslf:=PySem.F.sub_list_frozenset;have hne:(Value.type "list" == Value.type "dict")=false:=by decide
    have hl1:(s.heap.push (iC w)).IsList l items:=⟨_,hol',rfl,nl,rfl⟩;unfold Builtin.«set.__init__» noKeywords Builtin.Frozenset.updateFrom;generalize hPI:pyIter=PI
    wp_walk
    subst hPI;refine wpAny_pyIter_list hl1 ?_;refine aBL (wpAny_runValue ?_);have hlS:l<s.heap.objs.size:=aBT hol;have hh3:A.in1.in1.in1.handled=none:=by simp[hh]
    have hneI:l≠(s.heap.push (iC w)).objs.size:=by
     rw[Heap.size_push];exact aBb (Nat.lt_succ_of_lt hlS)
    have hSf:s.heap.objs.size∉[(s.heap.push (iC w)).objs.size,l]:=by
     rw[Heap.size_push];simp only[aBr,aBk,List.not_mem_nil,or_false,not_or];exact⟨aBb (Nat.lt_succ_self _),aBe hlS⟩
    have hval:∀ (i:Nat) (v:Value),items[i]?=some v->∃ t,v=.int ((fun i=>ns.getD i 0) i) t:=fun i v hv =>
     PyProof.Rows.IntsAre.int_at hi i v (by rw[Array.getElem?_toList];exact hv)
    refine J4 ((Walks.list hh3 _ l hneI items).toS) s.heap.objs.size
     hSf (fun i=>ns.getD i 0) hval hb (items.size - 0) 0 _ (by omega) (Nat.zero_le _)
     ⟨⟨_,aBU _ rfl,rfl,rfl⟩,(hl1.push _)⟩ ?hS0 ?hR
    case hS0 =>
     exact(yW (prog:=prog) (aBO _ hS)).congr (fun _=>rfl) rfl
    case hR =>
     intro s' hm hS';obtain⟨h',g',d',tk',os'⟩:=s';have eg:g'=s.gens:=hm.gens;have ed:d'=s.drawn:=hm.drawn;have eo:os'=s.os:=hm.os;subst eg;subst ed;subst eo;show wpAny _ _ _ _ _ _;refine aBM ?_;show wpAny _ _ (ret Value.none) _ _ _;refine aBM ⟨rfl,h',tk',rfl,hS',fun b o hb e=>?_⟩;have hb1:b≠s.heap.objs.size:=aBb hb;have hb2:b≠(s.heap.push (iC w)).objs.size:=by
      rw[Heap.size_push];exact aBb (Nat.lt_succ_of_lt hb)
     exact hm.heap b o (by simp only[aBr,aBk,List.not_mem_nil,or_false,not_or];exact⟨hb1,hb2⟩) (aBO _ (aBO _ e))
   ·cases r₂ with
    | error e=>exact hr₂
    | ok fl₂ =>
     cases fl₂ with
     | ret r =>
      obtain⟨rfl,h',tk,rfl,hS',hk'⟩:=hr₂
      repeat (any_goals (first | assumption | wp_step))
      exact h _ _ hS' hk'
     | _=>exact hr₂.elim
  | _=>exact hr.elim
end
theorem B7 {α:Type} (next:Nat->Nat):∀ (fuel k:Nat) (left:List α) (out:Array α),left.length=fuel->(pickOrder.go next fuel k left out).toList.Perm (out.toList++left)
 | 0,k,left,out,h=>by
  have:left=[]:=aBl h;subst this;rw[pickOrder.go,List.append_nil]
 | fuel+1,k,left,out,h=>by
  rw[pickOrder.go];have hl:next k % left.length<left.length:=Nat.mod_lt _ (by omega);rw[aBX hl];dsimp only;refine(B7 next fuel (k+1) _ _ (by rw[List.length_eraseIdx,if_pos hl];omega)).trans ?_;rw[Array.toList_push,List.append_assoc];refine List.Perm.append_left _ ?_;rw[List.singleton_append];rw[List.eraseIdx_eq_take_drop_succ];refine List.perm_middle.symm.trans ?_;rw[List.getElem_cons_drop,List.take_append_drop]
theorem J6 {α:Type} (next:Nat->Nat) (xs:Array α):(pickOrder next xs).toList.Perm xs.toList:=by
 unfold pickOrder;have:=B7 next xs.size 0 xs.toList #[] (by simp);simpa using this
theorem dI:Slot "set_iterator" "__next__" "set_iterator.__next__" :=
 .of (owner:="set_iterator") (n:="__next__") (by rw[typeLookup_type,builtinLookup_eq_fast];kernel_rfl) (by decide +kernel) (by decide +kernel) (by decide +kernel)
  (by first | exact .inl (by decide +kernel) | exact .inr (by decide +kernel)) (by rw[isSubtype_type];kernel_rfl)
theorem kQ:Slot "set_iterator" "__iter__" "set_iterator.__iter__" :=
 .of (owner:="set_iterator") (n:="__iter__") (by rw[typeLookup_type,builtinLookup_eq_fast];kernel_rfl) (by decide +kernel) (by decide +kernel) (by decide +kernel)
  (by first | exact .inl (by decide +kernel) | exact .inr (by decide +kernel)) (by rw[isSubtype_type];kernel_rfl)
theorem jY:entryFor table "set_iterator.__next__"=some Builtin.«set_iterator.__next__»:=entryFor_of_tree (by kernel_rfl)
theorem oY:entryFor table "set_iterator.__iter__"=some Builtin.«dict_keyiterator.__iter__» :=
 entryFor_alias (id':="dict_keyiterator.__iter__") (by kernel_rfl) rfl (by decide +kernel) (by kernel_rfl)
theorem oZ:entryFor table "set.__iter__"=some Builtin.«frozenset.__iter__» :=
 entryFor_alias (id':="frozenset.__iter__") (by kernel_rfl) rfl (by decide +kernel) (by kernel_rfl)
theorem qS:Manifest.owners.lookup (String.ofList ['r','o','t','a','r','e','t','i','_','t','e','s'].reverse)=some Manifest.sig_set_iterator:=by kernel_rfl
theorem kR (a:Value):argsOk "set_iterator.__next__" ⟨[a],[]⟩:=by
 unfold argsOk;rw[signature?_of (id:="set_iterator.__next__") (n:=['_','_','t','x','e','n','_','_']) (o:=['r','o','t','a','r','e','t','i','_','t','e','s']) (by kernel_rfl) qS];kernel_rfl
theorem qT (a:Value):argsOk "set_iterator.__iter__" ⟨[a],[]⟩:=by
 unfold argsOk;rw[signature?_of (id:="set_iterator.__iter__") (n:=['_','_','r','e','t','i','_','_']) (o:=['r','o','t','a','r','e','t','i','_','t','e','s']) (by kernel_rfl) qS];kernel_rfl
section
variable {prog:Program} {w:World} {A:Around} {E:Value->Shared->Prop} {s:Shared}
def SetAt (w:World) (h:Heap) (d:Addr) (es:Array (Int×Value)) (ep:Nat) (t:SetTable):Prop :=
 ∃ o,h.get? d=some o/\o.ExactSet/\o.data=.set es ep t/\TabG w t es.size
def IsSetIter (h:Heap) (it d:Addr) (slot i n ep:Nat):Prop :=
 ∃ o,h.get? it=some o/\o.cls=.type "set_iterator"/\o.data=.fields #[.int slot 0,.int i 0,.ref d,.int n 0,.int ep 0]
def lN (w:World) (d:Addr) (es:Array (Int×Value)) (ep:Nat):Array (Int×Value):=if w.params.followText "set-order"=true then pickOrder (w.params.setOrder d ep) es else es
theorem nY (w:World) (d:Addr) (es:Array (Int×Value)) (ep:Nat):(lN w d es ep).toList.Perm es.toList:=by
 unfold lN;split;exact J6 _ _;exact .rfl
def nZ (w:World) (t:SetTable) (slot i:Nat):Prop:=w.params.followText "set-order"=true\/((∀ k a,k<i->t.place[k]?=some a->a<slot)/\(∀ k a,i<=k->t.place[k]?=some a->slot<=a))
theorem SetAt.typeIs {d:Addr} {es:Array (Int×Value)} {ep:Nat} {t:SetTable} (x:SetAt w s.heap d es ep t):s.TypeIs (.ref d) "set":=let ⟨o,ho,hx,_⟩:=x;⟨o,ho,hx.1⟩
theorem SetAt.at' {h h':Heap} {d:Addr} {es:Array (Int×Value)} {ep:Nat} {t:SetTable} (x:SetAt w h d es ep t) (k:∀ o,h.get? d=some o->h'.get? d=some o):SetAt w h' d es ep t:=let ⟨o,ho,r⟩:=x;⟨o,k _ ho,r⟩
theorem IsSetIter.typeIs {it d:Addr} {slot i n ep:Nat} (x:IsSetIter s.heap it d slot i n ep):s.TypeIs (.ref it) "set_iterator":=let ⟨o,ho,hc,_⟩:=x;⟨o,ho,hc⟩
theorem jQ {Q:Bool->Shared->Prop} (h:Q (w.params.followText "set-order") s):wpAny (model prog w) A setsByText Q E s:=by
 unfold setsByText;exact aBL (wpAny_askSetting (aBM h))
theorem U8 {d:Addr} {es:Array (Int×Value)} {ep:Nat} {t:SetTable} {Q:Value->Shared->Prop} (hs:SetAt w s.heap d es ep t)
 (hQ:Q (.ref s.heap.objs.size) { s with heap:=s.heap.push { cls:=.type "set_iterator",data:=.fields #[.int 0 0,.int 0 0,.ref d,.int es.size 0,.int ep 0] } }) :
 wpAny (model prog w) A (pyIter (.ref d)) Q E s:=by
 obtain⟨o,ho,hx,hd,T⟩:=id hs;refine wpAny_pyIter_slot hs.typeIs PySem.F.slot_set_iter (wpAny_call_entry PySem.F.slot_set_iter hs.typeIs oZ ?_ (PySem.F.args_set_iter_1 _));unfold Builtin.«frozenset.__iter__»;refine aBL (aBM ?_);refine aBL ?_;unfold Builtin.Frozenset.sizeOf;refine aBL (wpAny_setEntries_of ho hd T.fits (aBM ?_));refine aBL ?_;unfold setDrawn;refine aBL (wpAny_setState_of ho hd T.fits ?_);refine aBL (jQ (aBM ?_));have e:(!w.params.followText "set-order" && (!t.plain && decide (es.size > 1)))=false:=by rw[T.plain];simp
 show wpAny _ _ (if (!w.params.followText "set-order" && (!t.plain && decide (es.size > 1)))=true then _ else _) _ _ s;rw[e];simp only[Bool.false_eq_true,↓reduceIte];refine aBL (aBM ?_);refine aBL (wpAny_setEpoch_of ho hd T.fits ?_);refine aBL ?_;refine wpAny_newObj_type (aBM ⟨_,rfl,"set_iterator",_,⟨_,aBU _ rfl,rfl⟩,dI.lookup,?_⟩);exact hQ
theorem J7 {it d:Addr} {slot i n ep:Nat} {Q:Value->Shared->Prop} (hit:IsSetIter s.heap it d slot i n ep) (h:Q (.ref it) s):wpAny (model prog w) A (pyIter (.ref it)) Q E s:=by
 refine wpAny_pyIter_slot hit.typeIs kQ (wpAny_call_entry kQ hit.typeIs oY ?_ (qT _));show wpAny _ _ (ret (.ref it)) _ _ s;exact aBM ⟨_,rfl,"set_iterator",_,hit.typeIs,dI.lookup,h⟩
theorem qU {d:Addr} {es:Array (Int×Value)} {ep slot i:Nat} {t:SetTable} {Q:Option (Value×Nat)->Shared->Prop} (hs:SetAt w s.heap d es ep t) (hS:nZ w t slot i)
 (h:∀ slot',nZ w t slot' (i+1)->Q (((lN w d es ep)[i]?).map fun e=>(e.2,slot')) s):wpAny (model prog w) A (setNext d slot i ep) Q E s:=by
 obtain⟨o,ho,hx,hd,T⟩:=id hs;unfold setNext;refine aBL (wpAny_setState_of ho hd T.fits ?_);refine aBL (jQ ?_);dsimp only
 by_cases q:w.params.followText "set-order"=true
 ·rw[if_pos q];rw[if_neg (by simp)];refine aBL ?_;unfold setWalk;refine aBL (wpAny_setState_of ho hd T.fits ?_);refine aBL (jQ ?_);rw[if_pos q];refine aBL (wpAny_askSetting (aBM (aBM ?_)));have:=h slot (.inl q);unfold lN at this;rw[if_pos q]at this;exact this
 ·rw[if_neg q];have e:(!t.plain && decide (es.size > 1))=false:=by rw[T.plain];rfl
  show wpAny _ _ (if (!t.plain && decide (es.size > 1))=true then _ else _) _ _ s;rw[e];simp only[Bool.false_eq_true,↓reduceIte];have hl:t.led=true:=T.led.resolve_right q;refine aBL ?_;show wpAny _ _ (if (!t.led && !es.isEmpty)=true then _ else _) _ _ s;rw[hl];simp only[Bool.not_true,Bool.false_and,Bool.false_eq_true,↓reduceIte];refine aBM ?_;obtain⟨hS1,hS2⟩:=hS.resolve_left q;have hz:=T.sz;have hord:lN w d es ep=es:=by unfold lN;rw[if_neg q]
  rcases Nat.lt_or_ge i es.size with z | z
  ·have eb:SetTable.below t.place slot=i:=wU T.up (by omega) hS1 hS2;rw[eb];have hp:t.place[i]?=some t.place[i]:=aB5 (by omega);have he:es[i]?=some es[i]:=aB5 z;rw[hp,he];have:=h (t.place[i]+1) (.inr ⟨fun k a hk ha=>?_,fun k a hk ha=>?_⟩)
   ·rw[hord,he]at this;exact aBM this
   ·rcases Nat.lt_or_ge k i with y | y
    ·have:=T.up.lt y ha hp;omega
    ·have:k=i:=by omega
     subst this;rw[hp]at ha;cases ha;omega
   ·have:=T.up.lt (show i<k by omega) hp ha;omega
  ·have eb:SetTable.below t.place slot=es.size:=wU T.up (by omega) (fun k a hk ha=>hS1 k a (by omega) ha) (fun k a hk ha=>by
    have:=(Array.getElem?_eq_some_iff.mp ha).1;omega)
   rw[eb];have he:es[es.size]?=none:=Array.getElem?_eq_none (Nat.le_refl _);rw[he];have:=h 0;have hno:(lN w d es ep)[i]?=none:=by rw[hord];exact Array.getElem?_eq_none z
   have:=h (if _h:es.size=0 then slot else t.place[es.size - 1]!+1+slot) (.inr ⟨fun k a hk ha=>?_,fun k a hk ha=>?_⟩)
   ·rw[hno]at this;exact aBM this
   ·have hk2:=(Array.getElem?_eq_some_iff.mp ha).1;have:=hS1 k a (by omega) ha;split <;> omega
   ·have:=(Array.getElem?_eq_some_iff.mp ha).1;omega
end
section
variable {prog:Program} {w:World} {A:Around} {E:Value->Shared->Prop} {s:Shared}
theorem U9 {it d:Addr} {slot i ep:Nat} {es:Array (Int×Value)} {t:SetTable} {x:Value} {hx:Int} {Q:Option Value->Shared->Prop} (hne:d≠it) (hit:IsSetIter s.heap it d slot i es.size ep)
 (hs:SetAt w s.heap d es ep t) (hS:nZ w t slot i) (he:(lN w d es ep)[i]?=some (hx,x))
 (hQ:∀ slot' h',IsSetIter h' it d slot' (i+1) es.size ep->nZ w t slot' (i+1)->Heap.SameBut it s.heap h'->Q (some x) { s with heap:=h' }) :
 wpAny (model prog w) A (pyNext (.ref it)) Q E s:=by
 obtain⟨o,ho,hc,hd⟩:=id hit;obtain⟨od,hod,hxd,hdd,T⟩:=id hs;unfold pyNext;refine aBL (wpAny_attempt (wpAny_callSpecial?_slot (name:=Str.ofString "__next__") hit.typeIs dI
  (wpAny_call_entry dI hit.typeIs jY ?_ (kR _))))
 unfold Builtin.«set_iterator.__next__»;refine aBL (aBM ?_);refine aBL (wpAny_fieldsOf ho hd ?_);show wpAny _ _ (setEntries d >>= _) _ _ s;refine aBL (wpAny_setEntries_of hod hdd T.fits ?_);rw[if_neg (by simp)];show wpAny _ _ (setNext d (slot:Int).toNat (i:Int).toNat (ep:Int).toNat >>= _) _ _ s;rw[Int.toNat_natCast,Int.toNat_natCast,Int.toNat_natCast];refine aBL (qU hs hS fun slot' hS'=>?_);rw[he];dsimp only[Option.map];refine aBL (wpAny_setField ho hd (by simp) ?_);have ho2:=aB6 (Obj.mapFields (·.setIfInBounds 0 (rawInt slot'))) ho (Obj.isFreed_of_fields (Obj.data_mapFields hd _));have hd2:(Obj.mapFields (·.setIfInBounds 0 (rawInt slot')) o).data=.fields #[.int slot' 0,.int i 0,.ref d,.int es.size 0,.int ep 0]:=by rw[Obj.data_mapFields hd];simp[rawInt]
 refine aBL (wpAny_setField ho2 hd2 (by simp) ?_);have ho3:=aB6 (Obj.mapFields (·.setIfInBounds 1 (rawInt ((i:Int)+1)))) ho2 (Obj.isFreed_of_fields (Obj.data_mapFields hd2 _));exact aBM ⟨_,rfl,aBM (hQ slot' _ ⟨_,ho3,(Obj.cls_mapFields ..).trans ((Obj.cls_mapFields ..).trans hc),by rw[Obj.data_mapFields hd2];simp[rawInt]⟩ hS' ((Heap.SameBut.update ..).trans (Heap.SameBut.update ..)))⟩
theorem V0 {it d:Addr} {slot i ep:Nat} {es:Array (Int×Value)} {t:SetTable} {Q:Option Value->Shared->Prop} (hh:A.handled=none) (hne:d≠it) (hit:IsSetIter s.heap it d slot i es.size ep)
 (hs:SetAt w s.heap d es ep t) (hS:nZ w t slot i) (he:(lN w d es ep)[i]?=none)
 (hQ:∀ h',Heap.ExtBut it s.heap h'->Q none { s with heap:=h' }) :
 wpAny (model prog w) A (pyNext (.ref it)) Q E s:=by
 obtain⟨o,ho,hc,hd⟩:=id hit;obtain⟨od,hod,hxd,hdd,T⟩:=id hs;unfold pyNext;refine aBL (wpAny_attempt (wpAny_callSpecial?_slot (name:=Str.ofString "__next__") hit.typeIs dI
  (wpAny_call_entry dI hit.typeIs jY ?_ (kR _))))
 unfold Builtin.«set_iterator.__next__»;refine aBL (aBM ?_);refine aBL (wpAny_fieldsOf ho hd ?_);show wpAny _ _ (setEntries d >>= _) _ _ s;refine aBL (wpAny_setEntries_of hod hdd T.fits ?_);rw[if_neg (by simp)];show wpAny _ _ (setNext d (slot:Int).toNat (i:Int).toNat (ep:Int).toNat >>= _) _ _ s;rw[Int.toNat_natCast,Int.toNat_natCast,Int.toNat_natCast];refine aBL (qU hs hS fun slot' hS'=>?_);rw[he];dsimp only[Option.map];refine aBL (wpAny_setField ho hd (by simp) ?_);refine aBL ?_;simp only[newExc,newTuple];refine aBL (wpAny_newObj_type ?_ (by size_fits));refine aBL (m:=firstArgMember _ _) (wpAny_of_eq (a:=Value.none) (by first | rfl | (simp only[firstArgMember];rfl)) ?_);refine wpAny_newObj_type ?_ (by size_fits);simp only[raiseNew];refine aBL (wpAny_handled ?_);rw[show A.in1.handled=none from hh];refine aBL (aBM (wpAny_throw ?_));refine aBL (wpAny_isInstance (T:="StopIteration") (b:=true) ⟨_,aBU _ rfl,rfl⟩ isSubtype_stop ?_);exact aBM (hQ _ (((Heap.SameBut.update ..).extBut.push _).push _))
theorem J8 (hh:A.handled=none) (I d:Addr) (hne:d≠I) (es:Array (Int×Value)) (ep:Nat) (t:SetTable) :
 Walks prog w A I [I,d] [I] es.size (fun i v=>∃ hx,(lN w d es ep)[i]?=some (hx,v)) (fun i h=>∃ slot,IsSetIter h I d slot i es.size ep/\SetAt w h d es ep t/\nZ w t slot i) where
 sub:=fun b hb=>by simp at hb;simp[hb]
 frame:=fun _ _ _ ⟨slot,⟨o,ho,r⟩,st,hS⟩ hk=>⟨slot,⟨o,hk I (by simp) o ho,r⟩,st.at' fun o e=>hk d (by simp) o e,hS⟩
 item:=fun i s Q E hi ⟨slot,hit,st,hS⟩ hQ=>by
  have hz:(lN w d es ep).size=es.size:=by rw[<- Array.length_toList,(nY w d es ep).length_eq,Array.length_toList]
  obtain⟨⟨hx,x⟩,he⟩:∃ p,(lN w d es ep)[i]?=some p:=⟨_,aB5 (by omega)⟩;refine U9 hne hit st hS he fun slot' h' hit' hS' hs'=>?_;exact hQ x h' s.toks ⟨hx,he⟩ ⟨slot',hit',st.at' fun o e=>hs'.extBut d o hne e,hS'⟩ fun b o hb e=>hs'.extBut b o (fun h=>hb (by simp[h])) e
 done:=fun s Q E ⟨slot,hit,st,hS⟩ hQ=>by
  have hz:(lN w d es ep).size=es.size:=by rw[<- Array.length_toList,(nY w d es ep).length_eq,Array.length_toList]
  exact V0 hh hne hit st hS (Array.getElem?_eq_none (by omega)) fun h' he'=>hQ h' s.toks fun b o hb e=>he' b o (fun h=>hb (by simp[h])) e
 self:=fun _ _ _ _ ⟨slot,hit,st,hS⟩ hQ=>J7 hit hQ
theorem V1 {r:Addr} {Q:Bool->Shared->Prop} (hT:s.TypeIs (.ref r) "set") (h:Q false s):wpAny (model prog w) A (Builtin.List.listLengthHint (.ref r)) Q E s:=by
 unfold Builtin.List.listLengthHint;refine aBL (wpAny_specialOf hT PySem.F.slot_set_len.lookup ?_);generalize hid:("set.__len__":String)=id0
 wp_delta
 rw[show splitId id0=some ("set","__len__") from by subst hid;decide +kernel];subst hid;refine aBL (wpAny_isInstance (T:="set") (b:=true) hT (by rw[isSubtype_type];kernel_rfl) ?_);refine wpAny_ite_split (fun hab=>absurd hab (by decide)) (fun _=>?_);refine wpAny_ite_split (fun _=>?_) (fun hab=>absurd (by decide +kernel) hab);refine aBL (wpAny_typeOf hT ?_);exact aBM h
theorem d9 {d:Addr} {es:Array (Int×Value)} {ep:Nat} {t:SetTable}:PySem.W.KdlSrc prog w "set" d d es.size (fun i v=>∃ hx,(lN w d es ep)[i]?=some (hx,v)) (fun h=>SetAt w h d es ep t) where
 type:=fun _ hm=>hm.typeIs
 there:=fun _ hm=>let ⟨_,ho,_⟩:=hm;⟨aBT ho,aBT ho⟩
 keep:=fun _ _ hm hk=>hm.at' fun o e=>hk d (.inl rfl) o e
 notList:=by decide
 notTuple:=by decide
 hint:=fun _ _ _ _ hm hq=>V1 hm.typeIs hq
 iter:=fun _ s hh hm=>⟨_,_,(fun _ _ hq=>U8 hm hq),J8 hh _ d (let ⟨_,ho,_⟩:=hm;aBb (aBT ho)) es ep t,
  ⟨0,⟨_,aBU _ rfl,rfl,rfl⟩,hm.at' fun o e=>aBO _ e,.inr ⟨fun k a hk=>absurd hk (by omega),fun k a _ _=>Nat.zero_le _⟩⟩⟩
end
def bK (ns:List Int):List Int:=firstMet (fun i=>ns.getD i 0) ns.length
section
variable {X:Cx}
theorem tH (hc:X.calm=true):eY X (.type "set") (fun xs H Q=>∃ (a:Addr) (ns:List Int),xs=[.ref a]/\H a=some (.lst (ns.map V.int))/\ns.length<=1000/\∀ l,H l=none->Q (.ref l) (upd H l (.set (fun k=>(bK ns).any (· == k)) (bK ns).length))):=by
 intro pins s σ H xs us Q I r h;obtain⟨a,ns,rfl,ha,hn,q⟩:=h;obtain⟨u,rfl,rx⟩:=hU r;cases rx;obtain⟨its,rv,pl,hz⟩:=I.list (SqL.of ha);have hl:=rv.length;rw[aBN]at hl;have hb:scanBound=4096:=rfl;refine call_set_list (I.ok.hd hc) pl.isList (hX rv) (by rw[aBV,hb];omega) fun h' tk hS kp=>?_;have es:its.toArray.size=ns.length:=by rw[aBV,hl]
 rw[es]at hS;have hn:H s.heap.objs.size=none:=I.hok.fresh (Nat.le_refl _);exact⟨.ref s.heap.objs.size,_,I.laid (o:=.set _ _) (fun b o e=>kp b o (aBT e) e) (Nat.le_refl _) hS,rfl,q _ hn⟩
theorem tI:eY X (.builtin "len") (fun xs H Q=>∃ (a:Addr) (S:Int->Bool) (n:Nat),xs=[.ref a]/\H a=some (.set S n)/\Q (.int n) H):=by
 intro pins s σ H xs us Q I r h;obtain⟨a,S,n,rfl,ha,q⟩:=h;obtain⟨u,rfl,rx⟩:=hU r;cases rx;obtain⟨o,es,ep,t,ho,hx,hd,_,_,hsz,hf,hn⟩:=(show s.heap.SetOf (intKind X.prog X.w) a S n from I.hok a _ ha);have hb:scanBound=4096:=rfl;refine call_len_set ho hx hd hf (by rw[hb]at hsz;omega) ?_;rw[hn];exact⟨.int n,H,I.tok _,⟨_,rfl⟩,q⟩
end
theorem J9 {ns:List Int} (h:ns.Nodup):(bK ns).length=ns.length:=by
 unfold bK;have go:∀ i,i<=ns.length->(firstMet (fun i=>ns.getD i 0) i).length=i:=by
  intro i
  induction i with
  | zero=>intro _;rfl
  | succ i ih =>
   intro hi;rw[firstMet_succ];unfold step_dedup;have hn:(firstMet (fun i=>ns.getD i 0) i).any (· == ns.getD i 0)=false:=by
    rw[firstMet_any,List.any_eq_false];intro x hx;obtain⟨j,hj,rfl⟩:=aBt.mp hx;have hj':=List.mem_range.mp hj;have e1:ns.getD j 0=ns[j]:=by simp[show j<ns.length by omega]
    have e2:ns.getD i 0=ns[i]:=by simp[show i<ns.length by omega]
    rw[e1,e2];intro z;have z':ns[j]=ns[i]:=by simpa using z
    have:=(List.getElem_inj h).mp z';omega
   rw[hn];simp only[Bool.false_eq_true,if_false,aBW,List.length_singleton];rw[ih (by omega)]
 exact go _ (Nat.le_refl _)
theorem kS {α:Type} [DecidableEq α]:∀ {l1 l2:List α},l1.Nodup->l1 ⊆ l2->l2.length<=l1.length->l1.Perm l2
 | [],l2,_,_,h=>by
  have:l2=[]:=aBl (by simpa using h);rw[this]
 | x :: l1,l2,hn,hs,h=>by
  rw[List.nodup_cons]at hn;have hx:x∈l2:=hs aBP;refine(List.Perm.cons x (kS hn.2 (fun y hy=>?_) ?_)).trans (List.perm_cons_erase hx).symm
  ·have hne:y≠x:=fun e=>hn.1 (e ▸ hy);exact(List.mem_erase_of_ne hne).mpr (hs (aBQ _ hy))
  ·rw[List.length_erase_of_mem hx];simp only[aBh]at h;omega
theorem iD (val:Nat->Int):∀ i,(firstMet val i).Nodup
 | 0=>by rw[firstMet_zero];exact .nil
 | i+1=>by
  rw[firstMet_succ];unfold step_dedup;split
  ·exact iD val i
  ·rename_i h
   rw[List.nodup_append];refine⟨iD val i,by simp,fun a ha b hb e=>h ?_⟩;rw[aBk]at hb;rw[List.any_eq_true];exact⟨a,ha,by rw[e,hb];simp⟩
theorem fX (ns:List Int):(bK ns).Nodup:=iD _ _
theorem dP (ns:List Int) (k:Int):k∈bK ns↔k∈ns:=by
 have e:=firstMet_any (fun i=>ns.getD i 0) ns.length k;have h1:k∈bK ns↔(bK ns).any (· == k)=true:=by
  rw[List.any_eq_true];exact⟨fun h=>⟨k,h,by simp⟩,fun⟨x,h,q⟩=>by rw[beq_iff_eq]at q;exact q ▸ h⟩
 rw[h1];show (firstMet (fun i=>ns.getD i 0) ns.length).any (· == k)=true↔_;rw[e,List.any_eq_true]
 constructor
 ·rintro ⟨x,hx,q⟩;rw[beq_iff_eq]at q;obtain⟨i,hi,rfl⟩:=aBt.mp hx;have hi2:=List.mem_range.mp hi;rw[<- q];show ns.getD i 0∈ns;rw[List.getD_eq_getElem?_getD,aBX hi2];exact List.getElem_mem hi2
 ·intro h;obtain⟨i,hi,e⟩:=List.getElem_of_mem h;exact⟨k,aBt.mpr ⟨i,List.mem_range.mpr hi,by show ns.getD i 0=k;rw[List.getD_eq_getElem?_getD,aBX hi];exact e⟩,by simp⟩
def e7:Value->Int
 | .int k _=>k
 | _=>0
theorem oM:∀ {vs:List Value},(∀ v∈vs,∃ k t,v=.int k t)->IntsAre vs (vs.map e7)
 | [],_=>.nil
 | v :: vs,h=>by
  obtain⟨k,t,rfl⟩:=h v aBP;exact .cons k t (oM fun x hx=>h x (aBQ _ hx))
section
variable {prog:Program} {w:World} {A:Around} {E:Value->Shared->Prop} {s:Shared}
theorem wZ {T:String} {r d:Addr} {n:Nat} {P:Nat->Value->Prop} {OK:Heap->Prop} {R:List Value->Shared->Prop} (K:PySem.W.KdlSrc prog w T r d n P OK) (hh:A.handled=none) (hok:OK s.heap) (hn:n<=sizeLine)
 (h:∀ (h':Heap) (tk:Nat) (acc:Array Value),(∀ b o,s.heap.get? b=some o->h'.get? b=some o)->s.heap.objs.size<h'.objs.size->ItemsOf P acc n->R acc.toList { s with heap:=h',toks:=tk }) :
 wpAny (model prog w) A (collect (.ref r)) R E s:=by
 have hlt:=K.there _ hok;unfold collect;refine aBL (wpAny_runValue (codeAny_builtin entry_proto_collect' ?_));rw[aBZ PySem.F.plain_proto_collect _];show wpAny _ A.in1 (newList [] >>= fun l=>again (.builtin "list.__iadd__" ⟨[l,.ref r],[]⟩)) _ _ s;refine aBL (wpAny_newObj_type (aBM ⟨plainId_quiet PySem.F.plain_list_iadd _,codeAny_builtin entry_list_iadd' ?_⟩));rw[aBZ PySem.F.plain_list_iadd _];have hS:(s.heap.push { cls:=.type "list",data:=.seq ([]:List Value).toArray }).get? s.heap.objs.size=some { cls:=.type "list",data:=.seq #[] }:=aBU _ rfl;show wpAny _ A.in1 (Builtin.List.listExtendWith (.ref s.heap.objs.size) (.ref r) (.ref s.heap.objs.size)) _ _ _;have key:=PySem.W.kdl_extend (A:=A) (s:={ s with heap:=s.heap.push { cls:=.type "list",data:=.seq ([]:List Value).toArray } })
  (R:=fun(q:Result) (s':Shared)=>∃ (h':Heap) (tk:Nat) (acc':Array Value) (c':Nat),q=.ok (.ret (.ref s.heap.objs.size))/\s'={ s with heap:=h',toks:=tk } /\
   (∀ b o,s.heap.get? b=some o->h'.get? b=some o)/\h'.get? s.heap.objs.size=some { cls:=.type "list",dict:=none,data:=.seq acc' c',slots:=#[] }/\ItemsOf P acc' n)
  K hh (K.keep _ _ hok fun b _ o e=>aBO _ e) s.heap.objs.size (aBe hlt.1) (aBe hlt.2) (.ref s.heap.objs.size) 0 hS
  (fun h' tk acc' c' hk hS' hacc=>⟨h',tk,acc',c',rfl,rfl,fun b o e=>hk b o (aBb (aBT e)) (aBO _ e),hS',hacc⟩) hn
 refine wpAny_mono key (fun fin s' x=>?_) fun e s' x=>?_
 ·cases fin with
  | done f =>
   obtain⟨h',tk,acc',c',e,rfl,hk,hS',hacc⟩:=x;cases e;show wpAny _ A (load s.heap.objs.size >>= _) _ _ _;exact aBL (wpAny_load hS' (aBM (h h' tk acc' hk (aBT hS') hacc)))
  | again c₁ =>
   refine⟨x.1,codeAny_mono x.2 fun q s₂ y=>?_⟩;obtain⟨h',tk,acc',c',rfl,rfl,hk,hS',hacc⟩:=y;show wpAny _ A (load s.heap.objs.size >>= _) _ _ _;exact aBL (wpAny_load hS' (aBM (h h' tk acc' hk (aBT hS') hacc)))
 ·obtain⟨_,_,_,_,e',_⟩:=x;cases e'
theorem yX {T:String} {r d:Addr} {n:Nat} {P:Nat->Value->Prop} {OK:Heap->Prop} {Q:Value->Shared->Prop} (K:PySem.W.KdlSrc prog w T r d n P OK) (hh:A.handled=none) (hok:OK s.heap) (h64:n<64)
 (hP:∀ i v,P i v->∃ k t,v=.int k t)
 (h:∀ (h':Heap) (tk:Nat) (a:Addr) (vs:List Value) (out:Array Value) (ms:List Int) (e:Nat),vs.length=n->(∀ i v,vs[i]?=some v->P i v)->(∀ b o,s.heap.get? b=some o->h'.get? b=some o)->s.heap.objs.size<=a ->
  h'.get? a=some (seqObj "list" out e)->IntsAre out.toList ms->ms.Perm (vs.map e7)->ms.Pairwise (·<=·)->Q (.ref a) { s with heap:=h',toks:=tk }) :
 wpAny (model prog w) A (call (.builtin "sorted") [.ref r]) Q E s:=by
 have hsl:n<=sizeLine:=by rw[sizeLine_eq];omega
 refine Calls.call_function_entry kind_sorted plain_sorted entry_sorted (args_sorted1 _) ?_;unfold Builtin.«sorted»;refine aBL (m:=checkCount "sorted" 1 1 _) (aBM ?_);refine aBL (wZ (A:=A.in1) K hh hok hsl fun h' tk acc hk hgr hacc=>?_);have hl:acc.toList.length=n:=by rw[Array.length_toList];exact hacc.1
 have hv:∀ i v,acc.toList[i]?=some v->P i v:=fun j v e=>hacc.2 j v (by rw[<- Array.getElem?_toList];exact e);refine aBL (wpAny_newList ?_ (by rw[hl];exact hsl));have hI:IntsAre acc.toList (acc.toList.map e7):=oM fun v hv'=>by
  obtain⟨i,hi⟩:=List.mem_iff_getElem?.mp hv';exact hP i v (hv i v hi)
 have hoL:(h'.push (seqObj "list" acc.toList.toArray 0)).get? h'.objs.size=some (seqObj "list" acc.toList.toArray 0):=aBU _ rfl;refine aBL (wpAny_holding (wpAny_call_entry slot_list_sort ⟨_,hoL,rfl⟩ entry_list_sort (list_sort_tree (s:={ s with heap:=h'.push (seqObj "list" acc.toList.toArray 0),toks:=tk }) hoL hI (by omega) fun out ns' a1 a2 a3=>⟨_,rfl,?_⟩) (args_list_sort _)));obtain⟨e,he⟩:=sortedHeap_at (out:=out) hoL;refine aBM ⟨_,rfl,h _ tk _ acc.toList out ns' e hl hv (fun b o q=>?_) (Nat.le_of_lt hgr) he a1 a2 a3⟩;have hb:=aBT (hk b o q);rw[sortedHeap_old (aBb hb) (by rw[size_push'];exact Nat.lt_succ_of_lt hb)];exact aBO _ (hk b o q)
variable {X:Cx} {e:Expr} {es:List Expr} {t:TA} {x y:Str} {p p2 pos pos2:Pos}
def tSS (t:TA):TE:=fun σ H Q=>t σ H fun xs H1=>∃ (a:Addr) (ns:List Int),xs=[.ref a]/\H1 a=some (.lst (ns.map V.int))/\(bK ns).length<=18 /\
 ∀ (l:Addr) (ms:List Int),H1 l=none->ms.Perm (bK ns)->ms.Pairwise (·<·)->Q (.ref l) (upd H1 l (.lst (ms.map V.int)))
theorem uU (hc:X.calm=true) (hg:Gl X x) (hm:X.mg x=none) (hv:bootBuiltins x=some (.builtin "sorted")) (hg2:Gl X y) (hm2:X.mg y=none) (hv2:bootBuiltins y=some (.type "set")) (ha:PA X [e] t)
 (hn:x≠"__name__":=by decide) (hdb:(x == ("__debug__":Str))=false:=by decide) (hn2:y≠"__name__":=by decide) (hdb2:(y == ("__debug__":Str))=false:=by decide)
 (he:starEach [e] X.env=(false,eval e X.env) :: starEach [] X.env:=by rfl):PE X (.Call (.Name x p) [.Call (.Name y p2) [e] [] pos2] [] pos) (tSS t):=by
 intro pins s σ H Q I h;refine wpAny_Call_Name_kw (gF I hg hm hv ?_ hn hdb);refine PyProof.Rows.callWith_builtin1 ?_ rfl rfl;show wpAny _ _ (spliced ((false,eval (.Call (.Name y p2) [e] [] pos2) X.env) :: backTo pos (starEach [] X.env))) _ _ s;refine Calls.spliced_cons ?_;refine wpAny_Call_Name_kw (gF I hg2 hm2 hv2 ?_ hn2 hdb2);refine PyProof.Rows.callWith_type1 (thn (ha pos2 pins s σ H _ I h) fun us s1 ⟨vs,H1,I1,r1,q1⟩=>?_) he rfl;obtain⟨a,ns,rfl,hl,h18,q⟩:=q1;obtain⟨u,rfl,rx⟩:=hU r1;cases rx;obtain⟨its,rv,pl,hz⟩:=I1.list (SqL.of hl);have hlen:=rv.length;rw[aBN]at hlen;have es1:its.toArray.size=ns.length:=by rw[aBV,hlen]
 refine J5 (I1.ok.hd hc) pl.isList (hX rv) (by rw[es1];exact h18) fun h' tk hS kp=>?_;rw[es1]at hS;refine Calls.spliced_nil ?_;obtain⟨o,es,ep,tt,ho,hex,hd,hel,hmem,hn',T⟩:=hS;have hAt:SetAt X.w h' s1.heap.objs.size es ep tt:=⟨o,ho,hex,hd,by rw[hn'];exact T⟩;have h18':=T.le;have hint:∀ q∈es.toList,∃ k t,q.2=.int k t:=fun q hq=>by
  obtain⟨⟨k,hk,_⟩,_⟩:=hel q hq;obtain⟨t,e⟩:=Value.isInt_shape hk;exact⟨k,t,e⟩
 have hpo:=nY X.w s1.heap.objs.size es ep;refine yX (s:={ s1 with heap:=h',toks:=tk }) (d9 (t:=tt)) (I1.ok.hd hc) hAt (by omega) (fun i v ⟨hx,e⟩=>?_) fun h2 tk2 a2 vs out ms e2 hvl hvv hk2 hsz2 ho2 hI2 hp2 hs2=>?_
 ·rw[<- Array.getElem?_toList]at e;have:=hint _ (hpo.mem_iff.mp (aBY e));exact this
 ·have hvs:vs=(lN X.w s1.heap.objs.size es ep).toList.map (·.2):=by
   have hz2:(lN X.w s1.heap.objs.size es ep).toList.length=es.size:=by rw[hpo.length_eq,Array.length_toList]
   apply List.ext_getElem
   ·rw[aBN,hz2,hvl]
   ·intro i h1 h2';obtain⟨hx,e⟩:=hvv i vs[i] (aBX h1);rw[<- Array.getElem?_toList]at e;obtain⟨hb,e⟩:=aBq.mp e;rw[List.getElem_map,e]
  have hperm:ms.Perm (bK ns):=by
   refine hp2.trans ?_;rw[hvs,aBi];refine(hpo.map _).trans ?_;refine(kS (fX ns) (fun k hk=>?_) ?_).symm
   ·have:(firstMet (fun i=>ns.getD i 0) ns.length).any (· == k)=true:=by
     rw[List.any_eq_true];exact⟨k,hk,by simp⟩
    obtain⟨q,hq,hq2⟩:=(hmem k).mp this;obtain⟨t,e⟩:=Value.isInt_shape hq2;refine aBt.mpr ⟨q,hq,?_⟩;show e7 q.2=k;rw[e];rfl
   ·rw[aBN,Array.length_toList,hn'];exact Nat.le_refl _
  have hstr:ms.Pairwise (·<·):=by
   have hnd:ms.Nodup:=hperm.nodup_iff.mpr (fX ns);exact(hs2.and hnd).imp fun⟨h1,h2⟩=>by omega
  have hfr:s1.heap.objs.size<=a2:=by
   have h3:s1.heap.objs.size<h'.objs.size:=aBT ho;have h4:h'.objs.size<=a2:=hsz2;omega
  have hnone:H1 a2=none:=I1.hok.fresh hfr;refine⟨.ref a2,_,I1.laid (t':=tk2) (o:=.lst (ms.map V.int)) (fun b o e=>hk2 b o (kp b o (aBT e) e)) hfr ⟨?_,out.toList,e2,iX hI2,ho2⟩,rfl,q a2 ms hnone hperm hstr⟩;rw[aBN,hperm.length_eq];exact Nat.le_trans h18 (by decide)
end
def DK {α:Type}:Sem α->Prop
 | .pure _=>True
 | .raise _=>True
 | .unsupported _=>True
 | .finish _=>True
 | .rule _ k=>∀ u,DK (k u)
 | .at _ k=>∀ u,DK (k u)
 | .load _ _ k=>∀ o,DK (k o)
 | .update _ _ f k=>(∀ o,(f o).dict=o.dict/\(f o).cls=o.cls/\(o.isFreed=false->(f o).isFreed=false))/\∀ u,DK (k u)
 | .alloc _ k=>∀ a,DK (k a)
 | .loadIfAlive _ k=>∀ o,DK (k o)
 | .point _ k=>∀ u,DK (k u)
 | .register _ _=>True
 | .fresh k=>∀ t,DK (k t)
 | .ask k=>∀ x,DK (k x)
 | .choose _ _ k=>∀ n,DK (k n)
 | .os _ _ _=>False
 | .call _ _ _ _ _=>False
 | .handled _ k=>∀ h,DK (k h)
 | .newGen _ _=>False
 | .genState _ k=>∀ g,DK (k g)
 | .resume _ _ _ _=>False
 | .yield _ _ _ _=>False
 | .stack k=>∀ l,DK (k l)
 | .fork _ _=>False
 | .thread k=>∀ n,DK (k n)
 | .await _ _ _ _ _=>False
theorem DK.bind {α β:Type} {f:α->Sem β}:∀ {t:Sem α},DK t->(∀ a,DK (f a))->DK (t.bind f):=by
 intro t
 induction t with
 | pure a=>intro _ hf;exact hf a
 | raise e=>intro _ _;trivial
 | unsupported w=>intro _ _;trivial
 | finish e=>intro _ _;trivial
 | rule tag k ih=>intro h hf u;exact ih u (h u) hf
 | «at» pos k ih=>intro h hf u;exact ih u (h u) hf
 | load a part k ih=>intro h hf o;exact ih o (h o) hf
 | update a part g k ih=>intro h hf;exact⟨h.1,fun u=>ih u (h.2 u) hf⟩
 | alloc o k ih=>intro h hf a;exact ih a (h a) hf
 | loadIfAlive a k ih=>intro h hf o;exact ih o (h o) hf
 | point live k ih=>intro h hf u;exact ih u (h u) hf
 | register a k ih=>intro _ _;trivial
 | fresh k ih=>intro h hf t;exact ih t (h t) hf
 | ask k ih=>intro h hf x;exact ih x (h x) hf
 | choose src n k ih=>intro h hf x;exact ih x (h x) hf
 | os req live k ih=>intro h _;exact h.elim
 | call c hd gd live k ih=>intro h _;exact h.elim
 | handled own k ih=>intro h hf x;exact ih x (h x) hf
 | newGen c k ih=>intro h _;exact h.elim
 | genState g k ih=>intro h hf x;exact ih x (h x) hf
 | resume g r live k ih=>intro h _;exact h.elim
 | yield v gd live k ih=>intro h _;exact h.elim
 | stack k ih=>intro h hf x;exact ih x (h x) hf
 | fork c k ih=>intro h _;exact h.elim
 | thread k ih=>intro h hf x;exact ih x (h x) hf
 | await a take timed live k ih=>intro h _;exact h.elim
def HD (h0 h:Heap):Prop:=∀ b o,h0.get? b=some o->∃ o',h.get? b=some o'/\o'.dict=o.dict/\o'.cls=o.cls
theorem HD.refl (h:Heap):HD h h:=fun b o e=>⟨o,e,rfl,rfl⟩
theorem HD.trans {a b c:Heap} (x:HD a b) (y:HD b c):HD a c:=fun d o e=>by
 obtain⟨o1,e1,d1,c1⟩:=x d o e;obtain⟨o2,e2,d2,c2⟩:=y d o1 e1;exact⟨o2,e2,d2.trans d1,c2.trans c1⟩
theorem yY {h:Heap} {a:Addr} {o:Obj} (e:h.get? a=some o):o.isFreed=false:=(Heap.get?_some_iff.mp e).2
theorem HD.update {h:Heap} {a:Addr} {f:Obj->Obj} (hf:∀ o,(f o).dict=o.dict/\(f o).cls=o.cls/\(o.isFreed=false->(f o).isFreed=false)):HD h (h.update a f):=fun b o e=>by
 by_cases q:b=a
 ·subst q;exact⟨f o,aB6 f e ((hf o).2.2 (yY e)),(hf o).1,(hf o).2.1⟩
 ·exact⟨o,(Heap.get?_update_ne _ _ _ _ q).trans e,rfl,rfl⟩
theorem ObjOk.there {P:Program} {w:World} {H:Hp} {h:Heap} {a:Addr} {u:HO} (x:ObjOk P w H h a u):∃ o,h.get? a=some o:=by
 cases u with
 | lst xs=>obtain⟨_,_,_,_,e⟩:=x;exact⟨_,e⟩
 | tup xs=>obtain⟨_,_,_,o,e,_⟩:=x;exact⟨_,e⟩
 | dK kvs=>obtain⟨_,_,_,_,o,_,_,e,_⟩:=x;exact⟨_,e⟩
 | dT kvs=>obtain⟨_,_,_,_,o,_,_,e,_⟩:=x;exact⟨_,e⟩
 | set S n=>obtain⟨o,_,_,_,e,_⟩:=x;exact⟨_,e⟩
 | ins C dx fs=>obtain⟨_,_,_,e,_⟩:=x;exact⟨_,e⟩
 | own y=>exact x
 | xd fs=>obtain⟨_,⟨_,_,_,e,_⟩,_⟩:=x;exact⟨_,e⟩
 | rng lo hi=>obtain⟨_,_,_,e⟩:=x;exact⟨_,e⟩
 | frz ob u=>obtain⟨e,_⟩:=x;exact⟨_,e⟩
 | tbl ps=>exact⟨_,show h.get? a=some _ from x⟩
 | met f y=>exact⟨_,show h.get? a=some _ from x⟩
 | ext φ=>obtain⟨_,e,_⟩:=x;exact e
section
variable {X:Cx} {pins:List (Addr×Obj)} {σ:St} {H:Hp} {s:Shared} {E:XK}
structure Body (X:Cx):Prop where
 ex:X.ex=[]
 stk:X.stack=X.env :: X.outer
 fr:X.env.frame=some X.env.locals
theorem Body.mem (b:Body X) {c:Addr}:c∈frs X.stack↔c=X.env.locals\/c∈X.fs:=by
 rw[b.stk];unfold frs;rw[List.filterMap_cons,b.fr,aBr];rfl
end
section
variable {X:Cx}
end
section
variable {X:Cx}
end
section
variable {X:Cx}
end
open PySem.MeetsSeq
section
variable {X:Cx}
end
end L2
namespace L2
open PySem PySem.Spec PyProof.Rows
section
variable {X:Cx}
def CMulB (i j:Int):Prop:=(0<=i/\i<2 ^ 20000)/\(0<=j/\j<2 ^ 20000)
theorem V2 {i:Int} (h0:0<=i) (h1:i<2 ^ 20000):Builtin.Int.intBits i<=2 ^ 20:=by
 unfold Builtin.Int.intBits;split
 ·omega
 ·have h2:i.natAbs<2 ^ 20000:=by
   have e:((i.natAbs:Nat):Int)<((2 ^ 20000:Nat):Int):=by
    rw[Int.natAbs_of_nonneg h0,Int.natCast_pow];exact h1
   exact Int.ofNat_lt.mp e
  have hne:i.natAbs≠0:=fun e=>by
   have:i=0:=Int.natAbs_eq_zero.mp e;subst this
   rename_i q
   exact q rfl
  have:=(Nat.log2_lt hne).mpr h2;have e:(2:Nat) ^ 20=1048576:=by decide
  omega
theorem CMulB.ok {i j:Int} (h:CMulB i j):IntMulOk i j:=.of_bits (V2 h.1.1 h.1.2) (V2 h.2.1 h.2.2)
end
end L2
namespace CW
open PySem L2
structure SzOk (ns:List Int):Prop where
 pos:∀ n∈ns,1<=n
 sum:ns.sum<=60
 len:ns.length<=60
 few:(bK ns).length<=18
structure Dst (ns ms:List Int):Prop where
 perm:ms.Perm (bK ns)
 up:ms.Pairwise (·<·)
theorem Dst.mem {ns ms:List Int} (d:Dst ns ms) {m:Int}:m∈ms↔m∈ns:=d.perm.mem_iff.trans (dP ns m)
theorem Dst.eq {ns ns' ms ms':List Int} (d:Dst ns ms) (d':Dst ns' ms') (h:∀ m,m∈ns↔m∈ns'):ms=ms':=by
 have p:ms.Perm ms':=kS (d.up.imp fun h=>Int.ne_of_lt h) (fun m hm=>d'.mem.mpr ((h m).mp (d.mem.mp hm))) (by
  rw[d'.perm.length_eq,d.perm.length_eq];exact(fX ns').length_le_of_subset fun m hm=>(dP ns m).mpr ((h m).mpr ((dP ns' m).mp hm)))
 exact iU p (d.up.imp Int.le_of_lt) (d'.up.imp Int.le_of_lt)
theorem Dst.pos {ns ms:List Int} (d:Dst ns ms) (h:SzOk ns):∀ m∈ms,1<=m:=fun m hm=>h.pos m (d.mem.mp hm)
theorem Dst.len {ns ms:List Int} (d:Dst ns ms) (h:SzOk ns):ms.length<=18:=by rw[d.perm.length_eq];exact h.few
theorem SzOk.nil:SzOk []:=⟨fun n hn=>absurd hn List.not_mem_nil,by decide,by decide,by decide⟩
theorem Dst.nil {ms:List Int} (d:Dst [] ms):ms=[]:=by
 apply List.eq_nil_iff_forall_not_mem.mpr
 intro m hm;have:=d.mem.mp hm;cases this
theorem lI (q:Int×Int) (ws:Trs) (s:Int):fM (q :: ws) s=q.2 * min q.1 s+fM ws s:=by
 unfold fM;rw[aBd,aBg,I0]
theorem V3 (s:Int):fM [] s=0:=rfl
theorem xB (a b:Trs) (s:Int):fM (a++b) s=fM a s+fM b s:=by
 unfold fM;rw[aB2,List.sum_append]
end CW
namespace L2
open PySem PySem.Spec PyProof.Rows
open Sem (wp)
section
variable {prog:Program} {w:World} {A:Around} {E:Value->Shared->Prop} {h:Heap} {g:Array GenState} {d:Drawn} {t:Nat} {os:OsState}
variable {nm q:Str} {C N:Addr} {bs bm bmB:List Value} {hdct:Bool} {sn:List Str} {sub:List Value} {ab:Bool} {col:Option Bool} {dd:Option Addr} {k0 k1 k2 k3 k5:Option Value} {B newId initId:String}
end
open Sem (wp)
open Builtin Builtin.ObjectAttr
section
variable {prog:Program} {w:World} {A:Around} {E:Value->Shared->Prop} {h:Heap} {g:Array GenState} {d:Drawn} {t:Nat} {os:OsState} {K:PySem.W.Frag} {C e:Addr} {name:Str} {v:Value} {vs:Array Value}
end
end L2
namespace L2
open PySem PySem.Spec PyProof.Rows
section
variable {X:Cx} {pins:List (Addr×Obj)} {σ:St} {H:Hp} {s:Shared} {h':Heap} {C e dx:Addr} {od:Option Addr} {φ:Heap->Prop}
end
section
variable {X:Cx}
end
section
variable {P:Program} {w:World} {l:List Env} {H:Hp} {s s':Shared} {E:XK} {e:Addr}
structure Fly (P:Program) (w:World) (l:List Env) (H:Hp) (s:Shared) (e:Addr) (cls a0:Value) (od:Option Addr) (H':Hp) (B:Heap) (s':Shared):Prop where
 os:s'.os=s.os
 bare:AllBare s'.gens
 un:Un (frs l) [] H H' s.heap s'.heap
 hok:HOk P w H' s'.heap
 no:H' e=none
 at_:∃ oe,s'.heap.get? e=some oe/\oe.dict=od
 fl:Heap.FlyingW B l e cls a0 s'.heap
 cov:∀ b u,H' b=some u->∃ o,B.get? b=some o
 olds:∀ b o,s.heap.get? b=some o->b∉frs l->∃ o',B.get? b=some o'
variable {cls a0:Value} {od:Option Addr} {H':Hp} {B:Heap}
theorem Fly.frame (f:Fly P w l H s e cls a0 od H' B s') {b:Addr} (hb:b∈frs l) {o:Obj} (ho:s'.heap.get? b=some o):∀ vs,o.data≠.fields vs:=by
 obtain⟨_,o',ho',hnf⟩:=f.fl.2.2.1.mem hb;rw[ho]at ho';cases ho';exact hnf
theorem Fly.fresh (f:Fly P w l H s e cls a0 od H' B s') {b:Addr} {o:Obj} (e1:s.heap.get? b=some o):b≠e:=fun z=>by
 subst z
 by_cases hb:b∈frs l
 ·obtain⟨o',e2⟩:=f.un.there b o e1 (by simp);obtain⟨oe,vs,he,_,hd,_⟩:=f.fl.first
  exact f.frame hb he vs hd
 ·obtain⟨o',eB⟩:=f.olds b o e1 hb;rw[f.fl.2.1]at eB;cases eB
end
section
variable {X:Cx} {pins:List (Addr×Obj)} {σ:St} {H:Hp} {s s':Shared} {e:Addr} {cls a0:Value} {od:Option Addr} {H':Hp} {B:Heap}
theorem Fly.inv (I:Inv X pins σ H s) (f:Fly X.prog X.w X.stack H s e cls a0 od H' B s'):Inv X pins σ H' s':=I.call' f.os f.un f.hok f.bare fun b z=>absurd z (by simp)
end
section
variable {X:Cx} {pins:List (Addr×Obj)} {σ:St} {H:Hp} {s s':Shared} {e:Addr} {cls a0:Value} {od:Option Addr} {H':Hp} {B:Heap}
end
abbrev HR:=Value->Option Addr->Addr->pO->St->Hp->Prop
section
variable {X:Cx} {x:Str} {c:Value} {np pos:Pos} {b₀:Stmt} {suite:List Stmt} {rest:List ExceptHandler} {ts:TS} {r:HR}
end
section
variable {X:Cx} {pins:List (Addr×Obj)} {σ:St} {H:Hp} {s:Shared}
end
section
variable {X:Cx} {x n:Str} {c:Value} {np pos:Pos} {b₀:Stmt} {suite:List Stmt} {rest:List ExceptHandler} {ts:TS} {r:HR} {i:Nat}
end
section
variable {X:Cx} {x:Str} {j k:Nat} {ps:List Str} {sp:Sp} {t:TA} {e:Expr} {es:List Expr} {p pos:Pos}
end
section
variable {X:Cx}
end
section
variable {prog:Program} {w:World} {A:Around} {E:Value->Shared->Prop} {s:Shared} {K:PySem.W.Frag} {x C:Addr} {ox:Obj} {od:Option Obj} {name:Str} {expr:Bool} {Q:Value->Shared->Prop}
end
section
variable {P:Program} {w:World} {K:PySem.W.Frag} {mg:Str->Option Value} {base:Heap}
end
open Sem (wp)
open Builtin Builtin.ObjectAttr
section
variable {prog:Program} {w:World} {A:Around} {E:Value->Shared->Prop} {h:Heap} {g:Array GenState} {d:Drawn} {t:Nat} {os:OsState} {K:PySem.W.Frag} {C e:Addr} {name:Str} {v:Value} {vs:Array Value}
end
section
variable {X:Cx} {pins:List (Addr×Obj)} {σ:St} {H:Hp} {s:Shared} {h':Heap} {dx:Addr}
end
section
variable {X:Cx}
end
structure FunD (K:PySem.W.Frag) (x qual:Str) (st:Stmt) (f:Addr) (fd:FuncData):Prop where
 ex:∃ (oc:Value) (od:Option Addr) (dV kV doc pm:Value) (an:Option Addr) (cdv ct:Value) (osl:Array (Option Value)),
  fd=PySem.W.fnOf x qual (aX st) (aU st) (aE st) dV kV doc pm an cdv ct/\K.lookup f=some ⟨oc,od,.func fd,osl⟩/\PySem.W.codeIn K cdv qual=true
 kp:PySem.W.keepIn K (.ref f)=true
section
variable {P:Program} {w:World} {K:PySem.W.Frag} {mg:Str->Option Value} {base:Heap}
theorem FunD.ok {x qual:Str} {st:Stmt} {f:Addr} {fd:FuncData} {N ps:List Str} {k:Nat} {sp:Sp} (F:FunD K x qual st f fd) (S:bC N ps (aE st)) (len:∀ vs H Q E,sp vs H Q E->vs.length=ps.length)
 (hbody:∀ (cdv:Value) (A:Around) (outer:List Env) (s:Shared) (H:Hp) (vs:List V) (Q:VK) (E:XK),Room k (A.deeper (envOfC qual (aE st) s.heap.objs.size f cdv))->sp vs H Q E ->
  ∃ t,PSs (vM CX0 P w K mg base N qual (aE st) f cdv A outer s H E).nox (aU st) t/\t { nx:=fun _ H'=>Q .non H',rt:=Q } (lP N vs) H):FnOk P w K mg base CX0 (k+1) f fd ps sp:=by
 obtain⟨oc,od,dV,kV,doc,pm,an,cdv,ct,osl,rfl,lk,hcd⟩:=F.ex;refine O8 lk hcd S len fun A outer s H vs Q E hr hsp=>?_;obtain⟨t,h,q⟩:=hbody cdv A outer s H vs Q E hr hsp;exact⟨t,h.nox,q⟩
end
end L2
namespace L2
open PySem PySem.Spec PyProof.Rows
open PySem.W PySem.Calls
section
variable {K:PySem.W.Frag} {x t c:Value}
end
section
variable {X:Cx}
end
end L2
namespace CW
open PySem L2
section
variable {P:Program} {w:World} {K:PySem.W.Frag} {mg:Str->Option Value} {base:Heap}
def Rf (E:XK) (C:Addr) (fs:List (Str×V)) (H:Hp):Prop:=∀ dx,H dx=none->E (.ref C) (some dx) (upd H dx (.xd fs))
def Rf0 (E:XK) (C:Addr) (nm:Str) (H:Hp):Prop:=Rf E C [("word",.str nm)] H
def RfI (E:XK) (C:Addr) (nm:Str) (i:Int) (H:Hp):Prop:=Rf E C [("at",.int i),("word",.str nm)] H
def y9 (K:PySem.W.Frag) (C:Addr) (f:Str):Bool:=PySem.W.findIn K (.ref C) "__getattribute__" == some (some (.builtin "BaseException.__getattribute__")) && PySem.W.findIn K (.ref C) "__getattr__" == some none &&
 PySem.W.subIn K (.ref C) (.type "BaseException") == some true && PySem.W.hasDictIn K C && PySem.W.findIn K (.ref C) f == some none
structure e8 (K:PySem.W.Frag) (mg:Str->Option Value) where
 row:Addr
 trains:Addr
 sizes:Addr
 many:Addr
 creel:Addr
 number:Addr
 near:Addr
 bare:Addr
 err:Addr
 m_row:mg "BadRow"=some (.ref row)
 m_trains:mg "BadTrains"=some (.ref trains)
 m_sizes:mg "BadSizes"=some (.ref sizes)
 m_many:mg "TooMany"=some (.ref many)
 m_creel:mg "BadCreel"=some (.ref creel)
 m_number:mg "BadNumber"=some (.ref number)
 m_near:mg "TooNear"=some (.ref near)
 m_bare:mg "Bare"=some (.ref bare)
 m_err:mg "CreelError"=some (.ref err)
def V4 (K:PySem.W.Frag):List Addr->Bool
 | []=>true
 | a :: l=>PySem.W.exmOne K (.ref a) (.ref a) == some true && l.all (fun b=>PySem.W.exmOne K (.ref b) (.ref a) == some false) && V4 K l
structure Sees (X:e8 K mg):Prop where
 met:V4 K [X.row,X.trains,X.sizes,X.many,X.creel,X.number,X.near,X.bare]=true
 g1:y9 K X.row "at"=true
 g2:y9 K X.trains "at"=true
 g3:y9 K X.sizes "at"=true
 e1:PySem.W.exmOne K (.ref X.row) (.ref X.err)=some true
 e4:PySem.W.exmOne K (.ref X.many) (.ref X.err)=some true
theorem Sees.all {X:e8 K mg} (Z:Sees X):PySem.W.exmOne K (.ref X.row) (.ref X.row)=some true/\PySem.W.exmOne K (.ref X.trains) (.ref X.trains)=some true/\PySem.W.exmOne K (.ref X.sizes) (.ref X.sizes)=some true/\PySem.W.exmOne K (.ref X.many) (.ref X.many)=some true/\PySem.W.exmOne K (.ref X.creel) (.ref X.creel)=some true/\PySem.W.exmOne K (.ref X.number) (.ref X.number)=some true/\PySem.W.exmOne K (.ref X.near) (.ref X.near)=some true/\PySem.W.exmOne K (.ref X.bare) (.ref X.bare)=some true/\PySem.W.exmOne K (.ref X.trains) (.ref X.row)=some false/\PySem.W.exmOne K (.ref X.sizes) (.ref X.row)=some false/\PySem.W.exmOne K (.ref X.sizes) (.ref X.trains)=some false/\PySem.W.exmOne K (.ref X.many) (.ref X.row)=some false/\PySem.W.exmOne K (.ref X.many) (.ref X.trains)=some false/\PySem.W.exmOne K (.ref X.many) (.ref X.sizes)=some false/\PySem.W.exmOne K (.ref X.creel) (.ref X.row)=some false/\PySem.W.exmOne K (.ref X.creel) (.ref X.trains)=some false/\PySem.W.exmOne K (.ref X.creel) (.ref X.sizes)=some false/\PySem.W.exmOne K (.ref X.creel) (.ref X.many)=some false/\PySem.W.exmOne K (.ref X.number) (.ref X.row)=some false/\PySem.W.exmOne K (.ref X.number) (.ref X.trains)=some false/\PySem.W.exmOne K (.ref X.number) (.ref X.sizes)=some false/\PySem.W.exmOne K (.ref X.number) (.ref X.many)=some false/\PySem.W.exmOne K (.ref X.number) (.ref X.creel)=some false/\PySem.W.exmOne K (.ref X.near) (.ref X.row)=some false/\PySem.W.exmOne K (.ref X.near) (.ref X.trains)=some false/\PySem.W.exmOne K (.ref X.near) (.ref X.sizes)=some false/\PySem.W.exmOne K (.ref X.near) (.ref X.many)=some false/\PySem.W.exmOne K (.ref X.near) (.ref X.creel)=some false/\PySem.W.exmOne K (.ref X.near) (.ref X.number)=some false/\PySem.W.exmOne K (.ref X.bare) (.ref X.row)=some false/\PySem.W.exmOne K (.ref X.bare) (.ref X.trains)=some false/\PySem.W.exmOne K (.ref X.bare) (.ref X.sizes)=some false/\PySem.W.exmOne K (.ref X.bare) (.ref X.many)=some false/\PySem.W.exmOne K (.ref X.bare) (.ref X.creel)=some false/\PySem.W.exmOne K (.ref X.bare) (.ref X.number)=some false/\PySem.W.exmOne K (.ref X.bare) (.ref X.near)=some false:=by
 have h:=Z.met;simp only[V4,List.all_cons,List.all_nil,Bool.and_eq_true,Bool.and_true,beq_iff_eq]at h;simp only[h,and_self]
def aBJ (row:List Int):Prop:=∀ j,1<=j->j<row.length->row.getD (j - 1) 0<row.getD j 0
def aAb (row:List Int) (i:Nat):Prop:=1<=i/\i<row.length/\row.getD i 0<=row.getD (i - 1) 0/\∀ j,1<=j->j<i->row.getD (j - 1) 0<row.getD j 0
inductive WhyRow (row:List Int):Str->Int->Prop where
 | many:60<row.length->WhyRow row "TooMany" 0
 | good:row.length<=60->aBJ row->WhyRow row "" 0
 | bad {i:Nat}:row.length<=60->aAb row i->WhyRow row "BadRow" i
structure FunC (K:PySem.W.Frag) (x qual:Str) (st:Stmt) (f:Addr) (fd:FuncData) (c:Addr):Prop where
 ex:∃ (oc:Value) (od:Option Addr) (kV doc pm:Value) (an:Option Addr) (ct:Value) (osl:Array (Option Value)),
  fd=PySem.W.fnOf x qual (aX st) (aU st) (aE st) .none kV doc pm an (.ref c) ct/\K.lookup f=some ⟨oc,od,.func fd,osl⟩/\PySem.W.codeIn K (.ref c) qual=true
theorem FunC.ok {x qual:Str} {st:Stmt} {f c:Addr} {fd:FuncData} {N ps:List Str} {k:Nat} {sp:Sp} (F:FunC K x qual st f fd c) (S:bC N ps (aE st)) (len:∀ vs H Q E,sp vs H Q E->vs.length=ps.length)
 (hbody:∀ (A:Around) (outer:List Env) (s:Shared) (H:Hp) (vs:List V) (Q:VK) (E:XK),Room k (A.deeper (PyProof.Rows.envOfC qual (aE st) s.heap.objs.size f (.ref c)))->sp vs H Q E ->
  ∃ t,PSs (vM CX0 P w K mg base N qual (aE st) f (.ref c) A outer s H E).nox (aU st) t/\t { nx:=fun _ H'=>Q .non H',rt:=Q } (lP N vs) H):FnOk P w K mg base CX0 (k+1) f fd ps sp:=by
 obtain⟨oc,od,kV,doc,pm,an,ct,osl,rfl,lk,hcd⟩:=F.ex;refine O8 lk hcd S len fun A outer s H vs Q E hr hsp=>?_;obtain⟨t,h,q⟩:=hbody A outer s H vs Q E hr hsp;exact⟨t,h.nox,q⟩
def SameP (P:Addr) (H H':Hp):Prop:=∀ b o,b≠P->H b=some o->H' b=some o
theorem SameP.trans {P:Addr} {H H1 H2:Hp} (a:SameP P H H1) (b:SameP P H1 H2):SameP P H H2:=fun c o n h=>b c o n (a c o n h)
theorem SameP.tbl {P:Addr} {H:Hp} {o:HO}:SameP P H (upd H P o):=fun b o n h=>by rw[aH n];exact h
theorem WhyRow.ok {row:List Int} {nm:Str} {i:Int} (W:WhyRow row nm i):PyData.strOk nm=true:=by
 cases W <;> decide +kernel
theorem WhyRow.eqv {row:List Int} {nm:Str} {i:Int} (W:WhyRow row nm i):PyData.eqv (.str nm) (.str "")=decide (nm=""):=by
 cases W <;> decide +kernel
end
inductive Ref where
 | ok | many | row (i:Int) | trains (i:Int) | sizes (i:Int) | creel | number | near | bare
def Ref.nm:Ref->Str
 | .ok=>"" | .many=>"TooMany" | .row _=>"BadRow" | .trains _=>"BadTrains" | .sizes _=>"BadSizes" | .creel=>"BadCreel" | .number=>"BadNumber" | .near=>"TooNear" | .bare=>"Bare"
def Ref.at:Ref->Int
 | .row i=>i | .trains i=>i | .sizes i=>i | _=>0
theorem Ref.strOk (r:Ref):PyData.strOk r.nm=true:=by cases r <;> simp only[Ref.nm] <;> decide +kernel
section
variable {P:Program} {w:World} {K:PySem.W.Frag} {mg:Str->Option Value} {base:Heap}
def Ref.go (X:e8 K mg) (E:XK) (H:Hp):Ref->Prop
 | .ok=>False
 | .many=>Rf0 E X.many "TooMany" H
 | .row i=>RfI E X.row "BadRow" i H
 | .trains i=>RfI E X.trains "BadTrains" i H
 | .sizes i=>RfI E X.sizes "BadSizes" i H
 | .creel=>Rf0 E X.creel "BadCreel" H
 | .number=>Rf0 E X.number "BadNumber" H
 | .near=>Rf0 E X.near "TooNear" H
 | .bare=>Rf0 E X.bare "Bare" H
section
variable {X:e8 K mg} {row:List Int} {c p:Int} {H:Hp} {Q:VK} {lh t0:Addr}
end
end
section
variable {P:Program} {w:World} {K:PySem.W.Frag} {mg:Str->Option Value} {base:Heap}
end
def kvI (ms:List (Int×Int)):List (Key×V):=ms.map fun m=>((Sum.inl m.1:Key),V.int m.2)
def lkI (ms:List (Int×Int)) (c:Int):Option Int:=(ms.find? fun m=>decide (m.1=c)).map (·.2)
theorem kT (k:Int):∀ ms:List (Int×Int),dJ (kvI ms) (Sum.inl k:Key)=(lkI ms k).map V.int
 | []=>rfl
 | m :: r=>by
  by_cases h:m.1=k
  ·have:dJ (kvI (m :: r)) (Sum.inl k:Key)=some (V.int m.2):=dF (p:=((Sum.inl m.1:Key),V.int m.2)) (by rw[h]);rw[this];unfold lkI;rw[List.find?_cons,aBa h];rfl
  ·have:dJ (kvI (m :: r)) (Sum.inl k:Key)=dJ (kvI r) (Sum.inl k:Key):=dG (p:=((Sum.inl m.1:Key),V.int m.2)) (fun z=>h (Sum.inl.inj z));rw[this,kT k r];unfold lkI;rw[List.find?_cons,aB9 h]
def qV (ms:List (Int×Int)) (k v:Int):List (Int×Int):=if ms.any (fun m=>decide (m.1=k))then ms.map (fun m=>if m.1=k then (m.1,v)else m)else ms++[(k,v)]
theorem B8 (ms:List (Int×Int)) (k v:Int):hZ (kvI ms) (Sum.inl k:Key) (V.int v)=kvI (qV ms k v):=by
 have e:(kvI ms).any (fun kv=>decide (kv.1=(Sum.inl k:Key)))=ms.any (fun m=>decide (m.1=k)):=by
  unfold kvI;rw[List.any_map]
  congr 1
  funext m
  simp only[Function.comp]
  by_cases h:m.1=k
  ·rw[aBa h,aBa (by rw[h])]
  ·rw[aB9 h,aB9 (fun z=>h (Sum.inl.inj z))]
 unfold hZ qV;rw[e]
 by_cases h:ms.any (fun m=>decide (m.1=k))=true
 ·rw[if_pos h,if_pos h];unfold kvI;rw[aBi,aBi];refine List.map_congr_left fun m _=>?_;simp only[Function.comp]
  by_cases hm:m.1=k
  ·rw[if_pos hm,if_pos (by rw[hm])]
  ·rw[if_neg hm,if_neg (fun z=>hm (Sum.inl.inj z))]
 ·rw[if_neg h,if_neg h];unfold kvI;rw[aB2];rfl
theorem uV (ms:List (Int×Int)) (k v c:Int):lkI (qV ms k v) c=if c=k then some v else lkI ms c:=by
 have h:=vX (kvI ms) (Sum.inl k:Key) (Sum.inl c:Key) (V.int v);rw[B8,kT,kT]at h
 by_cases hc:c=k
 ·subst hc;rw[if_pos rfl]at h ⊢;cases hq:lkI (qV ms c v) c with
  | none=>rw[hq]at h;cases h
  | some x =>
   rw[hq]at h;have:V.int x=V.int v:=Option.some.inj h;cases this;rfl
 ·rw[if_neg (fun z=>hc (Sum.inl.inj z))]at h;rw[if_neg hc];cases hq:lkI (qV ms k v) c with
  | none =>
   rw[hq]at h;cases hr:lkI ms c with
   | none=>rfl
   | some y=>rw[hr]at h;cases h
  | some x =>
   rw[hq]at h;cases hr:lkI ms c with
   | none=>rw[hr]at h;cases h
   | some y =>
    rw[hr]at h;have:V.int x=V.int y:=Option.some.inj h;cases this;rfl
theorem e9 (ms:List (Int×Int)) (k v:Int):(qV ms k v).length<=ms.length+1:=by
 unfold qV;split
 ·rw[aBN];omega
 ·rw[aBW,List.length_singleton];omega
theorem i0 {ms:List (Int×Int)} {k v:Int} {x:Int×Int} (h:x∈qV ms k v):x.1=k\/x∈ms:=by
 unfold qV at h;split at h
 ·obtain⟨m,hm,rfl⟩:=aBt.mp h
  by_cases hk:m.1=k
  ·rw[if_pos hk];exact .inl hk
  ·rw[if_neg hk];exact .inr hm
 ·rcases aBs.mp h with h | h
  ·exact .inr h
  ·rw[aBk.mp h];exact .inl rfl
theorem i3 {ms:List (Int×Int)} {c m:Int} (h:lkI ms c=some m):(c,m)∈ms:=by
 unfold lkI at h;obtain⟨x,hx,rfl⟩:=aBp.mp h;have h1:=List.mem_of_find?_eq_some hx;have h2:x.1=c:=by simpa using List.find?_some hx
 rw[<- h2];exact h1
section
variable {P:Program} {w:World} {K:PySem.W.Frag} {mg:Str->Option Value} {base:Heap}
end
end CW
namespace L2
open PySem PySem.W PySem.Spec PyProof.Rows
section
variable {prog:Program} {w:World} {A:Around} {R:Result->Shared->Prop} {I S:Addr} {fp:List Addr} {P:Nat->Value->Prop} {St:Nat->Heap->Prop} {d:Value} {ns:List Int}
theorem V5 (W:Walks prog w A.in1 I fp [I] ns.length P St) (hP:∀ i v,P i v->∃ t,v=.int (ns.getD i 0) t) (hSf:S∉fp) (hIS:I≠S) :
 ∀ (k i:Nat) (s:Shared) (b:Int) (t:Tok) (c:Nat),ns.length - i=k->i<=ns.length->St i s.heap->s.heap.get? S=some (two b t c) ->
  (∀ h' tk t',(∀ x o,x≠I->x≠S->s.heap.get? x=some o->h'.get? x=some o)->R (.ok (.ret (.int ((ns.drop i).foldl max b) t'))) { s with heap:=h',toks:=tk }) ->
  codeAny (model prog w) A (.builtin "max.loop" ⟨[.ref I,.none,.ref S],[(Str.ofString "default",d)]⟩) R s:=by
 have nm:(toString "max"++toString ".loop":String)="max.loop":=by decide
 have hSI:S∉[I]:=fun h=>hIS (aBk.mp h).symm;intro k
 induction k with
 | zero =>
  intro i s b t c hk hi st hS hR;have e:i=ns.length:=by omega
  subst e;refine codeAny_builtin PySem.F.entry_max_loop (by
   rw[aBZ PySem.F.plain_max_loop _];show wpAny _ A.in1 (seqItems? (Value.ref S) >>= _) _ _ s;refine aBL (wpAny_seqItems hS rfl ?_);show wpAny _ A.in1 (tryCatch (pyNext (Value.ref I)) _ >>= _) _ _ s;refine aBL (wpAny_tryCatch (W.done s _ _ st fun h' tk eb=>?_));have hS':=eb S _ hSI hS;show wpAny _ A.in1 (updateSeq S (fun _=>#[]) >>= _) _ _ { s with heap:=h',toks:=tk };refine aBL (wpAny_updateSeq hS' rfl (aBL (wpAny_letGo (aBM ?_))));have q:=hR (h'.update S (Obj.mapSeq fun _=>#[])) tk t (fun x o h1 h2 e=>(aBS _ _ (Ne.symm h2)).trans (eb x o (fun z=>h1 (aBk.mp z)) e));rw[List.drop_length]at q;exact q)
 | succ k ih =>
  intro i s b t c hk hi st hS hR;have hi':i<ns.length:=by omega
  have hdr:ns.drop i=ns[i] :: ns.drop (i+1):=List.drop_eq_getElem_cons hi';have hg:ns.getD i 0=ns[i]:=by rw[List.getD_eq_getElem?_getD,aBX hi'];rfl
  refine codeAny_builtin PySem.F.entry_max_loop (by
   rw[aBZ PySem.F.plain_max_loop _];show wpAny _ A.in1 (seqItems? (Value.ref S) >>= _) _ _ s;refine aBL (wpAny_seqItems hS rfl ?_);show wpAny _ A.in1 (tryCatch (pyNext (Value.ref I)) _ >>= _) _ _ s;refine aBL (wpAny_tryCatch (W.item i s _ _ hi' st fun v h' tk hv st' sb=>?_));obtain⟨u,rfl⟩:=hP i v hv;rw[hg];have hS':=sb S _ hSI hS;show wpAny _ A.in1 (tryCatch (holding [.int ns[i] u,.int ns[i] u] (richCompare .Gt (.int ns[i] u) (.int b t) >>= _)) _ >>= _) _ _ { s with heap:=h',toks:=tk };refine aBL (wpAny_tryCatch (wpAny_holding (aBL (gt_int (s:={ s with heap:=h',toks:=tk }) ?_))));refine aBL (wpAny_holding (wpAny_truthy_bool (aBL (wpAny_letGo (aBM ?_)))))
   by_cases hb:b<ns[i]
   ·have hd:decide (b<ns[i])=true:=aBa hb;simp only[hd,if_true];refine aBL (wpAny_updateSeq hS' rfl (aBL (wpAny_letGo ?_)));rw[nm];obtain⟨c',e1⟩:∃ c',(h'.update S (Obj.mapSeq fun _=>#[Value.int ns[i] u,Value.int ns[i] u])).get? S=some (two ns[i] u c'):=⟨_,aB6 _ hS' rfl⟩;refine aBM ⟨plainId_quiet PySem.F.plain_max_loop _,ih (i+1) { s with heap:=h'.update S (Obj.mapSeq fun _=>#[Value.int ns[i] u,Value.int ns[i] u]),toks:=tk } ns[i] u _ (by omega) hi' (W.frame _ _ _ st' fun x hx o e=>(aBS _ _ (fun z:S=x=>hSf (by rw[z];exact hx))).trans e) e1 fun h'' tk2 t' kp=>?_⟩;have q:=hR h'' tk2 t' (fun x o h1 h2 e=>kp x o h1 h2 ((aBS _ _ (Ne.symm h2)).trans (sb x o (fun z=>h1 (aBk.mp z)) e)));rw[hdr,aBf,show max b ns[i]=ns[i]by omega]at q;exact q
   ·have hd:decide (b<ns[i])=false:=aB9 hb;simp only[hd,Bool.false_eq_true,if_false];refine aBL (wpAny_letGo ?_);rw[nm];refine aBM ⟨plainId_quiet PySem.F.plain_max_loop _,ih (i+1) { s with heap:=h',toks:=tk } b t c (by omega) hi' st' hS' fun h'' tk2 t' kp=>?_⟩;have q:=hR h'' tk2 t' (fun x o h1 h2 e=>kp x o h1 h2 (sb x o (fun z=>h1 (aBk.mp z)) e));rw[hdr,aBf,show max b ns[i]=b by omega]at q;exact q)
theorem K0 (W:Walks prog w A.in1 I fp [I] ns.length P St) (hP:∀ i v,P i v->∃ t,v=.int (ns.getD i 0) t) (hSf:S∉fp) (hIS:I≠S) {s:Shared} {c:Nat} (st:St 0 s.heap)
 (hS:s.heap.get? S=some { cls:=.type "list",dict:=none,data:=.seq #[] c,slots:=#[] }) (x0:V) (rx:RelV x0 d)
 (hR:∀ h' tk u,(∀ x o,x≠I->x≠S->s.heap.get? x=some o->h'.get? x=some o)->RelV (mxD ns x0) u->R (.ok (.ret u)) { s with heap:=h',toks:=tk }) :
 codeAny (model prog w) A (.builtin "max.loop" ⟨[.ref I,.none,.ref S],[(Str.ofString "default",d)]⟩) R s:=by
 have nm:(toString "max"++toString ".loop":String)="max.loop":=by decide
 have hSI:S∉[I]:=fun h=>hIS (aBk.mp h).symm;cases ns with
 | nil =>
  refine codeAny_builtin PySem.F.entry_max_loop (by
   rw[aBZ PySem.F.plain_max_loop _];show wpAny _ A.in1 (seqItems? (Value.ref S) >>= _) _ _ s;refine aBL (wpAny_seqItems hS rfl ?_);show wpAny _ A.in1 (tryCatch (pyNext (Value.ref I)) _ >>= _) _ _ s;refine aBL (wpAny_tryCatch (W.done s _ _ st fun h' tk eb=>?_));refine aBL (wpAny_rule (aBM ?_));exact hR h' tk d (fun x o h1 _ e=>eb x o (fun z=>h1 (aBk.mp z)) e) rx)
 | cons n ns' =>
  refine codeAny_builtin PySem.F.entry_max_loop (by
   rw[aBZ PySem.F.plain_max_loop _];show wpAny _ A.in1 (seqItems? (Value.ref S) >>= _) _ _ s;refine aBL (wpAny_seqItems hS rfl ?_);show wpAny _ A.in1 (tryCatch (pyNext (Value.ref I)) _ >>= _) _ _ s;refine aBL (wpAny_tryCatch (W.item 0 s _ _ (by simp) st fun v h' tk hv st' sb=>?_));obtain⟨t,rfl⟩:=hP 0 v hv;have hS':=sb S _ hSI hS;show wpAny _ A.in1 (updateSeq S (fun _=>#[Value.int n t,Value.int n t]) >>= _) _ _ { s with heap:=h',toks:=tk };refine aBL (wpAny_updateSeq hS' rfl ?_);rw[nm];obtain⟨c',e1⟩:∃ c',(h'.update S (Obj.mapSeq fun _=>#[Value.int n t,Value.int n t])).get? S=some (two n t c'):=⟨_,aB6 _ hS' rfl⟩;refine aBM ⟨plainId_quiet PySem.F.plain_max_loop _,V5 W hP hSf hIS _ 1 { s with heap:=h'.update S (Obj.mapSeq fun _=>#[Value.int n t,Value.int n t]),toks:=tk } n t _ rfl (by simp) (W.frame _ _ _ st' fun x hx o e=>(aBS _ _ (fun z:S=x=>hSf (by rw[z];exact hx))).trans e) e1 fun h'' tk2 t' kp=>?_⟩;exact hR h'' tk2 _ (fun x o h1 h2 e=>kp x o h1 h2 ((aBS _ _ (Ne.symm h2)).trans (sb x o (fun z=>h1 (aBk.mp z)) e))) ⟨t',rfl⟩)
theorem K1 {E:Value->Shared->Prop} {s:Shared} {T:String} {r r2:Addr} {OK:Heap->Prop} {x0:V} {Q:Value->Shared->Prop} (K:KdlSrc prog w T r r2 ns.length P OK) (hh:A.handled=none) (hok:OK s.heap) (hP:∀ i v,P i v->∃ t,v=.int (ns.getD i 0) t) (rx:RelV x0 d)
 (h:∀ h' tk u,(∀ x o,s.heap.get? x=some o->h'.get? x=some o)->RelV (mxD ns x0) u->Q u { s with heap:=h',toks:=tk }):wpAny (model prog w) A (call (.builtin "max") [.ref r] [(Str.ofString "default",d)]) Q E s:=by
 have nm:(toString "max"++toString ".loop":String)="max.loop":=by decide
 have hlt:=(K.there _ hok).2;obtain⟨oI,St,hit,W,st⟩:=K.iter A.in1 s hh hok;refine kmk_tree PySem.F.kind_max PySem.F.plain_max PySem.F.entry_max (sP _ _) (by
  show wpAny _ A.in1 (Builtin.Builtins.bindParams "max" ["key","default"] 0 ⟨[],[(Str.ofString "default",d)]⟩ >>= _) _ _ s;refine aBL (wpAny_of_eq (show Builtin.Builtins.bindParams "max" ["key","default"] 0 ⟨[],[(Str.ofString "default",d)]⟩=pure [none,some d] from rfl) (aBL (aBM ?_)));refine aBL (hit _ _ ?_);refine aBL (wpAny_newObj_type ?_);rw[nm];refine aBM ⟨plainId_quiet PySem.F.plain_max_loop _,K0 W hP (S:=(s.heap.push oI).objs.size) (fun hm=>?_) (by rw[Heap.size_push];exact aBb (Nat.lt_succ_self _)) (W.frame _ _ _ st fun x _ o e=>aBO _ e) (aBU _ rfl) x0 rx fun h' tk u kp rv=>?_⟩
  ·rw[Heap.size_push]at hm;rcases aBr.mp hm with e | e
   ·exact absurd e (aBe (Nat.lt_succ_self _))
   ·exact absurd (aBk.mp e) (aBe (Nat.lt_succ_of_lt hlt))
  ·refine h h' tk u (fun x o e=>?_) rv;have hx:=aBT e;exact kp x o (aBb hx) (by rw[Heap.size_push];exact aBb (Nat.lt_succ_of_lt hx)) (aBO _ (aBO _ e)))
end
section
variable {X:Cx} {e f:Expr} {te tf:TE} {p pos kp:Pos}
def aAc (te tf:TE):TE:=fun σ H Q=>te σ H fun x H1=>tf σ H1 fun y H2=>∃ (a:Addr) (kvs:List (Key×V)) (ks:List Int),x=.ref a/\H2 a=some (.dK kvs)/\jX kvs ks/\Q (mxD ks y) H2
theorem yZ (hc:X.calm=true) (hg:Gl X "max") (hm:X.mg "max"=none) (he:PE X e te) (hf:PE X f tf)
 (hs:starEach [e] X.env=(false,eval e X.env) :: starEach [] X.env:=by rfl) (he1:backTo pos (starEach [e] X.env)=(false,eval e X.env) :: backTo pos (starEach [] X.env):=by rfl) (hp1:(backTo pos (starEach [e] X.env)).any (·.1)=false:=by rfl)
 (ha1:(backToKw pos (keywordEach [⟨some "default",f,kp⟩] X.env)).all (·.1.isSome)=true:=by rfl) (hk1:(backToKw pos (keywordEach [⟨some "default",f,kp⟩] X.env)).any (·.1.isNone)=false:=by rfl) (hks:(backToKw pos (keywordEach [⟨some "default",f,kp⟩] X.env)).filterMap (·.1)=([Str.ofString "default"]:List Str):=by rfl) :
 PE X (.Call (.Name "max" p) [e] [⟨some "default",f,kp⟩] pos) (aAc te tf):=by
 intro pins s σ H Q I h;refine wpAny_Call_Name_kw (gF I hg hm mH ?_);refine callWith_kw ?_ he1 hp1 ha1 hk1;refine thn ((aA he aC hs) pos pins s σ H (fun vs H1=>match vs with | [x]=>tf σ H1 fun y H2=>∃ (a:Addr) (kvs:List (Key×V)) (ks:List Int),x=.ref a/\H2 a=some (.dK kvs)/\jX kvs ks/\Q (mxD ks y) H2 | _=>False) I h) fun us s1 ⟨vs,H1,I1,r1,q1⟩=>?_;obtain⟨x,rfl⟩:∃ x,vs=[x]:=by
  rcases vs with _ | ⟨x,_ | ⟨_,_⟩⟩
  ·exact q1.elim
  ·exact⟨x,rfl⟩
  ·exact q1.elim
 refine thn ((zR hf O7) pos pins s1 σ H1 (fun ks H2=>match ks with | [y]=>∃ (a:Addr) (kvs:List (Key×V)) (ks:List Int),x=.ref a/\H2 a=some (.dK kvs)/\jX kvs ks/\Q (mxD ks y) H2 | _=>False) I1 q1) fun ws s2 ⟨zs,H2,I2,r2,q2⟩=>?_;obtain⟨y,rfl⟩:∃ y,zs=[y]:=by
  rcases zs with _ | ⟨x,_ | ⟨_,_⟩⟩
  ·exact q2.elim
  ·exact⟨x,rfl⟩
  ·exact q2.elim
 obtain⟨a,kvs,ks,rfl,hq,hki,q2⟩:=q2;obtain⟨u,rfl,ru⟩:=r1.one;obtain⟨v,rfl,rv⟩:=r2.one;cases ru;rw[hks];obtain⟨z,hsys,vs,rel,dd⟩:=oG I2.hok hq;obtain⟨ep,hat⟩:=id dd.dictAt;have hlen:vs.length=ks.length:=by
  have e1:=rel.length;have e2:=congrArg List.length hki;simp at e2;omega
 have K:=kdl_dict (prog:=X.prog) (w:=X.w) (knd:=bR X.prog X.w) (kvs:=vs) (ep:=ep) hsys;rw[hlen]at K;refine K1 K (I.ok.hd hc) hat (fun j v ⟨k,x,h1,h2⟩=>?_) rv fun h' tk u kp ru=>⟨_,H2,I2.kept kp,ru,q2⟩;have hj:j<vs.length:=(aBq.mp h1).1;have h3:(kvs.map Prod.fst)[j]?=some k:=by
  have hj':j<kvs.length:=by rw[rel.length];exact hj
  obtain⟨u,e1,e2⟩:=A3 rel (i:=j) (k:=(kvs[j]).1) (x:=(kvs[j]).2) (aBX hj');rw[h1]at e1;cases e1;simp[hj']
 rw[hki,aBc]at h3;obtain⟨n,h4,h5⟩:=aBp.mp h3;subst h5;rw[lU]at h2;rcases cF h2 with ⟨i,t,e1,e2⟩ | ⟨x,t,e1,e2⟩
 ·cases e1;exact⟨t,by rw[e2,List.getD_eq_getElem?_getD,h4];rfl⟩
 ·cases e1
end
end L2
namespace L2
open PySem PySem.Spec PyProof.Rows
theorem K2 {d:Addr} {od:Obj} {kvs:List (Key×V)} {g:TG} {tb:TS} {D:pO} {σ:St} {H:Hp} (Pv:Nat->St->Hp->Prop) (h0:Pv 0 σ H) (hl:∀ i σ H,i<=kvs.length->Pv i σ H->H d=some (.frz od (.dK kvs)))
 (hs:∀ i k x σ H t,kvs[i]?=some (k,x)->Pv i σ H->H t=none->g (.ref t) σ (upd H t (.tup [kV k,x])) fun σ2 H2=>tb { D with nx:=Pv (i+1),ct:=Pv (i+1),bk:=D.nx } σ2 H2) (hd:∀ σ H,Pv kvs.length σ H->D.nx σ H) :
 ∃ W:Nat->Nat->St->Hp->Prop,(∃ m,W 0 m σ H)/\∀ i m σ H,W i m σ H ->
  ((Itd d od kvs).stop i H/\D.nx σ H)\/((Itd d od kvs).go i H/\∃ N:St->Hp->Prop,(∀ σ' H',N σ' H'->∃ m',m'<m/\W (i+1) m' σ' H')/\∀ x H',(Itd d od kvs).yld i H x H'->g x σ H' fun σ2 H2=>tb { D with nx:=N,ct:=N,bk:=D.nx } σ2 H2):=by
 refine⟨fun i m σ H=>m=kvs.length - i/\i<=kvs.length/\Pv i σ H,⟨kvs.length,by simp,Nat.zero_le _,h0⟩,?_⟩;rintro i m σ H ⟨rfl,hi,p⟩;have q:=hl i σ H hi p
 by_cases hlt:i<kvs.length
 ·refine .inr ⟨⟨q,hlt⟩,Pv (i+1),fun σ' H' p'=>⟨kvs.length - (i+1),by omega,rfl,hlt,p'⟩,fun x H' y=>?_⟩;obtain⟨t,k,v,rfl,hn,hx,rfl⟩:=y;exact hs i k v σ _ t hx p hn
 ·have e:i=kvs.length:=by omega
  subst e;exact .inl ⟨⟨q,Nat.le_refl _⟩,hd σ H p⟩
end L2
namespace CW
open PySem L2
def K3 (f:Nat->Int) (k:Nat):Int:=2 * f k - f (k - 1) - f (k+1)
def K4 (f:Nat->Int) (s:Nat):Nat->Int
 | 0=>0
 | n+1=>K4 f s n+K3 f (n+1) * ((min (n+1) s:Nat):Int)
theorem B9 (f:Nat->Int) (s:Nat):∀ n:Nat,K4 f s n=f (min n s) - f 0 - ((min n s:Nat):Int) * (f (n+1) - f n)
 | 0=>by
  have e:min 0 s=0:=by omega
  rw[e];show (0:Int)=f 0 - f 0 - ((0:Nat):Int) * (f 1 - f 0);simp
 | n+1=>by
  show K4 f s n+K3 f (n+1) * ((min (n+1) s:Nat):Int)=_;rw[B9 f s n];unfold K3;rw[show n+1 - 1=n by omega];rcases Nat.lt_or_ge n s with q | q
  ·have e1:min n s=n:=by omega
   have e2:min (n+1) s=n+1:=by omega
   rw[e1,e2];generalize f n=a;generalize f (n+1)=b;generalize f (n+1+1)=c;generalize f 0=z;rw[Int.natCast_succ];generalize (n:Int)=N;have h1:N * (b - a)=N * b - N * a:=Int.mul_sub ..;have h2:(2 * b - a - c) * (N+1)=2 * (N * b) - N * a - N * c+(2 * b - a - c):=by
    rw[Int.mul_add,Int.mul_one,Int.sub_mul,Int.sub_mul,Int.mul_assoc,Int.mul_comm b N,Int.mul_comm a N,Int.mul_comm c N]
   have h3:(N+1) * (c - b)=N * c - N * b+(c - b):=by rw[Int.add_mul,Int.one_mul,Int.mul_sub]
   rw[h1,h2,h3];omega
  ·have e1:min n s=s:=by omega
   have e2:min (n+1) s=s:=by omega
   rw[e1,e2];generalize f n=a;generalize f (n+1)=b;generalize f (n+1+1)=c;generalize f 0=z;generalize f s=y;generalize (s:Int)=N;have h1:N * (b - a)=N * b - N * a:=Int.mul_sub ..;have h2:(2 * b - a - c) * N=2 * (N * b) - N * a - N * c:=by
    rw[Int.sub_mul,Int.sub_mul,Int.mul_assoc,Int.mul_comm b N,Int.mul_comm a N,Int.mul_comm c N]
   have h3:N * (c - b)=N * c - N * b:=Int.mul_sub ..;rw[h1,h2,h3];omega
theorem K5 {f:Nat->Int} {s n:Nat} (hs:s<=n) (h0:f 0=0) (hf:f (n+1)=f n):K4 f s n=f s:=by
 rw[B9,hf,h0,show min n s=s by omega];simp
def nB (ms:List (Int×Int)):Nat->Int
 | 0=>0
 | n+1=>(lkI ms ((n:Int)+1)).getD (nB ms n)
def stf (ms:List (Int×Int)) (G k:Nat):Int:=nB ms (min k G)
def rP (f:Nat->Int) (n:Nat):List (Int×Int):=(List.range n).map fun i:Nat=>((i:Int)+1,K3 f (i+1))
def nC (f:Nat->Int) (n:Nat):List (Int×Int):=(rP f n).filter fun q=>decide (q.2≠0)
theorem xC (f:Nat->Int) (n:Nat):rP f (n+1)=rP f n++[((n:Int)+1,K3 f (n+1))]:=by
 unfold rP;rw[List.range_succ,aB2];rfl
theorem xD (f:Nat->Int) (s:Nat):∀ n:Nat,fM (rP f n) s=K4 f s n
 | 0=>rfl
 | n+1=>by
  rw[xC,xB,xD f s n,lI,V3,Int.add_zero];show _=K4 f s n+K3 f (n+1) * ((min (n+1) s:Nat):Int);have e:min ((n:Int)+1) (s:Int)=((min (n+1) s:Nat):Int):=by omega
  rw[e]
theorem uW (s:Int):∀ ws:List (Int×Int),fM (ws.filter fun q=>decide (q.2≠0)) s=fM ws s
 | []=>rfl
 | q :: ws=>by
  rw[List.filter_cons]
  by_cases h:q.2=0
  ·rw[if_neg (by simpa using h),uW s ws,lI,h,Int.zero_mul,Int.zero_add]
  ·rw[if_pos (by simpa using h),lI,lI,uW s ws]
theorem i4 {ms:List (Int×Int)} {G s:Nat} (hs:s<=G):fM (nC (stf ms G) G) s=nB ms s:=by
 unfold nC;rw[uW,xD,K5 (f:=stf ms G) hs (by unfold stf;rw[show min 0 G=0 by omega];rfl) (by unfold stf;rw[show min (G+1) G=min G G by omega])];unfold stf;rw[show min s G=s by omega]
theorem i5 {ms:List (Int×Int)} {s:Nat} {g:Int} (h1:1<=s) (h:lkI ms s=some g):nB ms s=g:=by
 obtain⟨n,rfl⟩:∃ n,s=n+1:=⟨s - 1,by omega⟩;show (lkI ms ((n:Int)+1)).getD (nB ms n)=g;rw[show ((n:Int)+1)=((n+1:Nat):Int) from rfl,h];rfl
theorem V6 {f:Nat->Int} {n:Nat} {q:Int×Int} (h:q∈nC f n):1<=q.1/\q.1<=n/\q.2≠0:=by
 obtain⟨h1,h2⟩:=aBu.mp h;obtain⟨i,hi,rfl⟩:=aBt.mp h1;have:=List.mem_range.mp hi;exact⟨by show (1:Int)<=i+1;omega,by show ((i:Int)+1)<=n;omega,by simpa using h2⟩
theorem i6 (f:Nat->Int) (n:Nat):((nC f n).map fun q:Int×Int=>q.1).Pairwise (fun a b:Int=>a<b):=by
 rw[List.pairwise_map];refine List.Pairwise.sublist (List.filter_sublist) ?_;unfold rP;rw[List.pairwise_map];exact List.pairwise_lt_range.imp fun {a b} h=>by show ((a:Int)+1)<(b:Int)+1;omega
def grt (ms:List (Int×Int)):Nat:=((ms.map fun m:Int×Int=>m.1).foldl max 0).toNat
theorem xE:∀ (l:List Int) (b:Int),b<=l.foldl max b/\(∀ x∈l,x<=l.foldl max b)/\(l.foldl max b=b\/l.foldl max b∈l)
 | [],b=>⟨Int.le_refl _,(fun x hx=>absurd hx List.not_mem_nil),.inl rfl⟩
 | a :: l,b=>by
  obtain⟨h1,h2,h3⟩:=xE l (max b a);rw[aBf];refine⟨by omega,fun x hx=>?_,?_⟩
  ·rcases aBr.mp hx with e | e
   ·subst e;omega
   ·exact h2 x e
  ·rcases h3 with e | e
   ·rw[e];rcases Int.le_total a b with q | q
    ·left;omega
    ·right;rw[show max b a=a by omega];exact aBP
   ·exact .inr (aBQ _ e)
theorem qW {ms:List (Int×Int)} (h:∀ m∈ms,1<=m.1/\m.1<=60):mxD (ms.map (·.1)) (.int 0)=.int (grt ms)/\grt ms<=60/\(∀ m∈ms,m.1<=grt ms)/\(grt ms=0\/∃ m∈ms,m.1=grt ms):=by
 obtain⟨h1,h2,h3⟩:=xE (ms.map (·.1)) 0;have hz:((grt ms:Nat):Int)=(ms.map (·.1)).foldl max 0:=by unfold grt;omega
 refine⟨?_,?_,fun m hm=>by rw[hz];exact h2 _ (aBt.mpr ⟨m,hm,rfl⟩),?_⟩
 ·rw[hz];cases ms with
  | nil=>rfl
  | cons a l =>
   have:=h a aBP;show V.int ((l.map (·.1)).foldl max a.1)=V.int (((a :: l).map (·.1)).foldl max 0);rw[aBd,aBf,show max 0 a.1=a.1 by omega]
 ·rcases h3 with e | e
  ·have:((grt ms:Nat):Int)=0:=by rw[hz,e]
   omega
  ·obtain⟨m,hm,e⟩:=aBt.mp e;have:=(h m hm).2;omega
 ·rcases h3 with e | e
  ·left;omega
  ·right
   obtain⟨m,hm,e⟩:=aBt.mp e;exact⟨m,hm,by omega⟩
inductive lJ (vs:List V) (H:Hp) (Q:VK) (E_:XK):Prop
 | mk (d:Addr) (ms:List (Int×Int)) (h0_:vs=[.ref d]) (h1_:H d=some (.dK (kvI ms))) (h2_:∀ m∈ms,1<=m.1/\m.1<=60) (h3_:∀ (l:Addr) (us:List V) (H':Hp),H l=none->Same H H'->H' l=some (.lst us)->Prs H' us (nC (stf ms (grt ms)) (grt ms))->Q (.ref l) H'):lJ vs H Q E_
theorem C0 (f:Nat->Int) (n:Nat):atI (((List.range (n+1)).map f).map V.int) (-1)=some (V.int (f n)):=by
 have hne:(List.range (n+1)).map f≠[]:=by simp[List.range_succ]
 rw[uL hne]
 congr 2
 rw[List.getLast_eq_getElem];simp
theorem V7 {f:Nat->Int} {n:Nat} {i:Int} (h0:0<=i) (h1:i<n):atI (((List.range n).map f).map V.int) i=some (V.int (f i.toNat)):=by
 obtain⟨x,_,h2,h3⟩:=dB (ns:=(List.range n).map f) (i:=i) h0 (by simpa using h1);rw[h3];rw[aBc,List.getElem?_range (by omega)]at h2;cases h2;rfl
theorem C1 (f:Nat->Int) (n:Nat):((List.range n).map f).map V.int++[V.int (f n)]=((List.range (n+1)).map f).map V.int:=by
 rw[List.range_succ,aB2,aB2];rfl
theorem z4 (ms:List (Int×Int)) (G:Nat):((List.range (G+1)).map (nB ms)).map V.int++[V.int (nB ms G)]=((List.range (G+2)).map (stf ms G)).map V.int:=by
 have e:(List.range (G+1)).map (nB ms)=(List.range (G+1)).map (stf ms G):=List.map_congr_left fun k hk=>by
  have:=List.mem_range.mp hk;unfold stf;rw[show min k G=k by omega]
 have e2:stf ms G (G+1)=nB ms G:=by unfold stf;rw[show min (G+1) G=G by omega]
 rw[e,<- e2];exact C1 (stf ms G) (G+1)
theorem V8 (ms:List (Int×Int)):jX (kvI ms) (ms.map fun m:Int×Int=>m.1):=by
 unfold jX kvI;rw[aBi,aBi];rfl
end CW
namespace CW
theorem K6 {α:Type} (p:α->Bool) {l:List α} {i:Nat} {x:α} (h:l[i]?=some x):(l.take (i+1)).filter p=(l.take i).filter p++(if p x=true then [x]else []):=by
 rw[aBj,h,List.filter_append];cases hp:p x <;> simp[hp]
end CW
namespace L2
open PySem PySem.Spec PyProof.Rows
section
variable {X:Cx} {pins:List (Addr×Obj)} {σ:St} {H:Hp} {s:Shared}
end
section
variable {X:Cx}
end
end L2
namespace CW
open PySem L2
section
variable {P:Program} {w:World} {K:PySem.W.Frag} {mg:Str->Option Value} {base:Heap}
def SameL (PT:Addr) (H H':Hp):Prop:=∀ b o,b≠PT->(∀ φ,o≠.ext φ)->H b=some o->H' b=some o
theorem SameL.trans {PT:Addr} {H H1 H2:Hp} (a:SameL PT H H1) (b:SameL PT H1 H2):SameL PT H H2:=fun c o n x h=>b c o n x (a c o n x h)
end
section
variable {P:Program} {w:World} {K:PySem.W.Frag} {mg:Str->Option Value} {base:Heap}
end
theorem V9:∀ a b:List Int,PyData.eqvAll (a.map PyData.int) (b.map PyData.int)=decide (a=b)
 | [],[]=>rfl
 | [],y :: b=>rfl
 | x :: a,[]=>rfl
 | x :: a,y :: b=>by
  show (PyData.eqv (.int x) (.int y) && PyData.eqvAll (a.map PyData.int) (b.map PyData.int))=_;rw[V9 a b];show ((x == y) && decide (a=b))=_;rw[Bool.eq_iff_iff];simp
theorem K7 (a b:List Int):PyData.eqv (.list (a.map PyData.int)) (.list (b.map PyData.int))=decide (a=b):=V9 a b
def aM (ps:Trs) (s:Int):List Int:=(ps.filter fun p=>decide (p.1=s)).map (·.2)
theorem oN (a b:Trs) (s:Int):aM (a++b) s=aM a s++aM b s:=by
 unfold aM;rw[List.filter_append,aB2]
theorem jH (p:Int×Int) (ps:Trs) (s:Int):aM (p :: ps) s=if p.1=s then p.2 :: aM ps s else aM ps s:=by
 unfold aM;rw[List.filter_cons]
 by_cases h:p.1=s
 ·rw[if_pos (by simpa using h),if_pos h];rfl
 ·rw[if_neg (by simpa using h),if_neg h]
theorem K8 {ps qs:Trs} (h:ps.Perm qs) (s:Int):(aM ps s).Perm (aM qs s):=(h.filter _).map _
theorem xF {ps:Trs} (h:ps.Pairwise ple) (s:Int):(aM ps s).Pairwise (·<=·):=by
 unfold aM;rw[List.pairwise_map];refine(h.filter _).imp_of_mem fun {a b} ha hb hab=>?_;have h1:a.1=s:=by have:=(aBu.mp ha).2;simpa using this
 have h2:b.1=s:=by have:=(aBu.mp hb).2;simpa using this
 rcases hab with q | q
 ·omega
 ·exact q.2
theorem W0 (k:Int) (os:List Int) (s:Int):aM (os.map fun o=>(k,o)) s=if k=s then os else []:=by
 induction os with
 | nil=>unfold aM;simp
 | cons o os ih =>
  rw[aBd,jH,ih]
  by_cases h:k=s
  ·rw[if_pos h,if_pos h,if_pos h]
  ·rw[if_neg h,if_neg h,if_neg h]
theorem oA:∀ {gs:List Grp},(gs.map (·.1)).Nodup->∀ (s:Int),aM (bH gs) s=((gs.find? fun g=>decide (g.1=s)).map fun g=>g.2.2).getD []
 | [],_,s=>rfl
 | g :: gs,h,s=>by
  rw[aBd,List.nodup_cons]at h;have e:bH (g :: gs)=(g.2.2.map fun o=>(g.1,o))++bH gs:=by unfold bH;rw[List.flatMap_cons]
  rw[e,oN,W0,oA h.2,List.find?_cons]
  by_cases q:g.1=s
  ·rw[if_pos q,aBa q];have hn:gs.find? (fun g=>decide (g.1=s))=none:=List.find?_eq_none.mpr fun x hx=>by
    have:x.1≠s:=fun z=>h.1 (aBt.mpr ⟨x,hx,by rw[z,q]⟩);simpa using this
   rw[hn];simp
  ·rw[if_neg q,aB9 q];rfl
theorem qX {gs:List Grp} {ps:Trs} (hk:(gs.map (·.1)).Nodup) (hp:(bH gs).Perm ps) (ha:Asc gs) (hs:ps.Pairwise ple) (s:Int) :
 ((gs.find? fun g=>decide (g.1=s)).map fun g=>g.2.2).getD []=aM ps s:=by
 rw[<- oA hk];refine iU (K8 hp s) ?_ (xF hs s);rw[oA hk];cases hf:gs.find? fun g=>decide (g.1=s)with
 | none=>exact .nil
 | some g=>exact ha g (List.mem_of_find?_eq_some hf)
theorem K9 (ps ws:Trs) (s:Int):aM (cR ps ws) s=(aM ps s).map (·+fM ws s):=by
 induction ps with
 | nil=>rfl
 | cons p ps ih =>
  have e:cR (p :: ps) ws=(p.1,p.2+fM ws p.1) :: cR ps ws:=rfl;rw[e,jH,jH,ih]
  by_cases h:p.1=s
  ·rw[if_pos h,if_pos h,aBd,h]
  ·rw[if_neg h,if_neg h]
theorem qY (ps:Trs) (s o:Int):(aM ps s).count o=ps.count (s,o):=by
 induction ps with
 | nil=>rfl
 | cons p ps ih =>
  rw[jH,List.count_cons]
  by_cases h:p.1=s
  ·rw[if_pos h,List.count_cons,ih]
   by_cases q:p.2=o
   ·have e:p=(s,o):=by obtain⟨a,b⟩:=p;exact Prod.ext h q
    simp[q,e]
   ·have e:p≠(s,o):=fun z=>q (by rw[z]);simp[q,e]
  ·rw[if_neg h,ih];have e:p≠(s,o):=fun z=>h (by rw[z]);simp[e]
theorem uX {ps qs:Trs} (h:∀ s,(aM ps s).Perm (aM qs s)):ps.Perm qs:=by
 rw[List.perm_iff_count];rintro ⟨s,o⟩;rw[<- qY,<- qY];exact List.perm_iff_count.mp (h s) o
structure KinG (ps1 ps2:Trs) (ms:List (Int×Int)):Prop where
 key:∀ s,aM ps1 s≠[]->∃ g,lkI ms s=some g
 val:∀ s g,lkI ms s=some g->aM ps2 s=(aM ps1 s).map (·+g)
 cnt:∀ s,(aM ps1 s).length=(aM ps2 s).length
 pos:∀ m∈ms,1<=m.1/\m.1<=60
theorem KinG.adds {ps1 ps2:Trs} {ms:List (Int×Int)} (k:KinG ps1 ps2 ms):(cR ps1 (nC (stf ms (grt ms)) (grt ms))).Perm ps2:=by
 obtain⟨_,_,hle,_⟩:=qW k.pos;refine uX fun s=>?_;rw[K9]
 by_cases h:aM ps1 s=[]
 ·have h2:aM ps2 s=[]:=aBl (by rw[<- k.cnt s,h];rfl);rw[h,h2];exact .nil
 ·obtain⟨g,hg⟩:=k.key s h;have hm:=i3 hg;have hp:=(k.pos _ hm).1;have hl:=hle _ hm;dsimp only at hp hl;obtain⟨n,rfl⟩:∃ n:Nat,s=(n:Int):=⟨s.toNat,by omega⟩;have hn:n<=grt ms:=by omega
  rw[i4 hn,i5 (by omega) hg,<- k.val _ _ hg]
inductive KinRes (ps1 ps2:Trs) (H H':Hp):List V->Prop
 | sizes (s:Int) (h:(aM ps1 s).length≠(aM ps2 s).length):KinRes ps1 ps2 H H' [.str "sizes",.int s]
 | apart (s:Int) (c:∀ s,(aM ps1 s).length=(aM ps2 s).length) (h:∀ g:Int,(aM ps1 s).map (·+g)≠aM ps2 s):KinRes ps1 ps2 H H' [.str "apart",.int s]
 | walks (l:Addr) (us:List V) (ms:List (Int×Int)) (k:KinG ps1 ps2 ms) (hm:∀ m∈ms,aM ps1 m.1≠[]) (hl:H l=none) (el:H' l=some (.lst us)) (pr:Prs H' us (nC (stf ms (grt ms)) (grt ms))):KinRes ps1 ps2 H H' [.str "walks",.ref l]
inductive C2 (vs:List V) (H:Hp) (Q:VK) (E_:XK):Prop
 | mk (a b:Addr) (r1 r2:List Int) (h0_:vs=[.ref a,.ref b]) (h1_:H a=some (.lst (r1.map V.int))) (h2_:Row r1) (h3_:r1.length<=60) (h4_:H b=some (.lst (r2.map V.int))) (h5_:Row r2) (h6_:r2.length<=60)
  (h7_:∀ (ps1 ps2:Trs) (t:Addr) (xs:List V) (H':Hp),Lst r1 ps1->ps1.Pairwise ple->Lst r2 ps2->ps2.Pairwise ple->H t=none->Same H H'->H' t=some (.tup xs)->KinRes ps1 ps2 H H' xs->Q (.ref t) H'):C2 vs H Q E_
theorem DG.keep {H H':Hp} {d:Addr} {gs:List Grp} (dg:DG H d gs) (s:Same H H'):DG H' d gs:=⟨s _ _ dg.at_,fun g hg=>s _ _ (dg.lst g hg),dg.adr,dg.key⟩
theorem uY:∀ {gs:List Grp},(∀ g∈gs,g.2.2≠[])->gs.length<=(bH gs).length
 | [],_=>Nat.le_refl _
 | g :: gs,h=>by
  have e:bH (g :: gs)=(g.2.2.map fun o=>(g.1,o))++bH gs:=by unfold bH;rw[List.flatMap_cons]
  have h1:=uY (gs:=gs) fun x hx=>h x (aBQ _ hx);have h2:g.2.2.length≠0:=fun z=>h g aBP (aBl z);rw[e,aBW,aBN,aBh];omega
theorem tJ (gs:List Grp):jX (kvG gs) (gs.map (·.1)):=by
 unfold jX kvG;rw[aBi,aBi];rfl
theorem xG {H:Hp} {d q:Addr} {gs:List Grp} {ps:Trs} (hl:∀ g∈gs,H g.2.1=some (.lst (g.2.2.map V.int))) (hk:(gs.map (·.1)).Nodup) (hp:(bH gs).Perm ps) (ha:Asc gs) (hs:ps.Pairwise ple) (s:Int) (hq:H q=some (.lst [])) :
 ∃ r,(dJ (kvG gs) (Sum.inl s:Key)).getD (V.ref q)=V.ref r/\H r=some (.lst ((aM ps s).map V.int)):=by
 have e:=qX hk hp ha hs s;rw[dX];cases hf:gs.find? fun g=>decide (g.1=s)with
 | none =>
  rw[hf]at e;refine⟨q,rfl,?_⟩;rw[<- e,hq];rfl
 | some g =>
  rw[hf]at e;refine⟨g.2.1,rfl,?_⟩;rw[<- e];exact hl g (List.mem_of_find?_eq_some hf)
theorem z5 {gs:List Grp} {ps:Trs} (hk:(gs.map (·.1)).Nodup) (hp:(bH gs).Perm ps) (ha:Asc gs) (hs:ps.Pairwise ple) {g:Grp} (hg:g∈gs):g.2.2=aM ps g.1:=by
 have e:=qX hk hp ha hs g.1;have hf:gs.find? (fun x=>decide (x.1=g.1))=some g:=by
  cases hq:gs.find? fun x=>decide (x.1=g.1)with
  | none=>have:=List.find?_eq_none.mp hq g hg;simp at this
  | some x =>
   have h1:=List.find?_some hq;have h2:=List.mem_of_find?_eq_some hq;rw[cK hk h2 hg (by simpa using h1)]
 rw[hf]at e;exact e
theorem xH {gs:List Grp} {ps:Trs} (hp:(bH gs).Perm ps) {s:Int} (h:aM ps s≠[]):∃ g∈gs,g.1=s:=by
 obtain⟨o,ho⟩:=List.exists_mem_of_ne_nil _ h;obtain⟨p,hp1,hp2⟩:=aBt.mp ho;obtain⟨h1,h2⟩:=aBu.mp hp1;have h3:p.1=s:=by simpa using h2
 have h4:=hp.mem_iff.mpr h1;obtain⟨g,hg,h5⟩:=List.mem_flatMap.mp h4;obtain⟨o',_,rfl⟩:=aBt.mp h5;exact⟨g,hg,h3⟩
theorem L0 {H:Hp} {gs:List Grp} {ps:Trs} (hl:∀ g∈gs,H g.2.1=some (.lst (g.2.2.map V.int))) (hk:(gs.map (·.1)).Nodup) (hp:(bH gs).Perm ps) (ha:Asc gs) (hs:ps.Pairwise ple) {s:Int} (h:aM ps s≠[]) :
 ∃ r,dJ (kvG gs) (Sum.inl s:Key)=some (V.ref r)/\H r=some (.lst ((aM ps s).map V.int))/\∃ g∈gs,g.2.1=r:=by
 have e:=qX hk hp ha hs s;rw[dX];cases hf:gs.find? fun g=>decide (g.1=s)with
 | none=>rw[hf]at e;exact absurd e.symm h
 | some g =>
  rw[hf]at e;refine⟨g.2.1,rfl,?_,g,List.mem_of_find?_eq_some hf,rfl⟩;rw[<- e];exact hl g (List.mem_of_find?_eq_some hf)
theorem C3 {l:List Int} (h:l≠[]):∃ x,atI (l.map V.int) 0=some (V.int x)/\l[0]?=some x:=by
 cases l with
 | nil=>exact absurd rfl h
 | cons x r =>
  obtain⟨y,_,h2,h3⟩:=dB (ns:=x :: r) (i:=0) (by decide) (by simp);exact⟨y,h3,h2⟩
theorem zA {a b:List Int} {x y:Int} (ha:a[0]?=some x) (hb:b[0]?=some y) {g:Int} (h:a.map (·+g)=b):a.map (·+(y - x))=b:=by
 have:g=y - x:=by
  rw[<- h,aBc,ha]at hb;have:x+g=y:=Option.some.inj hb;omega
 rw[<- this];exact h
theorem qZ:∀ {l:List Int},(∀ x∈l,1<=x)->∀ {x:Int},x∈l->x<=l.sum
 | [],_,_,h=>absurd h List.not_mem_nil
 | a :: l,h,x,hx=>by
  have hs:0<=l.sum:=by
   have:∀ l:List Int,(∀ x∈l,1<=x)->0<=l.sum:=fun l=>by
    induction l with
    | nil=>intro _;exact Int.le_refl 0
    | cons b l ih=>intro h;have:=ih fun x hx=>h x (aBQ _ hx);have:=h b aBP;rw[aBg];omega
   exact this l fun x hx=>h x (aBQ _ hx)
  rw[aBg];rcases aBr.mp hx with e | e
  ·subst e;omega
  ·have:=qZ (fun y hy=>h y (aBQ _ hy)) e;have:=h a aBP;omega
theorem zB {r:List Int} {ps:Trs} (h:Lst r ps) (hl:r.length<=60) {s:Int} (ho:aM ps s≠[]):1<=s/\s<=60:=by
 obtain⟨o,ho⟩:=List.exists_mem_of_ne_nil _ ho;obtain⟨p,hp1,_⟩:=aBt.mp ho;obtain⟨h1,h2⟩:=aBu.mp hp1;have h3:p.1=s:=by simpa using h2
 have t:=h.trn hl;have h4:=t.pos p h1;have h5:p.1<=(szs ps).sum:=qZ (fun x hx=>by
  obtain⟨q,hq,rfl⟩:=aBt.mp hx;exact t.pos q hq) (aBt.mpr ⟨p,h1,rfl⟩)
 have h6:=t.few;omega
inductive aAd (H9:Hp) (ps1 ps2:Trs) (gs1:List Grp) (a b d1 d2 d5:Addr) (od:Obj) (i:Nat) (σ:St) (Hy:Hp):Prop
 | mk (v4 v6:Option V) (ms:List (Int×Int)) (h0_:σ=[some (.ref a),some (.ref b),some (.ref d1),some (.ref d2),v4,some (.ref d5),v6]) (h1_:Hy d1=some (.frz od (.dK (kvG gs1)))) (h2_:Hy d5=some (.dK (kvI ms)))
  (h3_:∀ x o,x≠d1->x≠d5->H9 x=some o->Hy x=some o) (h4_:∀ g∈gs1.take i,∃ v,lkI ms g.1=some v) (h5_:∀ s v,lkI ms s=some v->aM ps2 s=(aM ps1 s).map (·+v)) (h6_:∀ m∈ms,aM ps1 m.1≠[]) (h7_:ms.length<=i):aAd H9 ps1 ps2 gs1 a b d1 d2 d5 od i σ Hy
inductive lK (vs:List V) (H:Hp) (Q:VK) (E_:XK):Prop
 | mk (a:Addr) (ps:Trs) (s:Int) (h0_:vs=[.ref a,.int s]) (h1_:LP H a ps) (h2_:ps.length<=200) (h3_:E1 H Q (aM ps s)):lK vs H Q E_
theorem L5 {ps:Trs} {i:Nat} {p:Int×Int} (h:ps[i]?=some p) (s:Int):aM (ps.take (i+1)) s=aM (ps.take i) s++(if p.1=s then [p.2]else []):=by
 rw[aBj,h,oN];show aM (ps.take i) s++aM [p] s=_;rw[jH];rfl
end CW
namespace L2
open PySem PySem.Spec PyProof.Rows
theorem W1:bootBuiltins "any"=some (.builtin "any"):=by decide +kernel
theorem zC (bs:List Bool):((List.range bs.length).any fun i=>(bs[i]?).getD false)=bs.any id:=by
 rw[Bool.eq_iff_iff,List.any_eq_true,List.any_eq_true]
 constructor
 ·rintro ⟨i,hi,h⟩;have hl:=List.mem_range.mp hi;rw[aBX hl]at h;exact⟨bs[i],List.getElem_mem hl,h⟩
 ·rintro ⟨b,hb,h⟩;obtain⟨i,hi,e⟩:=List.getElem_of_mem hb;exact⟨i,List.mem_range.mpr hi,by rw[aBX hi,e];exact h⟩
section
variable {X:Cx}
theorem L6 (hc:X.calm=true):eY X (.builtin "any") (fun xs H Q=>∃ (p:Addr) (bs:List Bool),xs=[.ref p]/\H p=some (.lst (bs.map V.bl))/\Q (.bl (bs.any id)) H):=by
 intro pins s σ H xs us Q I r h;obtain⟨p,bs,rfl,hp,q⟩:=h;obtain⟨u,rfl,rx⟩:=hU r;cases rx;obtain⟨its,rv,pl,hz⟩:=I.list (SqL.of hp);have hl:=pl.isList;have hlt:p<s.heap.objs.size:=by obtain⟨_,e,_⟩:=hl;exact aBT e
 have hlen:bs.length=its.length:=by have:=rv.length;simpa using this
 refine call_any_walk (wpAny_pyIter_list hl ?_);refine⟨s.heap.objs.size,[s.heap.objs.size,p],[s.heap.objs.size],its.toArray.size,_,_,fun i=>(bs[i]?).getD false,rfl,Walks.list (A:=X.A.in1) (I.ok.hd hc) _ p (aBb hlt) its.toArray,
  ⟨⟨_,aBU _ rfl,rfl,rfl⟩,hl.push _⟩,fun i v s' Q' E' hP hQ=>?_,fun h' tk hk=>?_⟩
 ·have hv:its[i]?=some v:=by simpa using hP
  have hi:i<its.length:=(aBq.mp hv).1;have hb:(bs.map V.bl)[i]?=some (V.bl (bs[i]'(by omega))):=by simp[hlen,hi]
  obtain⟨u,eu,ru⟩:=rv.get hb;rw[hv]at eu;cases eu;cases ru;have e:(bs[i]?).getD false=bs[i]'(by omega):=by simp[show i<bs.length by omega]
  have hQ':Q' ((bs[i]?).getD false) s':=hQ;rw[e]at hQ';exact wpAny_truthy_bool hQ'
 ·have e:((List.range its.toArray.size).any fun i=>(bs[i]?).getD false)=bs.any id:=by
   rw[aBV,<- hlen];exact zC bs
  rw[e];have kp:∀ b x,s.heap.get? b=some x->h'.get? b=some x:=LSm.kept_iter hk;exact⟨.bl _,H,I.kept kp,rfl,q⟩
end
section
variable {X:Cx} {pins:List (Addr×Obj)} {σ:St} {H H':Hp} {s:Shared} {h':Heap}
theorem Inv.many {t':Nat} (I:Inv X pins σ H s) (k:∀ b u,s.heap.get? b=some u->h'.get? b=some u) (ext:∀ b o,H b=some o->H' b=some o) (new:∀ b o,H' b=some o->H b=none->s.heap.objs.size<=b) (hok:∀ b o,H' b=some o->H b=none->ObjOk X.prog X.w H' h' b o)
 (old:∀ b o,H b=some o->ObjOk X.prog X.w H' h' b o):Inv X pins σ H' { s with heap:=h',toks:=t' }:=by
 refine I.un (H':=H') ⟨fun b o e n _ _=>k b o e,fun b o e n _ _=>⟨o.slots,k b o e⟩,fun b o e n _=>?_,fun b o e _=>⟨o,k b o e⟩,fun b xs e=>ext b _ e,fun b o u e=>ext b _ e,fun b ps e=>⟨#[],by rw[ext b _ e];simp⟩⟩ (fun b o e=>?_)
 ·cases q:H' b with
  | none=>rfl
  | some o'=>exact absurd (aBT e) (Nat.not_lt.mpr (new b o' q n))
 ·cases q:H b with
  | none=>exact hok b o e q
  | some o' =>
   have:=ext b o' q;rw[e]at this;cases this;exact old b o q
end
section
variable {prog:Program} {w:World} {A:Around} {E:Value->Shared->Prop} {s:Shared}
theorem lZ {M:Model} {a:Addr} {Q:Option Obj->Shared->Prop} (h:Q (s.heap.get? a) s):wpAny M A (loadIfAlive a) Q E s:=fun _ _ _=>h
def IsZ (h:Heap) (z TI TO:Addr) (f0:Value) (f1:Bool):Prop :=
 h.get? z=some { cls:=.type "zip",dict:=none,data:=.fields #[f0,.bool f1,.bool false,.ref TI,.ref TO],slots:=#[] }
theorem tK {z TI TO T:Addr} {f1:Bool} {Q:Bool->Shared->Prop} {oT:Obj} (hz:IsZ s.heap z TI TO (rawInt T) f1) (hT:s.heap.get? T=some oT)
 (h:∀ h',IsZ h' z TI TO (rawInt T) true->Heap.SameBut z s.heap h'->Q false { s with heap:=h' }):wpAny (model prog w) A (Builtin.SmallTypes.ownedTupleIsFree (.ref z)) Q E s:=by
 unfold Builtin.SmallTypes.ownedTupleIsFree;refine aBL (wpAny_field hz rfl (x:=rawInt T) rfl ?_);show wpAny _ _ (loadIfAlive ((T:Nat):Int).toNat >>= _) _ _ _;refine aBL (lZ ?_);rw[Int.toNat_natCast,hT];show wpAny _ _ (field (.ref z) 1 >>= _) _ _ _;refine aBL (wpAny_field hz rfl (x:=.bool f1) rfl ?_);cases f1 with
 | true =>
  refine aBM ?_;have e:s={ s with heap:=s.heap }:=by cases s;rfl
  rw[e];exact h s.heap hz (Heap.SameBut.refl z s.heap)
 | false =>
  show wpAny _ _ (setField (.ref z) 1 (.bool true) >>= _) _ _ _;refine aBL (wpAny_setField_rec hz (by simp) fun h' hz' hs'=>aBM (h h' hz' hs'))
theorem L7 {z TI TO T i1 i2 l1 l2:Addr} {k1 k2:Nat} {f1:Bool} {oT:Obj} {xs ys:Array Value} {x y:Value} {Q:Value->Shared->Prop} (D:ZipApart z TI TO i1 i2 l1 l2)
 (hz:IsZ s.heap z TI TO (rawInt T) f1) (hT:s.heap.get? T=some oT) (hTI:IsPair s.heap TI (.ref i1) (.ref i2))
 (h1:s.heap.IsListIter i1 l1 k1) (h2:s.heap.IsListIter i2 l2 k2) (hl1:s.heap.IsList l1 xs) (hl2:s.heap.IsList l2 ys) (hx:xs[k1]?=some x) (hy:ys[k2]?=some y)
 (hQ:∀ h',IsZ h' z TI TO (rawInt T) true->h'.IsListIter i1 l1 (k1+1)->h'.IsListIter i2 l2 (k2+1)->IsPair h' s.heap.objs.size x y->h'.objs.size=s.heap.objs.size+1 ->
  (∀ c o,c≠z->c≠i1->c≠i2->s.heap.get? c=some o->h'.get? c=some o)->Q (.ref s.heap.objs.size) { s with heap:=h' }) :
 wpAny (model prog w) A (Builtin.«zip.__next__» ⟨[.ref z],[]⟩) (fun fin s'=>∃ v,fin=.done (.ret v)/\Q v s') E s:=by
 show wpAny _ _ (field (.ref z) 2 >>= _) _ _ _;refine aBL (wpAny_field hz rfl (x:=.bool false) rfl ?_);show wpAny _ _ (field (.ref z) 3 >>= _) _ _ _;refine aBL (wpAny_field hz rfl (x:=.ref TI) rfl ?_);refine aBL (wpAny_seqItems hTI rfl ?_);show wpAny _ _ (Builtin.SmallTypes.ownedTupleIsFree (.ref z) >>= _) _ _ _;refine aBL (tK hz hT fun h₁ hz₁ hs₁=>?_);simp only[Bool.false_eq_true,if_false];refine aBL ?_;simp only[<- Array.forIn_toList,List.forIn_cons,List.forIn_nil];refine aBL (aBL (wpAny_holding ?_));show wpAny _ _ (Builtin.SmallTypes.nextOf (.ref i1) >>= _) _ _ _;refine aBL (wpAny_nextOf_list_item (h1.extBut hs₁.extBut D.i1z) (hl1.extBut hs₁.extBut D.l1z) hx fun h₂ h1₂ hs₂=>aBM ?_);refine aBM ?_;refine aBL (aBL (wpAny_holding ?_));show wpAny _ _ (Builtin.SmallTypes.nextOf (.ref i2) >>= _) _ _ _;refine aBL (wpAny_nextOf_list_item ((h2.extBut hs₁.extBut D.i2z).extBut hs₂.extBut D.i12.symm) ((hl2.extBut hs₁.extBut D.l2z).extBut hs₂.extBut D.l2i1) hy fun h₃ h2₃ hs₃=>aBM ?_);refine aBM (aBM ?_);refine aBL (wpAny_newTuple ?_ (show 2<=sizeLine by decide));have hsz:h₃.objs.size=s.heap.objs.size:=by rw[hs₃.1,hs₂.1,hs₁.1]
 have hz₃:IsZ h₃ z TI TO (rawInt T) true:=hs₃.extBut _ _ D.i2z.symm (hs₂.extBut _ _ D.i1z.symm hz₁);have h1₃:=h1₂.extBut hs₃.extBut D.i12;refine aBM ⟨_,rfl,?_⟩;show Q (.ref h₃.objs.size) _;have hT':IsPair (h₃.push { cls:=.type "tuple",data:=.seq #[x,y] }) h₃.objs.size x y:=aBU _ rfl;rw[hsz]at hT' ⊢;refine hQ _ (aBO _ hz₃) (h1₃.at fun o e=>aBO _ e) (h2₃.at fun o e=>aBO _ e) hT' (by rw[Heap.size_push,hsz]) fun c o c1 c2 c3 e=>aBO _ (hs₃.extBut _ _ c3 (hs₂.extBut _ _ c2 (hs₁.extBut _ _ c1 e)))
theorem W2 {z TI TO T i1 i2 l1 l2:Addr} {k1:Nat} {f1:Bool} {oT:Obj} {xs:Array Value} {Q:Fin->Shared->Prop} (hh:A.handled=none) (D:ZipApart z TI TO i1 i2 l1 l2)
 (hz:IsZ s.heap z TI TO (rawInt T) f1) (hT:s.heap.get? T=some oT) (hTI:IsPair s.heap TI (.ref i1) (.ref i2))
 (h1:s.heap.IsListIter i1 l1 k1) (hl1:s.heap.IsList l1 xs) (hx:xs[k1]?=none)
 (hE:∀ h' e,(∀ c o,c≠z->c≠i1->c≠i2->s.heap.get? c=some o->h'.get? c=some o)->(∃ o,h'.get? e=some o/\o.cls=.type "StopIteration")->E (.ref e) { s with heap:=h' }) :
 wpAny (model prog w) A (Builtin.«zip.__next__» ⟨[.ref z],[]⟩) Q E s:=by
 show wpAny _ _ (field (.ref z) 2 >>= _) _ _ _;refine aBL (wpAny_field hz rfl (x:=.bool false) rfl ?_);show wpAny _ _ (field (.ref z) 3 >>= _) _ _ _;refine aBL (wpAny_field hz rfl (x:=.ref TI) rfl ?_);refine aBL (wpAny_seqItems hTI rfl ?_);show wpAny _ _ (Builtin.SmallTypes.ownedTupleIsFree (.ref z) >>= _) _ _ _;refine aBL (tK hz hT fun h₁ hz₁ hs₁=>?_);simp only[Bool.false_eq_true,if_false];refine aBL ?_;simp only[<- Array.forIn_toList,List.forIn_cons,List.forIn_nil];refine aBL (aBL (wpAny_holding ?_));show wpAny _ _ (Builtin.SmallTypes.nextOf (.ref i1) >>= _) _ _ _;refine aBL (wpAny_nextOf_list_end hh (h1.extBut hs₁.extBut D.i1z) (hl1.extBut hs₁.extBut D.l1z) hx fun h₂ e hs₂ he=>?_);exact hE h₂ e (fun c o c1 c2 _ x=>hs₂ _ _ c2 (hs₁.extBut _ _ c1 x)) he
theorem zD {z TI TO T i1 i2 l1 l2:Addr} {k1 k2:Nat} {f1:Bool} {oT:Obj} {xs ys:Array Value} {x y:Value} {Q:Option Value->Shared->Prop} (D:ZipApart z TI TO i1 i2 l1 l2)
 (hz:IsZ s.heap z TI TO (rawInt T) f1) (hT:s.heap.get? T=some oT) (hTI:IsPair s.heap TI (.ref i1) (.ref i2))
 (h1:s.heap.IsListIter i1 l1 k1) (h2:s.heap.IsListIter i2 l2 k2) (hl1:s.heap.IsList l1 xs) (hl2:s.heap.IsList l2 ys) (hx:xs[k1]?=some x) (hy:ys[k2]?=some y)
 (hQ:∀ h',IsZ h' z TI TO (rawInt T) true->h'.IsListIter i1 l1 (k1+1)->h'.IsListIter i2 l2 (k2+1)->IsPair h' s.heap.objs.size x y->h'.objs.size=s.heap.objs.size+1 ->
  (∀ c o,c≠z->c≠i1->c≠i2->s.heap.get? c=some o->h'.get? c=some o)->Q (some (.ref s.heap.objs.size)) { s with heap:=h' }) :
 wpAny (model prog w) A (pyNext (.ref z)) Q E s:=by
 have hT':s.TypeIs (.ref z) "zip":=⟨_,hz,rfl⟩;unfold pyNext;exact aBL (wpAny_attempt (wpAny_callSpecial?_slot (name:=Str.ofString "__next__") hT' PySem.F.slot_zip_next
  (wpAny_call_entry PySem.F.slot_zip_next hT' PySem.F.entry_zip_next
   (L7 D hz hT hTI h1 h2 hl1 hl2 hx hy fun h' a1 a2 a3 a4 a5 a6=>aBM (hQ h' a1 a2 a3 a4 a5 a6)) (PySem.F.args_zip_next_1 _))))
theorem L8 {z TI TO T i1 i2 l1 l2:Addr} {k1:Nat} {f1:Bool} {oT:Obj} {xs:Array Value} {Q:Option Value->Shared->Prop} (hh:A.handled=none) (D:ZipApart z TI TO i1 i2 l1 l2)
 (hz:IsZ s.heap z TI TO (rawInt T) f1) (hT:s.heap.get? T=some oT) (hTI:IsPair s.heap TI (.ref i1) (.ref i2))
 (h1:s.heap.IsListIter i1 l1 k1) (hl1:s.heap.IsList l1 xs) (hx:xs[k1]?=none)
 (hQ:∀ h',(∀ c o,c≠z->c≠i1->c≠i2->s.heap.get? c=some o->h'.get? c=some o)->Q none { s with heap:=h' }):wpAny (model prog w) A (pyNext (.ref z)) Q E s:=by
 have hT':s.TypeIs (.ref z) "zip":=⟨_,hz,rfl⟩;unfold pyNext;refine aBL (wpAny_attempt (wpAny_callSpecial?_slot (name:=Str.ofString "__next__") hT' PySem.F.slot_zip_next
  (wpAny_call_entry PySem.F.slot_zip_next hT' PySem.F.entry_zip_next (W2 hh D hz hT hTI h1 hl1 hx fun h' e hk he=>?_) (PySem.F.args_zip_next_1 _))))
 obtain⟨o,ho,hc⟩:=he;refine aBL (wpAny_isInstance (T:="StopIteration") (b:=true) ⟨o,ho,hc⟩ isSubtype_stop ?_);exact aBM (hQ _ hk)
end
structure TsOk (h:Heap) (b0:Nat) (no:List Addr) (xs ys:Array Value) (Ts:List Addr):Prop where
 at_:∀ (j:Nat) (T:Addr),Ts[j]?=some T->∃ x y,xs[j]?=some x/\ys[j]?=some y/\IsPair h T x y
 new:∀ T∈Ts,b0<=T/\T∉no
 nd:Ts.Nodup
theorem TsOk.keep {h h':Heap} {b0:Nat} {no:List Addr} {xs ys:Array Value} {Ts:List Addr} (t:TsOk h b0 no xs ys Ts) (k:∀ c o,c∉no->h.get? c=some o->h'.get? c=some o):TsOk h' b0 no xs ys Ts :=
 ⟨fun j T e=>let ⟨x,y,h1,h2,h3⟩:=t.at_ j T e;⟨x,y,h1,h2,k T _ (t.new T (aBY e)).2 h3⟩,t.new,t.nd⟩
theorem TsOk.lt {h:Heap} {b0:Nat} {no:List Addr} {xs ys:Array Value} {Ts:List Addr} (t:TsOk h b0 no xs ys Ts) {T:Addr} (e:T∈Ts):T<h.objs.size:=by
 obtain⟨j,hj⟩:=List.mem_iff_getElem?.mp e;obtain⟨x,y,_,_,h3⟩:=t.at_ j T hj;exact aBT h3
theorem TsOk.snoc {h:Heap} {b0:Nat} {no:List Addr} {xs ys:Array Value} {Ts:List Addr} {T:Addr} {x y:Value} (t:TsOk h b0 no xs ys Ts) (hx:xs[Ts.length]?=some x) (hy:ys[Ts.length]?=some y) (hT:IsPair h T x y) (hb:b0<=T) (hno:T∉no) (hn:T∉Ts):TsOk h b0 no xs ys (Ts++[T]):=by
 refine⟨fun j T' e=>?_,fun T' e=>?_,?_⟩
 ·rw[List.getElem?_append]at e;split at e
  ·exact t.at_ j T' e
  ·rename_i q
   have:j=Ts.length:=by
    rcases Nat.lt_or_ge (j - Ts.length) 1 with z | z
    ·omega
    ·rw[List.getElem?_eq_none (by simpa using z)]at e;cases e
   subst this;rw[Nat.sub_self]at e;cases e;exact⟨x,y,hx,hy,hT⟩
 ·rcases aBs.mp e with q | q
  ·exact t.new T' q
  ·rw[aBk.mp q];exact⟨hb,hno⟩
 ·rw[List.nodup_append];exact⟨t.nd,by simp,fun a ha b hb' e=>hn (by rw[aBk]at hb';rw[<- hb',<- e];exact ha)⟩
section
variable {prog:Program} {w:World} {A:Around} {R:Result->Shared->Prop}
theorem W3 (hh:A.handled=none) {z TI TO i1 i2 l1 l2 S:Addr} {xs ys:Array Value} {b0:Nat} {res:Value} (D:ZipApart z TI TO i1 i2 l1 l2) (hS:S≠z/\S≠TI/\S≠i1/\S≠i2/\S≠l1/\S≠l2) (hxy:xs.size=ys.size) (hn:xs.size<=sizeLine) :
 ∀ (k:Nat) (s:Shared) (Ts:List Addr) (T:Addr) (f1:Bool) (c:Nat),xs.size - Ts.length=k->Ts.length<=xs.size->T∈Ts->b0<=s.heap.objs.size->IsZ s.heap z TI TO (rawInt T) f1->IsPair s.heap TI (.ref i1) (.ref i2) ->
  s.heap.IsListIter i1 l1 Ts.length->s.heap.IsListIter i2 l2 Ts.length->s.heap.IsList l1 xs->s.heap.IsList l2 ys->TsOk s.heap b0 [z,i1,i2,S] xs ys Ts ->
  s.heap.get? S=some { cls:=.type "list",dict:=none,data:=.seq (Ts.map Value.ref).toArray c,slots:=#[] } ->
  (∀ (h':Heap) (Ts':List Addr) (c':Nat),(∀ b o,b∉[z,i1,i2,S]->s.heap.get? b=some o->h'.get? b=some o)->Ts'.length=xs.size->TsOk h' b0 [z,i1,i2,S] xs ys Ts' ->
   h'.get? S=some { cls:=.type "list",dict:=none,data:=.seq (Ts'.map Value.ref).toArray c',slots:=#[] }->R (.ok (.ret res)) { s with heap:=h' }) ->
  codeAny (model prog w) A (.builtin "list.extend.loop" ⟨[.ref S,.ref z,res],[]⟩) R s:=by
 intro k
 induction k with
 | zero =>
  intro s Ts T f1 c hk hi hT hb hz hTI h1 h2 hl1 hl2 tok hSo hR;obtain⟨j,hj⟩:=List.mem_iff_getElem?.mp hT;obtain⟨_,_,_,_,hTo⟩:=tok.at_ j T hj;refine codeAny_builtin PySem.F.entry_extend_loop ?_;rw[aBZ PySem.F.plain_extend_loop _];show wpAny _ A.in1 (pyNext (.ref z) >>= _) _ _ s;refine aBL (L8 (A:=A.in1) hh D hz hTo hTI h1 hl1 (Array.getElem?_eq_none (by omega)) fun h' kp=>?_);have kp':∀ b o,b∉[z,i1,i2,S]->s.heap.get? b=some o->h'.get? b=some o:=fun b o hb e=>kp b o (fun q=>hb (by simp[q])) (fun q=>hb (by simp[q])) (fun q=>hb (by simp[q])) e;exact aBM (hR h' Ts c kp' (by omega) (tok.keep kp') (kp S _ hS.1 hS.2.2.1 hS.2.2.2.1 hSo))
 | succ k ih =>
  intro s Ts T f1 c hk hi hT hb hz hTI h1 h2 hl1 hl2 tok hSo hR;obtain⟨j,hj⟩:=List.mem_iff_getElem?.mp hT;obtain⟨_,_,_,_,hTo⟩:=tok.at_ j T hj;have hix:Ts.length<xs.size:=by omega
  have hiy:Ts.length<ys.size:=by omega
  refine codeAny_builtin PySem.F.entry_extend_loop ?_;rw[aBZ PySem.F.plain_extend_loop _];show wpAny _ A.in1 (pyNext (.ref z) >>= _) _ _ s;refine aBL (zD (A:=A.in1) D hz hTo hTI h1 h2 hl1 hl2 (aB5 hix) (aB5 hiy) fun h' a1 a2 a3 a4 a5 kp=>?_);have hSo':=kp S _ hS.1 hS.2.2.1 hS.2.2.2.1 hSo;have kp':∀ b o,b∉[z,i1,i2,S]->s.heap.get? b=some o->h'.get? b=some o:=fun b o hb e=>kp b o (fun q=>hb (by simp[q])) (fun q=>hb (by simp[q])) (fun q=>hb (by simp[q])) e;have hnew:s.heap.objs.size∉[z,i1,i2,S]:=fun q=>by
   have lz:=aBT (show s.heap.get? z=some _ from hz);have lS:=aBT hSo;have e1:i1<s.heap.objs.size:=by obtain⟨_,e,_⟩:=h1;exact aBT e
   have e2:i2<s.heap.objs.size:=by obtain⟨_,e,_⟩:=h2;exact aBT e
   simp only[aBr,List.not_mem_nil,or_false]at q;rcases q with q | q | q | q
   ·exact aBe lz q
   ·exact aBe e1 q
   ·exact aBe e2 q
   ·exact aBe lS q
  have tok2:=(tok.keep kp').snoc (aB5 hix) (aB5 hiy) a4 hb hnew fun q=>Nat.lt_irrefl _ (tok.lt q);show wpAny _ A.in1 (updateSeq S (·.push (.ref s.heap.objs.size)) >>= _) _ _ _;refine aBL ?_;have up:∀ b o,b≠S->h'.get? b=some o->(h'.update S (Obj.mapSeq (·.push (.ref s.heap.objs.size)))).get? b=some o:=fun b o hb e=>(aBS _ _ (Ne.symm hb)).trans e;have hS3:(h'.update S (Obj.mapSeq (·.push (.ref s.heap.objs.size)))).get? S=some { cls:=.type "list",dict:=none,data:=.seq (((Ts++[s.heap.objs.size]).map Value.ref).toArray) (c+1),slots:=#[] }:=by
   have:=aB6 (Obj.mapSeq (·.push (Value.ref s.heap.objs.size))) hSo' rfl;rw[this];simp[Obj.mapSeq]
  refine wpAny_updateSeq hSo' rfl (aBM ⟨plainId_quiet PySem.F.plain_extend_loop _,ih _ (Ts++[s.heap.objs.size]) T true (c+1) (by rw[aBW];simp;omega) (by rw[aBW];simp;omega) (aB7 _ hT) ?_ (up _ _ hS.1.symm a1) (up _ _ hS.2.1.symm (kp TI _ D.TIz D.TIi1 D.TIi2 hTI)) ?_ ?_ ?_ ?_ ?_ hS3 fun h'' Ts' c' kp2 hl' tk' hs'=>?_⟩) ?_ ?_
  ·rw[Heap.size_update,a5];exact Nat.le_succ_of_le hb
  ·rw[aBW];exact a2.at fun o e=>up _ o hS.2.2.1.symm e
  ·rw[aBW];exact a3.at fun o e=>up _ o hS.2.2.2.1.symm e
  ·exact hl1.at fun o e=>up _ o hS.2.2.2.2.1.symm (kp l1 o D.l1z D.l1i1 D.l1i2 e)
  ·exact hl2.at fun o e=>up _ o hS.2.2.2.2.2.symm (kp l2 o D.l2z D.l2i1 D.l2i2 e)
  ·exact tok2.keep fun c o hc e=>up c o (fun q=>hc (by simp[q])) e
  ·exact hR h'' Ts' c' (fun b o hb e=>kp2 b o hb (up b o (fun q=>hb (by simp[q])) (kp' b o hb e))) hl' tk' hs'
  ·simp;omega
  ·show ((Ts.map Value.ref).toArray.push _).size<=sizeLine+1;simp;omega
end
open PySem.W
section
variable {prog:Program} {w:World} {A:Around} {E:Value->Shared->Prop} {R:Result->Shared->Prop} {s:Shared}
theorem L9:typeLookup (.type "zip") "__len__"=pure none:=by rw[typeLookup_type,builtinLookup_eq_fast];kernel_rfl
theorem zE:typeLookup (.type "zip") "__length_hint__"=pure none:=by rw[typeLookup_type,builtinLookup_eq_fast];kernel_rfl
theorem W4 {r:Addr} {Q:Bool->Shared->Prop} (hT:s.TypeIs (.ref r) "zip") (h:Q true s):wpAny (model prog w) A (Builtin.List.listLengthHint (.ref r)) Q E s:=by
 unfold Builtin.List.listLengthHint;refine aBL (wpAny_specialOf hT L9 ?_)
 wp_delta
 refine wpAny_ite_split (fun hab=>absurd hab (by decide)) (fun _=>?_);refine wpAny_ite_split (fun hab=>absurd hab (by decide)) (fun _=>?_);refine aBL (wpAny_specialOf hT zE ?_);exact aBM h
theorem C4 (hh:A.handled=none) {z TI TO i1 i2 l1 l2 S:Addr} {xs ys:Array Value} {b0 c:Nat} {res a b:Value} (D:ZipApart z TI TO i1 i2 l1 l2) (hS:S≠z/\S≠TI/\S≠i1/\S≠i2/\S≠l1/\S≠l2) (hTS:S≠TO) (hxy:xs.size=ys.size) (hn:xs.size<=sizeLine) (h1n:1<=xs.size)
 (hb:b0<=s.heap.objs.size) (hz:IsZip s.heap z TI TO .none) (hTI:IsPair s.heap TI (.ref i1) (.ref i2)) (hTO:IsPair s.heap TO a b) (h1:s.heap.IsListIter i1 l1 0) (h2:s.heap.IsListIter i2 l2 0) (hl1:s.heap.IsList l1 xs) (hl2:s.heap.IsList l2 ys)
 (hSo:s.heap.get? S=some { cls:=.type "list",dict:=none,data:=.seq #[] c,slots:=#[] })
 (hR:∀ (h':Heap) (Ts':List Addr) (c':Nat),(∀ x o,x∉[z,i1,i2,S]->x≠TO->s.heap.get? x=some o->h'.get? x=some o)->Ts'.length=xs.size->TsOk h' b0 [z,i1,i2,S] xs ys Ts' ->
  h'.get? S=some { cls:=.type "list",dict:=none,data:=.seq (Ts'.map Value.ref).toArray c',slots:=#[] }->R (.ok (.ret res)) { s with heap:=h' }) :
 codeAny (model prog w) A (.builtin "list.extend.loop" ⟨[.ref S,.ref z,res],[]⟩) R s:=by
 refine codeAny_builtin PySem.F.entry_extend_loop ?_;rw[aBZ PySem.F.plain_extend_loop _];show wpAny _ A.in1 (pyNext (.ref z) >>= _) _ _ s;refine aBL (wpAny_pyNext_zip_item (A:=A.in1) D hz hTI hTO h1 h2 hl1 hl2 (aB5 (show 0<xs.size by omega)) (aB5 (show 0<ys.size by omega)) fun h' a1 a2 a3 a4 a5 a6 kp=>?_);have hSo':=kp S _ hS.1 hTS hS.2.2.1 hS.2.2.2.1 hSo;have hnew:s.heap.objs.size∉[z,i1,i2,S]:=fun q=>by
  have lz:=aBT (show s.heap.get? z=some _ from hz);have lS:=aBT hSo;have e1:i1<s.heap.objs.size:=by obtain⟨_,e,_⟩:=h1;exact aBT e
  have e2:i2<s.heap.objs.size:=by obtain⟨_,e,_⟩:=h2;exact aBT e
  simp only[aBr,List.not_mem_nil,or_false]at q;rcases q with q | q | q | q
  ·exact aBe lz q
  ·exact aBe e1 q
  ·exact aBe e2 q
  ·exact aBe lS q
 have t0:TsOk h' b0 [z,i1,i2,S] xs ys []:=⟨fun j T e=>by simp at e,fun T e=>by simp at e,.nil⟩;have t1:=t0.snoc (T:=s.heap.objs.size) (x:=xs[0]) (y:=ys[0]) (aB5 _) (aB5 _) a5 hb hnew (by simp);show wpAny _ A.in1 (updateSeq S (·.push (.ref s.heap.objs.size)) >>= _) _ _ _;refine aBL ?_;have up:∀ b o,b≠S->h'.get? b=some o->(h'.update S (Obj.mapSeq (·.push (.ref s.heap.objs.size)))).get? b=some o:=fun b o hb e=>(aBS _ _ (Ne.symm hb)).trans e;have hS3:(h'.update S (Obj.mapSeq (·.push (.ref s.heap.objs.size)))).get? S=some { cls:=.type "list",dict:=none,data:=.seq (([s.heap.objs.size].map Value.ref).toArray) (c+1),slots:=#[] }:=by
  have:=aB6 (Obj.mapSeq (·.push (Value.ref s.heap.objs.size))) hSo' rfl;rw[this];simp[Obj.mapSeq]
 refine wpAny_updateSeq hSo' rfl (aBM ⟨plainId_quiet PySem.F.plain_extend_loop _,W3 hh (b0:=b0) (res:=res) D hS hxy hn _ _ [s.heap.objs.size] s.heap.objs.size false (c+1) rfl (by simpa using h1n) (by simp) ?_ (up _ _ hS.1.symm a1) (up _ _ hS.2.1.symm (kp TI _ D.TIz D.TITO D.TIi1 D.TIi2 hTI)) ?_ ?_ ?_ ?_ ?_ hS3 fun h'' Ts' c' kp2 hl' tk' hs'=>?_⟩) ?_ ?_
 ·show b0<=(h'.update S _).objs.size;rw[Heap.size_update,a6];exact Nat.le_succ_of_le hb
 ·exact a3.at fun o e=>up _ o hS.2.2.1.symm e
 ·exact a4.at fun o e=>up _ o hS.2.2.2.1.symm e
 ·exact hl1.at fun o e=>up _ o hS.2.2.2.2.1.symm (kp l1 o D.l1z D.l1TO D.l1i1 D.l1i2 e)
 ·exact hl2.at fun o e=>up _ o hS.2.2.2.2.2.symm (kp l2 o D.l2z D.l2TO D.l2i1 D.l2i2 e)
 ·exact t1.keep fun c o hc e=>up c o (fun q=>hc (by simp[q])) e
 ·refine hR h'' Ts' c' (fun x o hx ht e=>kp2 x o hx (up x o (fun q=>hx (by simp[q])) (kp x o (fun q=>hx (by simp[q])) ht (fun q=>hx (by simp[q])) (fun q=>hx (by simp[q])) e))) hl' tk' hs'
 ·simp
 ·show ((#[]:Array Value).push _).size<=sizeLine+1;simp
end
structure ZS (h:Heap) (z TI TO i1 i2 l1 l2:Addr) (xs ys:Array Value) (a b:Value):Prop where
 hz:IsZip h z TI TO .none
 hTI:IsPair h TI (.ref i1) (.ref i2)
 hTO:IsPair h TO a b
 h1:h.IsListIter i1 l1 0
 h2:h.IsListIter i2 l2 0
 hl1:h.IsList l1 xs
 hl2:h.IsList l2 ys
theorem ZS.keep {h h':Heap} {z TI TO i1 i2 l1 l2 S:Addr} {xs ys:Array Value} {a b:Value} (q:ZS h z TI TO i1 i2 l1 l2 xs ys a b) (hS:S≠z/\S≠TI/\S≠i1/\S≠i2/\S≠l1/\S≠l2) (hTS:S≠TO)
 (k:∀ c o,c≠S->h.get? c=some o->h'.get? c=some o):ZS h' z TI TO i1 i2 l1 l2 xs ys a b :=
 ⟨k _ _ hS.1.symm q.hz,k _ _ hS.2.1.symm q.hTI,k _ _ hTS.symm q.hTO,q.h1.at fun o e=>k _ o hS.2.2.1.symm e,q.h2.at fun o e=>k _ o hS.2.2.2.1.symm e,q.hl1.at fun o e=>k _ o hS.2.2.2.2.1.symm e,q.hl2.at fun o e=>k _ o hS.2.2.2.2.2.symm e⟩
section
variable {prog:Program} {w:World} {A:Around} {E:Value->Shared->Prop} {R:Result->Shared->Prop} {s:Shared}
theorem zF (hh:A.handled=none) {z TI TO i1 i2 l1 l2 S:Addr} {xs ys:Array Value} {b0 c:Nat} {res a b:Value} (D:ZipApart z TI TO i1 i2 l1 l2) (hS:S≠z/\S≠TI/\S≠i1/\S≠i2/\S≠l1/\S≠l2) (hTS:S≠TO) (hxy:xs.size=ys.size) (hn:xs.size<=sizeLine) (h1n:1<=xs.size)
 (hb:b0<=s.heap.objs.size) (q:ZS s.heap z TI TO i1 i2 l1 l2 xs ys a b)
 (hSo:s.heap.get? S=some { cls:=.type "list",data:=.seq #[] c })
 (hR:∀ (h':Heap) (Ts':List Addr) (c':Nat),(∀ x o,x∉[z,i1,i2,S]->x≠TO->s.heap.get? x=some o->h'.get? x=some o)->Ts'.length=xs.size->TsOk h' b0 [z,i1,i2,S] xs ys Ts' ->
  h'.get? S=some { cls:=.type "list",dict:=none,data:=.seq (Ts'.map Value.ref).toArray c',slots:=#[] }->R (.ok (.ret res)) { s with heap:=h' }) :
 wpAny (model prog w) A.in1 (Builtin.List.listExtendWith (.ref S) (.ref z) res)
  (fun fin s'=>match fin with | .done f=>R (.ok f) s' | .again c'=>c'.quiet=true/\codeAny (model prog w) A c' R s') (fun e s'=>R (.error e) s') s:=by
 have hT:s.TypeIs (.ref z) "zip":=⟨_,q.hz,rfl⟩;unfold Builtin.List.listExtendWith;refine aBL (wpAny_typeOf (T:="zip") hT ?_);have h1:Builtin.List.listSameRef (.ref S) (.ref z)=false:=by simp[Builtin.List.listSameRef,hS.1]
 have h2:(Value.type "zip" == Value.type "list")=false:=by decide
 have h3:(Value.type "zip" == Value.type "tuple")=false:=by decide
 simp only[h1,h2,h3,Bool.or_false,Bool.false_eq_true,if_false];refine aBL (wpAny_pyIter_zip q.hz ?_);refine aBL (wpAny_holding (W4 hT ?_));refine wpAny_ite_split (fun _=>?_) (fun _=>aBM ⟨plainId_quiet PySem.F.plain_extend_loop _,C4 hh D hS hTS hxy hn h1n hb q.hz q.hTI q.hTO q.h1 q.h2 q.hl1 q.hl2 hSo hR⟩);refine aBL (wpAny_rule ?_);refine aBL ?_;show wpAny _ _ (updateSeq S (·.push .none) >>= fun _=>updateSeq S (·.pop)) _ _ _;refine aBL (wpAny_updateSeq hSo rfl ?_);have hS₂:=aB6 (Obj.mapSeq (·.push Value.none)) hSo rfl;refine wpAny_updateSeq (hz:=by seq_fits) hS₂ rfl ?_;have hS₃:=aB6 (Obj.mapSeq (·.pop)) hS₂ rfl;have oth:∀ b o,b≠S->s.heap.get? b=some o->((s.heap.update S (Obj.mapSeq (·.push Value.none))).update S (Obj.mapSeq (·.pop))).get? b=some o :=
  fun b o hb e=>(aBS _ _ (Ne.symm hb)).trans ((aBS _ _ (Ne.symm hb)).trans e)
 have q':=q.keep hS hTS oth;have hS₄:((s.heap.update S (Obj.mapSeq (·.push Value.none))).update S (Obj.mapSeq (·.pop))).get? S=some { cls:=.type "list",dict:=none,data:=.seq #[] (c+1+1),slots:=#[] }:=hS₃;refine aBM ⟨plainId_quiet PySem.F.plain_extend_loop _,C4 (b0:=b0) hh D hS hTS hxy hn h1n ?_ q'.hz q'.hTI q'.hTO q'.h1 q'.h2 q'.hl1 q'.hl2 hS₄ fun h' Ts' c' k hl tok hs=>?_⟩
 ·show b0<=((s.heap.update S _).update S _).objs.size;rw[Heap.size_update,Heap.size_update];exact hb
 ·exact hR h' Ts' c' (fun x o hx ht e=>k x o hx ht (oth x o (fun z=>hx (by simp[z])) e)) hl tok hs
theorem W5 (hh:A.handled=none) {z TI TO i1 i2 l1 l2 S:Addr} {xs ys:Array Value} {b0:Nat} {a b:Value} (D:ZipApart z TI TO i1 i2 l1 l2) (hS:S≠z/\S≠TI/\S≠i1/\S≠i2/\S≠l1/\S≠l2) (hTS:S≠TO) (hxy:xs.size=ys.size) (hn:xs.size<=sizeLine) (h1n:1<=xs.size)
 (hb:b0<=s.heap.objs.size) (q:ZS s.heap z TI TO i1 i2 l1 l2 xs ys a b)
 (hSo:s.heap.get? S=some { cls:=.type "list",data:=.seq #[] })
 (hR:∀ (h':Heap) (Ts':List Addr) (c':Nat),(∀ x o,x∉[z,i1,i2,S]->x≠TO->s.heap.get? x=some o->h'.get? x=some o)->Ts'.length=xs.size->TsOk h' b0 [z,i1,i2,S] xs ys Ts' ->
  h'.get? S=some { cls:=.type "list",dict:=none,data:=.seq (Ts'.map Value.ref).toArray c',slots:=#[] }->R (.ok (.ret .none)) { s with heap:=h' }) :
 wpAny (model prog w) A.in1 (Builtin.«list.__init__» ⟨[.ref S,.ref z],[]⟩)
  (fun fin s'=>match fin with | .done f=>R (.ok f) s' | .again c'=>c'.quiet=true/\codeAny (model prog w) A c' R s') (fun e s'=>R (.error e) s') s:=by
 show wpAny _ _ (do let old <- Builtin.List.listItems (.ref S);Builtin.List.listUpdate (.ref S) (fun _=>#[]);letGo old.toList.reverse;Builtin.List.listExtendWith (.ref S) (.ref z) .none) _ _ s;refine aBL ?_;unfold Builtin.List.listItems;refine aBL (wpAny_seqItems hSo rfl (aBM ?_));show wpAny _ _ (updateSeq S (fun _=>#[]) >>= fun _=>letGo (#[]:Array Value).toList.reverse >>= fun _=>Builtin.List.listExtendWith (.ref S) (.ref z) .none) _ _ s;refine aBL (wpAny_updateSeq hSo rfl ?_);have hS₂:=aB6 (Obj.mapSeq (fun _=>(#[]:Array Value))) hSo rfl;have oth:∀ b o,b≠S->s.heap.get? b=some o->(s.heap.update S (Obj.mapSeq (fun _=>(#[]:Array Value)))).get? b=some o :=
  fun b o hb e=>(aBS _ _ (Ne.symm hb)).trans e
 refine aBL (wpAny_letGo ?_);refine zF (b0:=b0) hh D hS hTS hxy hn h1n ?_ (q.keep hS hTS oth) hS₂ fun h' Ts' c' k hl tok hs=>?_
 ·show b0<=(s.heap.update S _).objs.size;rw[Heap.size_update];exact hb
 ·exact hR h' Ts' c' (fun x o hx ht e=>k x o hx ht (oth x o (fun z=>hx (by simp[z])) e)) hl tok hs
theorem W6 {Q:Value->Shared->Prop} (hh:A.handled=none) {z TI TO i1 i2 l1 l2:Addr} {xs ys:Array Value} {a b:Value} (D:ZipApart z TI TO i1 i2 l1 l2) (hxy:xs.size=ys.size) (hn:xs.size<=sizeLine) (h1n:1<=xs.size)
 (q:ZS s.heap z TI TO i1 i2 l1 l2 xs ys a b)
 (hQ:∀ (h':Heap) (Ts':List Addr) (c':Nat),(∀ x o,x∉[z,i1,i2,TO]->s.heap.get? x=some o->h'.get? x=some o)->Ts'.length=xs.size->TsOk h' (s.heap.objs.size+1) [z,i1,i2,s.heap.objs.size] xs ys Ts' ->
  h'.get? s.heap.objs.size=some { cls:=.type "list",dict:=none,data:=.seq (Ts'.map Value.ref).toArray c',slots:=#[] }->Q (.ref s.heap.objs.size) { s with heap:=h' }) :
 wpAny (model prog w) A (call (.type "list") [.ref z]) Q E s:=by
 refine callType_codes (Q₁:=fun obj s₁=>obj=.ref s.heap.objs.size/\s₁={ s with heap:=s.heap.push { cls:=.type "list",data:=.seq #[] } }) PySem.F.called_list (PySem.F.typeCall_list_1 _) PySem.F.entry_list_init
  (code_list_new _ ⟨rfl,rfl⟩) fun obj s₁ h₁=>?_
 obtain⟨rfl,rfl⟩:=h₁;have hS:(s.heap.push { cls:=.type "list",data:=.seq #[] }).get? s.heap.objs.size=some { cls:=.type "list",data:=.seq #[] }:=aBU _ rfl;have lt:∀ {c o},s.heap.get? c=some o->s.heap.objs.size≠c:=fun e=>aBe (aBT e);have n1:s.heap.objs.size≠i1:=by obtain⟨_,e,_⟩:=q.h1;exact lt e
 have n2:s.heap.objs.size≠i2:=by obtain⟨_,e,_⟩:=q.h2;exact lt e
 have n3:s.heap.objs.size≠l1:=by obtain⟨_,e,_⟩:=q.hl1;exact lt e
 have n4:s.heap.objs.size≠l2:=by obtain⟨_,e,_⟩:=q.hl2;exact lt e
 have hS6:s.heap.objs.size≠z/\s.heap.objs.size≠TI/\s.heap.objs.size≠i1/\s.heap.objs.size≠i2/\s.heap.objs.size≠l1/\s.heap.objs.size≠l2:=⟨lt q.hz,lt q.hTI,n1,n2,n3,n4⟩;refine⟨⟨_,hS,rfl⟩,PySem.F.args_list_init_2 _ _,W5 (A:=A.in1) (b0:=s.heap.objs.size+1) hh D hS6 (lt q.hTO) hxy hn h1n ?_ (q.keep hS6 (lt q.hTO) fun c o _ e=>aBO _ e) hS fun h' Ts' c' k hl tok hs=>?_⟩
 ·show _<=(s.heap.push _).objs.size;rw[Heap.size_push];exact Nat.le_refl _
 ·refine⟨rfl,hQ h' Ts' c' (fun x o hx e=>k x o (fun hm=>?_) (fun z=>hx (by simp[z])) (aBO _ e)) hl tok hs⟩;simp only[aBr,List.not_mem_nil,or_false]at hm;rcases hm with z | z | z | z
  ·exact hx (by simp[z])
  ·exact hx (by simp[z])
  ·exact hx (by simp[z])
  ·exact lt e z.symm
end
def jI:List Addr->List V->List V->Addr->Option (V×V)
 | T :: Ts,x :: xs,y :: ys,b=>if b=T then some (x,y)else jI Ts xs ys b
 | _,_,_,_=>none
theorem lL:∀ {Ts:List Addr} {xs ys:List V} {b:Addr} {p:V×V},jI Ts xs ys b=some p->b∈Ts/\∃ j:Nat,Ts[j]?=some b/\xs[j]?=some p.1/\ys[j]?=some p.2
 | [],_,_,_,_,h=>by simp[jI]at h
 | T :: Ts,[],_,_,_,h=>by simp[jI]at h
 | T :: Ts,x :: xs,[],_,_,h=>by simp[jI]at h
 | T :: Ts,x :: xs,y :: ys,b,p,h=>by
  unfold jI at h;split at h
  ·rename_i e
   cases h;subst e;exact⟨aBP,0,rfl,rfl,rfl⟩
  ·obtain⟨h1,j,h2,h3,h4⟩:=lL h;exact⟨aBQ _ h1,j+1,by simpa using h2,by simpa using h3,by simpa using h4⟩
theorem xI:∀ {Ts:List Addr} {xs ys:List V} {j:Nat} {T:Addr} {x y:V},Ts.Nodup->Ts[j]?=some T->xs[j]?=some x->ys[j]?=some y->jI Ts xs ys T=some (x,y)
 | [],_,_,_,_,_,_,_,h,_,_=>by simp at h
 | T0 :: Ts,[],_,_,_,_,_,_,_,h,_=>by simp at h
 | T0 :: Ts,x0 :: xs,[],_,_,_,_,_,_,_,h=>by simp at h
 | T0 :: Ts,x0 :: xs,y0 :: ys,0,T,x,y,_,h,h1,h2=>by
  simp at h h1 h2;subst h h1 h2;simp[jI]
 | T0 :: Ts,x0 :: xs,y0 :: ys,j+1,T,x,y,nd,h,h1,h2=>by
  rw[List.nodup_cons]at nd;simp only[List.getElem?_cons_succ]at h h1 h2;have:T≠T0:=fun e=>nd.1 (by rw[<- e];exact aBY h);unfold jI;rw[if_neg this];exact xI nd.2 h h1 h2
def nD (H:Hp) (S:Addr) (Ts:List Addr) (xs ys:List V):Hp:=fun b=>if b=S then some (.lst (Ts.map V.ref))else match jI Ts xs ys b with | some p=>some (.tup [p.1,p.2]) | none=>H b
theorem tL:∀ Ts:List Addr,Vals (Ts.map V.ref) (Ts.map Value.ref)
 | []=>.nil
 | T :: Ts=>.cons rfl (tL Ts)
section
variable {X:Cx} {x y:Str} {a b:Expr} {ta:TA} {p p2 pos pos2:Pos}
def W7 (K:PySem.W.Frag) (ta:TA):TE:=fun σ H Q=>ta σ H fun vs H1=>∃ a b xs ys,vs=[.ref a,.ref b]/\SqL K H1 a xs/\SqL K H1 b ys/\xs.length=ys.length/\1<=xs.length /\
 ∀ (S:Addr) (Ts:List Addr) (H':Hp),H1 S=none->Same H1 H'->H' S=some (.lst (Ts.map V.ref))->Ts.length=xs.length->(∀ (j:Nat) (T:Addr),Ts[j]?=some T->∃ x y,xs[j]?=some x/\ys[j]?=some y/\H' T=some (.tup [x,y]))->Q (.ref S) H'
theorem zG (hc:X.calm=true) (hg:Gl X "list") (hm:X.mg "list"=none) (hg2:Gl X "zip") (hm2:X.mg "zip"=none) (ha:PA X [a,b] ta)
 (hs:starEach [a,b] X.env=[(false,eval a X.env),(false,eval b X.env)]:=by rfl) (hs2:starEach [b] X.env=[(false,eval b X.env)]:=by rfl) :
 PE X (.Call (.Name "list" p) [.Call (.Name "zip" p2) [a,b] [] pos2] [] pos) (W7 X.K ta):=by
 intro pins s σ H Q I h;refine wpAny_Call_Name_kw (gF I hg hm bZ ?_ (by decide) (by decide));refine PyProof.Rows.callWith_type1 ?_ rfl rfl;show wpAny _ _ (spliced ((false,eval (.Call (.Name "zip" p2) [a,b] [] pos2) X.env) :: backTo pos (starEach [] X.env))) _ _ s;refine Calls.spliced_cons ?_;refine Call_ (gF I hg2 hm2 P9 (PyProof.Rows.callWith_type1 (thn (ha pos2 pins s σ H _ I h) fun us s1 ⟨vs,H1,I1,r1,q1⟩=>?_) (by rw[hs,hs2]) (by rw[hs2];rfl)));obtain⟨a,b,xs,ys,rfl,hq,hq2,hxy,h1n,q⟩:=q1;obtain⟨u,v,rfl,rx,ry⟩:=r1.two;cases rx;cases ry;obtain⟨its,rv,pl,hz1⟩:=I1.list hq;obtain⟨its2,rv2,pl2,hz2⟩:=I1.list hq2;have hl1:=rv.length;have hl2:=rv2.length;have la:a<s1.heap.objs.size:=by obtain⟨_,_,z,_⟩:=pl;exact aBT z
 have lb:b<s1.heap.objs.size:=by obtain⟨_,_,z,_⟩:=pl2;exact aBT z
 refine call_zip_2 pl.isList pl2.isList fun h' g1 g2 g3 g4 g5 g6 kp=>?_;generalize hn:s1.heap.objs.size=n at la lb g1 g2 g3 g4 g5 g6;refine Calls.spliced_nil ?_;have ne:∀ i j:Nat,i≠j->(n+i:Nat)≠n+j:=fun i j h z=>h (Nat.add_left_cancel z);have na:∀ i:Nat,a≠n+i:=fun i=>aBb (aB4 la (Nat.le_add_right _ _));have nb:∀ i:Nat,b≠n+i:=fun i=>aBb (aB4 lb (Nat.le_add_right _ _));have D:ZipApart (n+4) (n+2) (n+3) n (n+1) a b :=
  ⟨ne 2 4 (by decide),ne 3 4 (by decide),ne 0 4 (by decide),ne 1 4 (by decide),ne 2 3 (by decide),ne 2 0 (by decide),ne 2 1 (by decide),ne 3 0 (by decide),ne 3 1 (by decide),ne 0 1 (by decide),na 4,na 3,na 0,na 1,nb 4,nb 3,nb 0,nb 1⟩
 have es1:its.toArray.size=xs.length:=by rw[aBV];exact hl1.symm
 have es2:its2.toArray.size=ys.length:=by rw[aBV];exact hl2.symm
 have zs:ZS h' (n+4) (n+2) (n+3) n (n+1) a b its.toArray its2.toArray .none .none:=⟨g1,g2,g3,g4,g5,pl.isList.at fun o e=>kp _ o e,pl2.isList.at fun o e=>kp _ o e⟩;refine W6 (s:={ s1 with heap:=h' }) (I1.ok.hd hc) D (by rw[es1,es2,hxy]) (by rw[es1];exact hz1) (by rw[es1];exact h1n) zs fun h2 Ts c' k hl tok hs=>?_;have hsz:({ s1 with heap:=h' }:Shared).heap.objs.size=n+5:=g6;rw[hsz]at hs tok ⊢;have kall:∀ c o,s1.heap.get? c=some o->h2.get? c=some o:=fun c o e=>by
  have lc:=aBT e;rw[hn]at lc;refine k c o (fun hm=>?_) (kp c o e);simp only[aBr,List.not_mem_nil,or_false]at hm;have hm':c=n+4\/c=n\/c=n+1\/c=n+3:=hm;rcases hm' with z | z | z | z
  ·exact Nat.lt_irrefl _ (aB4 lc (by rw[z];exact Nat.le_add_right _ _))
  ·exact Nat.lt_irrefl _ (aB4 lc (by rw[z];exact Nat.le_refl _))
  ·exact Nat.lt_irrefl _ (aB4 lc (by rw[z];exact Nat.le_add_right _ _))
  ·exact Nat.lt_irrefl _ (aB4 lc (by rw[z];exact Nat.le_add_right _ _))
 have nS:∀ c o,H1 c=some o->c≠n+5:=fun c o e z=>by
  have lc:=(I1.hok c o e).lt;rw[hn,z]at lc;exact Nat.lt_irrefl _ (aB4 lc (Nat.le_add_right _ _))
 have nT:∀ T∈Ts,n+5<T:=fun T hT=>(tok.new T hT).1;have nTs:∀ c o,H1 c=some o->c∉Ts:=fun c o e z=>by
  have lc:=(I1.hok c o e).lt;rw[hn]at lc;exact Nat.lt_irrefl _ (Nat.lt_trans lc (Nat.lt_of_le_of_lt (Nat.le_add_right _ _) (nT c z)))
 have ext:∀ c o,H1 c=some o->nD H1 (n+5) Ts xs ys c=some o:=fun c o e=>by
  unfold nD;rw[if_neg (nS c o e)];cases hz:jI Ts xs ys c with
  | none=>exact e
  | some p=>exact absurd (lL hz).1 (nTs c o e)
 have atS:nD H1 (n+5) Ts xs ys (n+5)=some (.lst (Ts.map V.ref)):=by unfold nD;rw[if_pos rfl]
 have atT:∀ (j:Nat) T,Ts[j]?=some T->∃ x y,xs[j]?=some x/\ys[j]?=some y/\nD H1 (n+5) Ts xs ys T=some (.tup [x,y]):=fun j T e=>by
  have hj:j<Ts.length:=(aBq.mp e).1;have j1:j<xs.length:=by rw[hl,es1]at hj;exact hj
  have j2:j<ys.length:=by rw[<- hxy];exact j1
  refine⟨xs[j],ys[j],aBX j1,aBX j2,?_⟩;unfold nD;rw[if_neg (aBe (nT T (aBY e))),xI tok.nd e (aBX j1) (aBX j2)]
 refine⟨.ref (n+5),nD H1 (n+5) Ts xs ys,I1.many (h':=h2) (t':=s1.toks) kall ext (fun c o e hN=>?_) (fun c o e hN=>?_) (fun c o e=>?_),rfl,q _ Ts _ (I1.hok.fresh (by rw[hn];exact Nat.le_add_right _ _)) ext atS (by rw[hl,es1]) atT⟩
 ·rw[hn];unfold nD at e;split at e
  ·rename_i z;rw[z];exact Nat.le_add_right _ _
  ·cases hz:jI Ts xs ys c with
   | none=>rw[hz]at e;rw[hN]at e;cases e
   | some p=>exact Nat.le_trans (Nat.le_add_right _ _) (Nat.le_of_lt (nT c (lL hz).1))
 ·unfold nD at e;split at e
  ·rename_i z
   cases e;rw[z];exact⟨by rw[aBN,hl,es1];exact hz1,Ts.map Value.ref,c',tL Ts,hs⟩
  ·cases hz:jI Ts xs ys c with
   | none=>rw[hz]at e;rw[hN]at e;cases e
   | some p =>
    rw[hz]at e;cases e;obtain⟨_,j,h1,h2',h3⟩:=lL hz;obtain⟨u,v,hu,hv,hp⟩:=tok.at_ j c h1;obtain⟨u',hu',ru⟩:=rv.get h2';obtain⟨v',hv',rv'⟩:=rv2.get h3;rw[List.getElem?_toArray,hu']at hu;rw[List.getElem?_toArray,hv']at hv;cases hu;cases hv;exact⟨by show 2<=sizeLine;decide,[u,v],.cons ru (.cons rv' .nil),_,hp,rfl,_,rfl⟩
 ·exact(I1.hok c o e).stay (fun c' u _ e=>kall c' u e) (fun c' e=>ext _ _ e) (fun c' xs e=>ext _ _ e)
end
theorem M0 {X:Cx} (K:PySem.W.Frag) (hK:X.K=K):eY X (.builtin "isinstance") (fun xs H Q=>∃ x T d b,xs=[x,.ty T]/\Den H x d/\PySem.W.kitOne K (.type (tyD d)) (.type T)=some b/\Q (.bl b) H):=by
 subst hK;exact aZ
end L2
namespace CW
open PySem L2
theorem C5:∀ {ns:List Int},(∀ n∈ns,1<=n)->13 * ((ns.filter fun n=>decide (12<n)).length:Int)<=ns.sum/\0<=ns.sum
 | [],_=>⟨by simp,by simp⟩
 | n :: ns,h=>by
  have ih:=C5 (ns:=ns) fun m hm=>h m (aBQ _ hm);have h1:=h n aBP;rw[List.filter_cons,aBg]
  by_cases c:12<n
  ·rw[if_pos (aBa c),aBh];omega
  ·rw[if_neg (by simpa using c)];omega
theorem aAe {ns:List Int} (h:∀ n∈ns,1<=n) (hs:ns.sum<=80):(bK ns).length<=18:=by
 have nd:=fX ns;have e:(bK ns).length=((bK ns).filter fun n=>decide (12<n)).length+((bK ns).filter fun n=>!decide (12<n)).length:=by
  have:=(List.filter_append_perm (fun n:Int=>decide (12<n)) (bK ns)).length_eq;rw[aBW]at this;exact this.symm
 have h1:((bK ns).filter fun n=>decide (12<n)).length<=(ns.filter fun n=>decide (12<n)).length:=by
  refine List.Nodup.length_le_of_subset (List.Pairwise.filter _ nd) fun k hk=>?_;obtain⟨a,b⟩:=aBu.mp hk;exact aBu.mpr ⟨(dP ns k).mp a,b⟩
 have h2:((bK ns).filter fun n=>!decide (12<n)).length<=((List.range 12).map (fun i:Nat=>(i:Int)+1)).length:=by
  refine List.Nodup.length_le_of_subset (List.Pairwise.filter _ nd) fun k hk=>?_;obtain⟨a,b⟩:=aBu.mp hk;have:=h k ((dP ns k).mp a);have b':¬ 12<k:=by simpa using b
  exact aBt.mpr ⟨(k - 1).toNat,List.mem_range.mpr (by omega),by omega⟩
 rw[aBN,List.length_range]at h2;have:=(C5 h).1;omega
theorem M3 {ns:List Int} (h:(bK ns).length<=1):∀ x∈ns,∀ y∈ns,x=y:=by
 intro x hx y hy;have a:=(dP ns x).mpr hx;have b:=(dP ns y).mpr hy
 match hd:bK ns with
 | []=>rw[hd]at a;cases a
 | [z]=>rw[hd]at a b;rw[aBk.mp a,aBk.mp b]
 | _ :: _ :: _=>rw[hd]at h;simp at h
theorem M4 {ns:List Int} (h:∀ x∈ns,∀ y∈ns,x=y):(bK ns).length<=1:=by
 have nd:=fX ns
 match hd:bK ns with
 | []=>simp
 | [z]=>simp
 | x :: y :: l =>
  rw[hd]at nd;have hx:=(dP ns x).mp (by rw[hd];simp);have hy:=(dP ns y).mp (by rw[hd];simp);have:=h x hx y hy;simp[this]at nd
def gH (a b:List Int):List Int:=List.zipWith (fun x y=>y - x) a b
theorem xJ {a:List Int} {g:Int}:∀ x∈gH a (a.map (·+g)),x=g:=by
 induction a with
 | nil=>intro x hx;cases hx
 | cons z a ih =>
  intro x hx;unfold gH at hx ih;rw[aBd,List.zipWith_cons_cons]at hx;rcases aBr.mp hx with e | e
  ·omega
  ·exact ih x e
theorem xL:∀ {a b:List Int} {g:Int},a.length=b.length->(∀ x∈gH a b,x=g)->a.map (·+g)=b
 | [],[],_,_,_=>rfl
 | [],_ :: _,_,h,_=>by simp at h
 | _ :: _,[],_,h,_=>by simp at h
 | x :: a,y :: b,g,h,hx=>by
  have e:gH (x :: a) (y :: b)=(y - x) :: gH a b:=rfl;rw[e]at hx;have h1:=hx (y - x) aBP;have h2:=xL (a:=a) (b:=b) (g:=g) (by simpa using h) fun z hz=>hx z (aBQ _ hz);rw[aBd,h2]
  congr 1
  omega
theorem xM {a b:List Int} (hl:a.length=b.length) (hn:a≠[]):1<(bK (gH a b)).length↔∀ g:Int,a.map (·+g)≠b:=by
 constructor
 ·intro h g e;have:(bK (gH a b)).length<=1:=M4 fun x hx y hy=>by
   rw[<- e]at hx hy;rw[xJ x hx,xJ y hy]
  omega
 ·intro h;apply Decidable.byContradiction
  intro c;have h1:=M3 (ns:=gH a b) (by omega)
  match a,b,hl,hn with
  | x :: a,y :: b,hl,_ =>
   refine h (y - x) (xL hl fun z hz=>h1 z hz (y - x) ?_);show y - x∈(y - x) :: gH a b;exact aBP
structure W8 (ps1 ps2:Trs) (bs:List (Str×Int)):Prop where
 sz:∀ s,(aM ps1 s).length≠(aM ps2 s).length->(("sizes":Str),s)∈bs
 ap:(∀ s,(aM ps1 s).length=(aM ps2 s).length)->∀ s,(∀ g:Int,(aM ps1 s).map (·+g)≠aM ps2 s)->(("apart":Str),s)∈bs
 no:(∀ s,(aM ps1 s).length=(aM ps2 s).length)->(∀ s,aM ps1 s≠[]->∃ g:Int,aM ps2 s=(aM ps1 s).map (·+g))->bs=[]
 len:bs.length<=18
 txt:∀ b∈bs,PyData.strOk b.1=true
def aAf (H:Hp) (v:V) (b:Str×Int):Prop:=∃ t,v=.ref t/\H t=some (.tup [.str b.1,.int b.2])
abbrev Brs (H:Hp):List V->List (Str×Int)->Prop:=Paired (aAf H)
theorem Brs.mono {H H':Hp} (h:TupS H H') {vs:List V} {ps:List (Str×Int)} (r:Brs H vs ps):Brs H' vs ps:=Paired.mapP r fun _ _ ⟨t,e,q⟩=>⟨t,e,h _ _ q⟩
def bD (p:Str×Int):PyData:=.tuple [.str p.1,.int p.2]
theorem Brs.dens {H:Hp}:∀ {vs:List V} {ps:List (Str×Int)},Brs H vs ps->Dens H vs (ps.map bD)
 | _,_,.nil=>.nil
 | _,_,.cons ⟨t,e,q⟩ r=>by subst e;exact .cons (.tup q (.cons (.str _) (.cons (.int _) .nil))) (Brs.dens r)
theorem xN {ps:List (Str×Int)} (h:∀ b∈ps,PyData.strOk b.1=true):PyData.canLayAll0 (ps.map bD)=true:=by
 induction ps with
 | nil=>rfl
 | cons p ps ih=>simp[PyData.canLayAll0,PyData.canLay0,bD,ih fun b hb=>h b (aBQ _ hb),h p aBP]
theorem zH (ps:List (Str×Int)):PyData.depthAll (ps.map bD)<=1:=by
 induction ps with
 | nil=>simp[PyData.depthAll]
 | cons p ps ih=>simp[PyData.depthAll,PyData.depth,bD];omega
theorem oO {ps:List (Str×Int)} (ht:∀ b∈ps,PyData.strOk b.1=true):SeqAt.shaped (.list (ps.map bD))=true:=by
 have h:=zH ps;simp only[SeqAt.shaped,PyData.canLay0,xN ht,PyData.depth,Bool.true_and];exact aBa (by omega)
theorem nE (bs:List (Str×Int)):PyData.eqv (.list (bs.map bD)) (.list (([]:List Int).map PyData.int))=decide (bs=[]):=by
 cases bs with
 | nil=>rfl
 | cons b bs=>rw[aB9 (by simp)];rfl
inductive uZ (vs:List V) (H:Hp) (Q:VK) (E_:XK):Prop
 | mk (a b:Addr) (ps1 ps2:Trs) (h0_:vs=[.ref a,.ref b]) (h1_:LP H a ps1) (h2_:LP H b ps2) (h3_:∀ p∈ps1++ps2,1<=p.1) (h4_:siz (ps1++ps2)<=80) (h5_:ps1.length<=60) (h6_:ps2.length<=60)
  (h7_:∀ (bs:List (Str×Int)) (l:Addr) (us:List V) (H':Hp),H l=none->Same H H'->H' l=some (.lst us)->Brs H' us bs->W8 ps1 ps2 bs->Q (.ref l) H'):uZ vs H Q E_
inductive z6 (H3:Hp) (f:Int->Bool) (x:Str) (ms:List Int) (a b l2 l3:Addr) (i:Nat) (σ:St) (Hx:Hp):Prop
 | mk (v4 v5:Option V) (us:List V) (h0_:σ=[some (.ref a),some (.ref b),some (.ref l2),some (.ref l3),v4,v5]) (h1_:Hx l2=some (.lst us)) (h2_:Brs Hx us (((ms.take i).filter f).map fun s=>(x,s)))
  (h3_:∀ y o,y≠l2->H3 y=some o->Hx y=some o):z6 H3 f x ms a b l2 l3 i σ Hx
theorem kU {ps:Trs} {s:Int}:aM ps s≠[]↔∃ p∈ps,p.1=s:=by
 constructor
 ·intro h;obtain⟨o,ho⟩:=List.exists_mem_of_ne_nil _ h;obtain⟨p,hp1,_⟩:=aBt.mp ho;obtain⟨h1,h2⟩:=aBu.mp hp1;exact⟨p,h1,by simpa using h2⟩
 ·rintro ⟨p,hp,e⟩ z;have:p.2∈aM ps s:=aBt.mpr ⟨p,aBu.mpr ⟨hp,by simpa using e⟩,rfl⟩;rw[z]at this;cases this
theorem iL {ms:List Int} {f:Int->Bool} {i:Nat} {s:Int} (h:ms[i]?=some s):(ms.take (i+1)).filter f=(ms.take i).filter f++if f s then [s]else []:=by
 rw[aBj,h,List.filter_append];cases hf:f s <;> simp[hf]
inductive pK (vs:List V) (H:Hp) (Q:VK) (E_:XK):Prop
 | str (x y:Str) (h0_:vs=[.str x,.str y]) (hx_:PyData.strOk x=true) (hy_:PyData.strOk y=true) (h1_:∀ H',Same H H'->Q (.bl (decide (x=y))) H'):pK vs H Q E_
 | int (x y:Int) (h0_:vs=[.int x,.int y]) (h1_:∀ H',Same H H'->Q (.bl (decide (x=y))) H'):pK vs H Q E_
inductive lM (vs:List V) (H:Hp) (Q:VK) (E_:XK):Prop
 | mk (t u:Addr) (x y:Str×Int) (h0_:vs=[.ref t,.ref u]) (h1_:H t=some (.tup [.str x.1,.int x.2])) (h2_:H u=some (.tup [.str y.1,.int y.2])) (hx_:PyData.strOk x.1=true) (hy_:PyData.strOk y.1=true) (h3_:∀ H',Same H H'->Q (.bl (decide (x=y))) H'):lM vs H Q E_
theorem nF {x:Str} (h:PyData.strOk x=true):SeqAt.shaped (.str x)=true:=by
 simp[SeqAt.shaped,PyData.canLay0,PyData.depth,h]
theorem C6 (i:Int):SeqAt.shaped (.int i)=true:=by
 simp[SeqAt.shaped,PyData.canLay0,PyData.depth]
theorem aAg (x y:Str):PyData.eqv (.str x) (.str y)=decide (x=y):=by
 show (x == y)=decide (x=y);rw[Bool.eq_iff_iff];simp
theorem aBK (x y:Int):PyData.eqv (.int x) (.int y)=decide (x=y):=by
 show (x == y)=decide (x=y);rw[Bool.eq_iff_iff];simp
theorem M5 (x y:Str×Int):([decide (x.1=y.1),decide (x.2=y.2)]:List Bool).all id=decide (x=y):=by
 rw[Bool.eq_iff_iff];simp[Prod.ext_iff]
def W9 (a b:Sp):Sp:=fun vs H Q E=>a vs H Q E\/b vs H Q E
section
variable {P:Program} {w:World} {K:PySem.W.Frag} {mg:Str->Option Value} {base:Heap} {CX:CXT}
theorem aAh {k:Nat} {f:Addr} {fd:FuncData} {ps:List Str} {a b:Sp} (F:FnOk P w K mg base CX k f fd ps a) (G:FnOk P w K mg base CX k f fd ps b):FnOk P w K mg base CX k f fd ps (W9 a b) where
 len:=fun vs H Q E h=>h.elim (F.len vs H Q E) (G.len vs H Q E)
 run:=fun A outer s H args us vs Q E hr he hb hv h=>h.elim (fun z=>F.run A outer s H args us vs Q E hr he hb hv z) fun z=>G.run A outer s H args us vs Q E hr he hb hv z
end
theorem z7 (l:List Int):∃ M:Int,mxD l (V.int 0)=V.int M/\∀ x∈l,x<=M:=by
 cases l with
 | nil=>exact⟨0,rfl,fun x hx=>nomatch hx⟩
 | cons n r =>
  obtain⟨_,b,c⟩:=dH r n;exact⟨r.foldl max n,rfl,fun x hx=>by
   rcases aBr.mp hx with e | e
   ·rw[e];exact b
   ·exact c x e⟩
inductive i7 (vs:List V) (H:Hp) (Q:VK) (E_:XK):Prop
 | mk (a b c:Addr) (r1 r2:List Int) (ps1 ws:Trs) (h0_:vs=[.ref a,.ref b,.ref c]) (h1_:H a=some (.lst (r1.map V.int))) (h2_:Row r1) (h3_:r1.length<=60) (h4_:H b=some (.lst (r2.map V.int))) (h5_:LP H c ws) (h6_:ws.length<=60)
  (h7_:Lst r1 ps1) (h8_:Lst r2 (cR ps1 ws)) (h9_:∀ q∈ws,1<=q.1/\(∃ p∈ps1,q.1<=p.1)/\q.2≠0) (h10_:(ws.map (·.1)).Nodup) (h11_:∀ H',Same H H'->Q (.bl true) H'):i7 vs H Q E_
theorem M6 (a b:List Int):SeqAt.shaped (.list [.list (a.map PyData.int),.list (b.map PyData.int)])=true:=by
 simp[SeqAt.shaped,PyData.canLay0,PyData.canLayAll0,oE,PyData.depth,PyData.depthAll,lW]
inductive pL (vs:List V) (H:Hp) (Q:VK) (E_:XK):Prop
 | mk (a b:Addr) (r1 r2:List Int) (h0_:vs=[.ref a,.ref b]) (h1_:H a=some (.lst (r1.map V.int))) (h2_:Row r1) (h3_:r1.length<=40) (h4_:H b=some (.lst (r2.map V.int))) (h5_:Row r2) (h6_:r2.length<=40)
  (h7_:∀ H',Same H H'->Q (.bl true) H'):pL vs H Q E_
theorem KinRes.den {ps1 ps2:Trs} {H H':Hp} {xs:List V} (h:KinRes ps1 ps2 H H' xs):xs.length=2/\∃ ds,Dens H' xs ds:=by
 cases h with
 | sizes s _=>exact⟨rfl,_,.cons (.str _) (.cons (.int _) .nil)⟩
 | apart s _ _=>exact⟨rfl,_,.cons (.str _) (.cons (.int _) .nil)⟩
 | walks l us ms k hm hl el pr=>exact⟨rfl,_,.cons (.str _) (.cons (.lst el (Prs.dens pr)) .nil)⟩
theorem KinRes.bars {ps1 ps2:Trs} {H H':Hp} {xs:List V} {bs:List (Str×Int)} (h:KinRes ps1 ps2 H H' xs) (bo:W8 ps1 ps2 bs):(∃ x:Str×Int,xs=[.str x.1,.int x.2]/\x∈bs) \/
 ∃ (l:Addr) (us:List V) (ms:List (Int×Int)),xs=[.str "walks",.ref l]/\KinG ps1 ps2 ms/\(∀ m∈ms,aM ps1 m.1≠[])/\H l=none/\H' l=some (.lst us)/\Prs H' us (nC (stf ms (grt ms)) (grt ms)):=by
 cases h with
 | sizes s h=>exact .inl ⟨_,rfl,bo.sz s h⟩
 | apart s c h=>exact .inl ⟨_,rfl,bo.ap c s h⟩
 | walks l us ms k hm hl el pr=>exact .inr ⟨l,us,ms,rfl,k,hm,hl,el,pr⟩
theorem KinG.gs {ps1 ps2:Trs} {ms:List (Int×Int)} (k:KinG ps1 ps2 ms):∀ s,aM ps1 s≠[]->∃ g:Int,aM ps2 s=(aM ps1 s).map (·+g):=fun s h=>by
 obtain⟨g,hg⟩:=k.key s h;exact⟨g,k.val s g hg⟩
theorem KinG.not_apart {ps1 ps2:Trs} {ms:List (Int×Int)} (k:KinG ps1 ps2 ms) {s:Int} (h:∀ g:Int,(aM ps1 s).map (·+g)≠aM ps2 s):False:=by
 by_cases c:aM ps1 s=[]
 ·have z2:aM ps2 s=[]:=aBl (by rw[<- k.cnt s,c];rfl);exact h 0 (by rw[c,z2];rfl)
 ·obtain⟨g,hg⟩:=k.gs s c;exact h g hg.symm
theorem KinG.right {r2:List Int} {ps1 ps2:Trs} {ms:List (Int×Int)} (k:KinG ps1 ps2 ms) (hm:∀ m∈ms,aM ps1 m.1≠[]) (L2':Lst r2 ps2) :
 (nC (stf ms (grt ms)) (grt ms)).length<=60/\Lst r2 (cR ps1 (nC (stf ms (grt ms)) (grt ms)))/\(∀ q∈nC (stf ms (grt ms)) (grt ms),1<=q.1/\(∃ p∈ps1,q.1<=p.1)/\q.2≠0)/\((nC (stf ms (grt ms)) (grt ms)).map (·.1)).Nodup:=by
 obtain⟨_,h60,_,hg⟩:=qW k.pos;refine⟨?_,L2'.perm k.adds.symm,fun q hq=>?_,?_⟩
 ·unfold nC;refine Nat.le_trans (List.length_filter_le ..) ?_;unfold rP;rw[aBN,List.length_range];exact h60
 ·obtain⟨h1,h2,h3⟩:=V6 hq;refine⟨h1,?_,h3⟩;rcases hg with z | ⟨m,hm',e⟩
  ·omega
  ·obtain⟨p,hp,ep⟩:=kU.mp (hm m hm');exact⟨p,hp,by omega⟩
 ·exact(i6 _ _).imp fun h=>Int.ne_of_lt h
def RwsA (H:Hp) (us:List V):Prop:=∀ v∈us,∃ (a:Addr) (r:List Int),v=.ref a/\H a=some (.lst (r.map V.int))/\Row r/\r.length<=40
theorem RwsA.mono {H H':Hp} {us:List V} (h:RwsA H us) (k:∀ (a:Addr) (r:List Int),H a=some (.lst (r.map V.int))->V.ref a∈us->H' a=some (.lst (r.map V.int))):RwsA H' us:=fun v hv=>by
 obtain⟨a,r,rfl,e,x⟩:=h v hv;exact⟨a,r,rfl,k a r e hv,x⟩
theorem iE (a b:Trs):siz (a++b)=siz a+siz b:=by unfold siz;rw[aB2,List.sum_append]
theorem X0 {ps:Trs} (h:∀ q∈ps,1<=q.1):0<=siz ps:=by have:=cU h;unfold szs at this;unfold siz;omega
theorem M7 {ps:Trs} {k:Nat} {q:Int×Int} (h:ps[k]?=some q):siz ps=siz (ps.take k)+q.1+siz (ps.drop (k+1)):=by
 have hk:k<ps.length:=(aBq.mp h).1;have e:ps=ps.take k++q :: ps.drop (k+1):=by
  have h2:ps[k]=q:=(aBq.mp h).2;rw[<- h2,List.getElem_cons_drop,List.take_append_drop]
 have e2:=congrArg siz e;rw[iE,qG]at e2;omega
theorem C7 {ps:Trs} {k:Nat} {q q':Int×Int} (h:ps[k]?=some q) (hp:∀ p∈ps,1<=p.1) (h1:1<=q'.1):(∀ p∈(ps.take k++[q'])++ps.drop (k+1),1<=p.1)/\siz ((ps.take k++[q'])++ps.drop (k+1))=siz ps - q.1+q'.1:=by
 constructor
 ·intro p hm;rcases aBs.mp hm with h | h
  ·rcases aBs.mp h with h | h
   ·exact hp p (List.mem_of_mem_take h)
   ·rw[aBk.mp h];exact h1
  ·exact hp p (List.mem_of_mem_drop h)
 ·rw[iE,iE,M7 h];have:siz [q']=q'.1:=by simp[siz]
  omega
theorem vA {ps:Trs} (h:∀ p∈ps,1<=p.1) (hs:siz ps<=60):Trn ps:=⟨h,hs⟩
theorem M8 {ps:Trs} (h:∀ p∈ps,1<=p.1):siz (ps.take 1)<=siz ps:=by
 have e:=congrArg siz (List.take_append_drop 1 ps);rw[iE]at e;have:=X0 (ps:=ps.drop 1) fun q hq=>h q (List.mem_of_mem_drop hq);omega
theorem nG {H H':Hp} {us:List V} (h:RwsA H us) (s:Same H H'):RwsA H' us:=h.mono fun a r e _=>s _ _ e
theorem xO (bs:Trs):PyData.eqv (.list (bs.map pD)) (.list (([]:List Int).map PyData.int))=decide (bs=[]):=by
 cases bs with
 | nil=>rfl
 | cons b bs=>rw[aB9 (by simp)];rfl
theorem RwsA.add {Hx Hy:Hp} {us:List V} {r:List Int} {p l5:Addr} (e5:Hx l5=some (.lst us)) (hR:RwsA Hx us) (hp:Hx p=none) (g:Same Hx Hy) (ep:Hy p=some (.lst (r.map V.int))) (hrr:Row r) (hr40:r.length<=40) :
 RwsA (upd Hy l5 (.lst (us++[V.ref p]))) (us++[V.ref p]):=fun v hv=>by
 rcases aBs.mp hv with h | h
 ·obtain⟨a,r',rfl,e,x⟩:=hR v h;refine⟨a,r',rfl,?_,x⟩;rw[aH fun z=>?_]
  ·exact g _ _ e
  ·rw[z,e5]at e;have e2:=Option.some.inj e;have e3:us=r'.map V.int:=by injection e2
   rw[e3]at h;obtain⟨n,_,hn⟩:=aBt.mp h;cases hn
 ·rw[aBk.mp h];refine⟨p,r,rfl,?_,hrr,hr40⟩;rw[aH fun z=>by rw[z,e5]at hp;cases hp];exact ep
def top (i:Nat):Stmt:=PySem.Challenge.pw_creelway_k31_whole_kin_or_what_bars.main.body.getD i (.Pass ⟨0,0,0,0⟩)
section
variable {P:Program} {w:World} {K:PySem.W.Frag} {mg:Str->Option Value} {base:Heap}
abbrev fO:Stmt:=top 8
theorem oP:bC ["row","at"] ["row"] (aE fO):=⟨rfl,rfl,rfl,by decide +kernel,rfl,by decide +kernel,by decide +kernel⟩
theorem i8 {f:Addr} {fd:FuncData} {tC:Tok} (F:Fun K "look_row" "look_row" fO f fd) (B:Bt mg) (C:Cn mg tC):FnOk P w K mg base CX0 1 f fd ["row"] tY:=by
 refine F.ok oP (fun vs H Q E h=>?_) (fun cdv A outer s H vs Q E hr h=>?_)
 ·obtain⟨a,r,rfl,_⟩:=h;rfl
 ·obtain⟨a,row,rfl,ha,hrow,hlen,k⟩:=h;refine⟨_,(aG (cJ (aV oB (aF aS (by rfl) B.len PySem.boot_len (aA (pv 0) aC)) (zM (v:=.int 60) rfl C.MOST_STONES ⟨_,rfl⟩) (aP _))
 (aJ kB)
 bG)
 (aJ (dL PassesOwn.never rfl (nL rfl B.range (aA aD (aA (aF aS (by rfl) B.len PySem.boot_len (aA (pv 0) aC)) aC))) (aL (i:=1) oP.nd rfl (Or.inl rfl))
 (aJ (cJ (aV O5 (bJ bF (pv 0) (pv 1) (fun _ _=>rfl)) (bJ bF (pv 0) (aK cG (pv 1) aD) (fun _ _=>rfl)) (aP _))
 (aJ kB)
 bG))))),?_⟩
  refine⟨_,rfl,a,_,rfl,.inl (SqL.of ha),_,_,rfl,rfl,_,rfl,hV (by rw[aBN];omega) ?_⟩;refine⟨_,rfl,a,_,rfl,.inl (SqL.of ha),_,_,rfl,⟨by decide,by decide,by omega,by rw[aBN];omega⟩,gT (lo:=1) (fun i σ H2=>∃ v,σ=[some (.ref a),v]/\H2=H) ⟨none,rfl,rfl⟩ ?_ ?_⟩
  ·rintro i σ H2 hi ⟨v,rfl,rfl⟩;rw[aBN]at hi;obtain⟨x,_,hx,ex⟩:=dB (ns:=row) (i:=1+(i:Int)) (by omega) (by omega);obtain⟨y,_,hy,ey⟩:=dB (ns:=row) (i:=1+(i:Int) - 1) (by omega) (by omega);refine⟨_,rfl,_,rfl,a,_,_,_,rfl,rfl,SqL.of ha,ex,_,rfl,_,rfl,_,_,rfl,rfl,a,_,_,_,rfl,rfl,SqL.of ha,ey,_,_,rfl,rfl,_,rfl,hV ?_ ⟨_,rfl,rfl⟩⟩;have:=hrow.lt (show (1+(i:Int) - 1).toNat<(1+(i:Int)).toNat by omega) hy hx;omega
  ·rintro σ H2 ⟨v,rfl,rfl⟩;exact k
abbrev eF:Stmt:=top 10
theorem rQ:bC ["creel"] ["creel"] (aE eF):=⟨rfl,rfl,rfl,by decide +kernel,rfl,by decide +kernel,by decide +kernel⟩
theorem rR {f:Addr} {fd:FuncData} (F:Fun K "look_creel" "look_creel" eF f fd) (B:Bt mg):FnOk P w K mg base CX0 1 f fd ["creel"] iI:=by
 refine F.ok rQ (fun vs H Q E h=>?_) (fun cdv A outer s H vs Q E hr h=>?_)
 ·obtain⟨c,rfl,_⟩:=h;rfl
 ·obtain⟨c,rfl,hc,k⟩:=h;refine⟨_,(aJ (cJ (aV zQ (pv 0) aD (aP _))
 (aJ kB)
 bG)),?_⟩
  exact⟨_,rfl,_,_,rfl,rfl,_,rfl,hV (by omega) k⟩
abbrev eI:Stmt:=top 11
theorem iV:bC ["walks","creel","count"] ["walks"] (aE eI):=⟨rfl,rfl,rfl,by decide +kernel,rfl,by decide +kernel,by decide +kernel⟩
theorem rS {f:Addr} {fd:FuncData} (F:Fun K "look_walks" "look_walks" eI f fd) (B:Bt mg) (F_look_creel:bO P w K mg base "look_creel" 1 ["creel"] iI):FnOk P w K mg base CX0 2 f fd ["walks"] pH:=by
 refine F.ok iV (fun vs H Q E h=>?_) (fun cdv A outer s H vs Q E hr h=>?_)
 ·obtain⟨a,r,rfl,_⟩:=h;rfl
 ·obtain⟨a,ws,rfl,⟨us,ha,pr⟩,hc,k⟩:=h;refine⟨_,(aJ (dL PassesOwn.never rfl (bL (pv 0)) (jK rfl (aN (aL (i:=1) iV.nd rfl (Or.inl rfl)) (aN (aL (i:=2) iV.nd rfl (Or.inl rfl)) bW)))
 (aJ (bI (bE F_look_creel hr rfl (aA (pv 1) aC)))))),?_⟩
  refine⟨_,rfl,a,rfl,⟨_,SqL.of ha⟩,dR (K:=K) (a:=a) (xs:=us) (fun i σ H2=>∃ v1 v2,σ=[some (.ref a),v1,v2]/\H2=H) ⟨none,none,rfl,rfl⟩ (fun i σ H2 _ ⟨_,_,_,e⟩=>by rw[e];exact SqL.of ha) ?_ ?_⟩
  ·rintro i x σ H2 hi ⟨v1,v2,rfl,rfl⟩;obtain⟨p,t',hp,rfl,et⟩:=bP pr hi;exact⟨t',_,rfl,SqT.of et,rfl,_,_,rfl,_,_,rfl,rfl,_,rfl,_,rfl,hc p (aBY hp),_,_,rfl,rfl⟩
  ·rintro σ H2 ⟨v1,v2,rfl,rfl⟩;exact k
abbrev dC:Stmt:=top 13
theorem fJ:bC ["trains","at","size","offset"] ["trains"] (aE dC):=⟨rfl,rfl,rfl,by decide +kernel,rfl,by decide +kernel,by decide +kernel⟩
theorem rA {f:Addr} {fd:FuncData} {tC:Tok} (F:Fun K "look_trains" "look_trains" dC f fd) (B:Bt mg) (C:Cn mg tC):FnOk P w K mg base CX0 1 f fd ["trains"] mM:=by
 refine F.ok fJ (fun vs H Q E h=>?_) (fun cdv A outer s H vs Q E hr h=>?_)
 ·obtain⟨a,r,rfl,_⟩:=h;rfl
 ·obtain⟨a,ps,rfl,⟨us,ha,pr⟩,ht,k⟩:=h;have hul:us.length<=60:=by rw[pr.len];exact ht.len
  refine⟨_,(aG (dL PassesOwn.never rfl (Y7 rfl B.enumerate (aA (pv 0) aC)) (jK rfl (aN (aL (i:=1) fJ.nd rfl (Or.inl rfl)) (aN (jK rfl (aN (aL (i:=2) fJ.nd rfl (Or.inl rfl)) (aN (aL (i:=3) fJ.nd rfl (Or.inl rfl)) bW))) bW)))
 (aJ (cJ (aV zQ (pv 2) aD (aP _))
 (aJ kB)
 bG)))
 (aJ (cJ (aV oB (aF (jB rfl) (by rfl) B.sum jA (aA (cD ["size","offset"] [] [] rfl (.of (show cB (aE dC) _ ["trains","at","size","offset"] [] []=true by decide +kernel)) (bL (pv 0)) (fun _ _ _=>(cZ (n:=2) K rfl rfl (aN (aL (i:=0) (show (["size","offset"]:List Str).Nodup by decide +kernel) rfl (Or.inl rfl)) (aN (aL (i:=1) (show (["size","offset"]:List Str).Nodup by decide +kernel) rfl (Or.inl rfl)) bW)))) (dS (aY (by decide) (aY (by decide) cY))) (fun _ _ _=>cA) (fun _ _ _=>(pv 0))) aC)) (zM (v:=.int 60) rfl C.MOST_STONES ⟨_,rfl⟩) (aP _))
 (aJ kB)
 bG))),?_⟩
  refine⟨_,rfl,a,_,rfl,SqL.of ha,Q0 (K:=K) (a:=a) (xs:=us) (fun i σ H2=>∃ v1 v2 v3,σ=[some (.ref a),v1,v2,v3]/\Same H H2) ⟨none,none,none,rfl,Same.refl _⟩ (fun i σ H2 _ ⟨_,_,_,_,sm⟩=>SqL.of (sm _ _ ha)) ?_ ?_⟩
  ·rintro i x σ H2 t hi ⟨v1,v2,v3,rfl,sm⟩ hn;obtain⟨p,t',hp,rfl,et⟩:=bP pr hi;have sm2:Same H (upd H2 t (.tup [.int i,.ref t'])):=sm.trans (Same.upd hn);have e1:=sm2 _ _ et;refine⟨t,_,rfl,SqT.of aB,rfl,_,_,rfl,_,_,rfl,⟨t',_,rfl,SqT.of e1,rfl,_,_,rfl,_,_,rfl,rfl,rfl,?_⟩⟩;have:=ht.pos p (aBY hp);exact⟨_,rfl,_,_,rfl,rfl,_,rfl,hV (by omega) ⟨_,_,_,rfl,sm2⟩⟩
  ·rintro σ H2 ⟨v1,v2,v3,rfl,sm⟩;refine⟨_,rfl,a,rfl,⟨_,SqL.of (sm _ _ ha)⟩,bU (K:=K) (a:=a) (xs:=us) (fun i ys H3=>H3=H2/\ys=((ps.take i).map (·.1)).map V.int) ⟨rfl,rfl⟩ ?_ ?_ ?_⟩
   ·rintro i ys H3 hi ⟨rfl,rfl⟩;exact⟨SqL.of (sm _ _ ha),mJ _ _ (by omega) _⟩
   ·rintro i x ys H3 hi ⟨rfl,rfl⟩;obtain⟨p,t',hp,rfl,et⟩:=bP pr hi;exact⟨t',_,rfl,SqT.of (sm _ _ et),rfl,_,_,rfl,_,_,rfl,rfl,_,rfl,rfl,dU (·.1) hp⟩
   ·rintro ys H3 ⟨rfl,rfl⟩ D hD;have e:us.length=ps.length:=pr.len;refine⟨D,szs ps,rfl,by rw[aB,e,aB1];rfl,_,_,rfl,rfl,_,rfl,hV ?_ (k _ (sm.trans (Same.upd hD)))⟩;have:=ht.few;omega
abbrev gY:Stmt:=top 14
theorem jR:bC ["trains","offsets","size","offset"] ["trains"] (aE gY):=⟨rfl,rfl,rfl,by decide +kernel,rfl,by decide +kernel,by decide +kernel⟩
inductive rB (H:Hp) (a:Addr) (d:Addr) (l:Addr) (us':List V) (qs:Trs) (i:Nat) (σ:St) (H3:Hp):Prop
 | mk (gs:List Grp) (v1 v2:Option V) (k0_:σ=[some (.ref a),some (.ref d),v1,v2]) (k1_:Same H H3) (k2_:H3 l=some (.lst us')) (k3_:Prs H3 us' qs) (k4_:DG H3 d gs) (k5_:(∀ g∈gs,H g.2.1=none/\g.2.1≠l/\g.2.1≠d)) (k6_:((bH gs).Perm (qs.take i)/\Asc gs)) (k7_:gs.length<=i) (k8_:∀ g∈gs,g.2.2.length<=i/\g.2.2≠[]):rB H a d l us' qs i σ H3
theorem zI {f:Addr} {fd:FuncData} (F:Fun K "by_size" "by_size" gY f fd) (B:Bt mg):FnOk P w K mg base CX0 1 f fd ["trains"] jG:=by
 refine F.ok jR (fun vs H Q E h=>?_) (fun cdv A outer s H vs Q E hr h=>?_)
 ·obtain⟨a,r,rfl,_⟩:=h;rfl
 ·obtain⟨a,ps,rfl,⟨us,ha,pr⟩,hpl,k⟩:=h;refine⟨_,(aG (aR (i:=1) jR.nd rfl (Or.inl rfl) mO)
 (aG (dL PassesOwn.never rfl (bL (aF gO (by rfl) B.sorted cP (aA (pv 0) aC))) (jK rfl (aN (aL (i:=2) jR.nd rfl (Or.inl rfl)) (aN (aL (i:=3) jR.nd rfl (Or.inl rfl)) bW)))
 (aJ (bI (eK aBm aBn aBo bT (A4 (pv 1) (pv 2) (cC aC) ⟨rfl,rfl,rfl,rfl⟩) (aA (pv 3) aC)))))
 (aJ (bB (pv 1))))),?_⟩
  refine fun d hd=>?_;have g1:=Same.upd (o:=.dK []) hd;have ed:(upd H d (.dK [])) d=some (.dK (kvG [])):=aB;generalize upd H d (.dK [])=H1 at g1 ed ⊢;refine⟨_,rfl,a,us,ps,rfl,g1 _ _ ha,pr.mono (TupS.same g1),by omega,fun l us' qs hl pr' hperm hsort=>?_⟩;have g2:=Same.upd (o:=.lst us') hl;have el:(upd H1 l (.lst us')) l=some (.lst us'):=aB;have pr2:=pr'.mono (TupS.same g2);have ed2:=g2 _ _ ed;generalize upd H1 l (.lst us')=H2 at g2 el pr2 ed2 ⊢;have eu:us'.length=ps.length:=by rw[pr2.len,hperm.length_eq]
  have hld:l≠d:=fS el ed2 (by intro z;cases z);have g12:=g1.trans g2;have hHl:H l=none:=g1.free hl;refine⟨l,rfl,⟨_,SqL.of el⟩,dR (K:=K) (a:=l) (xs:=us') (rB H a d l us' qs)
   ⟨[],none,none,rfl,g12,el,pr2,⟨ed2,fun g hg=>(nomatch hg),List.Pairwise.nil,List.Pairwise.nil⟩,fun g hg=>(nomatch hg),⟨.refl _,fun g hg=>(nomatch hg)⟩,Nat.le_refl _,fun g hg=>(nomatch hg)⟩ (fun i σ H3 _ z_=>by obtain⟨_,_,_,_,_,e,_⟩:=z_;exact SqL.of e) ?_ ?_⟩
  ·rintro i x σ H3 hi ⟨gs,v1,v2,rfl,sm,el3,pr3,dg,hfr,⟨hw,hac⟩,hgl,hgn⟩;obtain⟨p,t',hp,rfl,et⟩:=bP pr3 hi;have hple:∀ q∈bH gs,q.1=p.1->q.2<=p.2:=fun q hq e=>by
    obtain⟨k',hk',hqk⟩:=List.mem_iff_getElem.mp (hw.mem_iff.mp hq);have hki:k'<i:=by rw[aB3]at hk';omega
    have hkq:k'<qs.length:=by rw[aB3]at hk';omega
    have hpi:=(aBq.mp hp);have h3:=List.pairwise_iff_getElem.mp hsort k' i hkq hpi.1 hki;rw[hpi.2]at h3;rw[List.getElem_take]at hqk;rw[hqk]at h3;unfold ple at h3;omega
   have htk:∀ l:Trs,l.Perm (p :: bH gs)->l.Perm (qs.take (i+1)):=fun l hl=>by
    rw[aBj,hp];refine hl.trans ((hw.cons p).trans ?_);exact(List.perm_append_comm (l₁:=qs.take i) (l₂:=[p])).symm
   have hil:i<us'.length:=(aBq.mp hi).1;refine⟨t',_,rfl,SqT.of et,rfl,_,_,rfl,_,_,rfl,rfl,_,rfl,d,rfl,.inl ⟨_,.inl dg.at_⟩,_,rfl,by decide,fun z hz=>?_⟩;have g4:=Same.upd (o:=.lst []) hz;have ez:(upd H3 z (.lst [])) z=some (.lst []):=aB;have hHz:H z=none:=sm.free hz;have nzl:z≠l:=fun e=>by rw[e,el3]at hz;cases hz
   have nzd:z≠d:=fun e=>by rw[e,dg.at_]at hz;cases hz
   generalize upd H3 z (.lst [])=H4 at g4 ez ⊢;have sm4:=sm.trans g4;have el4:=g4 _ _ el3;have pr4:=pr3.mono (TupS.same g4);have lst4:∀ g∈gs,H4 g.2.1=some (.lst (g.2.2.map V.int)):=fun g hg=>g4 _ _ (dg.lst g hg);have nz:∀ g∈gs,g.2.1≠z:=fun g hg e=>by have:=dg.lst g hg;rw[e,hz]at this;cases this
   refine⟨kvG gs,Sum.inl p.1,g4 _ _ dg.at_,rfl,by simp only[kvG,aBN];exact aO (by omega),fun v hv=>?_,fun hv=>?_⟩
   ·-- the size is there
    rw[dX]at hv;obtain⟨g,hg,rfl⟩:=aBp.mp hv;have hgm:=List.mem_of_find?_eq_some hg;have hgk:g.1=p.1:=by simpa using List.find?_some hg
    have eg:=lst4 g hgm;have hgo:=hfr g hgm;refine⟨.inl ⟨rfl,_,SqL.of eg⟩,_,rfl,g.2.1,_,_,rfl,rfl,eg,(by rw[aBN];exact aO (by have:=(hgn g hgm).1;omega)),?_⟩;have hmem:∀ g'∈fG p.1 p.2 gs,∃ g0∈gs,g'.2.1=g0.2.1/\g'.1=g0.1/\(g'.2.2=if g0.1=p.1 then g0.2.2++[p.2]else g0.2.2):=fun g' hg'=>by
     obtain⟨g0,h0,rfl⟩:=aBt.mp hg';refine⟨g0,h0,?_⟩
     by_cases hk:g0.1=p.1
     ·rw[if_pos hk,if_pos hk];exact⟨rfl,rfl,rfl⟩
     ·rw[if_neg hk,if_neg hk];exact⟨rfl,rfl,rfl⟩
    have hpu:qE H4 p.1 p.2 gs (fG p.1 p.2 gs):=.inl ⟨⟨g,hgm,hgk⟩,rfl⟩;have uniq:∀ g0∈gs,g0.2.1=g.2.1->g0=g:=fun g0 h0 e=>cK (f:=fun g:Grp=>g.2.1) dg.adr h0 hgm e;refine⟨fG p.1 p.2 gs,_,_,rfl,Same.upd' hgo.1 sm4,by rw[aH (Ne.symm hgo.2.1)];exact el4,pr4.mono (TupS.lst eg),⟨by rw[wB,aH (Ne.symm hgo.2.2)];exact g4 _ _ dg.at_,fun g' hg'=>?_,by rw[wC];exact dg.adr,by rw[wD];exact dg.key⟩,fun g' hg'=>?_,⟨htk _ (gX dg.key hpu),hac.puts hpu hple⟩,by rw[Q9];omega,fun g' hg'=>?_⟩
    ·obtain⟨g0,h0,e1,e2,e3⟩:=hmem g' hg';rw[e1]
     by_cases hadr:g0.2.1=g.2.1
     ·have:=uniq g0 h0 hadr;subst this;rw[aB,e3,if_pos hgk,aB2];rfl
     ·have hk:g0.1≠p.1:=fun e=>hadr (by rw[cK (f:=fun g:Grp=>g.1) dg.key h0 hgm (e.trans hgk.symm)]);rw[aH hadr,e3,if_neg hk];exact lst4 g0 h0
    ·obtain⟨g0,h0,e1,_,_⟩:=hmem g' hg';rw[e1];exact hfr g0 h0
    ·obtain⟨g0,h0,_,_,e3⟩:=hmem g' hg';have:=hgn g0 h0;rw[e3];split
     ·exact⟨by rw[aBW,List.length_singleton];omega,by simp⟩
     ·exact⟨by omega,this.2⟩
   ·-- the size is new
    rw[dX]at hv;have hno:∀ g∈gs,g.1≠p.1:=fun g hg e=>by
     have:=List.find?_eq_none.mp (Option.map_eq_none_iff.mp hv) g hg;exact this (by simpa using e)
    have hpu:qE H3 p.1 p.2 gs (gs++[(p.1,z,[p.2])]):=.inr ⟨hno,z,hz,rfl⟩;rw[vY (V.ref z) (by rw[dX];exact hv)];have ez5:(upd H4 d (.dK (kvG gs++[((Sum.inl p.1:Key),V.ref z)]))) z=some (.lst []):=by rw[aH nzd];exact ez
    refine⟨.inl ⟨rfl,_,SqL.of ez5⟩,_,rfl,z,_,_,rfl,rfl,ez5,(show 0<sizeLine by decide),?_⟩;have hk6:∀ b o,b≠d->b≠z->H4 b=some o->(upd (upd H4 d (.dK (kvG gs++[((Sum.inl p.1:Key),V.ref z)]))) z (.lst ([]++[V.int p.2]))) b=some o:=fun b o n1 n2 e=>by rw[aH n2,aH n1];exact e
    refine⟨gs++[(p.1,z,[p.2])],_,_,rfl,Same.upd' hHz (Same.upd' hd sm4),hk6 _ _ hld (Ne.symm nzl) el4,pr4.mono (fun t xs e=>hk6 _ _ (fS e (g4 _ _ dg.at_) (by intro z;cases z)) (fS e ez (by intro z;cases z)) e),⟨?_,fun g hg=>?_,?_,?_⟩,fun g hg=>?_,⟨htk _ (gX dg.key hpu),hac.puts hpu hple⟩,by rw[aBW,List.length_singleton];omega,fun g hg=>?_⟩
    ·rw[aH (Ne.symm nzd),aB];unfold kvG;rw[aB2];rfl
    ·rcases aBs.mp hg with h | h
     ·exact hk6 _ _ (hfr g h).2.2 (nz g h) (lst4 g h)
     ·rw[aBk.mp h];exact aB
    ·rw[aB2,List.nodup_append];refine⟨dg.adr,by simp,fun x hx y hy=>?_⟩;obtain⟨g,hg,rfl⟩:=aBt.mp hx;have hy':y=z:=by simpa using hy
     rw[hy'];exact nz g hg
    ·rw[aB2,List.nodup_append];refine⟨dg.key,by simp,fun x hx y hy=>?_⟩;obtain⟨g,hg,rfl⟩:=aBt.mp hx;have hy':y=p.1:=by simpa using hy
     rw[hy'];exact hno g hg
    ·rcases aBs.mp hg with h | h
     ·exact hfr g h
     ·rw[aBk.mp h];exact⟨hHz,nzl,nzd⟩
    ·rcases aBs.mp hg with h | h
     ·have:=hgn g h;exact⟨by omega,this.2⟩
     ·rw[aBk.mp h];exact⟨by show 1<=i+1;omega,by simp⟩
  ·rintro σ H3 ⟨gs,v1,v2,rfl,sm,el3,pr3,dg,hfr,⟨hw,hac⟩,hgl,hgn⟩;refine⟨_,rfl,k d gs H3 hd sm dg ?_ hac fun g hg=>⟨(hgn g hg).2,(hfr g hg).1⟩⟩;rw[show us'.length=qs.length from pr3.len,aB1]at hw;exact hw.trans hperm
abbrev jS:Stmt:=top 15
theorem X1:bC ["offsets","size"] ["offsets","size"] (aE jS):=⟨rfl,rfl,rfl,by decide +kernel,rfl,by decide +kernel,by decide +kernel⟩
theorem X2 {f:Addr} {fd:FuncData} (F:Fun K "crowd" "crowd" jS f fd) (B:Bt mg):FnOk P w K mg base CX0 1 f fd ["offsets","size"] mS:=by
 refine F.ok X1 (fun vs H Q E h=>?_) (fun cdv A outer s H vs Q E hr h=>?_)
 ·obtain⟨d,r,j,rfl,_⟩:=h;rfl
 ·obtain⟨d,gs,j,rfl,dg,hl,hgn,k⟩:=h;refine⟨_,(aJ (bB (aK cN aD (aF (jB rfl) (by rfl) B.sum jA (aA (uG (cD ["other","some"] ["size"] [1] rfl (.of (show cB (aE jS) _ ["offsets","size"] [1] ["size"]=true by decide +kernel)) (mP (pv 0)) (fun _ _ _=>(cZ (n:=2) K rfl rfl (aN (aL (i:=0) (show (["other","some","size"]:List Str).Nodup by decide +kernel) rfl (Or.inl rfl)) (aN (aL (i:=1) (show (["other","some","size"]:List Str).Nodup by decide +kernel) rfl (Or.inl rfl)) bW)))) (dS (aY (by decide) (aY (by decide) cY))) (fun _ _ _=>cA) (fun _ _ _=>(aK cN (aF (lD rfl) (by rfl) B.min kH (aA (pv 2) (aA (pv 0) aC))) (aF (iT K rfl) (by rfl) B.len PySem.boot_len (aA (pv 1) aC)))))) aC))))),?_⟩;refine⟨d,kvG gs,dg.at_,_,rfl,d,kvG gs,rfl,dg.at_,fun od=>?_⟩;have gd:SameD d H (upd H d (.frz od (.dK (kvG gs)))):=fun b o n e=>by rw[aH n];exact e
  have ed:(upd H d (.frz od (.dK (kvG gs)))) d=some (.frz od (.dK (kvG gs))):=aB;have hlst:∀ g∈gs,(upd H d (.frz od (.dK (kvG gs)))) g.2.1=some (.lst (g.2.2.map V.int)):=fun g hg=>gd _ _ (fS (dg.lst g hg) dg.at_ (by intro z;cases z)) (dg.lst g hg);generalize upd H d (.frz od (.dK (kvG gs)))=H1 at gd ed hlst ⊢;have hkl:(kvG gs).length=gs.length:=by simp[kvG]
  refine lY (d:=d) (od:=od) (kvs:=kvG gs) (fun i ys H2=>Same H1 H2/\ys=((gs.take i).map (fun g:Grp=>gQ j g.1 * (g.2.2.length:Int))).map V.int) ⟨Same.refl _,rfl⟩ ?_ ?_ ?_
  ·rintro i ys H2 hi ⟨g2,rfl⟩;exact⟨g2 _ _ ed,by simp only[aBN,aB3];exact aO (by omega)⟩
  ·rintro i ky x ys H2 t hx ⟨g2,rfl⟩ ht;obtain⟨g,hg,hgx⟩:∃ g,gs[i]?=some g/\((Sum.inl g.1:Key),V.ref g.2.1)=(ky,x):=by
    unfold kvG at hx;rw[aBc]at hx;obtain⟨g,h1,h2⟩:=aBp.mp hx;exact⟨g,h1,h2⟩
   cases hgx;have hgm:=aBY hg;have g3:=g2.trans (Same.upd (o:=.tup [kV (Sum.inl g.1),V.ref g.2.1]) ht);refine⟨t,_,rfl,SqT.of aB,rfl,_,_,rfl,_,_,rfl,rfl,_,rfl,_,rfl,_,_,rfl,_,rfl,g.2.1,_,rfl,.inl (SqL.of (g3 _ _ (hlst g hgm))),_,_,rfl,rfl,.inr ⟨?_,?_⟩,g3,?_⟩
   ·have:=hgn g hgm;rw[aBN];omega
   ·have:=hgn g hgm;rw[aBN];omega
   ·rw[aBj,hg];simp[gQ]
  ·rintro ys H2 ⟨g2,rfl⟩ D hD;have hnD:D≠d:=fun z=>by rw[z,g2 _ _ ed]at hD;cases hD
   refine⟨od,by rw[aH (Ne.symm hnD)];exact g2 _ _ ed,D,gs.map (fun g:Grp=>gQ j g.1 * (g.2.2.length:Int)),rfl,by rw[aH hnD,aB,hkl,aB1],_,_,rfl,rfl,.inl ⟨by decide,by decide⟩,k _ fun b o e=>?_⟩
   by_cases hb:b=d
   ·subst hb;rw[aB,<- dg.at_];exact e
   ·rw[aH hb];exact(g2.trans (Same.upd hD)) _ _ (gd b o hb e)
abbrev iG:Stmt:=top 16
theorem eJ:bC ["offsets","found","longer","total","below","size"] ["offsets"] (aE iG):=⟨rfl,rfl,rfl,by decide +kernel,rfl,by decide +kernel,by decide +kernel⟩
inductive tM (H:Hp) (d:Addr) (e:Addr) (l:Addr) (gs:List Grp) (ms:List Int) (i:Nat) (σ:St) (H6:Hp):Prop
 | mk (kvs:List (Key×V)) (b:Int) (v:Option V) (k0_:σ=[some (.ref d),some (.ref e),some (.int (lng b gs)),some (.int (2 * wgt (gQ b) gs)),some (.int b),v]) (k1_:Same H H6) (k2_:H6 l=some (.lst (ms.map V.int))) (k3_:H6 e=some (.dK kvs)) (k4_:kvs.length<=i) (k5_:(∀ g∈gs,b<g.1->g.1∈ms.drop i)) (k6_:(∀ m∈ms.drop i,b<m)) (k7_:∀ m∈ms.take i,dJ kvs (Sum.inl m:Key)=some (.int (2 * wgt (gQ m) gs))):tM H d e l gs ms i σ H6
theorem M9 {f:Addr} {fd:FuncData} (F:Fun K "crowds" "crowds" iG f fd) (B:Bt mg):FnOk P w K mg base CX0 1 f fd ["offsets"] jE:=by
 refine F.ok eJ (fun vs H Q E h=>?_) (fun cdv A outer s H vs Q E hr h=>?_)
 ·obtain⟨d,gs,rfl,_⟩:=h;rfl
 ·obtain⟨d,gs,rfl,dg,gd0,hl,hgn,k⟩:=h;have hu1:=pS hr;refine⟨_,(aG (aR (i:=1) eJ.nd rfl (Or.inl rfl) mO)
 (aG (aR (i:=2) eJ.nd rfl (Or.inl rfl) (aF (jB rfl) (by rfl) B.sum jA (aA (uG (cD ["some"] [] [] rfl (.of (show cB (aE iG) _ ["offsets","found","longer","total","below","size"] [] []=true by decide +kernel)) (E8 (pv 0)) (fun _ _ _=>(aL (i:=0) (show (["some"]:List Str).Nodup by decide +kernel) rfl (Or.inl rfl))) (fH (by decide)) (fun _ _ _=>cA) (fun _ _ _=>(aF (iT K rfl) (by rfl) B.len PySem.boot_len (aA (pv 0) aC))))) aC)))
 (aG (aR (i:=3) eJ.nd rfl (Or.inl rfl) aD)
 (aG (aR (i:=4) eJ.nd rfl (Or.inl rfl) aD)
 (aG (dL PassesOwn.never rfl (bL (aF (gR rfl) (by rfl) B.sorted cP (aA (pv 0) aC))) (aL (i:=5) eJ.nd rfl (Or.inl rfl))
 (aG (N8 (i:=3) eJ.nd rfl (Or.inl rfl) (aK cN (aK cN aD (pv 2)) (aK cG (pv 5) (pv 4))) r8)
 (aG (A1 hu1 (pv 1) (pv 5) (pv 3) rfl)
 (aG (N8 (i:=2) eJ.nd rfl (Or.inl rfl) (aF aS (by rfl) B.len PySem.boot_len (aA (gP hu1 (pv 0) (pv 5) (fun _ _=>rfl)) aC)) r9)
 (aJ (aR (i:=4) eJ.nd rfl (Or.inl rfl) (pv 5)))))))
 (aJ (bB (pv 1)))))))),?_⟩
  refine fun e he=>?_;have g1:=Same.upd (o:=.dK []) he;have ee:(upd H e (.dK [])) e=some (.dK []):=aB;have hed:e≠d:=fun z=>by rw[z,dg.at_]at he;cases he
  generalize upd H e (.dK [])=H1 at g1 ee ⊢;have dg1:DG H1 d gs:=⟨g1 _ _ dg.at_,fun g hg=>g1 _ _ (dg.lst g hg),dg.adr,dg.key⟩;refine⟨d,kvG gs,dg1.at_,_,rfl,d,kvG gs,rfl,dg1.at_,fun od=>?_⟩;have gd:SameD d H1 (upd H1 d (.frz od (.dK (kvG gs)))):=fun b o n e=>by rw[aH n];exact e
  have ed:(upd H1 d (.frz od (.dK (kvG gs)))) d=some (.frz od (.dK (kvG gs))):=aB;have hlst:∀ g∈gs,(upd H1 d (.frz od (.dK (kvG gs)))) g.2.1=some (.lst (g.2.2.map V.int)):=fun g hg=>gd _ _ (fS (dg1.lst g hg) dg1.at_ (by intro z;cases z)) (dg1.lst g hg);generalize upd H1 d (.frz od (.dK (kvG gs)))=H2 at gd ed hlst ⊢;have hkl:(kvG gs).length=gs.length:=by simp[kvG]
  refine wG (d:=d) (od:=od) (kvs:=kvG gs) (fun i ys H3=>H3=H2/\ys=((gs.take i).map (fun g:Grp=>(g.2.2.length:Int))).map V.int) ⟨rfl,rfl⟩ ?_ ?_ ?_
  ·rintro i ys H3 hi ⟨rfl,rfl⟩;exact⟨ed,by simp only[aBN,aB3];exact aO (by omega)⟩
  ·rintro i ky x ys H3 hx ⟨rfl,rfl⟩;obtain⟨g,hg,hgx⟩:∃ g,gs[i]?=some g/\((Sum.inl g.1:Key),V.ref g.2.1)=(ky,x):=by
    unfold kvG at hx;rw[aBc]at hx;obtain⟨g,h1,h2⟩:=aBp.mp hx;exact⟨g,h1,h2⟩
   cases hgx;have hgm:=aBY hg;refine⟨_,rfl,g.2.1,_,rfl,.inl (SqL.of (hlst g hgm)),rfl,?_⟩;rw[aBj,hg];simp
  ·rintro ys H3 ⟨rfl,rfl⟩ D hD;have hnD:D≠d:=fun z=>by rw[z,ed]at hD;cases hD
   refine⟨od,by rw[aH (Ne.symm hnD)];exact ed,D,gs.map (fun g:Grp=>(g.2.2.length:Int)),rfl,by rw[aH hnD,aB,hkl,aB1],?_⟩;have g4:Same H1 (upd (upd H3 D (.lst (((gs.take (kvG gs).length).map (fun g:Grp=>(g.2.2.length:Int))).map V.int))) d (.dK (kvG gs))):=fun b o q=>by
    by_cases hb:b=d
    ·subst hb;rw[aB,<- dg1.at_];exact q
    ·rw[aH hb];exact(Same.upd hD) _ _ (gd b o hb q)
   generalize upd (upd H3 D (.lst (((gs.take (kvG gs).length).map (fun g:Grp=>(g.2.2.length:Int))).map V.int))) d (.dK (kvG gs))=H4 at g4 ⊢;have hks:jX (kvG gs) (gs.map (·.1)):=by unfold jX kvG;simp[Function.comp]
   have dg4:DG H4 d gs:=⟨g4 _ _ dg1.at_,fun g hg=>g4 _ _ (dg1.lst g hg),dg.adr,dg.key⟩;have ee4:=g4 _ _ ee;have sm4:=g1.trans g4;have hL0:=R8 gd0;rw[<- hL0];refine⟨_,rfl,d,kvG gs,gs.map (·.1),rfl,dg4.at_,hks,by rw[aBN];omega,fun l ms hnl hp hs=>?_⟩;have g5:=Same.upd (o:=.lst (ms.map V.int)) hnl;have el:(upd H4 l (.lst (ms.map V.int))) l=some (.lst (ms.map V.int)):=aB;have hHl:H l=none:=sm4.free hnl;have nle:l≠e:=fun z=>by rw[z,ee4]at hnl;cases hnl
   generalize upd H4 l (.lst (ms.map V.int))=H5 at g5 el ⊢;have sm5:=sm4.trans g5;have ee5:=g5 _ _ ee4;have hml:ms.length=gs.length:=by rw[hp.length_eq,aBN]
   have hst:=tE hp hs dg.key;refine⟨l,rfl,⟨_,SqL.of el⟩,dR (K:=K) (a:=l) (xs:=ms.map V.int) (tM H d e l gs ms)
    ⟨[],0,none,by rw[R9 gd0];rfl,sm5,el,ee5,Nat.le_refl _,fun g hg _=>hp.mem_iff.mpr (aBt.mpr ⟨g,hg,rfl⟩),fun m hm=>by
     obtain⟨g,hg,e⟩:=aBt.mp (hp.mem_iff.mp hm);have:=(gd0 g hg).1;have e':g.1=m:=e;omega,fun m hm=>by simp at hm⟩ (fun i σ H6 _ z_=>by obtain⟨_,_,_,_,_,q,_⟩:=z_;exact SqL.of q) ?_ ?_⟩
   ·rintro i x σ H6 hi ⟨kvs,b,v,rfl,sm6,el6,ee6,hkl6,hin,hab,hall⟩;rw[aBc]at hi;obtain⟨m,hm,rfl⟩:=aBp.mp hi;have hil:i<ms.length:=(aBq.mp hm).1;obtain⟨g,hg,hgm⟩:=aBt.mp (hp.mem_iff.mp (aBY hm));have hgm:g.1=m:=hgm;subst hgm;have hdr:ms.drop i=g.1 :: ms.drop (i+1):=by
     rw[List.drop_eq_getElem_cons hil];rw[aBX hil]at hm;rw[Option.some.inj hm]
    have hbm:b<g.1:=hab g.1 (by rw[hdr];exact aBP);have hstd:(g.1 :: ms.drop (i+1)).Pairwise (·<·):=by rw[<- hdr];exact hst.sublist (List.drop_sublist _ _)
    have hnx:∀ x∈gs,b<x.1->g.1<=x.1:=fun x hx hb=>by
     have:=hin x hx hb;rw[hdr]at this;rcases aBr.mp this with e | e
     ·omega
     ·have:=(List.pairwise_cons.mp hstd).1 _ e;omega
    have e1:=yJ (Int.le_of_lt hbm) hnx;have e2:=R7 hbm hnx dg.key hg rfl;obtain⟨hb1,hb2⟩:=S3 (b:=b) hgn;have dg6:DG H6 d gs:=⟨sm6 _ _ dg.at_,fun g hg=>sm6 _ _ (dg.lst g hg),dg.adr,dg.key⟩;have e3:2 * wgt (gQ b) gs+2 * lng b gs * (g.1 - b)=2 * wgt (gQ g.1) gs:=by
     rw[e1,Int.mul_add,Int.mul_assoc,Int.mul_comm (lng b gs)]
    refine⟨_,rfl,_,rfl,_,_,rfl,rfl,.inl ⟨by decide,by decide⟩,_,rfl,_,rfl,_,_,rfl,rfl,_,_,rfl,rfl,.inl ⟨by omega,by omega⟩,?_⟩;refine⟨_,_,rfl,rfl,?_⟩;refine⟨_,rfl,_,rfl,_,rfl,e,_,rfl,DPut.k (k:=Sum.inl g.1) ee6 (aO (by omega)),?_⟩;have dg7:DG (upd H6 e (.dK (hZ kvs (Sum.inl g.1:Key) (V.int (2 * wgt (gQ b) gs+2 * lng b gs * (g.1 - b)))))) d gs:=⟨by rw[aH (Ne.symm hed)];exact dg6.at_,fun x hx=>by rw[aH (fS (dg6.lst x hx) ee6 (by intro z;cases z))];exact dg6.lst x hx,dg.adr,dg.key⟩;refine⟨_,rfl,_,rfl,_,rfl,d,_,rfl,dg7.get hg,g.2.1,_,rfl,.inl (SqL.of (dg7.lst g hg)),?_⟩;refine⟨_,_,rfl,rfl,?_⟩;refine⟨_,rfl,?_⟩;refine⟨hZ kvs (Sum.inl g.1:Key) (V.int (2 * wgt (gQ b) gs+2 * lng b gs * (g.1 - b))),g.1,_,by rw[e2,<- e3,<- aBN (as:=g.2.2) V.int];rfl,Same.upd' he sm6,by rw[aH nle];exact el6,aB,Nat.le_trans (iJ ..) (by omega),fun x hx hgt=>?_,fun m' hm'=>(List.pairwise_cons.mp hstd).1 m' hm',fun m' hm'=>?_⟩
    ·have:=hin x hx (by omega);rw[hdr]at this;rcases aBr.mp this with e | e
     ·omega
     ·exact e
    rw[vX]
    by_cases hmk:(Sum.inl m':Key)=Sum.inl g.1
    ·rw[if_pos hmk,e3];rw[Sum.inl.inj hmk]
    ·rw[if_neg hmk];rw[aBj,hm]at hm';rcases aBs.mp hm' with h | h
     ·exact hall m' h
     ·exact absurd (by have:m'=g.1:=by simpa using h
                       rw[this]) hmk
   ·rintro σ H6 ⟨kvs,b,v,rfl,sm6,el6,ee6,hkl6,_,_,hall⟩;refine⟨_,rfl,k e kvs H6 he sm6 ee6 fun g hg=>?_⟩;rw[aBN,aB1]at hall;rw[hall g.1 (hp.mem_iff.mpr (aBt.mpr ⟨g,hg,rfl⟩)),uI]
abbrev fA:Stmt:=top 20
theorem vB:bC ["offsets","size"] ["offsets","size"] (aE fA):=⟨rfl,rfl,rfl,by decide +kernel,rfl,by decide +kernel,by decide +kernel⟩
theorem vC {f:Addr} {fd:FuncData} (F:Fun K "drop_last" "drop_last" fA f fd) (B:Bt mg):FnOk P w K mg base CX0 1 f fd ["offsets","size"] iA:=by
 refine F.ok vB (fun vs H Q E h=>?_) (fun cdv A outer s H vs Q E hr h=>?_)
 ·obtain⟨d,gs,g,rfl,_⟩:=h;rfl
 ·obtain⟨d,gs,g,rfl,dg,hg,hne,k⟩:=h;have hu1:=pS hr;refine⟨_,(aG (bI (u3 aBm PySem.F.slot_list_pop PySem.F.type_list_pop u4 (gP hu1 (pv 0) (pv 1) (fun _ _=>rfl))))
 (aJ (cJ (kA (eM (gP hu1 (pv 0) (pv 1) (fun _ _=>rfl)) (fun _=>rfl)))
 (aJ (Z4 (pv 0) (pv 1)))
 bG))),?_⟩
  have hnn:g.2.2.map V.int≠[]:=by simpa using hne
  have hlast:(g.2.2.map V.int)[(g.2.2.map V.int).length - 1]?=some ((g.2.2.map V.int).getLast hnn):=by rw[<- List.getLast?_eq_getElem?];exact List.getLast?_eq_getLast hnn
  refine⟨_,rfl,_,rfl,d,_,rfl,dg.get hg,.inl ⟨rfl,_,SqL.of (dg.lst g hg)⟩,g.2.1,_,_,rfl,rfl,dg.lst g hg,hlast,?_⟩;rw[<- List.map_dropLast];have dg2:=dg.pops hg;have st2:StayG d gs H (upd H g.2.1 (.lst (g.2.2.dropLast.map V.int))):=fun b o _ n e=>by rw[aH (n g hg)];exact e
  generalize upd H g.2.1 (.lst (g.2.2.dropLast.map V.int))=H2 at dg2 st2 ⊢;have hg':(g.1,g.2.1,g.2.2.dropLast)∈pops g.1 gs:=aBt.mpr ⟨g,hg,if_pos rfl⟩;have hget:DGet H2 d (.int g.1) (some (.ref g.2.1)):=dg2.get (g:=(g.1,g.2.1,g.2.2.dropLast)) hg';have hls:H2 g.2.1=some (.lst (g.2.2.dropLast.map V.int)):=dg2.lst (g.1,g.2.1,g.2.2.dropLast) hg';refine⟨_,rfl,_,rfl,d,_,rfl,hget,_,.inl ⟨_,SqL.of hls,rfl⟩,?_⟩;have hany:((pops g.1 gs).any (fun x=>decide (x.1=g.1) && x.2.2.isEmpty))=g.2.2.dropLast.isEmpty:=by
   cases hE:g.2.2.dropLast.isEmpty with
   | true=>exact List.any_eq_true.mpr ⟨_,hg',by simp[hE]⟩
   | false =>
    rw[List.any_eq_false];intro x hx;simp only[Bool.and_eq_true,decide_eq_true_eq,not_and];intro e;have:x=(g.1,g.2.1,g.2.2.dropLast):=cK (f:=fun g:Grp=>g.1) dg2.key hx hg' e;rw[this];simp[hE]
  have hm:(g.2.2.dropLast.map V.int).isEmpty=g.2.2.dropLast.isEmpty:=by rw[List.isEmpty_map]
  simp only[hm];cases hE:g.2.2.dropLast.isEmpty with
  | true =>
   refine⟨_,rfl,_,rfl,d,_,Sum.inl g.1,rfl,dg2.at_,rfl,?_,k _ (fun b o n1 n2 e=>by rw[aH n1];exact st2 b o n1 n2 e) ?_⟩
   ·rw[dX,mR dg2.key hg'];rfl
   ·unfold shr;rw[hany,hE,if_pos rfl];exact dg2.outs g.1
  | false =>
   refine k _ st2 ?_;unfold shr;rw[hany,hE,if_neg aB0];exact dg2
abbrev fB:Stmt:=top 21
theorem nH:bC ["offsets","size","place","offset"] ["offsets","size","place"] (aE fB):=⟨rfl,rfl,rfl,by decide +kernel,rfl,by decide +kernel,by decide +kernel⟩
theorem vD {f:Addr} {fd:FuncData} (F:Fun K "add_train" "add_train" fB f fd) (B:Bt mg) (F_crowd:bO P w K mg base "crowd" 1 ["offsets","size"] mS):FnOk P w K mg base CX0 2 f fd ["offsets","size","place"] fW:=by
 refine F.ok nH (fun vs H Q E h=>?_) (fun cdv A outer s H vs Q E hr h=>?_)
 ·obtain⟨d,gs,k,p,rfl,_⟩:=h;rfl
 ·obtain⟨d,gs,k,p,rfl,dg,hl,hgn,kk⟩:=h;refine⟨_,(aG (aR (i:=3) nH.nd rfl (Or.inl rfl) (aK cG (aK cG (pv 2) (bE F_crowd hr rfl (aA (pv 0) (aA (pv 1) aC)))) (aK cN aD (pv 1))))
 (aJ (bI (eK aBm aBn aBo bT (A4 (pv 0) (pv 1) (cC aC) ⟨rfl,rfl,rfl,rfl⟩) (aA (pv 3) aC))))),?_⟩
  refine⟨_,rfl,_,rfl,_,rfl,d,gs,k,rfl,dg,hl,hgn,fun H3 sm=>?_⟩;refine⟨_,_,rfl,rfl,_,rfl,_,_,rfl,rfl,.inl ⟨by decide,by decide⟩,_,_,rfl,rfl,?_⟩;have dg3:DG H3 d gs:=⟨sm _ _ dg.at_,fun g hg=>sm _ _ (dg.lst g hg),dg.adr,dg.key⟩;refine⟨_,rfl,d,rfl,.inl ⟨_,.inl dg3.at_⟩,_,rfl,by decide,fun z hz=>?_⟩;have g4:=Same.upd (o:=.lst []) hz;have ez:(upd H3 z (.lst [])) z=some (.lst []):=aB;have hHz:H z=none:=sm.free hz;have nzd:z≠d:=fun e=>by rw[e,dg3.at_]at hz;cases hz
  generalize upd H3 z (.lst [])=H4 at g4 ez ⊢;have sm4:=sm.trans g4;have lst4:∀ g∈gs,H4 g.2.1=some (.lst (g.2.2.map V.int)):=fun g hg=>g4 _ _ (dg3.lst g hg);have nz:∀ g∈gs,g.2.1≠z:=fun g hg e=>by have:=dg3.lst g hg;rw[e,hz]at this;cases this
  have hgd:∀ g∈gs,g.2.1≠d:=fun g hg=>fS (dg3.lst g hg) dg3.at_ (by intro z;cases z);refine⟨kvG gs,Sum.inl k,g4 _ _ dg3.at_,rfl,by simp only[kvG,aBN];exact aO (by omega),fun v hv=>?_,fun hv=>?_⟩
  ·rw[dX]at hv;obtain⟨g,hg,rfl⟩:=aBp.mp hv;have hgm:=List.mem_of_find?_eq_some hg;have hgk:g.1=k:=by simpa using List.find?_some hg
   have eg:=lst4 g hgm;refine⟨.inl ⟨rfl,_,SqL.of eg⟩,_,rfl,g.2.1,_,_,rfl,rfl,eg,(by rw[aBN];exact aO (by have:=hgn g hgm;omega)),?_⟩;have hmem:∀ g'∈fG k (p - 2 * wgt (gQ k) gs - 2 * k) gs,∃ g0∈gs,g'.2.1=g0.2.1/\g'.1=g0.1/\(g'.2.2=if g0.1=k then g0.2.2++[(p - 2 * wgt (gQ k) gs - 2 * k)]else g0.2.2):=fun g' hg'=>by
    obtain⟨g0,h0,rfl⟩:=aBt.mp hg';refine⟨g0,h0,?_⟩
    by_cases hk:g0.1=k
    ·rw[if_pos hk,if_pos hk];exact⟨rfl,rfl,rfl⟩
    ·rw[if_neg hk,if_neg hk];exact⟨rfl,rfl,rfl⟩
   have uniq:∀ g0∈gs,g0.2.1=g.2.1->g0=g:=fun g0 h0 e=>cK (f:=fun g:Grp=>g.2.1) dg.adr h0 hgm e;refine kk (fG k (p - 2 * wgt (gQ k) gs - 2 * k) gs) _ (fun b u n1 n2 e=>by rw[aH (n2 g hgm)];exact sm4 b u e) ⟨by rw[wB,aH (Ne.symm (hgd g hgm))];exact g4 _ _ dg3.at_,fun g' hg'=>?_,by rw[wC];exact dg.adr,by rw[wD];exact dg.key⟩ (.inl ⟨⟨g,hgm,hgk⟩,rfl⟩);obtain⟨g0,h0,e1,e2,e3⟩:=hmem g' hg';rw[e1]
   by_cases hadr:g0.2.1=g.2.1
   ·have:=uniq g0 h0 hadr;subst this;rw[aB,e3,if_pos hgk,aB2];rfl
   ·have hk:g0.1≠k:=fun e=>hadr (by rw[cK (f:=fun g:Grp=>g.1) dg.key h0 hgm (e.trans hgk.symm)]);rw[aH hadr,e3,if_neg hk];exact lst4 g0 h0
  ·rw[dX]at hv;have hno:∀ g∈gs,g.1≠k:=fun g hg e=>by
    have:=List.find?_eq_none.mp (Option.map_eq_none_iff.mp hv) g hg;exact this (by simpa using e)
   rw[vY (V.ref z) (by rw[dX];exact hv)];have ez5:(upd H4 d (.dK (kvG gs++[((Sum.inl k:Key),V.ref z)]))) z=some (.lst []):=by rw[aH nzd];exact ez
   refine⟨.inl ⟨rfl,_,SqL.of ez5⟩,_,rfl,z,_,_,rfl,rfl,ez5,(show 0<sizeLine by decide),?_⟩;have hk6:∀ b u,b≠d->b≠z->H4 b=some u->(upd (upd H4 d (.dK (kvG gs++[((Sum.inl k:Key),V.ref z)]))) z (.lst ([]++[V.int (p - 2 * wgt (gQ k) gs - 2 * k)]))) b=some u:=fun b u n1 n2 e=>by rw[aH n2,aH n1];exact e
   refine kk (gs++[(k,z,[(p - 2 * wgt (gQ k) gs - 2 * k)])]) _ (fun b u n1 n2 e=>hk6 b u n1 (fun e'=>by rw[e',hHz]at e;cases e) (sm4 b u e)) ⟨?_,fun g hg=>?_,?_,?_⟩ (.inr ⟨hno,z,hHz,rfl⟩)
   ·rw[aH (Ne.symm nzd),aB];unfold kvG;rw[aB2];rfl
   ·rcases aBs.mp hg with h | h
    ·exact hk6 _ _ (hgd g h) (nz g h) (lst4 g h)
    ·rw[aBk.mp h];exact aB
   ·rw[aB2,List.nodup_append];refine⟨dg.adr,by simp,fun x hx y hy=>?_⟩;obtain⟨g,hg,rfl⟩:=aBt.mp hx;have hy':y=z:=by simpa using hy
    rw[hy'];exact nz g hg
   ·rw[aB2,List.nodup_append];refine⟨dg.key,by simp,fun x hx y hy=>?_⟩;obtain⟨g,hg,rfl⟩:=aBt.mp hx;have hy':y=k:=by simpa using hy
    rw[hy'];exact hno g hg
abbrev dY:Stmt:=top 19
theorem gS:bC ["offsets","place","crowded","ready","size"] ["offsets","place"] (aE dY):=⟨rfl,rfl,rfl,by decide +kernel,rfl,by decide +kernel,by decide +kernel⟩
theorem vE {f:Addr} {fd:FuncData} (F:Fun K "add_stone" "add_stone" dY f fd) (B:Bt mg) (F_crowds:bO P w K mg base "crowds" 1 ["offsets"] jE)
 (F_drop_last:bO P w K mg base "drop_last" 1 ["offsets","size"] iA) (F_add_train:bO P w K mg base "add_train" 2 ["offsets","size","place"] fW):FnOk P w K mg base CX0 3 f fd ["offsets","place"] jO:=by
 refine F.ok gS (fun vs H Q E h=>?_) (fun cdv A outer s H vs Q E hr h=>?_)
 ·obtain⟨d,gs,p,H0,rfl,_⟩:=h;rfl
 ·obtain⟨d,gs,p,H0,rfl,dg,gd,ac,hsto,bd,smH,hHd,hfr,k⟩:=h;have hu1:=pS hr;obtain⟨hb1,hb2⟩:=GoodG.bound gd;refine⟨_,(aG (aR (i:=2) gS.nd rfl (Or.inr rfl) (bE F_crowds hr rfl (aA (pv 0) aC)))
 (aG (Z9 (pB (i:=3) ["size","some"] ["place","crowded"] [1,2] rfl gS.nd rfl rfl (.of (show cB (aE dY) _ ["offsets","place","crowded","ready","size"] [1,2] ["place","crowded"]=true by decide +kernel)) (mP (pv 0)) (fun _ _ _=>(cZ (n:=2) K rfl rfl (aN (aL (i:=0) (show (["size","some","place","crowded"]:List Str).Nodup by decide +kernel) rfl (Or.inl rfl)) (aN (aL (i:=1) (show (["size","some","place","crowded"]:List Str).Nodup by decide +kernel) rfl (Or.inl rfl)) bW)))) (dS (aY (by decide) (aY (by decide) cY))) (fun _ _ _=>mG (aV gG (bJ (kI K rfl) (pv 1) (mF jL aD) (fun _ _=>rfl)) (aK cG (aK cG (pv 2) aD) (gP hu1 (pv 3) (pv 0) (fun _ _=>rfl))) (aP _))) (fun _ _ _=>(pv 0)) (by first | rfl | decide +kernel)))
 (aG (aR (i:=4) gS.nd rfl (Or.inl rfl) (nR rfl rfl B.max (pv 3) aD))
 (pC (cJ (aV oB (pv 4) aD (aP _))
 (aJ (bI (bE F_drop_last hr rfl (aA (pv 0) (aA (pv 4) aC)))))
 bG)
 (aJ (bI (bE F_add_train hr rfl (aA (pv 0) (aA (aK bQ (pv 4) aD) (aA (pv 1) aC)))))))))),?_⟩
  refine⟨_,rfl,d,gs,rfl,dg,gd,by omega,fun g hg=>by have:=hb2 g hg;omega,fun e kvs H5 he sm5 ee hall=>?_⟩;have dg5:DG H5 d gs:=⟨sm5 _ _ dg.at_,fun g hg=>sm5 _ _ (dg.lst g hg),dg.adr,dg.key⟩;have hed:e≠d:=fun z=>by rw[z,dg.at_]at he;cases he
  refine⟨d,kvG gs,dg5.at_,_,rfl,d,kvG gs,rfl,dg5.at_,fun od=>?_⟩;have sd:SameD d H5 (upd H5 d (.frz od (.dK (kvG gs)))):=fun b o n e=>by rw[aH n];exact e
  have ed:(upd H5 d (.frz od (.dK (kvG gs)))) d=some (.frz od (.dK (kvG gs))):=aB;have hlst:∀ g∈gs,(upd H5 d (.frz od (.dK (kvG gs)))) g.2.1=some (.lst (g.2.2.map V.int)):=fun g hg=>sd _ _ (fS (dg5.lst g hg) dg5.at_ (by intro z;cases z)) (dg5.lst g hg);have ee6:(upd H5 d (.frz od (.dK (kvG gs)))) e=some (.dK kvs):=sd _ _ hed ee;generalize upd H5 d (.frz od (.dK (kvG gs)))=H6 at sd ed hlst ee6 ⊢;have hkl:(kvG gs).length=gs.length:=by simp[kvG]
  refine lY (d:=d) (od:=od) (kvs:=kvG gs) (fun i ys H7=>Same H6 H7/\ys.length<=i/\∃ ns:List Int,ys=ns.map V.int/\(∀ n∈ns,∃ g∈gs,∃ hne:g.2.2≠[],n=g.1/\g.2.2.getLast hne=p - 1 - 2 * les (bH gs) g.1)/\(∀ g∈gs.take i,∀ hne:g.2.2≠[],g.2.2.getLast hne=p - 1 - 2 * les (bH gs) g.1->g.1∈ns)) ⟨Same.refl _,Nat.le_refl _,[],rfl,fun n hn=>(nomatch hn),fun g hg=>by simp at hg⟩ ?_ ?_ ?_
  ·rintro i ys H7 hi ⟨g7,hyl,_⟩;exact⟨g7 _ _ ed,aO (by omega)⟩
  ·rintro i ky x ys H7 t hx ⟨g7,hyl,ns,rfl,hn1,hn2⟩ htn;obtain⟨g,hg,hgx⟩:∃ g,gs[i]?=some g/\((Sum.inl g.1:Key),V.ref g.2.1)=(ky,x):=by
    unfold kvG at hx;rw[aBc]at hx;obtain⟨g,h1,h2⟩:=aBp.mp hx;exact⟨g,h1,h2⟩
   cases hgx;have hgm:=aBY hg;have g8:=g7.trans (Same.upd (o:=.tup [kV (Sum.inl g.1),V.ref g.2.1]) htn);have et8:(upd H7 t (.tup [kV (Sum.inl g.1),V.ref g.2.1])) t=some (.tup [kV (Sum.inl g.1),V.ref g.2.1]):=aB;generalize upd H7 t (.tup [kV (Sum.inl g.1),V.ref g.2.1])=H8 at g8 et8 ⊢;refine⟨t,_,rfl,SqT.of et8,rfl,_,_,rfl,_,_,rfl,rfl,?_⟩;have hne2:g.2.2≠[]:=(gd g hgm).2;have hv:atI (g.2.2.map V.int) (-1)=some (V.int (g.2.2.getLast hne2)):=uL hne2;have hget:DGet H8 e (.int g.1) (some (.int (2 * les (bH gs) g.1))):=by rw[<- hall g hgm];exact DGet.k (k:=(Sum.inl g.1:Key)) (g8 _ _ ee6)
   refine⟨_,rfl,_,rfl,g.2.1,_,_,_,rfl,rfl,SqL.of (g8 _ _ (hlst g hgm)),hv,_,rfl,_,_,rfl,rfl,_,rfl,_,rfl,e,_,rfl,hget,_,_,rfl,rfl,_,_,rfl,rfl,_,rfl,?_⟩;have htk:∀ x∈gs.take (i+1),x∈gs.take i\/x=g:=fun x hx=>by
    rw[aBj,hg]at hx;rcases aBs.mp hx with h | h
    ·exact .inl h
    ·exact .inr (by simpa using h)
   refine oV (fun hc=>?_) (fun hc=>?_)
   ·refine⟨_,rfl,g8,by rw[aBW,List.length_singleton];omega,ns++[g.1],by rw[aB2];rfl,fun n hn=>?_,fun x hx hne hl=>?_⟩
    ·rcases aBs.mp hn with h | h
     ·exact hn1 n h
     ·exact⟨g,hgm,hne2,by simpa using h,by omega⟩
    ·rcases htk x hx with h | h
     ·exact aB7 _ (hn2 x h hne hl)
     ·rw[h];exact aBR _ (by simp)
   ·refine⟨g8,by omega,ns,rfl,hn1,fun x hx hne hl=>?_⟩;rcases htk x hx with h | h
    ·exact hn2 x h hne hl
    ·subst h;exact absurd (by omega) hc
  ·rintro ys H7 ⟨g7,hyl,ns,rfl,hn1,hn2⟩ D hD;have hnD:D≠d:=fun z=>by rw[z,g7 _ _ ed]at hD;cases hD
   have edD:(upd H7 D (.lst (ns.map V.int))) d=some (.frz od (.dK (kvG gs))):=by rw[aH (Ne.symm hnD)];exact g7 _ _ ed
   have eD:(upd (upd H7 D (.lst (ns.map V.int))) d (.dK (kvG gs))) D=some (.lst (ns.map V.int)):=by rw[aH hnD,aB]
   have sm9:Same H5 (upd (upd H7 D (.lst (ns.map V.int))) d (.dK (kvG gs))):=fun b o q=>by
    by_cases hb:b=d
    ·subst hb;rw[aB,<- dg5.at_];exact q
    ·rw[aH hb];exact(g7.trans (Same.upd hD)) _ _ (sd b o hb q)
   refine⟨od,edD,?_⟩;generalize upd (upd H7 D (.lst (ns.map V.int))) d (.dK (kvG gs))=H9 at eD sm9 ⊢;have dg9:DG H9 d gs:=⟨sm9 _ _ dg5.at_,fun g hg=>sm9 _ _ (dg5.lst g hg),dg.adr,dg.key⟩;have smH9:=(smH.trans sm5).trans sm9;rw[hkl,aB1]at hn2;obtain⟨s0,es,hs0,hcase,htop⟩:=G1 gd hn1 hn2;refine⟨_,rfl,D,ns,rfl,SqL.of eD,?_⟩;rw[es];refine⟨fun σ' H'=>∃ gs1,σ'=[some (.ref d),some (.int p),some (.ref e),some (.ref D),some (.int s0)]/\Same H0 H'/\DG H' d gs1/\GoodG gs1/\sto gs1<=59/\(∀ g∈gs1,H0 g.2.1=none)/\(s0=0/\gs1=gs\/1<=s0/\∃ g∈gs,∃ hne:g.2.2≠[],g.1=s0/\g.2.2.getLast hne=p - 1 - 2 * les (bH gs) s0/\gs1=shr s0 gs),?_,?_⟩
   ·refine⟨_,rfl,_,_,rfl,rfl,_,rfl,?_⟩;refine oV (fun hc=>?_) (fun hc=>?_)
    ·rcases hcase with hz | ⟨hz,g,hg,hne,e1,e2⟩
     ·omega
     ·subst e1;refine⟨_,rfl,_,rfl,d,gs,g,rfl,dg9,hg,hne,fun H11 st11 dg11=>⟨shr g.1 gs,rfl,fun b o q=>st11 b o (fun z=>by rw[z,hHd]at q;cases q) (fun x hx z=>by rw[z,hfr x hx]at q;cases q) (smH9 b o q),dg11,gd.shr _,?_,fun x hx=>?_,.inr ⟨hz,g,hg,hne,rfl,e2,rfl⟩⟩⟩
      ·have:sto (shr g.1 gs)=sto gs - g.1:=A5 _ dg.key hg hne;omega
      ·obtain⟨y,hy,ez⟩:=A6 hx;rw[ez];exact hfr y hy
    ·rcases hcase with hz | ⟨hz,_⟩
     ·exact⟨gs,rfl,smH9,dg9,gd,hsto,hfr,.inl ⟨hz,rfl⟩⟩
     ·omega
   ·rintro σ' H10 ⟨gs1,rfl,sm10,dg10,gd10,hst10,hfr10,hs⟩;obtain⟨hc1,hc2⟩:=GoodG.bound gd10;refine⟨_,rfl,_,rfl,_,_,rfl,rfl,_,rfl,d,gs1,s0+1,p,rfl,dg10,by omega,fun x hx=>by have:=hc2 x hx;omega,fun gs' H12 st12 dg12 hpu=>?_⟩;rw[uI]at hpu;obtain⟨ha,hA,hG⟩:=yI dg.key gd ac bd hs htop hpu;refine k gs' H12 (fun b o q=>st12 b o (fun z=>by rw[z,hHd]at q;cases q) (fun x hx z=>by rw[z,hfr10 x hx]at q;cases q) (sm10 b o q)) dg12 hG hA ha fun x hx=>?_;rcases wJ hpu hx with ⟨y,hy,ez⟩ | hz
    ·rw[ez];exact hfr10 y hy
    ·exact sm10.free hz
abbrev fP:Stmt:=top 18
theorem mB:bC ["row","offsets","place"] ["row"] (aE fP):=⟨rfl,rfl,rfl,by decide +kernel,rfl,by decide +kernel,by decide +kernel⟩
inductive rC (H:Hp) (a:Addr) (d:Addr) (row:List Int) (i:Nat) (σ:St) (H3:Hp):Prop
 | mk (gs:List Grp) (v:Option V) (k0_:σ=[some (.ref a),some (.ref d),v]) (k1_:Same H H3) (k2_:DG H3 d gs) (k3_:GoodG gs) (k4_:Asc gs) (k5_:Lst (row.take i) (bH gs)) (k6_:∀ g∈gs,H g.2.1=none):rC H a d row i σ H3
theorem zJ {f:Addr} {fd:FuncData} (F:Fun K "list_of" "list_of" fP f fd) (B:Bt mg) (F_look_row:bO P w K mg base "look_row" 1 ["row"] tY) (F_add_stone:bO P w K mg base "add_stone" 3 ["offsets","place"] jO):FnOk P w K mg base CX0 4 f fd ["row"] fI:=by
 refine F.ok mB (fun vs H Q E h=>?_) (fun cdv A outer s H vs Q E hr h=>?_)
 ·obtain⟨a,row,rfl,_⟩:=h;rfl
 ·obtain⟨a,row,rfl,ha,hrow,hrl,k⟩:=h;have hu1:=pS hr;refine⟨_,(aG (bI (bE F_look_row hr rfl (aA (pv 0) aC)))
 (aG (aR (i:=1) mB.nd rfl (Or.inr rfl) mO)
 (aG (dL PassesOwn.never rfl (bL (pv 0)) (aL (i:=2) mB.nd rfl (Or.inl rfl))
 (aJ (bI (bE F_add_stone hr rfl (aA (pv 1) (aA (pv 2) aC))))))
 (aJ (bB (S0 ["size"] ["offset"] ["offsets"] [1] rfl (.of (show cB (aE fP) _ ["row","offsets","place"] [1] ["offsets"]=true by decide +kernel)) (bL (aF (gR rfl) (by rfl) B.sorted cP (aA (pv 1) aC))) (fun _ _ _=>(aL (i:=0) (show (["size","offset","offsets"]:List Str).Nodup by decide +kernel) rfl (Or.inl rfl))) (fH (by decide)) (fun _ _ _=>cA) (fun _ _ _=>(S1 K rfl (gP hu1 (pv 2) (pv 0) (fun _ _=>rfl)))) (fun _ _ _=>(aL (i:=1) (show (["size","offset","offsets"]:List Str).Nodup by decide +kernel) rfl (Or.inl rfl))) (Z8 (by decide) (by decide)) (fun _ _ _=>cA) (fun _ _ _=>(cL (aA (pv 0) (aA (pv 1) aC)))))))))),?_⟩
  refine⟨_,rfl,a,row,rfl,ha,hrow,hrl,?_⟩;refine fun d hd=>?_;have g1:=Same.upd (o:=.dK []) hd;have ed:(upd H d (.dK [])) d=some (.dK (kvG [])):=aB;generalize upd H d (.dK [])=H1 at g1 ed ⊢;refine⟨_,rfl,a,rfl,⟨_,SqL.of (g1 _ _ ha)⟩,dR (K:=K) (a:=a) (xs:=row.map V.int) (rC H a d row)
   ⟨[],none,rfl,g1,⟨ed,fun g hg=>(nomatch hg),List.Pairwise.nil,List.Pairwise.nil⟩,fun g hg=>(nomatch hg),fun g hg=>(nomatch hg),.nil,fun g hg=>(nomatch hg)⟩ (fun i σ H3 _ z_=>by obtain⟨_,_,_,sm,_⟩:=z_;exact SqL.of (sm _ _ ha)) ?_ ?_⟩
  ·rintro i x σ H3 hi ⟨gs,v,rfl,sm,dg,gd,ac,hl,hfr⟩;obtain⟨z,rfl,hz⟩:=int_at hi;have hil:i<row.length:=(aBq.mp hz).1;have htk:row.take (i+1)=row.take i++[z]:=by rw[aBj,hz];rfl
   have hlt:∀ x∈row.take i,x<z:=fun x hx=>by
    have hp:(row.take i++[z]).Pairwise (·<·):=by rw[<- htk];exact List.Pairwise.sublist (List.take_sublist _ _) hrow
    exact(List.pairwise_append.mp hp).2.2 x hx z (by simp)
   have hsz:sto gs=(i:Int):=by
    rw[pG,hl.sizx,aB3];omega
   refine⟨_,rfl,_,rfl,d,gs,z,H,rfl,dg,gd,ac,by omega,hl.bd fun x hx=>by have:=hlt x hx;omega,sm,hd,hfr,fun gs' H' sm' dg' gd' ac' hadd hfr'=>?_⟩;exact⟨gs',_,rfl,sm',dg',gd',ac',by rw[htk];exact .snoc hl hlt hadd,hfr'⟩
  ·rintro σ H3 ⟨gs,v,rfl,sm,dg,gd,ac,hl,hfr⟩;rw[aBN,aB1]at hl;obtain⟨hb1,hb2⟩:=GoodG.bound gd;have hsz:sto gs=(row.length:Int):=by rw[pG,hl.sizx]
   have hks:jX (kvG gs) (gs.map (·.1)):=by unfold jX kvG;simp[Function.comp]
   refine⟨_,rfl,d,kvG gs,gs.map (·.1),rfl,dg.at_,hks,by rw[aBN];omega,fun l ms hnl hp hs=>?_⟩;have g5:=Same.upd (o:=.lst (ms.map V.int)) hnl;have el:(upd H3 l (.lst (ms.map V.int))) l=some (.lst (ms.map V.int)):=aB;generalize upd H3 l (.lst (ms.map V.int))=H5 at g5 el ⊢;have hst:=tE hp hs dg.key;have dg5:DG H5 d gs:=⟨g5 _ _ dg.at_,fun g hg=>g5 _ _ (dg.lst g hg),dg.adr,dg.key⟩;have hsize:∀ i,(laid (ms.take i) gs).length<=60:=fun i=>by
    have h1:(laid (ms.take i) gs).length<=(laid ms gs).length:=by
     conv=>rhs;rw[<- List.take_append_drop i ms,oH,aBW]
     omega
    have h2:=(tB gs hp).length_eq;rw[tD dg.key]at h2;have h3:=cU hl.pos;have h4:(szs (bH gs)).sum=siz (bH gs):=rfl;have h5:=pG gs;omega
   refine⟨l,rfl,⟨_,SqL.of el⟩,yN (K:=K) (a:=l) (xs:=ms.map V.int) (fun i ys H6=>Same H5 H6/\Prs H6 ys (laid (ms.take i) gs)) ⟨Same.refl _,.nil⟩ ?_ ?_ ?_⟩
   ·rintro i ys H6 hi ⟨sm6,pr6⟩;exact⟨SqL.of (sm6 _ _ el),by rw[pr6.len];exact aO (by have:=hsize i;omega)⟩
   ·rintro i x ys H6 hi ⟨sm6,pr6⟩;obtain⟨m,rfl,hm⟩:=int_at hi;obtain⟨g,hg,hgm⟩:=aBt.mp (hp.mem_iff.mp (aBY hm));have hgm:g.1=m:=hgm;subst hgm;have dg6:DG H6 d gs:=⟨sm6 _ _ dg5.at_,fun g hg=>sm6 _ _ (dg5.lst g hg),dg.adr,dg.key⟩;have htk:laid (ms.take (i+1)) gs=laid (ms.take i) gs++g.2.2.map fun o=>(g.1,o):=by
     rw[aBj,hm,oH]
     congr 1
     exact S4 dg.key hg
    have hgl:=hsize (i+1);rw[htk,aBW,aBN]at hgl;refine⟨_,rfl,_,rfl,d,_,rfl,dg6.get hg,g.2.1,rfl,⟨_,SqL.of (dg6.lst g hg)⟩,yO (K:=K) (a:=g.2.1) (xs:=g.2.2.map V.int) (fun j ys H7=>Same H6 H7/\Prs H7 ys (laid (ms.take i) gs++(g.2.2.take j).map fun o=>(g.1,o))) ⟨Same.refl _,by rw[List.take_zero,List.map_nil,List.append_nil];exact pr6⟩ ?_ ?_ ?_⟩
    ·rintro j ys H7 hj ⟨sm7,pr7⟩;refine⟨SqL.of (sm7 _ _ (dg6.lst g hg)),?_⟩;rw[pr7.len,aBW,aBN,aB3];exact aO (by omega)
    ·rintro j x ys H7 hj ⟨sm7,pr7⟩;obtain⟨o,rfl,ho⟩:=int_at hj;refine⟨_,rfl,_,rfl,(show 2<=sizeLine by decide),fun t ht=>⟨sm7.trans (Same.upd ht),?_⟩⟩;rw[aBj,ho,aB2,<- List.append_assoc];exact Paired.append' (pr7.mono (TupS.new ht)) (.cons ⟨t,rfl,aB⟩ .nil)
    ·rintro ys H7 ⟨sm7,pr7⟩;rw[aBN,aB1]at pr7;rw[htk];exact⟨sm6.trans sm7,pr7⟩
   ·rintro ys H6 ⟨sm6,pr6⟩ D hD;rw[aBN,aB1]at pr6;have hpm:(laid ms gs).Perm (bH gs):=by rw[<- tD dg.key];exact tB gs hp
    have sm36:=(sm.trans g5).trans sm6;exact k (laid ms gs) (hl.perm hpm.symm) (oJ ac hst) D ys _ (sm36.free hD) (sm36.trans (Same.upd hD)) aB (pr6.mono (TupS.new hD))
abbrev jJ:Stmt:=top 17
theorem N0:bC ["row"] ["row"] (aE jJ):=⟨rfl,rfl,rfl,by decide +kernel,rfl,by decide +kernel,by decide +kernel⟩
theorem N1 {f:Addr} {fd:FuncData} (F:Fun K "trains" "trains" jJ f fd) (B:Bt mg) (F_list_of:bO P w K mg base "list_of" 4 ["row"] fI):FnOk P w K mg base CX0 5 f fd ["row"] fI:=by
 refine F.ok N0 (fun vs H Q E h=>?_) (fun cdv A outer s H vs Q E hr h=>?_)
 ·obtain⟨a,row,rfl,_⟩:=h;rfl
 ·obtain⟨a,row,rfl,ha,hrow,hrl,k⟩:=h;refine⟨_,(aJ (bB (bE F_list_of hr rfl (aA (pv 0) aC)))),?_⟩;exact⟨_,rfl,a,row,rfl,ha,hrow,hrl,fun qs h1 h2 l vs H' a b c d=>k qs h1 h2 l vs H' a b c d⟩
abbrev iH:Stmt:=top 22
theorem fQ:bC ["trains","offsets","row","crowded","place","shortest","size"] ["trains"] (aE iH):=⟨rfl,rfl,rfl,by decide +kernel,rfl,by decide +kernel,by decide +kernel⟩
theorem N2 {f:Addr} {fd:FuncData} (F:Fun K "row_of" "row_of" iH f fd) (B:Bt mg) (F_look_trains:bO P w K mg base "look_trains" 1 ["trains"] mM) (F_by_size:bO P w K mg base "by_size" 1 ["trains"] jG) (F_crowds:bO P w K mg base "crowds" 1 ["offsets"] jE)
 (F_drop_last:bO P w K mg base "drop_last" 1 ["offsets","size"] iA) (F_add_train:bO P w K mg base "add_train" 2 ["offsets","size","place"] fW):FnOk P w K mg base CX0 3 f fd ["trains"] mV:=by
 refine F.ok fQ (fun vs H Q E h=>?_) (fun cdv A outer s H vs Q E hr h=>?_)
 ·obtain⟨a,ps,rfl,_⟩:=h;rfl
 ·obtain⟨a,ps,rfl,hps,ht,k⟩:=h;have hu1:=pS hr;have hu:=hr.units;refine⟨_,(aG (bI (bE F_look_trains hr rfl (aA (pv 0) aC)))
 (aG (aR (i:=1) fQ.nd rfl (Or.inl rfl) (bE F_by_size hr rfl (aA (pv 0) aC)))
 (aG (aR (i:=2) fQ.nd rfl (Or.inl rfl) (cC aC))
 (aG (pP PassesOwn.never (G0 (pv 1) (fun _=>rfl))
 (aG (aR (i:=3) fQ.nd rfl (Or.inr rfl) (bE F_crowds hr rfl (aA (pv 1) aC)))
 (aG (xS (aF (E9 rfl hu) (by rfl) B.max mH (aA (uG (cD ["size","some"] ["crowded"] [3] rfl (.of (show cB (aE iH) _ ["trains","offsets","row","crowded","place","shortest","size"] [3] ["crowded"]=true by decide +kernel)) (mP (pv 1)) (fun _ _ _=>(cZ (n:=2) K rfl rfl (aN (aL (i:=0) (show (["size","some","crowded"]:List Str).Nodup by decide +kernel) rfl (Or.inl rfl)) (aN (aL (i:=1) (show (["size","some","crowded"]:List Str).Nodup by decide +kernel) rfl (Or.inl rfl)) bW)))) (dS (aY (by decide) (aY (by decide) cY))) (fun _ _ _=>cA) (fun _ _ _=>(cL (aA (aK bQ (bJ (kI K rfl) (pv 1) (mF jL aD) (fun _ _=>rfl)) (gP hu1 (pv 2) (pv 0) (fun _ _=>rfl))) (aA (mF jL (pv 0)) aC)))))) aC)) (jK rfl (aN (aL (i:=4) fQ.nd rfl (Or.inl rfl)) (aN (aL (i:=5) fQ.nd rfl (Or.inl rfl)) bW))))
 (aG (aR (i:=6) fQ.nd rfl (Or.inl rfl) (mF jL (pv 5)))
 (aG (bI (eK aBm aBn aBo bT (pv 2) (aA (pv 4) aC)))
 (aG (bI (bE F_drop_last hr rfl (aA (pv 1) (aA (pv 6) aC))))
 (aJ (cJ (aV oB (pv 6) aD (aP _))
 (aJ (bI (bE F_add_train hr rfl (aA (pv 1) (aA (aK cG (pv 6) aD) (aA (aK cG (pv 4) aD) aC))))))
 bG))))))))
 (aJ (bB (aF uD (by rfl) B.sorted cP (aA (pv 2) aC)))))))),?_⟩
  refine⟨_,rfl,a,ps,rfl,hps,ht,fun H1 g1=>?_⟩;refine⟨_,rfl,a,ps,rfl,hps.mono g1,ht.len,fun d gs H2 hd sm2 dg hfp hac hne=>?_⟩;refine⟨by decide,fun r hrn=>?_⟩;have g3:=Same.upd (o:=.lst []) hrn;have er:(upd H2 r (.lst [])) r=some (.lst []):=aB;have sm3:=(g1.trans sm2).trans g3;have hHr:H r=none:=(g1.trans sm2).free hrn;have hHd:H d=none:=g1.free hd;generalize upd H2 r (.lst [])=H3 at g3 er sm3 ⊢;have dg3:DG H3 d gs:=⟨g3 _ _ dg.at_,fun g hg=>g3 _ _ (dg.lst g hg),dg.adr,dg.key⟩;have gd:GoodG gs:=fun g hg=>⟨by
   have hm:=List.getLast_mem (hne g hg).1;exact ht.pos (g.1,g.2.2.getLast (hne g hg).1) (hfp.mem_iff.mp (fV.mpr ⟨g,hg,rfl,hm⟩)),(hne g hg).1⟩
  have hst:sto gs=(szs ps).sum:=by rw[pG,jC hfp];rfl
  have hlo:0<=sto gs:=by have:=(GoodG.bound gd).1;omega
  refine⟨x8 H ps a d r,⟨(sto gs).toNat,gs,[],_,_,_,_,rfl,sm3,dg3,gd,hac,er,fun g hg=>⟨g1.free (hne g hg).2,fun e=>?_⟩,by omega,by have:=ht.few;simp only[List.length_nil];omega,fun r' hr'=>by simpa using hr'.perm hfp⟩,?_⟩
  ·have:=dg.lst g hg;rw[e,hrn]at this;cases this
  clear hst hlo gd dg3 sm3 er g3 hne hfp hac dg sm2 g1;rintro m σ H4 ⟨gs,row,v3,v4,v5,v6,rfl,sm,dg,gd,ac,er,hfr,hm,hcount,fin⟩;obtain⟨hb1,hb2⟩:=GoodG.bound gd;have hpos:∀ q∈bH gs,1<=q.1:=fun q hq=>by
   obtain⟨x,hx,e1,_⟩:=fV.mp hq;rw[<- e1];exact(gd x hx).1
  refine⟨_,rfl,d,kvG gs,rfl,dg.at_,?_⟩
  by_cases hgs:gs=[]
  ·subst hgs;have hfin:Lst row.reverse ps:=by simpa using fin [] .nil
   refine⟨_,rfl,r,row,rfl,er,by omega,fun l ms hl hpm hsm=>?_⟩;have em:=yP hpm hsm hfin.rowp;subst em;exact k row.reverse hfin l _ (sm.free hl) (sm.trans (Same.upd hl)) aB
  have hne:(!(kvG gs).isEmpty)=true:=by
   cases gs with
   | nil=>exact absurd rfl hgs
   | cons _ _=>rfl
  rw[hne];show (if true=true then _ else _);rw[if_pos rfl];refine⟨fun σ' H'=>∃ m',m'<m/\x8 H ps a d r m' σ' H',fun _ _ h=>h,?_⟩;refine⟨_,rfl,d,gs,rfl,dg,gd,by omega,fun g hg=>by have:=hb2 g hg;omega,fun e kvs H5 he sm5 ee hall=>?_⟩;have dg5:DG H5 d gs:=⟨sm5 _ _ dg.at_,fun g hg=>sm5 _ _ (dg.lst g hg),dg.adr,dg.key⟩;refine⟨d,kvG gs,dg5.at_,_,rfl,d,kvG gs,rfl,dg5.at_,fun od=>?_⟩;have hed:e≠d:=fun z=>by rw[z,dg.at_]at he;cases he
  have sd:SameD d H5 (upd H5 d (.frz od (.dK (kvG gs)))):=fun b o n e=>by rw[aH n];exact e
  have ed:(upd H5 d (.frz od (.dK (kvG gs)))) d=some (.frz od (.dK (kvG gs))):=aB;have hlst:∀ g∈gs,(upd H5 d (.frz od (.dK (kvG gs)))) g.2.1=some (.lst (g.2.2.map V.int)):=fun g hg=>sd _ _ (fS (dg5.lst g hg) dg5.at_ (by intro z;cases z)) (dg5.lst g hg);have ee6:(upd H5 d (.frz od (.dK (kvG gs)))) e=some (.dK kvs):=sd _ _ hed ee;generalize upd H5 d (.frz od (.dK (kvG gs)))=H6 at sd ed hlst ee6 ⊢;have hkl:(kvG gs).length=gs.length:=by simp[kvG]
  refine lY (d:=d) (od:=od) (kvs:=kvG gs) (fun i ys H7=>Same H6 H7/\ys.length=i/\∃ qs:List (Int×Int),Prs H7 ys qs/\(∀ q∈qs,∃ g∈gs,∃ hne:g.2.2≠[],q=(g.2.2.getLast hne+2 * les (bH gs) g.1,-g.1))/\∀ g∈gs.take i,∀ hne:g.2.2≠[],(g.2.2.getLast hne+2 * les (bH gs) g.1,-g.1)∈qs) ⟨Same.refl _,rfl,[],.nil,fun q hq=>(nomatch hq),fun g hg=>by simp at hg⟩ ?_ ?_ ?_
  ·rintro i ys H7 hi ⟨g7,hyl,_⟩;exact⟨g7 _ _ ed,aO (by omega)⟩
  ·rintro i ky x ys H7 t hx ⟨g7,hyl,qs,pr,hq,hq2⟩ htn;obtain⟨g,hg,hgx⟩:∃ g,gs[i]?=some g/\((Sum.inl g.1:Key),V.ref g.2.1)=(ky,x):=by
    unfold kvG at hx;rw[aBc]at hx;obtain⟨g,h1,h2⟩:=aBp.mp hx;exact⟨g,h1,h2⟩
   cases hgx;have hgm:=aBY hg;have g8:=g7.trans (Same.upd (o:=.tup [kV (Sum.inl g.1),V.ref g.2.1]) htn);have pr8:=pr.mono (TupS.same (Same.upd (o:=.tup [kV (Sum.inl g.1),V.ref g.2.1]) htn));have et8:(upd H7 t (.tup [kV (Sum.inl g.1),V.ref g.2.1])) t=some (.tup [kV (Sum.inl g.1),V.ref g.2.1]):=aB;generalize upd H7 t (.tup [kV (Sum.inl g.1),V.ref g.2.1])=H8 at g8 pr8 et8 ⊢;refine⟨t,_,rfl,SqT.of et8,rfl,_,_,rfl,_,_,rfl,rfl,?_⟩;have hne2:g.2.2≠[]:=(gd g hgm).2;have hv:atI (g.2.2.map V.int) (-1)=some (V.int (g.2.2.getLast hne2)):=uL hne2;have hget:DGet H8 e (.int g.1) (some (.int (2 * les (bH gs) g.1))):=by rw[<- hall g hgm];exact DGet.k (k:=(Sum.inl g.1:Key)) (g8 _ _ ee6)
   refine⟨_,rfl,_,rfl,g.2.1,_,_,_,rfl,rfl,SqL.of (g8 _ _ (hlst g hgm)),hv,_,rfl,_,rfl,e,_,rfl,hget,_,_,rfl,rfl,_,rfl,_,rfl,by show 2<=sizeLine;decide,fun t2 ht2=>?_⟩;refine⟨g8.trans (Same.upd ht2),by rw[aBW,hyl];rfl,qs++[(g.2.2.getLast hne2+2 * les (bH gs) g.1,-g.1)],Paired.snoc (pr8.mono (TupS.same (Same.upd ht2))) ⟨t2,rfl,aB⟩,fun q hq'=>?_,fun x hx hnx=>?_⟩
   ·rcases aBs.mp hq' with h | h
    ·exact hq q h
    ·rw[aBk.mp h];exact⟨g,hgm,hne2,rfl⟩
   ·rw[aBj,hg]at hx;rcases aBs.mp hx with h | h
    ·exact aB7 _ (hq2 x h hnx)
    ·have:x=g:=by simpa using h
     subst this;exact aBR _ (by simp)
  ·rintro ys H7 ⟨g7,hyl,qs,pr,hq,hq2⟩ D hD;rw[hkl,aB1]at hq2;have hnD:D≠d:=fun z=>by rw[z,g7 _ _ ed]at hD;cases hD
   have edD:(upd H7 D (.lst ys)) d=some (.frz od (.dK (kvG gs))):=by rw[aH (Ne.symm hnD)];exact g7 _ _ ed
   have eD:(upd (upd H7 D (.lst ys)) d (.dK (kvG gs))) D=some (.lst ys):=by rw[aH hnD,aB]
   have pr9:Prs (upd (upd H7 D (.lst ys)) d (.dK (kvG gs))) ys qs:=(pr.mono (TupS.same (Same.upd hD))).mono fun t xs q=>by
    rw[aH (fS q edD (by intro z;cases z))];exact q
   have sm9:Same H5 (upd (upd H7 D (.lst ys)) d (.dK (kvG gs))):=fun b o q=>by
    by_cases hb:b=d
    ·subst hb;rw[aB,<- dg5.at_];exact q
    ·rw[aH hb];exact(g7.trans (Same.upd hD)) _ _ (sd b o hb q)
   refine⟨od,edD,D,ys,qs,rfl,eD,pr9,fun z=>?_,fun j x htop hx=>?_⟩
   ·rw[z]at hyl;rw[hkl]at hyl;exact hgs (List.length_eq_zero_iff.mp hyl.symm)
   generalize upd (upd H7 D (.lst ys)) d (.dK (kvG gs))=H9 at pr9 sm9 ⊢;obtain⟨p,t',hp,rfl,et⟩:=bP pr9 hx;obtain⟨g,hg,hgne,hpg,hplace,hbest⟩:=yQ gd htop hp hq hq2;have dg9:DG H9 d gs:=⟨sm9 _ _ dg5.at_,fun g hg=>sm9 _ _ (dg5.lst g hg),dg.adr,dg.key⟩;have er9:=sm9 _ _ (sm5 _ _ er);have smH:=(sm.trans sm5).trans sm9;refine⟨t',_,rfl,SqT.of et,rfl,_,_,rfl,_,_,rfl,rfl,?_⟩;refine⟨_,rfl,_,rfl,?_⟩;refine⟨_,rfl,.inl ⟨rfl,_,SqL.of er9⟩,_,rfl,r,_,_,rfl,rfl,er9,by rw[aBN];exact aO (by omega),?_⟩;have hrd:r≠d:=fS er9 dg9.at_ (by intro z;cases z);have dg10:DG (upd H9 r (.lst (row.map V.int++[V.int p.1]))) d gs:=⟨by rw[aH (Ne.symm hrd)];exact dg9.at_,fun g hg=>by rw[aH (hfr g hg).2];exact dg9.lst g hg,dg.adr,dg.key⟩;have er10:(upd H9 r (.lst (row.map V.int++[V.int p.1]))) r=some (.lst ((row++[p.1]).map V.int)):=by rw[aB,aB2];rfl
   have sm10:Same H (upd H9 r (.lst (row.map V.int++[V.int p.1]))):=Same.upd' hHr smH;generalize upd H9 r (.lst (row.map V.int++[V.int p.1]))=H10 at dg10 er10 sm10 ⊢;have hg1:=(gd g hg).1;have hnn:-p.2=g.1:=by omega
   refine⟨_,rfl,_,rfl,d,gs,g,by show [V.ref d,V.int (-p.2)]=_;rw[hnn],dg10,hg,hgne,fun H11 st11 dg11=>?_⟩;have sm11:Same H H11:=st11.same sm10 hHd hfr;have er11:=st11 _ _ hrd (fun x hx z=>(hfr x hx).2 z.symm) er10;have gd11:GoodG (shr g.1 gs):=gd.shr g.1;have hw11:sto (shr g.1 gs)=sto gs - g.1:=A5 _ dg.key hg hgne;have hfr11:∀ x∈shr g.1 gs,H x.2.1=none/\x.2.1≠r:=fun x hx=>by
    obtain⟨y,hy,e⟩:=A6 hx;rw[e];exact hfr y hy
   obtain⟨hc1,hc2⟩:=GoodG.bound gd11;refine⟨_,rfl,_,_,rfl,rfl,_,rfl,?_⟩
   by_cases h1:1<g.1
   ·have hd1:decide ((1:Int) < -p.2)=true:=by rw[hnn];exact aBa h1
    show (if decide ((1:Int) < -p.2)=true then _ else _);rw[hd1,if_pos rfl];refine⟨_,rfl,_,rfl,_,_,rfl,rfl,_,rfl,_,_,rfl,rfl,d,shr g.1 gs,-p.2 - 1,p.1 - 1,rfl,dg11,by omega,fun x hx=>by have:=hc2 x hx;omega,fun gs' H12 st12 dg12 hputs=>?_⟩;rw[uI,hnn]at hputs;have hpu:qE H11 (g.1 - 1) (p.1 - 1 - 2 * les (bH (shr g.1 gs)) (g.1 - 1) - 2 * (g.1 - 1)) (shr g.1 gs) gs':=hputs;obtain⟨hTak,hAsc,hGood⟩:=qI dg.key gd ac hg hgne hplace hbest (.inr ⟨by omega,hpu⟩);have hw12:sto gs'=sto (shr g.1 gs)+(g.1 - 1):=R6 _ dg11.key hpu;have er12:=st12 _ _ hrd (fun x hx z=>(hfr11 x hx).2 z.symm) er11;refine⟨m - 1,by omega,gs',row++[p.1],_,_,_,_,rfl,st12.same sm11 hHd hfr11,dg12,hGood,hAsc,er12,fun x hx=>?_,by omega,by rw[aBW,List.length_singleton];omega,by rw[List.reverse_append];exact qL hTak hpos fin⟩;rcases wJ hpu hx with ⟨y,hy,e⟩ | hz
    ·rw[e];exact hfr11 y hy
    ·exact⟨sm11.free hz,fun e=>by rw[e,er11]at hz;cases hz⟩
   ·have hd1:decide ((1:Int) < -p.2)=false:=by rw[hnn];exact aB9 h1
    show (if decide ((1:Int) < -p.2)=true then _ else _);rw[hd1,if_neg aB0];obtain⟨hTak,hAsc,hGood⟩:=qI (H:=H11) dg.key gd ac hg hgne hplace hbest (.inl ⟨by omega,rfl⟩);exact⟨m - 1,by omega,shr g.1 gs,row++[p.1],_,_,_,_,rfl,sm11,dg11,gd11,hAsc,er11,hfr11,by omega,by rw[aBW,List.length_singleton];omega,by rw[List.reverse_append];exact qL hTak hpos fin⟩
abbrev mC:Stmt:=top 25
theorem i9:bC ["walks","size"] ["walks","size"] (aE mC):=⟨rfl,rfl,rfl,by decide +kernel,rfl,by decide +kernel,by decide +kernel⟩
theorem j3 {f:Addr} {fd:FuncData} (F:Fun K "gain" "gain" mC f fd) (B:Bt mg):FnOk P w K mg base CX0 1 f fd ["walks","size"] uM:=by
 refine F.ok i9 (fun vs H Q E h=>?_) (fun cdv A outer s H vs Q E hr h=>?_)
 ·obtain⟨a,r,j,rfl,_⟩:=h;rfl
 ·obtain⟨a,ws,j,rfl,⟨us,ha,pr⟩,hl,hc,hj0,hj1,k⟩:=h;have e:us.length=ws.length:=pr.len;refine⟨_,(aJ (bB (aF (jB rfl) (by rfl) B.sum jA (aA (cD ["creel","count"] ["size"] [1] rfl (.of (show cB (aE mC) _ ["walks","size"] [1] ["size"]=true by decide +kernel)) (bL (pv 0)) (fun _ _ _=>(cZ (n:=2) K rfl rfl (aN (aL (i:=0) (show (["creel","count","size"]:List Str).Nodup by decide +kernel) rfl (Or.inl rfl)) (aN (aL (i:=1) (show (["creel","count","size"]:List Str).Nodup by decide +kernel) rfl (Or.inl rfl)) bW)))) (dS (aY (by decide) (aY (by decide) cY))) (fun _ _ _=>cA) (fun _ _ _=>(aK cN (pv 1) (aF (lD rfl) (by rfl) B.min kH (aA (pv 0) (aA (pv 2) aC)))))) aC)))),?_⟩;refine⟨_,rfl,a,rfl,⟨_,SqL.of ha⟩,bU (K:=K) (a:=a) (xs:=us) (fun i ys H3=>H3=H/\ys=((ws.take i).map (gJ j)).map V.int) ⟨rfl,rfl⟩ ?_ ?_ ?_⟩
  ·rintro i ys H3 hi ⟨rfl,rfl⟩;exact⟨SqL.of ha,by simp only[aBN,aB3];exact aO (by omega)⟩
  ·rintro i x ys H3 hi ⟨rfl,rfl⟩;obtain⟨p,t',hp,rfl,et⟩:=bP pr hi;have h1:=hc p (aBY hp);refine⟨t',_,rfl,SqT.of et,rfl,_,_,rfl,_,_,rfl,rfl,_,rfl,_,rfl,_,rfl,_,_,rfl,_,_,rfl,rfl,.inr ⟨?_,?_⟩,rfl,dU (gJ j) hp⟩
   ·split <;> omega
   ·split <;> omega
  ·rintro ys H3 ⟨rfl,rfl⟩ D hD;exact⟨D,ws.map (gJ j),rfl,by rw[aB,e,aB1],k _ (Same.upd hD)⟩
abbrev jT:Stmt:=top 24
theorem X3:bC ["trains","walks"] ["trains","walks"] (aE jT):=⟨rfl,rfl,rfl,by decide +kernel,rfl,by decide +kernel,by decide +kernel⟩
theorem X4 {f:Addr} {fd:FuncData} (F:Fun K "added" "added" jT f fd) (B:Bt mg) (F_look_trains:bO P w K mg base "look_trains" 1 ["trains"] mM) (F_look_walks:bO P w K mg base "look_walks" 2 ["walks"] pH) (F_gain:bO P w K mg base "gain" 1 ["walks","size"] uM):FnOk P w K mg base CX0 3 f fd ["trains","walks"] pI:=by
 refine F.ok X3 (fun vs H Q E h=>?_) (fun cdv A outer s H vs Q E hr h=>?_)
 ·obtain⟨a,b,r,j,rfl,_⟩:=h;rfl
 ·obtain⟨a,b,ps,ws,rfl,hps,ht,hws,hwl,hc,k⟩:=h;refine⟨_,(aG (bI (bE F_look_trains hr rfl (aA (pv 0) aC)))
 (aG (bI (bE F_look_walks hr rfl (aA (pv 1) aC)))
 (aJ (bB (aF gO (by rfl) B.sorted cP (aA (cD ["size","offset"] ["walks"] [1] rfl (.of (show cB (aE jT) _ ["trains","walks"] [1] ["walks"]=true by decide +kernel)) (bL (pv 0)) (fun _ _ _=>(cZ (n:=2) K rfl rfl (aN (aL (i:=0) (show (["size","offset","walks"]:List Str).Nodup by decide +kernel) rfl (Or.inl rfl)) (aN (aL (i:=1) (show (["size","offset","walks"]:List Str).Nodup by decide +kernel) rfl (Or.inl rfl)) bW)))) (dS (aY (by decide) (aY (by decide) cY))) (fun _ _ _=>cA) (fun _ _ _=>(cL (aA (pv 0) (aA (aK bQ (pv 1) (bE F_gain hr rfl (aA (pv 2) (aA (pv 0) aC)))) aC))))) aC)))))),?_⟩
  refine⟨_,rfl,a,ps,rfl,hps,ht,fun H1 g1=>?_⟩;have hws1:=hws.mono g1;refine⟨_,rfl,b,ws,rfl,hws1,hc,?_⟩;obtain⟨us,ha,pr⟩:=hps.mono g1;have e:us.length=ps.length:=pr.len;have hpl:=ht.len;refine⟨_,rfl,a,rfl,⟨_,SqL.of ha⟩,bU (K:=K) (a:=a) (xs:=us) (fun i ys H3=>Same H1 H3/\Prs H3 ys ((cR ps ws).take i)) ⟨Same.refl _,.nil⟩ ?_ ?_ ?_⟩
  ·rintro i ys H3 hi ⟨g3,pr3⟩;refine⟨SqL.of (g3 _ _ ha),aO ?_⟩;rw[pr3.len];simp only[aB3,cR,aBN];omega
  ·rintro i x ys H3 hi ⟨g3,pr3⟩;obtain⟨p,t',hp,rfl,et⟩:=bP pr hi;have hpm:=aBY hp;have h1:=ht.pos p hpm;have h2:=T4 ht hpm;refine⟨t',_,rfl,SqT.of (g3 _ _ et),rfl,_,_,rfl,_,_,rfl,rfl,_,rfl,_,rfl,_,rfl,_,rfl,b,ws,p.1,rfl,hws1.mono g3,hwl,hc,by omega,by omega,fun H4 g4=>?_⟩;refine⟨_,_,rfl,rfl,(show 2<=sizeLine by decide),fun t ht'=>⟨g3.trans (g4.trans (Same.upd ht')),?_⟩⟩;have ei:(cR ps ws).take (i+1)=(cR ps ws).take i++[(p.1,p.2+fM ws p.1)]:=by
    rw[aBj];unfold cR;rw[aBc,hp];rfl
   rw[ei];exact Paired.append' (Prs.mono (TupS.same (g4.trans (Same.upd ht'))) pr3) (.cons ⟨t,rfl,aB⟩ .nil)
  ·rintro ys H3 ⟨g3,pr3⟩ D hD;rw[e,show ps.length=(cR ps ws).length by simp[cR],aB1]at pr3;have gD:=Same.upd (o:=.lst ys) hD;refine⟨D,ys,cR ps ws,rfl,aB,Prs.mono (TupS.same gD) pr3,by simp[cR];omega,fun l us' qs hl pr' hperm hs=>?_⟩;have gA:=(g1.trans g3).trans gD;exact k qs hperm hs l us' _ (gA.free hl) (Same.upd' (gA.free hl) gA) aB (Prs.mono (TupS.new hl) pr')
abbrev tN:Stmt:=top 26
theorem z8:bC ["row","walks"] ["row","walks"] (aE tN):=⟨rfl,rfl,rfl,by decide +kernel,rfl,by decide +kernel,by decide +kernel⟩
theorem z9 {f:Addr} {fd:FuncData} (F:Fun K "far" "far" tN f fd) (B:Bt mg) (F_list_of:bO P w K mg base "list_of" 4 ["row"] fI) (F_added:bO P w K mg base "added" 3 ["trains","walks"] pI) (F_row_of:bO P w K mg base "row_of" 3 ["trains"] mV):FnOk P w K mg base CX0 5 f fd ["row","walks"] B1:=by
 refine F.ok z8 (fun vs H Q E h=>?_) (fun cdv A outer s H vs Q E hr h=>?_)
 ·obtain⟨a,b,row,ws,rfl,_⟩:=h;rfl
 ·obtain⟨a,b,row,ws,rfl,ha,hrow,hrl,hb,hwl,hc,k⟩:=h;refine⟨_,(aJ (bB (bE F_row_of hr rfl (aA (bE F_added hr rfl (aA (bE F_list_of hr rfl (aA (pv 0) aC)) (aA (pv 1) aC))) aC)))),?_⟩;refine⟨_,rfl,a,row,rfl,ha,hrow,hrl,fun qs hq1 hq2 l1 us1 H1 hl1 g1 el1 pr1=>?_⟩;refine⟨_,rfl,l1,b,qs,ws,rfl,⟨us1,el1,pr1⟩,hq1.trn hrl,hb.mono g1,hwl,hc,fun rs hr1 hr2 l2 us2 H2 hl2 g2 el2 pr2=>?_⟩;have hT:=T3 (T8 (ws:=ws) (hq1.trn hrl)) hr1;refine⟨l2,rs,rfl,⟨us2,el2,pr2⟩,hT,fun r hr l3 H3 hl3 g3 el3=>?_⟩;exact k r qs hq1 (hr.perm hr1) l3 H3 ((g1.trans g2).free hl3) ((g1.trans g2).trans g3) el3
abbrev dZ:Stmt:=top 29
theorem fY:bC ["gains","greatest","steps","size","counts"] ["gains"] (aE dZ):=⟨rfl,rfl,rfl,by decide +kernel,rfl,by decide +kernel,by decide +kernel⟩
theorem xP {f:Addr} {fd:FuncData} (F:Fun K "walks_of" "walks_of" dZ f fd) (B:Bt mg):FnOk P w K mg base CX0 1 f fd ["gains"] lJ:=by
 refine F.ok fY (fun vs H Q E h=>?_) (fun cdv A outer s H vs Q E hr h=>?_)
 ·obtain⟨d,ms,rfl,_⟩:=h;rfl
 ·obtain⟨d,ms,rfl,hd,hk,kk⟩:=h;have hu1:=pS hr;obtain⟨eG,hG,_,_⟩:=qW hk;refine⟨_,(aG (aR (i:=1) fY.nd rfl (Or.inl rfl) (yZ rfl rfl B.max (pv 0) aD))
 (aG (aR (i:=2) fY.nd rfl (Or.inr rfl) (cC (aA aD aC)))
 (aG (dL PassesOwn.never rfl (nL rfl B.range (aA aD (aA (aK bQ (pv 1) aD) aC))) (aL (i:=3) fY.nd rfl (Or.inl rfl))
 (aJ (bI (eK aBm aBn aBo bT (pv 2) (aA (qB hu1 (pv 0) (pv 3) (bJ bF (pv 2) (mF jL aD) (fun _ _=>rfl)) ⟨rfl,rfl,rfl,rfl⟩) aC)))))
 (aG (bI (eK aBm aBn aBo bT (pv 2) (aA (bJ bF (pv 2) (mF jL aD) (fun _ _=>rfl)) aC)))
 (aG (pB (i:=4) ["creel"] ["steps"] [2] rfl fY.nd rfl rfl (.of (show cB (aE dZ) _ ["gains","greatest","steps","size","counts"] [2] ["steps"]=true by decide +kernel)) (nL rfl B.range (aA aD (aA (aK bQ (pv 1) aD) aC))) (fun _ _ _=>(aL (i:=0) (show (["creel","steps"]:List Str).Nodup by decide +kernel) rfl (Or.inl rfl))) (fH (by decide)) (fun _ _ _=>cA) (fun _ _ _=>(cL (aA (pv 0) (aA (aK cG (aK cG (aK cN aD (bJ (kI K rfl) (pv 1) (pv 0) (fun _ _=>rfl))) (bJ (kI K rfl) (pv 1) (aK cG (pv 0) aD) (fun _ _=>rfl))) (bJ (kI K rfl) (pv 1) (aK bQ (pv 0) aD) (fun _ _=>rfl))) aC)))) (by first | rfl | decide +kernel))
 (aJ (bB (cD ["creel","count"] [] [] rfl (.of (show cB (aE dZ) _ ["gains","greatest","steps","size","counts"] [] []=true by decide +kernel)) (bL (pv 4)) (fun _ _ _=>(cZ (n:=2) K rfl rfl (aN (aL (i:=0) (show (["creel","count"]:List Str).Nodup by decide +kernel) rfl (Or.inl rfl)) (aN (aL (i:=1) (show (["creel","count"]:List Str).Nodup by decide +kernel) rfl (Or.inl rfl)) bW)))) (dS (aY (by decide) (aY (by decide) cY))) (fun _ _ _=>mG (aV tV (pv 1) aD (aP _))) (fun _ _ _=>(cL (aA (pv 0) (aA (pv 1) aC)))))))))))),?_⟩
  refine⟨_,rfl,d,_,_,rfl,hd,V8 ms,?_⟩;rw[eG];generalize grt ms=G at hG kk ⊢;refine⟨(show 1<=sizeLine by decide),fun p hp=>?_⟩;have g1:=Same.upd (o:=.lst [V.int 0]) hp;have ep:(upd H p (.lst [V.int 0])) p=some (.lst (((List.range (0+1)).map (nB ms)).map V.int)):=aB;generalize upd H p (.lst [V.int 0])=H1 at g1 ep ⊢;refine⟨_,rfl,_,_,rfl,rfl,_,_,rfl,⟨by decide,by decide,by omega,by omega⟩,gT (lo:=1) (fun i σ Hx=>∃ v,σ=[some (.ref d),some (.int G),some (.ref p),v,none]/\Same H Hx/\Hx p=some (.lst (((List.range (i+1)).map (nB ms)).map V.int))) ⟨none,rfl,g1,ep⟩ ?_ ?_⟩
  ·rintro i σ Hx hi ⟨v,rfl,sm,ex⟩;have hdx:=sm _ _ hd;refine⟨_,rfl,.inl ⟨rfl,_,SqL.of ex⟩,_,rfl,d,rfl,.inl ⟨_,.inl hdx⟩,_,rfl,_,rfl,_,rfl,p,_,_,_,rfl,rfl,SqL.of ex,C0 _ _,_,DGet.k (k:=Sum.inl (1+(i:Int))) hdx,p,_,_,rfl,rfl,ex,by rw[aBN,aBN,List.length_range];exact aO (by omega),?_⟩;refine⟨_,rfl,Same.upd' hp sm,?_⟩;rw[aB,kT];have e:((lkI ms (1+(i:Int))).map V.int).getD (V.int (nB ms i))=V.int (nB ms (i+1)):=by
    show _=V.int ((lkI ms ((i:Int)+1)).getD (nB ms i));rw[Int.add_comm 1];cases lkI ms ((i:Int)+1) <;> rfl
   rw[e,C1]
  ·rintro σ Hx ⟨v,rfl,sm,ex⟩;have eN:((G:Int)+1 - 1).toNat=G:=by omega
   rw[eN]at ex;refine⟨_,rfl,.inl ⟨rfl,_,SqL.of ex⟩,_,rfl,_,rfl,p,_,_,_,rfl,rfl,SqL.of ex,C0 _ _,p,_,_,rfl,rfl,ex,by rw[aBN,aBN,List.length_range];exact aO (by omega),?_⟩;rw[z4];have s2:=Same.upd' (o:=.lst (((List.range (G+2)).map (stf ms G)).map V.int)) hp sm;have e2:(upd Hx p (.lst (((List.range (G+2)).map (stf ms G)).map V.int))) p=some (.lst (((List.range (G+2)).map (stf ms G)).map V.int)):=aB;generalize upd Hx p (.lst (((List.range (G+2)).map (stf ms G)).map V.int))=H2 at s2 e2 ⊢;refine⟨_,rfl,_,_,rfl,rfl,_,_,rfl,⟨by decide,by decide,by omega,by omega⟩,jN (lo:=1) (fun i ys Hy=>Same H2 Hy/\Prs Hy ys (rP (stf ms G) i)/\ys.length=i) ⟨Same.refl _,.nil,rfl⟩ ?_ ?_ ?_⟩
   ·rintro i ys Hy hi ⟨_,_,hyl⟩;rw[hyl];exact aO (by omega)
   ·rintro i ys Hy hi ⟨sy,pr,hyl⟩;have ey:=sy _ _ e2;refine⟨_,rfl,_,rfl,_,rfl,p,_,_,_,rfl,rfl,SqL.of ey,V7 (by omega) (by omega),_,_,rfl,rfl,.inl ⟨by decide,by decide⟩,_,rfl,_,rfl,_,_,rfl,rfl,p,_,_,_,rfl,rfl,SqL.of ey,V7 (by omega) (by omega),_,_,rfl,rfl,_,rfl,_,rfl,_,_,rfl,rfl,p,_,_,_,rfl,rfl,SqL.of ey,V7 (by omega) (by omega),_,_,rfl,rfl,(show 2<=sizeLine by decide),fun t ht=>?_⟩;refine⟨sy.trans (Same.upd ht),?_,by rw[aBW,hyl];rfl⟩;rw[xC];refine Paired.snoc (Prs.mono (TupS.same (Same.upd ht)) pr) ⟨t,rfl,?_⟩;rw[aB,show (1+(i:Int)).toNat=i+1 by omega,show (1+(i:Int) - 1).toNat=i by omega,show (1+(i:Int)+1).toNat=i+1+1 by omega,Int.add_comm 1];rfl
   rintro ys Hy ⟨sy,pr,hyl⟩ l hl;rw[eN]at pr hyl;have g3:=Same.upd (o:=.lst ys) hl;have el:(upd Hy l (.lst ys)) l=some (.lst ys):=aB;have pr:=Prs.mono (TupS.same g3) pr;generalize upd Hy l (.lst ys)=H3 at g3 el pr ⊢;refine⟨_,rfl,l,rfl,⟨_,SqL.of el⟩,bU (K:=K) (a:=l) (xs:=ys) (fun i zs Hz=>Same H3 Hz/\Prs Hz zs (((rP (stf ms G) G).take i).filter fun q=>decide (q.2≠0))/\zs.length<=i) ⟨Same.refl _,.nil,Nat.le_refl _⟩ ?_ ?_ ?_⟩
   ·rintro i zs Hz hi ⟨sz,_,hzl⟩;exact⟨SqL.of (sz _ _ el),aO (by omega)⟩
   ·rintro i x zs Hz hi ⟨sz,pz,hzl⟩;obtain⟨q,t',hq,rfl,et⟩:=bP pr hi;have sn:=K6 (fun q:Int×Int=>decide (q.2≠0)) hq;refine⟨t',_,rfl,SqT.of (sz _ _ et),rfl,_,_,rfl,_,_,rfl,rfl,_,rfl,_,_,rfl,rfl,_,rfl,?_⟩
    by_cases c:q.2=0
    ·refine oC c ⟨sz,?_,by omega⟩;rw[sn,if_neg (by simpa using c),List.append_nil];exact pz
    ·rw[aB9 c];show (if (!false)=true then _ else _);rw[if_pos (show (!false)=true from rfl)];refine⟨_,rfl,_,rfl,(show 2<=sizeLine by decide),fun t ht=>⟨sz.trans (Same.upd ht),?_,by rw[aBW];simp;omega⟩⟩;rw[sn,if_pos (by simpa using c)];exact Paired.snoc (Prs.mono (TupS.same (Same.upd ht)) pz) ⟨t,rfl,aB⟩
   ·rintro zs Hz ⟨sz,pz,hzl⟩ D hD;have e:ys.length=(rP (stf ms G) G).length:=pr.len;rw[e,aB1]at pz;have s3:=(s2.trans sy).trans (g3.trans sz);exact kk D zs _ (s3.free hD) (s3.trans (Same.upd hD)) aB (Prs.mono (TupS.same (Same.upd hD)) pz)
abbrev rD:Stmt:=top 28
theorem mD:bC ["one","other","starts","ends","size","gains","offsets"] ["one","other"] (aE rD):=⟨rfl,rfl,rfl,by decide +kernel,rfl,by decide +kernel,by decide +kernel⟩
theorem aAA {f:Addr} {fd:FuncData} (F:Fun K "kin" "kin" rD f fd) (B:Bt mg) (F_list_of:bO P w K mg base "list_of" 4 ["row"] fI) (F_by_size:bO P w K mg base "by_size" 1 ["trains"] jG) (F_walks_of:bO P w K mg base "walks_of" 1 ["gains"] lJ) :
 FnOk P w K mg base CX0 5 f fd ["one","other"] C2:=by
 refine F.ok mD (fun vs H Q E h=>?_) (fun cdv A outer s H vs Q E hr h=>?_)
 ·obtain⟨a,b,r1,r2,rfl,_⟩:=h;rfl
 ·obtain⟨a,b,r1,r2,rfl,ha,hr1,hl1,hb,hr2,hl2,kk⟩:=h;have hu:=hr.units;have hu1:=pS hr;refine⟨_,(aG (aR (i:=2) mD.nd rfl (Or.inl rfl) (bE F_by_size hr rfl (aA (bE F_list_of hr rfl (aA (pv 0) aC)) aC)))
 (aG (aR (i:=3) mD.nd rfl (Or.inl rfl) (bE F_by_size hr rfl (aA (bE F_list_of hr rfl (aA (pv 1) aC)) aC)))
 (aG (dL PassesOwn.never rfl (bL (aK jM (aF (gR rfl) (by rfl) B.sorted cP (aA (pv 2) aC)) (aF (gR rfl) (by rfl) B.sorted cP (aA (pv 3) aC)))) (aL (i:=4) mD.nd rfl (Or.inr rfl))
 (aJ (cJ (aV tV (aF aS (by rfl) B.len PySem.boot_len (aA (qB hu1 (pv 2) (pv 4) (cC aC) ⟨rfl,rfl,rfl,rfl⟩) aC)) (aF aS (by rfl) B.len PySem.boot_len (aA (qB hu1 (pv 3) (pv 4) (cC aC) ⟨rfl,rfl,rfl,rfl⟩) aC)) (aP _))
 (aJ (bB (cL (aA lV (aA (pv 4) aC)))))
 bG)))
 (aG (aR (i:=5) mD.nd rfl (Or.inr rfl) mO)
 (aG (dL PassesOwn.never rfl (mP (pv 2)) (jK rfl (aN (aL (i:=4) mD.nd rfl (Or.inr rfl)) (aN (aL (i:=6) mD.nd rfl (Or.inl rfl)) bW)))
 (aG (A1 hu1 (pv 5) (pv 4) (aK cG (bJ bF (gP hu1 (pv 3) (pv 4) (fun _ _=>rfl)) aD (fun _ _=>rfl)) (bJ bF (pv 6) aD (fun _ _=>rfl))) rfl)
 (aJ (cJ (aV (nP hu) (cD ["offset"] ["gains","size"] [5,4] rfl (.of (show cB (aE rD) _ ["one","other","starts","ends","size","gains","offsets"] [5,4] ["gains","size"]=true by decide +kernel)) (bL (pv 6)) (fun _ _ _=>(aL (i:=0) (show (["offset","gains","size"]:List Str).Nodup by decide +kernel) rfl (Or.inl rfl))) (fH (by decide)) (fun _ _ _=>cA) (fun _ _ _=>(aK bQ (pv 0) (gP hu1 (pv 1) (pv 2) (fun _ _=>rfl))))) (gP hu1 (pv 3) (pv 4) (fun _ _=>rfl)) (aP _))
 (aJ (bB (cL (aA lV (aA (pv 4) aC)))))
 bG))))
 (aJ (bB (cL (aA lV (aA (bE F_walks_of hr rfl (aA (pv 5) aC)) aC)))))))))),?_⟩
  refine⟨_,rfl,a,r1,rfl,ha,hr1,hl1,fun ps1 hL1 hs1 la us1 H1 hla g1 ela pr1=>?_⟩;have hf1:=Lst.few hL1 hl1;refine⟨la,ps1,rfl,⟨us1,ela,pr1⟩,hf1,fun d1 gs1 H2 hd1 g2 dg1 hp1 ha1 hn1=>?_⟩;refine⟨_,rfl,b,r2,rfl,(g1.trans g2) _ _ hb,hr2,hl2,fun ps2 hL2 hs2 lb us2 H3 hlb g3 elb pr2=>?_⟩;have hf2:=Lst.few hL2 hl2;refine⟨lb,ps2,rfl,⟨us2,elb,pr2⟩,hf2,fun d2 gs2 H4 hd2 g4 dg2 hp2 ha2 hn2=>?_⟩;have hd12:d1≠d2:=fun e=>by
   have h:=g3 _ _ dg1.at_;rw[e,hd2]at h;cases h
  have s4:=((g1.trans g2).trans g3).trans g4;have dg1:=dg1.keep (g3.trans g4);have hd1H:H d1=none:=g1.free hd1;have c1:gs1.length<=60:=Nat.le_trans (uY fun g hg=>(hn1 g hg).1) (by rw[hp1.length_eq];exact hf1);have c2:gs2.length<=60:=Nat.le_trans (uY fun g hg=>(hn2 g hg).1) (by rw[hp2.length_eq];exact hf2);have k1:∀ s,aM ps1 s≠[]->∃ g∈gs1,g.1=s:=fun s h=>xH hp1 h;have k2:∀ s,aM ps2 s≠[]->∃ g∈gs2,g.1=s:=fun s h=>xH hp2 h;refine⟨_,rfl,d1,_,gs1.map (·.1),rfl,dg1.at_,tJ gs1,by rw[aBN];omega,fun l5 ms1 hl5 pm1 _=>?_⟩;have g5:=Same.upd (o:=.lst (ms1.map V.int)) hl5;have el5:(upd H4 l5 (.lst (ms1.map V.int))) l5=some (.lst (ms1.map V.int)):=aB;generalize upd H4 l5 (.lst (ms1.map V.int))=H5 at g5 el5 ⊢;refine⟨_,rfl,d2,_,gs2.map (·.1),rfl,g5 _ _ dg2.at_,tJ gs2,by rw[aBN];omega,fun l6 ms2 hl6 pm2 _=>?_⟩;have g6:=Same.upd (o:=.lst (ms2.map V.int)) hl6;have el6:(upd H5 l6 (.lst (ms2.map V.int))) l6=some (.lst (ms2.map V.int)):=aB;generalize upd H5 l6 (.lst (ms2.map V.int))=H6 at g6 el6 ⊢;have cm1:ms1.length<=60:=by rw[pm1.length_eq,aBN];exact c1
  have cm2:ms2.length<=60:=by rw[pm2.length_eq,aBN];exact c2
  refine⟨l5,l6,_,_,rfl,rfl,g6 _ _ el5,el6,by rw[aBN,aBN];exact gL (by omega),fun p hp=>?_⟩;rw[<- aB2];have g7:=Same.upd (o:=.lst ((ms1++ms2).map V.int)) hp;have ep:(upd H6 p (.lst ((ms1++ms2).map V.int))) p=some (.lst ((ms1++ms2).map V.int)):=aB;generalize upd H6 p (.lst ((ms1++ms2).map V.int))=H7 at g7 ep ⊢;have s47:=(g5.trans g6).trans g7;have s7:=s4.trans s47;have dg1:=dg1.keep s47;have dg2:=dg2.keep s47;refine⟨p,rfl,⟨_,SqL.of ep⟩,dR (K:=K) (a:=p) (xs:=(ms1++ms2).map V.int) (fun i σ Hx=>∃ v4,σ=[some (.ref a),some (.ref b),some (.ref d1),some (.ref d2),v4,none,none]/\Same H7 Hx/\∀ s∈(ms1++ms2).take i,(aM ps1 s).length=(aM ps2 s).length) ⟨none,rfl,Same.refl _,fun s hs=>by simp at hs⟩ (fun i σ Hx _ ⟨_,_,sm,_⟩=>SqL.of (sm _ _ ep)) ?_ ?_⟩
  ·rintro i x σ Hx hi ⟨v4,rfl,sm,hc⟩;obtain⟨z,rfl,hz⟩:=int_at hi;have dgx1:=dg1.keep sm;have dgx2:=dg2.keep sm;refine⟨_,rfl,d1,rfl,.inl ⟨_,.inl dgx1.at_⟩,_,rfl,by decide,fun q hq=>?_⟩;have gq:=Same.upd (o:=.lst []) hq;have eq:(upd Hx q (.lst [])) q=some (.lst []):=aB;generalize upd Hx q (.lst [])=Hq at gq eq ⊢;have dgq1:=dgx1.keep gq;have dgq2:=dgx2.keep gq;obtain⟨r,er,hrr⟩:=xG (d:=d1) dgq1.lst dgq1.key hp1 ha1 hs1 z eq;refine⟨_,DGet.k (k:=Sum.inl z) dgq1.at_,r,_,by rw[er],.inl (SqL.of hrr),?_⟩;refine⟨_,rfl,d2,rfl,.inl ⟨_,.inl dgq2.at_⟩,_,rfl,by decide,fun q2 hq2=>?_⟩;have gq2:=Same.upd (o:=.lst []) hq2;have eq2:(upd Hq q2 (.lst [])) q2=some (.lst []):=aB;generalize upd Hq q2 (.lst [])=Hq2 at gq2 eq2 ⊢;have dgr2:=dgq2.keep gq2;obtain⟨r',er',hrr'⟩:=xG (d:=d2) dgr2.lst dgr2.key hp2 ha2 hs2 z eq2;refine⟨_,DGet.k (k:=Sum.inl z) dgr2.at_,r',_,by rw[er'],.inl (SqL.of hrr'),_,_,rfl,rfl,_,rfl,?_⟩;rw[aBN,aBN];have sq:=(sm.trans gq).trans gq2
   by_cases c:(((aM ps1 z).length:Int))=((aM ps2 z).length:Int)
   ·refine oC c ⟨_,rfl,sq,fun s hs=>?_⟩;rw[aBj,hz]at hs;rcases aBs.mp hs with h | h
    ·exact hc s h
    ·rw[show s=z by simpa using h];omega
   ·rw[aB9 c];show (if (!false)=true then _ else _);rw[if_pos (show (!false)=true from rfl)];have sall:=s7.trans sq;refine⟨_,rfl,(show 2<=sizeLine by decide),fun t ht=>kk ps1 ps2 t _ _ hL1 hs1 hL2 hs2 (sall.free ht) (sall.trans (Same.upd ht)) aB (.sizes z (fun e=>c (by omega)))⟩
  rintro σ Hx ⟨v4,rfl,sm,hc⟩;rw[aBN,aB1]at hc;have cnt:∀ s,(aM ps1 s).length=(aM ps2 s).length:=fun s=>by
   by_cases h1:aM ps1 s=[]
   ·by_cases h2:aM ps2 s=[]
    ·rw[h1,h2]
    ·obtain⟨g,hg,rfl⟩:=k2 s h2;exact hc _ (aBR _ (pm2.mem_iff.mpr (aBt.mpr ⟨g,hg,rfl⟩)))
   ·obtain⟨g,hg,rfl⟩:=k1 s h1;exact hc _ (aB7 _ (pm1.mem_iff.mpr (aBt.mpr ⟨g,hg,rfl⟩)))
  have dgx1:=dg1.keep sm;have dgx2:=dg2.keep sm;have sx:=s7.trans sm;clear hc sm dg1 dg2 s47 g7 g6 g5 ep el5 el6 hl5 hl6 hp;refine fun d5 hd5=>?_;have g8:=Same.upd (o:=.dK []) hd5;have ed5:(upd Hx d5 (.dK [])) d5=some (.dK (kvI [])):=aB;have n51:d5≠d1:=fun e=>by rw[e,dgx1.at_]at hd5;cases hd5
  have n52:d5≠d2:=fun e=>by rw[e,dgx2.at_]at hd5;cases hd5
  have hd5H:H d5=none:=sx.free hd5;have m1:∀ g∈gs1,g.2.1≠d5:=fun g hg e=>by rw[<- e,dgx1.lst g hg]at hd5;cases hd5
  have m2:∀ g∈gs2,g.2.1≠d5:=fun g hg e=>by rw[<- e,dgx2.lst g hg]at hd5;cases hd5
  have m1':∀ g∈gs1,g.2.1≠d1:=fun g hg e=>by have h:=dgx1.lst g hg;rw[e,dgx1.at_]at h;cases h
  have m2':∀ g∈gs2,g.2.1≠d1:=fun g hg e=>by have h:=dgx2.lst g hg;rw[e,dgx1.at_]at h;cases h
  generalize upd Hx d5 (.dK [])=H8 at g8 ed5 ⊢;have dg1:=dgx1.keep g8;have dg2:=dgx2.keep g8;have s8:=sx.trans g8;clear dgx1 dgx2 g8 sx;refine⟨_,rfl,d1,_,rfl,dg1.at_,fun od=>?_⟩;refine K2 (d:=d1) (od:=od) (kvs:=kvG gs1) (aAd H8 ps1 ps2 gs1 a b d1 d2 d5 od) ⟨_,_,[],rfl,aB,by rw[aH n51];exact ed5,fun x o h1 _ e=>by rw[aH h1];exact e,fun g hg=>by simp at hg,fun s v e=>(nomatch e),fun m hm=>(nomatch hm),Nat.le_refl _⟩ (fun i σ Hy _ h=>by obtain⟨_,_,_,_,e,_⟩:=h;exact e) ?_ ?_
  ·rintro i ky x σ Hy t hx ⟨v4,v6,ms,rfl,e1,e5,kp,hA,hB,hC,hD⟩ ht;obtain⟨g,hg,hgx⟩:∃ g,gs1[i]?=some g/\((Sum.inl g.1:Key),V.ref g.2.1)=(ky,x):=by
    unfold kvG at hx;rw[aBc]at hx;obtain⟨g,h1,h2⟩:=aBp.mp hx;exact⟨g,h1,h2⟩
   cases hgx;have hgm:=aBY hg;have hi:i<gs1.length:=(aBq.mp hg).1;have eo:g.2.2=aM ps1 g.1:=z5 dg1.key hp1 ha1 hs1 hgm;have ne1:aM ps1 g.1≠[]:=by rw[<- eo];exact(hn1 g hgm).1
   have ne2:aM ps2 g.1≠[]:=fun z=>ne1 (aBl (by rw[cnt,z];rfl));have gt:=Same.upd (o:=.tup [kV (Sum.inl g.1),V.ref g.2.1]) ht;have et:(upd Hy t (.tup [kV (Sum.inl g.1),V.ref g.2.1])) t=some (.tup [kV (Sum.inl g.1),V.ref g.2.1]):=aB;generalize upd Hy t (.tup [kV (Sum.inl g.1),V.ref g.2.1])=Hz at gt et ⊢;have e1z:=gt _ _ e1;have e5z:=gt _ _ e5;have kpz:∀ x o,x≠d1->x≠d5->H8 x=some o->Hz x=some o:=fun x o h1 h2 e=>gt _ _ (kp x o h1 h2 e);have l1:Hz g.2.1=some (.lst ((aM ps1 g.1).map V.int)):=by rw[<- eo];exact kpz _ _ (m1' g hgm) (m1 g hgm) (dg1.lst g hgm)
   have at2:Hz d2=some (.dK (kvG gs2)):=kpz _ _ (Ne.symm hd12) (Ne.symm n52) dg2.at_;obtain⟨r,er,hrr,g2',hg2',rfl⟩:=L0 (H:=Hz) (fun g hg=>kpz _ _ (m2' g hg) (m2 g hg) (dg2.lst g hg)) dg2.key hp2 ha2 hs2 ne2;obtain⟨x1,hx1,hx1'⟩:=C3 ne1;obtain⟨x2,hx2,hx2'⟩:=C3 ne2;have hget:DGet Hz d2 (.int g.1) (some (.ref g2'.2.1)):=by rw[<- er];exact DGet.k (k:=(Sum.inl g.1:Key)) at2
   refine⟨t,_,rfl,SqT.of et,rfl,_,_,rfl,_,_,rfl,rfl,?_⟩;refine⟨_,rfl,_,rfl,d2,_,rfl,hget,g2'.2.1,_,_,_,rfl,rfl,SqL.of hrr,hx2,_,rfl,g.2.1,_,_,_,rfl,rfl,SqL.of l1,hx1,_,_,rfl,rfl,_,rfl,_,rfl,d5,_,rfl,DPut.k (k:=Sum.inl g.1) e5z (by simp only[kvI,aBN];exact aO (by omega)),?_⟩;have n2:g2'.2.1≠d5:=m2 g2' hg2';have eput:(upd Hz d5 (.dK (hZ (kvI ms) (Sum.inl g.1:Key) (V.int (x2 - x1))))) d5=some (.dK (kvI (qV ms g.1 (x2 - x1)))):=by rw[aB,B8]
   have koth:∀ x o,x≠d5->Hz x=some o->(upd Hz d5 (.dK (hZ (kvI ms) (Sum.inl g.1:Key) (V.int (x2 - x1))))) x=some o:=fun x o h e=>by rw[aH h];exact e
   generalize upd Hz d5 (.dK (hZ (kvI ms) (Sum.inl g.1:Key) (V.int (x2 - x1))))=Hw at eput koth ⊢;have l1w:=koth _ _ (m1 g hgm) l1;have hlen:=aBN (f:=(V.int)) (as:=aM ps1 g.1);have ho60:(aM ps1 g.1).length<=60:=by
    unfold aM;rw[aBN];exact Nat.le_trans (List.length_filter_le ..) hf1
   have hgw:DGet Hw d5 (.int g.1) (some (.int (x2 - x1))):=by
    have h:=DGet.k (k:=(Sum.inl g.1:Key)) eput;rw[kT,uV,if_pos rfl]at h;exact h
   refine⟨_,rfl,g.2.1,rfl,⟨_,SqL.of l1w⟩,bU (K:=K) (a:=g.2.1) (xs:=(aM ps1 g.1).map V.int) (fun j ys Hv=>Hv=Hw/\ys=(((aM ps1 g.1).take j).map (·+(x2 - x1))).map V.int) ⟨rfl,rfl⟩ ?_ ?_ ?_⟩
   ·rintro j ys Hv hj ⟨rfl,rfl⟩;exact⟨SqL.of l1w,by rw[aBN,aBN,aB3];exact aO (by omega)⟩
   ·rintro j y ys Hv hj ⟨rfl,rfl⟩;obtain⟨z,rfl,hz⟩:=int_at hj;exact⟨_,rfl,_,rfl,_,rfl,d5,_,rfl,hgw,_,_,rfl,rfl,rfl,vQ (·+(x2 - x1)) hz⟩
   rintro ys Hv ⟨rfl,rfl⟩ D hDn;rw[aBN,aB1];have gD:=Same.upd (o:=.lst (((aM ps1 g.1).map (·+(x2 - x1))).map V.int)) hDn;have eD:(upd Hv D (.lst (((aM ps1 g.1).map (·+(x2 - x1))).map V.int))) D=some (.lst (((aM ps1 g.1).map (·+(x2 - x1))).map V.int)):=aB;generalize upd Hv D (.lst (((aM ps1 g.1).map (·+(x2 - x1))).map V.int))=Hu at gD eD ⊢;have hget2:DGet Hu d2 (.int g.1) (some (.ref g2'.2.1)):=by rw[<- er];exact DGet.k (k:=(Sum.inl g.1:Key)) (gD _ _ (koth _ _ (Ne.symm n52) at2))
   have hr2:=gD _ _ (koth _ _ n2 hrr);refine⟨_,rfl,_,rfl,d2,_,rfl,hget2,_,_,Den.ints eD,Den.ints hr2,cQ _,cQ _,_,rfl,?_⟩;rw[K7];have sall:Same H Hu:=fun x o e=>by
    have n1:x≠d1:=fun z=>by rw[z,hd1H]at e;cases e
    have n5:x≠d5:=fun z=>by rw[z,hd5H]at e;cases e
    exact gD _ _ (koth _ _ n5 (kpz _ _ n1 n5 (s8 _ _ e)))
   by_cases c:(aM ps1 g.1).map (·+(x2 - x1))=aM ps2 g.1
   ·refine oC c ⟨_,_,qV ms g.1 (x2 - x1),rfl,gD _ _ (koth _ _ (Ne.symm n51) e1z),gD _ _ eput,fun x o h1 h2 e=>gD _ _ (koth _ _ h2 (kpz x o h1 h2 e)),fun g0 hg0=>?_,fun s v e=>?_,fun m hm=>?_,by have:=e9 ms g.1 (x2 - x1);omega⟩
    ·rw[aBj,hg]at hg0;rw[uV]
     by_cases q:g0.1=g.1
     ·exact⟨_,if_pos q⟩
     ·rw[if_neg q];rcases aBs.mp hg0 with h | h
      ·exact hA g0 h
      ·exact absurd (by rw[show g0=g by simpa using h]) q
    ·rw[uV]at e
     by_cases q:s=g.1
     ·rw[if_pos q]at e;cases e;rw[q];exact c.symm
     ·rw[if_neg q]at e;exact hB s v e
    ·rcases i0 hm with h | h
     ·rw[h];exact ne1
     ·exact hC m h
   ·rw[aB9 c];show (if (!false)=true then _ else _);rw[if_pos (show (!false)=true from rfl)];refine⟨_,rfl,(show 2<=sizeLine by decide),fun t2 ht2=>kk ps1 ps2 t2 _ _ hL1 hs1 hL2 hs2 (sall.free ht2) (sall.trans (Same.upd ht2)) aB (.apart g.1 cnt fun g0 h=>c (zA hx1' hx2' h))⟩
  ·rintro σ Hy ⟨v4,v6,ms,rfl,e1,e5,kp,hA,hB,hC,hD⟩;have hkl:(kvG gs1).length=gs1.length:=by simp[kvG]
   rw[hkl,aB1]at hA;have hpos:∀ m∈ms,1<=m.1/\m.1<=60:=fun m hm=>zB hL1 hl1 (hC m hm);have kg:KinG ps1 ps2 ms:=⟨fun s h=>by obtain⟨g,hg,rfl⟩:=k1 s h;exact hA g hg,hB,cnt,hpos⟩;have sy:Same H Hy:=fun x o e=>by
    have n1:x≠d1:=fun z=>by rw[z,hd1H]at e;cases e
    have n5:x≠d5:=fun z=>by rw[z,hd5H]at e;cases e
    exact kp _ _ n1 n5 (s8 _ _ e)
   refine⟨_,rfl,d5,ms,rfl,e5,hpos,fun l us Hz hl gz el pr=>?_⟩;refine⟨(show 2<=sizeLine by decide),fun t ht=>?_⟩;have gt:=Same.upd (o:=.tup [V.str "walks",V.ref l]) ht;exact kk ps1 ps2 t _ _ hL1 hs1 hL2 hs2 ((sy.trans gz).free ht) ((sy.trans gz).trans gt) aB (.walks l us ms kg hC (sy.free hl) (gt _ _ el) (Prs.mono (TupS.same gt) pr))
abbrev dQ:Stmt:=top 31
theorem cE:bC ["_law_script","_law_many","_law_row_here","_law_seed","_law_cell","_law_rest","_law_k"] ["_law_script","_law_many"] (aE dQ):=⟨rfl,rfl,rfl,by decide +kernel,rfl,by decide +kernel,by decide +kernel⟩
inductive kW (H:Hp) (a:Addr) (l:Addr) (p:Addr) (m:Nat) (ms:List Int) (i:Nat) (σ:St) (H2:Hp):Prop
 | mk (seed:Int) (xs:List Int) (v1 v2 v3:Option V) (k0_:σ=[some (.ref a),some (.int m),some (.ref l),some (.int seed),v1,v2,v3]) (k1_:Same H H2) (k2_:H2 p=some (.lst (ms.map V.int))) (k3_:H2 l=some (.lst (xs.map V.int))) (k4_:xZ xs) (k5_:xs.length<=61 * i) (k6_:0<=seed) (k7_:seed<2147483629):kW H a l p m ms i σ H2
inductive kX (H:Hp) (a:Addr) (l:Addr) (p:Addr) (m:Nat) (ms:List Int) (i:Nat) (seed:Int) (z:Int) (v3:Option V) (σ:St) (H3:Hp):Prop
 | mk (ys:List Int) (k0_:σ=[some (.ref a),some (.int m),some (.ref l),some (.int (sd1 seed z)),some (.int z),some (.int (rs1 z)),v3]) (k1_:Same H H3) (k2_:H3 p=some (.lst (ms.map V.int))) (k3_:H3 l=some (.lst (ys.map V.int))) (k4_:xZ ys) (k5_:ys.length<=61 * i+1):kX H a l p m ms i seed z v3 σ H3
inductive kY (H:Hp) (a:Addr) (l:Addr) (p:Addr) (m:Nat) (ms:List Int) (i:Nat) (seed:Int) (z:Int) (j:Nat) (σ:St) (H4:Hp):Prop
 | mk (r:Int) (ys:List Int) (v:Option V) (k0_:σ=[some (.ref a),some (.int m),some (.ref l),some (.int (sd1 seed z)),some (.int z),some (.int r),v]) (k1_:Same H H4) (k2_:H4 p=some (.lst (ms.map V.int))) (k3_:H4 l=some (.lst (ys.map V.int))) (k4_:xZ ys) (k5_:ys.length<=61 * i+1+j):kY H a l p m ms i seed z j σ H4
inductive kZ (H:Hp) (a:Addr) (l:Addr) (m:Nat) (v1:Option V) (v2:Option V) (v3:Option V) (σ:St) (H3:Hp):Prop
 | mk (seed:Int) (ys:List Int) (k0_:σ=[some (.ref a),some (.int m),some (.ref l),some (.int seed),v1,v2,v3]) (k1_:Same H H3) (k2_:H3 l=some (.lst (ys.map V.int))) (k3_:xZ ys) (k4_:ys.length<=5000) (k5_:0<=seed) (k6_:seed<2147483629):kZ H a l m v1 v2 v3 σ H3
theorem zK {f:Addr} {fd:FuncData} (F:Fun K "_law_numbers" "_law_numbers" dQ f fd) (B:Bt mg):FnOk P w K mg base CX0 1 f fd ["_law_script","_law_many"] (lG K):=by
 refine F.ok cE (fun vs H Q E h=>?_) (fun cdv A outer s H vs Q E hr h=>?_)
 ·obtain⟨a,sc,m,rfl,_⟩:=h;rfl
 ·obtain⟨a,sc,m,rfl,hS,hlen,hm,k⟩:=h;refine⟨_,(aQ (aR (i:=2) cE.nd rfl (Or.inl rfl) (cC aC))
 (aQ (aR (i:=3) cE.nd rfl (Or.inl rfl) aD)
 (aQ (dL PassesOwn.never rfl (bL (dN eU (pv 0) eP (eQ aD))) (aL (i:=4) cE.nd rfl (Or.inl rfl))
 (aQ (aR (i:=3) cE.nd rfl (Or.inl rfl) (aK cO (aK bQ (aK bQ (aK cN (pv 3) aD) (aK cO (pv 4) aD)) aD) aD))
 (aQ (aR (i:=5) cE.nd rfl (Or.inl rfl) (aK cG (pv 4) (aK pQ aD aD)))
 (pC (cJ (aV zQ (pv 5) aD (aP _))
 (aJ (bI (eK aBm aBn aBo bT (pv 2) (aA (aK cO (pv 4) aD) aC))))
 bG)
 (aJ (dL PassesOwn.never rfl (fN rfl B.range (aA aD aC)) (aL (i:=6) cE.nd rfl (Or.inl rfl))
 (aJ (cJ (aV oB (pv 5) aD (aP _))
 (aQ (bI (eK aBm aBn aBo bT (pv 2) (aA (aK cO (pv 5) aD) aC)))
 (aJ (aR (i:=5) cE.nd rfl (Or.inl rfl) (aK lC (pv 5) aD))))
 bG))))))))
 (aG (pP PassesOwn.never (aV zQ (aF aS (by rfl) B.len PySem.boot_len (aA (pv 2) aC)) (pv 1) (aP _))
 (aQ (aR (i:=3) cE.nd rfl (Or.inl rfl) (aK cO (aK bQ (aK bQ (aK bQ (aK cN (pv 3) (pv 3)) (aK cN aD (pv 3))) (aK cN aD (aF aS (by rfl) B.len PySem.boot_len (aA (pv 2) aC)))) aD) aD))
 (aJ (bI (eK aBm aBn aBo bT (pv 2) (aA (aK cO (aK lC (pv 3) aD) aD) aC))))))
 (aJ (bB (dN eU (pv 2) eP (eQ (pv 1))))))))),?_⟩
  refine fun M1 hM1=>?_;refine⟨by decide,fun l hl=>?_⟩;refine hM1 [some (.ref a),some (.int m),some (.ref l),none,none,none,none] _ ?_;clear hM1 M1;refine fun M1 hM1=>?_;refine hM1 [some (.ref a),some (.int m),some (.ref l),some (.int 59),none,none,none] _ ?_;clear hM1 M1;refine fun M1 hM1=>?_;refine⟨_,rfl,_,rfl,a,sc.map V.int,rfl,(Same.upd hl).seq hS,fun p hp=>?_⟩;obtain⟨ms,ec,hml,hmm⟩:=D9 sc none (some 63);rw[ec];have hpl:p≠l:=fun e=>by subst e;rw[aB]at hp;cases hp
  have hHp:H p=none:=by rw[<- hp,aH hpl]
  refine⟨p,rfl,⟨_,SqL.of aB⟩,dR (K:=K) (a:=p) (xs:=ms.map V.int) (kW H a l p m ms) ?_ ?_ ?_ ?_⟩
  ·exact⟨59,[],none,none,none,rfl,Same.upd' hHp (Same.upd hl),aB,by rw[aH (Ne.symm hpl),aB];rfl,fun _ h=>(by cases h),Nat.le_refl _,by decide,by decide⟩
  ·rintro i σ H2 _ ⟨seed,xs,v1,v2,v3,_,_,e,_⟩;exact SqL.of e
  ·rintro i x σ H2 hi ⟨seed,xs,v1,v2,v3,rfl,sm,ep,el,nx,lx,s0,s1⟩;have hil:i<ms.length:=by
    have:=(aBq.mp hi).1;simpa using this
   obtain⟨z,rfl⟩:∃ z,x=V.int z:=by
    rw[aBc]at hi;cases e:ms[i]? with
    | none=>rw[e]at hi;cases hi
    | some z=>rw[e]at hi;exact⟨z,(Option.some.inj hi).symm⟩
   clear hM1;refine fun M2 hM2=>?_;refine⟨_,rfl,_,_,rfl,rfl,.inr ⟨by decide,by decide⟩,_,rfl,_,_,rfl,rfl,(by show (0:Int)<999983;decide),_,_,rfl,rfl,_,_,rfl,rfl,_,_,rfl,rfl,(by show (0:Int)<2147483563;decide),?_⟩;have t0:0<=sd1 seed z:=Int.emod_nonneg _ (by decide);have t1:sd1 seed z<2147483563:=Int.emod_lt_of_pos _ (by decide);refine hM2 [some (.ref a),some (.int m),some (.ref l),some (.int (sd1 seed z)),some (.int z),v2,v3] _ ?_;clear hM2 M2;refine fun M2 hM2=>?_;refine⟨_,rfl,_,_,rfl,rfl,⟨by decide,by decide,by decide⟩,_,_,rfl,rfl,?_⟩;refine hM2 [some (.ref a),some (.int m),some (.ref l),some (.int (sd1 seed z)),some (.int z),some (.int (rs1 z)),v3] _ ?_;clear hM2 M2;refine⟨kX H a l p m ms i seed z v3,?_,?_⟩
   ·refine⟨_,rfl,_,_,rfl,rfl,_,rfl,oV (fun _=>?_) (fun _=>⟨xs,rfl,sm,ep,el,nx,by omega⟩)⟩;refine⟨_,rfl,.inl ⟨rfl,_,SqL.of el⟩,_,rfl,_,_,rfl,rfl,(by show (0:Int)<9967;decide),l,_,_,rfl,rfl,el,(by rw[aBN];exact aO (by omega)),?_⟩;refine⟨xs++[z % 9967],rfl,Same.upd' hl sm,by rw[aH hpl];exact ep,by rw[aB];simp,?_,by simp;omega⟩;intro n hn;rcases aBs.mp hn with h | h
    ·exact nx n h
    ·rw[aBk.mp h];exact⟨Int.emod_nonneg _ (by decide),Int.emod_lt_of_pos _ (by decide)⟩
   ·rintro σ H3 ⟨ys,rfl,sm3,ep3,el3,nx3,lx3⟩;refine⟨60,rfl,by decide,by decide,gT (lo:=0) (n:=60) (kY H a l p m ms i seed z)
     ⟨rs1 z,ys,v3,rfl,sm3,ep3,el3,nx3,by omega⟩ ?_ ?_⟩
    ·rintro j σ H4 hj ⟨r,ys,v,rfl,sm4,ep4,el4,nx4,lx4⟩;refine⟨_,rfl,_,_,rfl,rfl,_,rfl,oV (fun hr0=>?_) (fun _=>⟨r,ys,_,rfl,sm4,ep4,el4,nx4,by omega⟩)⟩;refine fun M2 hM2=>?_;refine⟨_,rfl,.inl ⟨rfl,_,SqL.of el4⟩,_,rfl,_,_,rfl,rfl,(by show (0:Int)<1013;decide),l,_,_,rfl,rfl,el4,(by rw[aBN];exact aO (by omega)),?_⟩;refine hM2 [some (.ref a),some (.int m),some (.ref l),some (.int (sd1 seed z)),some (.int z),some (.int r),some (.int (0+(j:Int)))] _ ?_;clear hM2 M2;refine⟨_,rfl,_,_,rfl,rfl,⟨by decide,by decide⟩,?_⟩;refine⟨r / 1013,ys++[r % 1013],_,rfl,Same.upd' hl sm4,by rw[aH hpl];exact ep4,by rw[aB];simp,?_,by simp;omega⟩;intro n hn;rcases aBs.mp hn with h | h
     ·exact nx4 n h
     ·rw[aBk.mp h];have a1:=Int.emod_nonneg r (show (1013:Int)≠0 by decide);have a2:=Int.emod_lt_of_pos r (show (0:Int)<1013 by decide);exact⟨a1,by omega⟩
    ·rintro σ H4 ⟨r,ys,v,rfl,sm4,ep4,el4,nx4,lx4⟩;exact⟨sd1 seed z,ys,_,_,_,rfl,sm4,ep4,el4,nx4,by omega,t0,by omega⟩
  ·rintro σ H2 ⟨seed,xs,v1,v2,v3,rfl,sm,ep,el,nx,lx,s0,s1⟩;have lx':xs.length<=61 * 63:=by
    have:(ms.map V.int).length<=63:=by rw[aBN];omega
    omega
   refine hM1 [some (.ref a),some (.int m),some (.ref l),some (.int seed),v1,v2,v3] _ ?_;clear hM1 M1;refine O1 (kZ H a l m v1 v2 v3)
    (fun _ H3=>match H3 l with | some (.lst ys)=>m - ys.length | _=>0) ⟨seed,xs,rfl,sm,el,nx,by omega,s0,s1⟩ ?_ ?_
   ·rintro σ H3 ⟨seed,ys,rfl,sm3,el3,nx3,lx3,q0,q1⟩;refine⟨_,rfl,l,_,rfl,.inl (SqL.of el3),_,rfl,_,_,rfl,rfl,_,rfl,oV (fun hc=>?_) (fun hc=>?_)⟩
    ·rw[aBN]at hc;refine fun M1 hM1=>?_;refine⟨_,rfl,_,rfl,_,_,rfl,rfl,.inl ⟨by omega,by omega⟩,_,rfl,_,_,rfl,rfl,.inl ⟨by decide,by decide⟩,_,_,rfl,rfl,_,rfl,l,_,rfl,.inl (SqL.of el3),_,_,rfl,rfl,.inl ⟨by decide,by decide⟩,_,_,rfl,rfl,_,_,rfl,rfl,_,_,rfl,rfl,(by show (0:Int)<2147483629;decide),?_⟩;refine hM1 [some (.ref a),some (.int m),some (.ref l),some (.int (sd2 seed ys)),v1,v2,v3] _ ?_;clear hM1 M1;have t0:0<=sd2 seed ys:=Int.emod_nonneg _ (by decide);have t1:sd2 seed ys<2147483629:=Int.emod_lt_of_pos _ (by decide);refine⟨_,rfl,.inl ⟨rfl,_,SqL.of el3⟩,_,rfl,_,_,rfl,rfl,⟨by decide,by decide⟩,_,_,rfl,rfl,(by show (0:Int)<9967;decide),l,_,_,rfl,rfl,el3,(by rw[aBN];exact aO (by omega)),?_⟩;refine⟨⟨sd2 seed ys,ys++[sd2 seed ys / 1019 % 9967],rfl,Same.upd' hl sm3,by rw[aB,aB2];rfl,?_,by simp;omega,t0,t1⟩,?_⟩
     ·intro n hn;rcases aBs.mp hn with h | h
      ·exact nx3 n h
      ·rw[aBk.mp h];exact⟨Int.emod_nonneg _ (by decide),Int.emod_lt_of_pos _ (by decide)⟩
     ·simp only[aB,el3,aBW,aBN,List.length_singleton];omega
    ·rw[aBN]at hc;refine⟨_,rfl,_,rfl,_,rfl,l,_,rfl,SqL.of el3,fun p2 hp2=>?_⟩;rw[P4 ys m (by omega)];exact k p2 (ys.take m) _ (by simp;omega) (fun n hn=>nx3 n (List.mem_of_mem_take hn)) (sm3.free hp2) (Same.upd' (sm3.free hp2) sm3) aB
   ·intro σ H3 Q1 Q2 hq h;obtain⟨x,e,p2,ys,e2,hq2,z,e3,i,j,e4,e5,b,e6,q⟩:=h;exact⟨x,e,p2,ys,e2,hq2,z,e3,i,j,e4,e5,b,e6,hq _ _ q⟩
abbrev cI:Stmt:=top 32
theorem lA:bC ["_law_found","_law_due"] ["_law_found","_law_due"] (aE cI):=⟨rfl,rfl,rfl,by decide +kernel,rfl,by decide +kernel,by decide +kernel⟩
theorem tP {f:Addr} {fd:FuncData} {n k:Nat} {spR:Sp} (F:Fun K "_law_same" "_law_same" cI f fd) (B:Bt mg) (F_law_same:bO P w K mg base "_law_same" k ["_law_found","_law_due"] spR)
 (hsp:∀ m,m+1=n->∀ vs H Q E,kJ m vs H Q E->spR vs H Q E):FnOk P w K mg base CX0 (k+1) f fd ["_law_found","_law_due"] (kJ n):=by
 refine F.ok lA (fun vs H Q E h=>?_) (fun cdv A outer s H vs Q E hr h=>?_)
 ·obtain⟨x,y,d,rfl,_⟩:=h;rfl
 ·obtain⟨x,y,d,rfl,h1,h2,hdep,hsh,hsm,kk⟩:=h;have hu:=hr.units;refine⟨_,(aG (cJ (aV nM (pv 1) nK (aP _))
 (aJ (bB (dE nM (pv 0) nK (aP _))))
 bG)
 (aG (cJ (eM (aF nQ (by rfl) B.isinstance aI (aA (pv 1) (aA (cL (aA (bA (v:=.ty "list") rfl B.list bZ rfl) (aA (bA (v:=.ty "tuple") rfl B.tuple cT rfl) aC))) aC))) (fun _=>rfl))
 (aG (cJ (PW.pt (jV (aV jW (aF aZ (by rfl) B.isinstance aI (aA (pv 0) (aA (bA (v:=.ty "list") rfl B.list bZ rfl) aC))) (aF aZ (by rfl) B.isinstance aI (aA (pv 1) (aA (bA (v:=.ty "list") rfl B.list bZ rfl) aC))) (aP _)) (iO (aV jW (aF aZ (by rfl) B.isinstance aI (aA (pv 0) (aA (bA (v:=.ty "tuple") rfl B.tuple cT rfl) aC))) (aF aZ (by rfl) B.isinstance aI (aA (pv 1) (aA (bA (v:=.ty "tuple") rfl B.tuple cT rfl) aC))) (aP _)))))
 (aJ (bB lO))
 bG)
 (aJ (bB (iQ (dE gG (aF aS (by rfl) B.len PySem.boot_len (aA (pv 0) aC)) (aF aS (by rfl) B.len PySem.boot_len (aA (pv 1) aC)) (aP _)) (iP (aF (kF rfl) (by rfl) B.all kG (aA (cD ["_law_k"] ["_law_found","_law_due"] [0,1] rfl (.of (show cB (aE cI) _ ["_law_found","_law_due"] [0,1] ["_law_found","_law_due"]=true by decide +kernel)) (fN rfl B.range (aA (aF aS (by rfl) B.len PySem.boot_len (aA (pv 1) aC)) aC)) (fun _ _ _=>(aL (i:=0) (show (["_law_k","_law_found","_law_due"]:List Str).Nodup by decide +kernel) rfl (Or.inl rfl))) (fH (by decide)) (fun _ _ _=>cA) (fun _ _ _=>(bE F_law_same hr rfl (aA (bJ (lF K rfl) (pv 1) (pv 0) (fun _ _=>rfl)) (aA (bJ (lF K rfl) (pv 2) (pv 0) (fun _ _=>rfl)) aC)) (hj:=Nat.le_refl _)))) aC)))))))
 bG)
 (aG (cJ (PW.pt (jV (aV jW (aF aZ (by rfl) B.isinstance aI (aA (pv 0) (aA (bA (v:=.ty "bool") rfl B.bool gW rfl) aC))) (aF aZ (by rfl) B.isinstance aI (aA (pv 1) (aA (bA (v:=.ty "bool") rfl B.bool gW rfl) aC))) (aP _)) (iO (aV jW (aF aZ (by rfl) B.isinstance aI (aA (pv 0) (aA (bA (v:=.ty "str") rfl B.str iY rfl) aC))) (aF aZ (by rfl) B.isinstance aI (aA (pv 1) (aA (bA (v:=.ty "str") rfl B.str iY rfl) aC))) (aP _)))))
 (aJ (bB lO))
 bG)
 (aJ (bB (iQ (dE O4 (aF aZ (by rfl) B.isinstance aI (aA (pv 0) (aA (bA (v:=.ty "int") rfl B.int iZ rfl) aC))) (aF aZ (by rfl) B.isinstance aI (aA (pv 1) (aA (bA (v:=.ty "int") rfl B.int iZ rfl) aC))) (aP _)) (iP (dE (pT hu) (pv 0) (pv 1) (aP _))))))))),?_⟩
  cases h1 with
  | non =>
   cases h2;exact⟨_,rfl,rfl,_,rfl,sN rfl ⟨_,rfl,rfl,kk H (Same.refl H)⟩⟩
  | bl b =>
   cases h2;refine⟨_,rfl,rfl,_,rfl,hV (by intro h;cases h) ?_⟩;refine⟨_,rfl,(show 2<=sizeLine by decide),fun tp htp=>⟨_,tp,["list","tuple"],.bool b,false,rfl,aB,.bl b,rfl,false,rfl,?_⟩⟩;refine⟨_,rfl,_,"bool",.bool b,true,rfl,.bl b,rfl,_,rfl,_,"bool",.bool b,true,rfl,.bl b,rfl,rfl,_,rfl,?_⟩;refine⟨_,rfl,_,"str",.bool b,false,rfl,.bl b,rfl,_,rfl,_,"str",.bool b,false,rfl,.bl b,rfl,rfl,_,rfl,?_⟩;refine⟨_,rfl,_,"int",.bool b,true,rfl,.bl b,rfl,_,rfl,_,"int",.bool b,true,rfl,.bl b,rfl,rfl,_,rfl,?_⟩;refine⟨_,rfl,_,rfl,_,_,.bl b,.bl b,hsh,hsh,?_⟩;rw[kK hsh];exact kk _ (Same.upd htp)
  | int b =>
   cases h2;refine⟨_,rfl,rfl,_,rfl,hV (by intro h;cases h) ?_⟩;refine⟨_,rfl,(show 2<=sizeLine by decide),fun tp htp=>⟨_,tp,["list","tuple"],.int b,false,rfl,aB,.int b,rfl,false,rfl,?_⟩⟩;refine⟨_,rfl,_,"bool",.int b,false,rfl,.int b,rfl,_,rfl,_,"bool",.int b,false,rfl,.int b,rfl,rfl,_,rfl,?_⟩;refine⟨_,rfl,_,"str",.int b,false,rfl,.int b,rfl,_,rfl,_,"str",.int b,false,rfl,.int b,rfl,rfl,_,rfl,?_⟩;refine⟨_,rfl,_,"int",.int b,true,rfl,.int b,rfl,_,rfl,_,"int",.int b,true,rfl,.int b,rfl,rfl,_,rfl,?_⟩;refine⟨_,rfl,_,rfl,_,_,.int b,.int b,hsh,hsh,?_⟩;rw[kK hsh];exact kk _ (Same.upd htp)
  | str b =>
   cases h2;refine⟨_,rfl,rfl,_,rfl,hV (by intro h;cases h) ?_⟩;refine⟨_,rfl,(show 2<=sizeLine by decide),fun tp htp=>⟨_,tp,["list","tuple"],.str b,false,rfl,aB,.str b,rfl,false,rfl,?_⟩⟩;refine⟨_,rfl,_,"bool",.str b,false,rfl,.str b,rfl,_,rfl,_,"bool",.str b,false,rfl,.str b,rfl,rfl,_,rfl,?_⟩;refine⟨_,rfl,_,"str",.str b,true,rfl,.str b,rfl,_,rfl,_,"str",.str b,true,rfl,.str b,rfl,rfl,_,rfl,?_⟩;refine⟨_,rfl,_,"int",.str b,false,rfl,.str b,rfl,_,rfl,_,"int",.str b,false,rfl,.str b,rfl,rfl,_,rfl,?_⟩;refine⟨_,rfl,_,rfl,_,_,.str b,.str b,hsh,hsh,?_⟩;rw[kK hsh];exact kk _ (Same.upd htp)
  | @lst a1 us ds ea ta =>
   cases h2 with
   | @lst a2 ws _ eb tb =>
    have hlu:=ta.length;have hlw:=tb.length;have hsm':=hsm;simp only[sml,Bool.and_eq_true,decide_eq_true_eq]at hsm';have hlen2:ws.length<=5000:=by omega
    have hln:(5000:Nat)<sizeLine:=by decide
    refine⟨_,rfl,rfl,_,rfl,hV (by intro h;cases h) ?_⟩;refine⟨_,rfl,(show 2<=sizeLine by decide),fun tp htp=>?_⟩;have sm0:=Same.upd (o:=.tup [V.ty "list",V.ty "tuple"]) htp;refine⟨_,tp,["list","tuple"],.list ds,true,rfl,aB,(Den.lst eb tb).mono sm0,rfl,true,rfl,?_⟩;generalize upd H tp (.tup [V.ty "list",V.ty "tuple"])=H0 at sm0 ⊢;have d1:=(Den.lst ea ta).mono sm0;have d2:=(Den.lst eb tb).mono sm0;refine⟨_,rfl,_,"list",.list ds,true,rfl,d1,rfl,_,rfl,_,"list",.list ds,true,rfl,d2,rfl,rfl,_,rfl,?_⟩;refine⟨_,rfl,_,"tuple",.list ds,false,rfl,d1,rfl,_,rfl,_,"tuple",.list ds,false,rfl,d2,rfl,rfl,_,rfl,?_⟩;refine⟨_,rfl,a1,_,rfl,.inl (SqL.of (sm0 _ _ ea)),_,rfl,a2,_,rfl,.inl (SqL.of (sm0 _ _ eb)),_,_,rfl,rfl,_,rfl,sN (by omega) ?_⟩;refine⟨_,rfl,a2,_,rfl,.inl (SqL.of (sm0 _ _ eb)),_,rfl,by omega,by omega,jN (lo:=0) (fun i ys H2=>Same H0 H2/\ys=List.replicate i (V.bl true)) ⟨Same.refl _,rfl⟩ ?_ ?_ ?_⟩
    ·rintro i ys H2 hi ⟨sm,rfl⟩;rw[aB8];omega
    ·rintro i ys H2 hi ⟨sm,rfl⟩;have hi':i<ds.length:=by omega
     obtain⟨v1,e1,q1⟩:=ta.get (i:=i) (d:=ds[i]) (by simp[hi']);obtain⟨v2,e2,q2⟩:=tb.get (i:=i) (d:=ds[i]) (by simp[hi']);have em:ds[i]∈ds:=List.getElem_mem hi';have sm1:Same H H2:=sm0.trans sm;have ez:(0:Int)+(i:Int)=(i:Int):=by omega
     refine⟨_,rfl,_,rfl,.inl ⟨a1,_,_,_,rfl,rfl,SqL.of (sm1 _ _ ea),(by rw[ez];exact lE e1),_,rfl,_,rfl,.inl ⟨a2,_,_,_,rfl,rfl,SqL.of (sm1 _ _ eb),(by rw[ez];exact lE e2),?_⟩⟩⟩;have hd1:=sO em;have hdd:PyData.depthAll ds+1<=n:=hdep;refine hsp (n - 1) (by omega) _ _ _ _ ⟨v1,v2,ds[i],rfl,q1.mono sm1,q2.mono sm1,by omega,?_,zY em hsm'.2,fun H3 sm3=>⟨sm.trans sm3,by rw[List.replicate_succ']⟩⟩;have c1:PyData.canLayAll0 ds=true:=SeqAt.canLay_of_shaped hsh;have c2:=SeqAt.depth_of_shaped hsh;have c3:PyData.depthAll ds+1<=64:=c2;simp only[SeqAt.shaped,pX em c1,Bool.true_and];exact aBa (by omega)
    ·rintro ys H2 ⟨sm,rfl⟩ D hD;refine⟨D,List.replicate _ true,rfl,by rw[aB,List.map_replicate],?_⟩;have:∀ k:Nat,(List.replicate k true).all id=true:=fun k=>by simp
     rw[this];exact kk _ ((sm0.trans sm).trans (Same.upd hD))
  | @tup a1 us ds ea ta =>
   cases h2 with
   | @tup a2 ws _ eb tb =>
    have hlu:=ta.length;have hlw:=tb.length;have hsm':=hsm;simp only[sml,Bool.and_eq_true,decide_eq_true_eq]at hsm';have hlen2:ws.length<=5000:=by omega
    have hln:(5000:Nat)<sizeLine:=by decide
    refine⟨_,rfl,rfl,_,rfl,hV (by intro h;cases h) ?_⟩;refine⟨_,rfl,(show 2<=sizeLine by decide),fun tp htp=>?_⟩;have sm0:=Same.upd (o:=.tup [V.ty "list",V.ty "tuple"]) htp;refine⟨_,tp,["list","tuple"],.tuple ds,true,rfl,aB,(Den.tup eb tb).mono sm0,rfl,true,rfl,?_⟩;generalize upd H tp (.tup [V.ty "list",V.ty "tuple"])=H0 at sm0 ⊢;have d1:=(Den.tup ea ta).mono sm0;have d2:=(Den.tup eb tb).mono sm0;refine⟨_,rfl,_,"list",.tuple ds,false,rfl,d1,rfl,_,rfl,_,"list",.tuple ds,false,rfl,d2,rfl,rfl,_,rfl,?_⟩;refine⟨_,rfl,_,"tuple",.tuple ds,true,rfl,d1,rfl,_,rfl,_,"tuple",.tuple ds,true,rfl,d2,rfl,rfl,_,rfl,?_⟩;refine⟨_,rfl,a1,_,rfl,.inr (SqT.of (sm0 _ _ ea)),_,rfl,a2,_,rfl,.inr (SqT.of (sm0 _ _ eb)),_,_,rfl,rfl,_,rfl,sN (by omega) ?_⟩;refine⟨_,rfl,a2,_,rfl,.inr (SqT.of (sm0 _ _ eb)),_,rfl,by omega,by omega,jN (lo:=0) (fun i ys H2=>Same H0 H2/\ys=List.replicate i (V.bl true)) ⟨Same.refl _,rfl⟩ ?_ ?_ ?_⟩
    ·rintro i ys H2 hi ⟨sm,rfl⟩;rw[aB8];omega
    ·rintro i ys H2 hi ⟨sm,rfl⟩;have hi':i<ds.length:=by omega
     obtain⟨v1,e1,q1⟩:=ta.get (i:=i) (d:=ds[i]) (by simp[hi']);obtain⟨v2,e2,q2⟩:=tb.get (i:=i) (d:=ds[i]) (by simp[hi']);have em:ds[i]∈ds:=List.getElem_mem hi';have sm1:Same H H2:=sm0.trans sm;have ez:(0:Int)+(i:Int)=(i:Int):=by omega
     refine⟨_,rfl,_,rfl,.inr (.inl ⟨a1,_,_,_,rfl,rfl,SqT.of (sm1 _ _ ea),(by rw[ez];exact lE e1),_,rfl,_,rfl,.inr (.inl ⟨a2,_,_,_,rfl,rfl,SqT.of (sm1 _ _ eb),(by rw[ez];exact lE e2),?_⟩)⟩)⟩;have hd1:=sO em;have hdd:PyData.depthAll ds+1<=n:=hdep;refine hsp (n - 1) (by omega) _ _ _ _ ⟨v1,v2,ds[i],rfl,q1.mono sm1,q2.mono sm1,by omega,?_,zY em hsm'.2,fun H3 sm3=>⟨sm.trans sm3,by rw[List.replicate_succ']⟩⟩;have c1:PyData.canLayAll0 ds=true:=SeqAt.canLay_of_shaped hsh;have c2:=SeqAt.depth_of_shaped hsh;have c3:PyData.depthAll ds+1<=64:=c2;simp only[SeqAt.shaped,pX em c1,Bool.true_and];exact aBa (by omega)
    ·rintro ys H2 ⟨sm,rfl⟩ D hD;refine⟨D,List.replicate _ true,rfl,by rw[aB,List.map_replicate],?_⟩;have:∀ k:Nat,(List.replicate k true).all id=true:=fun k=>by simp
     rw[this];exact kk _ ((sm0.trans sm).trans (Same.upd hD))
theorem j4 {f:Addr} {fd:FuncData} (F:Fun K "_law_same" "_law_same" cI f fd) (B:Bt mg) (hmg:mg "_law_same"=some (.ref f)) (hb:Binds K fd ["_law_found","_law_due"] []) :
 ∀ n,FnOk P w K mg base CX0 (n+1) f fd ["_law_found","_law_due"] (kJ n):=by
 intro n
 induction n with
 | zero =>
  refine tP (k:=0) (spR:=fun _ _ _ _=>False) F B ⟨f,fd,⟨fun _ _ _ _ h=>h.elim,fun _ _ _ _ _ _ _ _ _ _ _ _ _ h=>h.elim⟩,hmg,F.kp,hb⟩ fun m hm=>?_;omega
 | succ n ih =>
  refine tP F B ⟨f,fd,ih,hmg,F.kp,hb⟩ fun m hm vs H Q E h=>?_;obtain rfl:m=n:=by omega
  exact h
theorem vF {f:Addr} {fd:FuncData} {k:Nat} {spR:Sp} (F:Fun K "_law_same" "_law_same" cI f fd) (B:Bt mg) (F_law_same:bO P w K mg base "_law_same" k ["_law_found","_law_due"] spR):FnOk P w K mg base CX0 (k+1) f fd ["_law_found","_law_due"] pK:=by
 refine F.ok lA (fun vs H Q E h=>?_) (fun cdv A outer s H vs Q E hr h=>?_)
 ·cases h with
  | str x y e=>rw[e];rfl
  | int x y e=>rw[e];rfl
 ·have hu:=hr.units;refine⟨_,(aG (cJ (aV nM (pv 1) nK (aP _))
 (aJ (bB (dE nM (pv 0) nK (aP _))))
 bG)
 (aG (cJ (eM (aF nQ (by rfl) B.isinstance aI (aA (pv 1) (aA (cL (aA (bA (v:=.ty "list") rfl B.list bZ rfl) (aA (bA (v:=.ty "tuple") rfl B.tuple cT rfl) aC))) aC))) (fun _=>rfl))
 (aG (cJ (PW.pt (jV (aV jW (aF aZ (by rfl) B.isinstance aI (aA (pv 0) (aA (bA (v:=.ty "list") rfl B.list bZ rfl) aC))) (aF aZ (by rfl) B.isinstance aI (aA (pv 1) (aA (bA (v:=.ty "list") rfl B.list bZ rfl) aC))) (aP _)) (iO (aV jW (aF aZ (by rfl) B.isinstance aI (aA (pv 0) (aA (bA (v:=.ty "tuple") rfl B.tuple cT rfl) aC))) (aF aZ (by rfl) B.isinstance aI (aA (pv 1) (aA (bA (v:=.ty "tuple") rfl B.tuple cT rfl) aC))) (aP _)))))
 (aJ (bB lO))
 bG)
 (aJ (bB (iQ (dE gG (aF aS (by rfl) B.len PySem.boot_len (aA (pv 0) aC)) (aF aS (by rfl) B.len PySem.boot_len (aA (pv 1) aC)) (aP _)) (iP (aF (kF rfl) (by rfl) B.all kG (aA (cD ["_law_k"] ["_law_found","_law_due"] [0,1] rfl (.of (show cB (aE cI) _ ["_law_found","_law_due"] [0,1] ["_law_found","_law_due"]=true by decide +kernel)) (fN rfl B.range (aA (aF aS (by rfl) B.len PySem.boot_len (aA (pv 1) aC)) aC)) (fun _ _ _=>(aL (i:=0) (show (["_law_k","_law_found","_law_due"]:List Str).Nodup by decide +kernel) rfl (Or.inl rfl))) (fH (by decide)) (fun _ _ _=>cA) (fun _ _ _=>(bE F_law_same hr rfl (aA (bJ (lF K rfl) (pv 1) (pv 0) (fun _ _=>rfl)) (aA (bJ (lF K rfl) (pv 2) (pv 0) (fun _ _=>rfl)) aC)) (hj:=Nat.le_refl _)))) aC)))))))
 bG)
 (aG (cJ (PW.pt (jV (aV jW (aF aZ (by rfl) B.isinstance aI (aA (pv 0) (aA (bA (v:=.ty "bool") rfl B.bool gW rfl) aC))) (aF aZ (by rfl) B.isinstance aI (aA (pv 1) (aA (bA (v:=.ty "bool") rfl B.bool gW rfl) aC))) (aP _)) (iO (aV jW (aF aZ (by rfl) B.isinstance aI (aA (pv 0) (aA (bA (v:=.ty "str") rfl B.str iY rfl) aC))) (aF aZ (by rfl) B.isinstance aI (aA (pv 1) (aA (bA (v:=.ty "str") rfl B.str iY rfl) aC))) (aP _)))))
 (aJ (bB lO))
 bG)
 (aJ (bB (iQ (dE O4 (aF aZ (by rfl) B.isinstance aI (aA (pv 0) (aA (bA (v:=.ty "int") rfl B.int iZ rfl) aC))) (aF aZ (by rfl) B.isinstance aI (aA (pv 1) (aA (bA (v:=.ty "int") rfl B.int iZ rfl) aC))) (aP _)) (iP (dE (pT hu) (pv 0) (pv 1) (aP _))))))))),?_⟩
  cases h with
  | str x y e hx hy kk =>
   subst e;refine⟨_,rfl,rfl,_,rfl,hV (by intro h;cases h) ?_⟩;refine⟨_,rfl,(show 2<=sizeLine by decide),fun tp htp=>⟨_,tp,["list","tuple"],.str y,false,rfl,aB,.str y,rfl,false,rfl,?_⟩⟩;refine⟨_,rfl,_,"bool",.str x,false,rfl,.str x,rfl,_,rfl,_,"bool",.str y,false,rfl,.str y,rfl,rfl,_,rfl,?_⟩;refine⟨_,rfl,_,"str",.str x,true,rfl,.str x,rfl,_,rfl,_,"str",.str y,true,rfl,.str y,rfl,rfl,_,rfl,?_⟩;refine⟨_,rfl,_,"int",.str x,false,rfl,.str x,rfl,_,rfl,_,"int",.str y,false,rfl,.str y,rfl,rfl,_,rfl,?_⟩;refine⟨_,rfl,_,rfl,_,_,.str x,.str y,nF hx,nF hy,?_⟩;rw[aAg];exact kk _ (Same.upd htp)
  | int x y e kk =>
   subst e;refine⟨_,rfl,rfl,_,rfl,hV (by intro h;cases h) ?_⟩;refine⟨_,rfl,(show 2<=sizeLine by decide),fun tp htp=>⟨_,tp,["list","tuple"],.int y,false,rfl,aB,.int y,rfl,false,rfl,?_⟩⟩;refine⟨_,rfl,_,"bool",.int x,false,rfl,.int x,rfl,_,rfl,_,"bool",.int y,false,rfl,.int y,rfl,rfl,_,rfl,?_⟩;refine⟨_,rfl,_,"str",.int x,false,rfl,.int x,rfl,_,rfl,_,"str",.int y,false,rfl,.int y,rfl,rfl,_,rfl,?_⟩;refine⟨_,rfl,_,"int",.int x,true,rfl,.int x,rfl,_,rfl,_,"int",.int y,true,rfl,.int y,rfl,rfl,_,rfl,?_⟩;refine⟨_,rfl,_,rfl,_,_,.int x,.int y,C6 x,C6 y,?_⟩;rw[aBK];exact kk _ (Same.upd htp)
theorem vG {f:Addr} {fd:FuncData} (F:Fun K "_law_same" "_law_same" cI f fd) (B:Bt mg) (F_law_same:bO P w K mg base "_law_same" 1 ["_law_found","_law_due"] pK):FnOk P w K mg base CX0 2 f fd ["_law_found","_law_due"] lM:=by
 refine F.ok lA (fun vs H Q E h=>?_) (fun cdv A outer s H vs Q E hr h=>?_)
 ·obtain⟨t,u,x,y,rfl,_⟩:=h;rfl
 ·obtain⟨t,u,x,y,rfl,et,eu,hx,hy,kk⟩:=h;have hu:=hr.units;have dx:Dens H [.str x.1,.int x.2] [.str x.1,.int x.2]:=.cons (.str _) (.cons (.int _) .nil);have dy:Dens H [.str y.1,.int y.2] [.str y.1,.int y.2]:=.cons (.str _) (.cons (.int _) .nil);refine⟨_,(aG (cJ (aV nM (pv 1) nK (aP _))
 (aJ (bB (dE nM (pv 0) nK (aP _))))
 bG)
 (aG (cJ (eM (aF nQ (by rfl) B.isinstance aI (aA (pv 1) (aA (cL (aA (bA (v:=.ty "list") rfl B.list bZ rfl) (aA (bA (v:=.ty "tuple") rfl B.tuple cT rfl) aC))) aC))) (fun _=>rfl))
 (aG (cJ (PW.pt (jV (aV jW (aF aZ (by rfl) B.isinstance aI (aA (pv 0) (aA (bA (v:=.ty "list") rfl B.list bZ rfl) aC))) (aF aZ (by rfl) B.isinstance aI (aA (pv 1) (aA (bA (v:=.ty "list") rfl B.list bZ rfl) aC))) (aP _)) (iO (aV jW (aF aZ (by rfl) B.isinstance aI (aA (pv 0) (aA (bA (v:=.ty "tuple") rfl B.tuple cT rfl) aC))) (aF aZ (by rfl) B.isinstance aI (aA (pv 1) (aA (bA (v:=.ty "tuple") rfl B.tuple cT rfl) aC))) (aP _)))))
 (aJ (bB lO))
 bG)
 (aJ (bB (iQ (dE gG (aF aS (by rfl) B.len PySem.boot_len (aA (pv 0) aC)) (aF aS (by rfl) B.len PySem.boot_len (aA (pv 1) aC)) (aP _)) (iP (aF (kF rfl) (by rfl) B.all kG (aA (cD ["_law_k"] ["_law_found","_law_due"] [0,1] rfl (.of (show cB (aE cI) _ ["_law_found","_law_due"] [0,1] ["_law_found","_law_due"]=true by decide +kernel)) (fN rfl B.range (aA (aF aS (by rfl) B.len PySem.boot_len (aA (pv 1) aC)) aC)) (fun _ _ _=>(aL (i:=0) (show (["_law_k","_law_found","_law_due"]:List Str).Nodup by decide +kernel) rfl (Or.inl rfl))) (fH (by decide)) (fun _ _ _=>cA) (fun _ _ _=>(bE F_law_same hr rfl (aA (bJ (lF K rfl) (pv 1) (pv 0) (fun _ _=>rfl)) (aA (bJ (lF K rfl) (pv 2) (pv 0) (fun _ _=>rfl)) aC)) (hj:=Nat.le_refl _)))) aC)))))))
 bG)
 (aG (cJ (PW.pt (jV (aV jW (aF aZ (by rfl) B.isinstance aI (aA (pv 0) (aA (bA (v:=.ty "bool") rfl B.bool gW rfl) aC))) (aF aZ (by rfl) B.isinstance aI (aA (pv 1) (aA (bA (v:=.ty "bool") rfl B.bool gW rfl) aC))) (aP _)) (iO (aV jW (aF aZ (by rfl) B.isinstance aI (aA (pv 0) (aA (bA (v:=.ty "str") rfl B.str iY rfl) aC))) (aF aZ (by rfl) B.isinstance aI (aA (pv 1) (aA (bA (v:=.ty "str") rfl B.str iY rfl) aC))) (aP _)))))
 (aJ (bB lO))
 bG)
 (aJ (bB (iQ (dE O4 (aF aZ (by rfl) B.isinstance aI (aA (pv 0) (aA (bA (v:=.ty "int") rfl B.int iZ rfl) aC))) (aF aZ (by rfl) B.isinstance aI (aA (pv 1) (aA (bA (v:=.ty "int") rfl B.int iZ rfl) aC))) (aP _)) (iP (dE (pT hu) (pv 0) (pv 1) (aP _))))))))),?_⟩
  refine⟨_,rfl,rfl,_,rfl,hV (by intro h;cases h) ?_⟩;refine⟨_,rfl,(show 2<=sizeLine by decide),fun tp htp=>?_⟩;have sm0:=Same.upd (o:=.tup [V.ty "list",V.ty "tuple"]) htp;refine⟨_,tp,["list","tuple"],.tuple [.str y.1,.int y.2],true,rfl,aB,(Den.tup eu dy).mono sm0,rfl,true,rfl,?_⟩;generalize upd H tp (.tup [V.ty "list",V.ty "tuple"])=H0 at sm0 ⊢;have d1:=(Den.tup et dx).mono sm0;have d2:=(Den.tup eu dy).mono sm0;refine⟨_,rfl,_,"list",.tuple [.str x.1,.int x.2],false,rfl,d1,rfl,_,rfl,_,"list",.tuple [.str y.1,.int y.2],false,rfl,d2,rfl,rfl,_,rfl,?_⟩;refine⟨_,rfl,_,"tuple",.tuple [.str x.1,.int x.2],true,rfl,d1,rfl,_,rfl,_,"tuple",.tuple [.str y.1,.int y.2],true,rfl,d2,rfl,rfl,_,rfl,?_⟩;refine⟨_,rfl,t,_,rfl,.inr (SqT.of (sm0 _ _ et)),_,rfl,u,_,rfl,.inr (SqT.of (sm0 _ _ eu)),_,_,rfl,rfl,_,rfl,sN rfl ?_⟩;refine⟨_,rfl,u,_,rfl,.inr (SqT.of (sm0 _ _ eu)),_,rfl,(show -(2:Int) ^ 62<=2 by decide),(show (2:Int)<2 ^ 62 by decide),jN (lo:=0) (fun i ys H2=>Same H0 H2/\ys=(([decide (x.1=y.1),decide (x.2=y.2)]:List Bool).take i).map V.bl) ⟨Same.refl _,rfl⟩ ?_ ?_ ?_⟩
  ·rintro i ys H2 hi ⟨sm,rfl⟩;rw[aBN,aB3];exact aO (by simp;omega)
  ·rintro i ys H2 hi ⟨sm,rfl⟩;have sm1:Same H H2:=sm0.trans sm
   match i,hi with
   | 0,_ =>
    refine⟨_,rfl,_,rfl,.inr (.inl ⟨t,_,_,_,rfl,rfl,SqT.of (sm1 _ _ et),rfl,_,rfl,_,rfl,.inr (.inl ⟨u,_,_,_,rfl,rfl,SqT.of (sm1 _ _ eu),rfl,?_⟩)⟩)⟩;exact .str _ _ rfl hx hy fun H3 sm3=>⟨sm.trans sm3,rfl⟩
   | 1,_ =>
    refine⟨_,rfl,_,rfl,.inr (.inl ⟨t,_,_,_,rfl,rfl,SqT.of (sm1 _ _ et),rfl,_,rfl,_,rfl,.inr (.inl ⟨u,_,_,_,rfl,rfl,SqT.of (sm1 _ _ eu),rfl,?_⟩)⟩)⟩;exact .int _ _ rfl fun H3 sm3=>⟨sm.trans sm3,rfl⟩
   | i+2,hi=>simp at hi;omega
  ·rintro ys H2 ⟨sm,rfl⟩ D hD;refine⟨D,[decide (x.1=y.1),decide (x.2=y.2)],rfl,aB,?_⟩;rw[M5];exact kk _ ((sm0.trans sm).trans (Same.upd hD))
theorem N3 {f:Addr} {fd:FuncData} (F:Fun K "_law_same" "_law_same" cI f fd) (B:Bt mg) (hmg:mg "_law_same"=some (.ref f)) (hb:Binds K fd ["_law_found","_law_due"] []):FnOk P w K mg base CX0 4 f fd ["_law_found","_law_due"] (W9 (kJ 3) lM) :=
 aAh (j4 F B hmg hb 3) ((vG F B ⟨f,fd,vF (k:=0) (spR:=fun _ _ _ _=>False) F B ⟨f,fd,⟨fun _ _ _ _ h=>h.elim,fun _ _ _ _ _ _ _ _ _ _ _ _ _ h=>h.elim⟩,hmg,F.kp,hb⟩,hmg,F.kp,hb⟩).mono (by decide))
abbrev gZ:Stmt:=top 33
theorem fR:bC ["_law_d","_law_most","_law_place","_law_row_here","_law_k","_law_step"] ["_law_d","_law_most"] (aE gZ):=⟨rfl,rfl,rfl,by decide +kernel,rfl,by decide +kernel,by decide +kernel⟩
inductive rE (H:Hp) (a:Addr) (l:Addr) (m:Nat) (i:Nat) (σ:St) (H2:Hp):Prop
 | mk (place:Int) (row:List Int) (v1 v2:Option V) (k0_:σ=[some (.ref a),some (.int m),some (.int place),some (.ref l),v1,v2]) (k1_:Same H H2) (k2_:H2 l=some (.lst (row.map V.int))) (k3_:Row row) (k4_:row.length=i) (k5_:-15<=place) (k6_:place<=15+12 * i) (k7_:∀ x∈row,-15<=x/\x<=place):rE H a l m i σ H2
theorem aAB {f:Addr} {fd:FuncData} (F:Fun K "_law_row" "_law_row" gZ f fd) (B:Bt mg):FnOk P w K mg base CX0 1 f fd ["_law_d","_law_most"] zX:=by
 refine F.ok fR (fun vs H Q E h=>?_) (fun cdv A outer s H vs Q E hr h=>?_)
 ·obtain⟨a,ns,m,rfl,_⟩:=h;rfl
 ·obtain⟨a,ns,m,rfl,ha,hns,hlen,hm,k⟩:=h;refine⟨_,(aG (aR (i:=2) fR.nd rfl (Or.inl rfl) (aK cG (aK cO (bJ bF (pv 0) aD (fun _ _=>rfl)) aD) aD))
 (aG (aR (i:=3) fR.nd rfl (Or.inl rfl) (cC aC))
 (aG (dL PassesOwn.never rfl (fN rfl B.range (aA (aK cO (bJ bF (pv 0) aD (fun _ _=>rfl)) (aK bQ (pv 1) aD)) aC)) (aL (i:=4) fR.nd rfl (Or.inl rfl))
 (aG (aR (i:=5) fR.nd rfl (Or.inl rfl) (bJ bF (pv 0) (aK bQ aD (pv 4)) (fun _ _=>rfl)))
 (aG (aR (i:=2) fR.nd rfl (Or.inl rfl) (aK bQ (aK bQ (pv 2) aD) (u8 (N6 (aV gG (aK cO (pv 5) aD) aD (aP _)) aD (aK cO (aK lC (pv 5) aD) (bJ bF (cC (aA aD (aA aD (aA aD (aA aD aC))))) (aK cO (bJ bF (pv 0) aD (fun _ _=>rfl)) aD) (fun _ _=>rfl)))))))
 (aJ (bI (eK aBm aBn aBo bT (pv 3) (aA (pv 2) aC)))))))
 (aJ (bB (pv 3)))))),?_⟩
  obtain⟨n0,m0,_,e0⟩:=dB (ns:=ns) (i:=0) (by omega) (by omega);obtain⟨n1,m1,_,e1⟩:=dB (ns:=ns) (i:=1) (by omega) (by omega);obtain⟨n2,m2,_,e2⟩:=dB (ns:=ns) (i:=2) (by omega) (by omega);have p1:(0:Int)<(m:Int)+1:=by omega
  have q1:=Int.emod_nonneg n1 (show ((m:Int)+1)≠0 by omega);have q2:=Int.emod_lt_of_pos n1 p1;have r1:=Int.emod_nonneg n0 (show (31:Int)≠0 by decide);have r2:=Int.emod_lt_of_pos n0 (show (0:Int)<31 by decide);refine⟨_,rfl,a,_,_,_,rfl,rfl,SqL.of ha,e0,_,_,rfl,rfl,(by show (0:Int)<31;decide),_,_,rfl,rfl,by decide,fun l hl=>?_⟩;have ha':=Same.upd (o:=.lst []) hl _ _ ha;refine⟨_,rfl,a,_,_,_,rfl,rfl,SqL.of ha',e1,_,rfl,_,_,rfl,rfl,_,_,rfl,rfl,p1,_,rfl,by omega,by omega,
   gT (lo:=0) (n:=(n1 % ((m:Int)+1)).toNat) (rE H a l m) ⟨_,[],none,none,rfl,Same.upd hl,aB,List.Pairwise.nil,rfl,by omega,by omega,fun x hx=>by cases hx⟩ ?_ ?_⟩
  ·rintro i σ H2 hi ⟨place,row,v1,v2,rfl,sm,el,hrow,hrl,h1,h2,hx⟩;obtain⟨st,ms,_,es⟩:=dB (ns:=ns) (i:=3+(0+(i:Int))) (by omega) (by omega);refine⟨_,rfl,_,rfl,_,_,rfl,rfl,a,_,_,_,rfl,rfl,SqL.of (sm _ _ ha),es,?_⟩;refine⟨_,rfl,_,_,rfl,rfl,fun v H3=>∃ d:Int,v=.int d/\0<=d/\d<=11/\(H3=H2\/∃ p xs,H2 p=none/\H3=upd H2 p (.lst xs)),?_,?_⟩
   ·refine⟨_,rfl,_,_,rfl,rfl,(by show (0:Int)<3;decide),_,_,rfl,rfl,_,rfl,oV (fun _=>⟨0,rfl,by decide,by decide,.inl rfl⟩) (fun _=>?_)⟩;refine⟨_,rfl,_,_,rfl,rfl,⟨by decide,by decide⟩,(by show 4<=sizeLine;decide),fun p hp=>?_⟩;obtain⟨w',mw,_,ew⟩:=dB (ns:=[2,3,5,12]) (i:=n2 % 4) (Int.emod_nonneg _ (by decide)) (Int.emod_lt_of_pos _ (by decide));refine⟨_,rfl,a,_,_,_,rfl,rfl,SqL.of ((Same.upd hp) _ _ (sm _ _ ha)),e2,_,_,rfl,rfl,(by show (0:Int)<4;decide),p,_,_,_,rfl,rfl,SqL.of aB,ew,_,_,rfl,rfl,?_,_,rfl,?_,?_,.inr ⟨p,_,hp,rfl⟩⟩
    ·simp at mw;omega
    ·exact Int.emod_nonneg _ (by simp at mw;omega)
    ·have:=Int.emod_lt_of_pos (st / 3) (show (0:Int)<w' by simp at mw;omega);simp at mw;show st / 3 % w'<=11;omega
   ·rintro v H3 ⟨d,rfl,d0,d1,hH3⟩;have sm3:Same H H3:=by
     rcases hH3 with e | ⟨p,xs,hp,e⟩
     ·rw[e];exact sm
     ·rw[e];exact Same.upd' (sm.free hp) sm
    have el3:H3 l=some (.lst (row.map V.int)):=by
     rcases hH3 with e | ⟨p,xs,hp,e⟩
     ·rw[e];exact el
     ·rw[e,aH (bN el hp)];exact el
    refine⟨_,_,rfl,rfl,_,rfl,.inl ⟨rfl,_,SqL.of el3⟩,_,rfl,l,_,_,rfl,rfl,el3,(by rw[aBN];exact aO (by omega)),?_⟩;refine⟨place+1+d,row++[place+1+d],_,_,rfl,Same.upd' hl sm3,by rw[aB,aB2];rfl,vT hrow fun y hy=>?_,by simp[hrl],by omega,by omega,fun x hx'=>?_⟩
    ·have:=hx y hy;omega
    ·rcases aBs.mp hx' with h | h
     ·have:=hx x h;omega
     ·rw[aBk.mp h];omega
  ·rintro σ H2 ⟨place,row,v1,v2,rfl,sm,el,hrow,hrl,h1,h2,hx⟩;exact⟨_,rfl,k row hrow (by omega) (fun x h=>by have:=hx x h;omega) l H2 hl sm el⟩
abbrev cV:Stmt:=top 34
theorem eV:bC ["_law_d","_law_most","_law_row_here","_law_cut","_law_by"] ["_law_d","_law_most"] (aE cV):=⟨rfl,rfl,rfl,by decide +kernel,rfl,by decide +kernel,by decide +kernel⟩
theorem j5 {f:Addr} {fd:FuncData} (F:Fun K "_law_long_row" "_law_long_row" cV f fd) (B:Bt mg) (F_law_row:bO P w K mg base "_law_row" 1 ["_law_d","_law_most"] zX):FnOk P w K mg base CX0 2 f fd ["_law_d","_law_most"] uA:=by
 refine F.ok eV (fun vs H Q E h=>?_) (fun cdv A outer s H vs Q E hr h=>?_)
 ·obtain⟨a,ns,m,rfl,_⟩:=h;rfl
 ·obtain⟨a,ns,m,rfl,ha,hns,hlen,hm,k⟩:=h;refine⟨_,(aG (aR (i:=2) eV.nd rfl (Or.inl rfl) (bE F_law_row hr rfl (aA (pv 0) (aA (pv 1) aC))))
 (aG (aR (i:=3) eV.nd rfl (Or.inl rfl) (aK cO (aK lC (bJ bF (pv 0) aD (fun _ _=>rfl)) aD) (aK bQ (aF aS (by rfl) B.len PySem.boot_len (aA (pv 2) aC)) aD)))
 (aG (aR (i:=4) eV.nd rfl (Or.inr rfl) (bJ bF (cC (aA aD (aA (aK pQ aD aD) (aA (aK pQ aD aD) (aA (aK pQ aD aD) aC))))) (aK cO (aK lC (bJ bF (pv 0) aD (fun _ _=>rfl)) aD) aD) (fun _ _=>rfl)))
 (aJ (bB (aK jM (dN eU (pv 2) eP (eQ (pv 3))) (cD ["_law_place"] ["_law_by"] [4] rfl (.of (show cB (aE cV) _ ["_law_d","_law_most","_law_row_here","_law_cut","_law_by"] [4] ["_law_by"]=true by decide +kernel)) (bL (dN eU (pv 2) (eQ (pv 3)) eP)) (fun _ _ _=>(aL (i:=0) (show (["_law_place","_law_by"]:List Str).Nodup by decide +kernel) rfl (Or.inl rfl))) (fH (by decide)) (fun _ _ _=>cA) (fun _ _ _=>(aK bQ (pv 0) (pv 1)))))))))),?_⟩
  obtain⟨n2,m2,_,e2⟩:=dB (ns:=ns) (i:=2) (by omega) (by omega);refine⟨_,rfl,_,rfl,a,ns,m,rfl,ha,hns,hlen,hm,fun row hrow hrl hrb l H1 hl sm el=>?_⟩;have p1:(0:Int)<(row.length:Int)+1:=by omega
  refine⟨_,rfl,a,_,_,_,rfl,rfl,SqL.of (sm _ _ ha),e2,_,_,rfl,rfl,⟨by decide,by decide⟩,_,rfl,l,_,rfl,.inl (SqL.of el),_,_,rfl,rfl,_,_,rfl,rfl,(by rw[aBN];exact p1),?_⟩;have c0:0<=n2 / 4 % ((row.length:Int)+1):=Int.emod_nonneg _ (by omega);have c1:n2 / 4 % ((row.length:Int)+1)<(row.length:Int)+1:=Int.emod_lt_of_pos _ p1;obtain⟨c,hc⟩:∃ c:Nat,n2 / 4 % (((row.map V.int).length:Int)+1)=(c:Int):=⟨(n2 / 4 % (((row.map V.int).length:Int)+1)).toNat,by rw[aBN];omega⟩;have hcl:c<=row.length:=by rw[aBN]at hc;omega
  refine⟨_,_,rfl,rfl,⟨by decide,by decide,by decide⟩,_,_,rfl,rfl,⟨by decide,by decide,by decide⟩,_,_,rfl,rfl,⟨by decide,by decide,by decide⟩,(show 4<=sizeLine by decide),fun p hp=>?_⟩;obtain⟨b,mb,_,eb⟩:=dB (ns:=[0,10 ^ (3:Int).toNat,10 ^ (12:Int).toNat,10 ^ (40:Int).toNat]) (i:=n2 / 64 % 4) (Int.emod_nonneg _ (by decide)) (Int.emod_lt_of_pos _ (by decide));have hb:0<=b:=by
   simp only[aBr,List.mem_nil_iff,or_false]at mb;rcases mb with h | h | h | h <;> rw[h] <;> decide
  have smp:=Same.upd (o:=.lst [V.int 0,V.int (10 ^ (3:Int).toNat),V.int (10 ^ (12:Int).toNat),V.int (10 ^ (40:Int).toNat)]) hp;refine⟨_,rfl,a,_,_,_,rfl,rfl,SqL.of (smp _ _ (sm _ _ ha)),e2,_,_,rfl,rfl,⟨by decide,by decide⟩,_,_,rfl,rfl,(by show (0:Int)<4;decide),p,_,_,_,rfl,rfl,SqL.of aB,eb,?_⟩;have el2:=smp _ _ el;have sm2:Same H (upd H1 p (.lst [V.int 0,V.int (10 ^ (3:Int).toNat),V.int (10 ^ (12:Int).toNat),V.int (10 ^ (40:Int).toNat)])):=sm.trans smp;generalize upd H1 p (.lst [V.int 0,V.int (10 ^ (3:Int).toNat),V.int (10 ^ (12:Int).toNat),V.int (10 ^ (40:Int).toNat)])=H2 at el2 sm2 ⊢;refine⟨_,rfl,_,rfl,_,rfl,l,_,rfl,SqL.of el2,fun p1 hp1=>?_⟩;have ec1:gK (row.map V.int) none (some (n2 / 4 % (((row.map V.int).length:Int)+1)))=(row.take c).map V.int:=by rw[hc];exact P4 row c hcl
  rw[show gK (row.map V.int) none (some ((fun i j=>i % j) (n2 / 4) (((row.map V.int).length:Int)+1)))=(row.take c).map V.int from ec1];have el3:=Same.upd (o:=.lst ((row.take c).map V.int)) hp1 _ _ el2;have sm3:Same H (upd H2 p1 (.lst ((row.take c).map V.int))):=sm2.trans (Same.upd hp1);have ep1:(upd H2 p1 (.lst ((row.take c).map V.int))) p1=some (.lst ((row.take c).map V.int)):=aB;generalize upd H2 p1 (.lst ((row.take c).map V.int))=H3 at el3 sm3 ep1 ⊢;refine⟨_,rfl,_,rfl,_,rfl,l,_,rfl,SqL.of el3,fun p2 hp2=>?_⟩;have ec2:gK (row.map V.int) (some (n2 / 4 % (((row.map V.int).length:Int)+1))) none=(row.drop c).map V.int:=by rw[hc];exact mI row c hcl
  rw[show gK (row.map V.int) (some ((fun i j=>i % j) (n2 / 4) (((row.map V.int).length:Int)+1))) none=(row.drop c).map V.int from ec2];have sm4:=Same.upd (o:=.lst ((row.drop c).map V.int)) hp2;have ep2:(upd H3 p2 (.lst ((row.drop c).map V.int))) p2=some (.lst ((row.drop c).map V.int)):=aB;generalize upd H3 p2 (.lst ((row.drop c).map V.int))=H4 at sm4 ep2 ⊢;have hdl:(row.drop c).length<=60:=by simp;omega
  refine⟨p2,rfl,⟨_,SqL.of ep2⟩,bU (xs:=(row.drop c).map V.int) (fun i ys H5=>H5=H4/\ys=(((row.drop c).take i).map (fun z=>z+b)).map V.int) ⟨rfl,rfl⟩ ?_ ?_ ?_⟩
  ·rintro i ys H5 hi ⟨rfl,rfl⟩;exact⟨SqL.of ep2,mJ _ _ (by rw[aBN]at hi;omega) _⟩
  ·rintro i x ys H5 hi ⟨rfl,rfl⟩;obtain⟨z,rfl,hz⟩:=int_at hi;exact⟨_,rfl,_,rfl,_,_,rfl,rfl,rfl,vQ _ hz⟩
  ·rintro ys H5 ⟨rfl,rfl⟩ D hD;rw[aBN,aB1];have smD:=Same.upd (o:=.lst (((row.drop c).map (fun z=>z+b)).map V.int)) hD;refine⟨p1,D,_,_,rfl,rfl,smD _ _ (sm4 _ _ ep1),aB,?_,fun q hq=>?_⟩
   ·simp only[aBN,aB3,List.length_drop];exact gL (by omega)
   ·rw[<- aB2];have smH:=(sm3.trans sm4).trans smD;refine k _ (P6 (c:=c) hrow hb) ?_ q _ (smH.free hq) (Same.upd' (smH.free hq) smH) aB;simp only[aBW,aBN,aB3,List.length_drop];omega
abbrev dM:Stmt:=top 35
theorem rV:bC ["_law_found","_law_size"] ["_law_found","_law_size"] (aE dM):=⟨rfl,rfl,rfl,by decide +kernel,rfl,by decide +kernel,by decide +kernel⟩
theorem N4 {f:Addr} {fd:FuncData} (F:Fun K "_law_lesser" "_law_lesser" dM f fd) (B:Bt mg):FnOk P w K mg base CX0 1 f fd ["_law_found","_law_size"] kL:=by
 refine F.ok rV (fun vs H Q E h=>?_) (fun cdv A outer s H vs Q E hr h=>?_)
 ·obtain⟨a,r,j,rfl,_⟩:=h;rfl
 ·obtain⟨a,ps,j,rfl,⟨us,ha,pr⟩,hl,k⟩:=h;have e:us.length=ps.length:=pr.len;refine⟨_,(aJ (bB (aF (jB rfl) (by rfl) B.sum jA (aA (cD ["_law_own","_law_offset"] ["_law_size"] [1] rfl (.of (show cB (aE dM) _ ["_law_found","_law_size"] [1] ["_law_size"]=true by decide +kernel)) (bL (pv 0)) (fun _ _ _=>(cZ (n:=2) K rfl rfl (aN (aL (i:=0) (show (["_law_own","_law_offset","_law_size"]:List Str).Nodup by decide +kernel) rfl (Or.inl rfl)) (aN (aL (i:=1) (show (["_law_own","_law_offset","_law_size"]:List Str).Nodup by decide +kernel) rfl (Or.inl rfl)) bW)))) (dS (aY (by decide) (aY (by decide) cY))) (fun _ _ _=>cA) (fun _ _ _=>(aF (lD rfl) (by rfl) B.min kH (aA (pv 2) (aA (pv 0) aC))))) aC)))),?_⟩;refine⟨_,rfl,a,rfl,⟨_,SqL.of ha⟩,bU (K:=K) (a:=a) (xs:=us) (fun i ys H3=>H3=H/\ys=((ps.take i).map (Y8 j)).map V.int) ⟨rfl,rfl⟩ ?_ ?_ ?_⟩
  ·rintro i ys H3 hi ⟨rfl,rfl⟩;exact⟨SqL.of ha,by simp only[aBN,aB3];exact aO (by omega)⟩
  ·rintro i x ys H3 hi ⟨rfl,rfl⟩;obtain⟨p,t',hp,rfl,et⟩:=bP pr hi;exact⟨t',_,rfl,SqT.of et,rfl,_,_,rfl,_,_,rfl,rfl,_,rfl,_,rfl,_,_,rfl,rfl,dU (Y8 j) hp⟩
  ·rintro ys H3 ⟨rfl,rfl⟩ D hD;exact⟨D,ps.map (Y8 j),rfl,by rw[aB,e,aB1],k _ (Same.upd hD)⟩
abbrev eW:Stmt:=top 36
theorem fZ:bC ["_law_row_here","_law_found","_law_place","_law_ripe","_law_size"] ["_law_row_here"] (aE eW):=⟨rfl,rfl,rfl,by decide +kernel,rfl,by decide +kernel,by decide +kernel⟩
inductive oQ (H:Hp) (a:Addr) (r:Addr) (row:List Int) (i:Nat) (σ:St) (H3:Hp):Prop
 | mk (us:List V) (ps:Trs) (v2 v3 v4:Option V) (k0_:σ=[some (.ref a),some (.ref r),v2,v3,v4]) (k1_:Same H H3) (k2_:H3 r=some (.lst us)) (k3_:Prs H3 us ps) (k4_:Lst (row.take i) ps):oQ H a r row i σ H3
inductive oS (H:Hp) (a:Addr) (r:Addr) (z:Int) (D:Addr) (s0:Int) (ps:Trs) (σ':St) (H':Hp):Prop
 | mk (us1:List V) (ps1:Trs) (k0_:σ'=[some (.ref a),some (.ref r),some (.int z),some (.ref D),some (.int s0)]) (k1_:Same H H') (k2_:H' r=some (.lst us1)) (k3_:Prs H' us1 ps1) (k4_:us1.length<=60) (k5_:(s0=0/\ps1=ps\/1<=s0/\(s0,z - 1 - 2 * les ps s0)∈ps/\ps1=ps.erase (s0,z - 1 - 2 * les ps s0))):oS H a r z D s0 ps σ' H'
theorem xQ {f:Addr} {fd:FuncData} (F:Fun K "_law_list" "_law_list" eW f fd) (B:Bt mg) (F_law_lesser:bO P w K mg base "_law_lesser" 1 ["_law_found","_law_size"] kL):FnOk P w K mg base CX0 2 f fd ["_law_row_here"] jF:=by
 refine F.ok fZ (fun vs H Q E h=>?_) (fun cdv A outer s H vs Q E hr h=>?_)
 ·obtain⟨a,r,rfl,_⟩:=h;rfl
 ·obtain⟨a,row,rfl,ha,hrow,hrl,k⟩:=h;have hu:=hr.units;refine⟨_,(aG (aR (i:=1) fZ.nd rfl (Or.inr rfl) (cC aC))
 (aG (dL PassesOwn.never rfl (bL (pv 0)) (aL (i:=2) fZ.nd rfl (Or.inr rfl))
 (aQ (pB (i:=3) ["_law_size","_law_offset"] ["_law_place","_law_found"] [2,1] rfl fZ.nd rfl rfl (.of (show cB (aE eW) _ ["_law_row_here","_law_found","_law_place","_law_ripe","_law_size"] [2,1] ["_law_place","_law_found"]=true by decide +kernel)) (bL (pv 1)) (fun _ _ _=>(cZ (n:=2) K rfl rfl (aN (aL (i:=0) (show (["_law_size","_law_offset","_law_place","_law_found"]:List Str).Nodup by decide +kernel) rfl (Or.inl rfl)) (aN (aL (i:=1) (show (["_law_size","_law_offset","_law_place","_law_found"]:List Str).Nodup by decide +kernel) rfl (Or.inl rfl)) bW)))) (dS (aY (by decide) (aY (by decide) cY))) (fun _ _ _=>mG (aV gG (pv 1) (aK cG (aK cG (pv 2) aD) (aK cN aD (bE F_law_lesser hr rfl (aA (pv 3) (aA (pv 0) aC))))) (aP _))) (fun _ _ _=>(pv 0)) (by first | rfl | decide +kernel))
 (aG (aR (i:=4) fZ.nd rfl (Or.inl rfl) (nR rfl rfl B.max (pv 3) aD))
 (pC (cJ (aV oB (pv 4) aD (aP _))
 (aJ (bI (eK aBm PySem.F.slot_list_remove PySem.F.type_list_remove (qK hu) (pv 1) (aA (cL (aA (pv 4) (aA (aK cG (aK cG (pv 2) aD) (aK cN aD (bE F_law_lesser hr rfl (aA (pv 1) (aA (pv 4) aC))))) aC))) aC))))
 bG)
 (aQ (bI (eK aBm aBn aBo bT (pv 1) (aA (cL (aA (aK bQ (pv 4) aD) (aA aD aC))) aC)))
 (aJ (xS (cL (aA (aK bQ (pv 4) aD) (aA (aK cG (pv 2) (aK cN aD (bE F_law_lesser hr rfl (aA (pv 1) (aA (aK bQ (pv 4) aD) aC))))) aC))) (N7 (pv 1) (mF jL aD) vP))))))))
 (aJ (bB (aF gO (by rfl) B.sorted cP (aA (pv 1) aC)))))),?_⟩
  refine⟨by decide,fun r hrn=>?_⟩;have g1:=Same.upd (o:=.lst []) hrn;have er:(upd H r (.lst [])) r=some (.lst []):=aB;generalize upd H r (.lst [])=H1 at g1 er ⊢;refine⟨_,rfl,a,rfl,⟨_,SqL.of (g1 _ _ ha)⟩,dR (K:=K) (a:=a) (xs:=row.map V.int) (oQ H a r row)
   ⟨[],[],none,none,none,rfl,g1,er,.nil,.nil⟩ (fun i σ H3 _ z_=>by obtain⟨_,_,_,_,_,_,sm,_⟩:=z_;exact SqL.of (sm _ _ ha)) ?_ ?_⟩
  ·rintro i x σ H3 hi ⟨us,ps,v2,v3,v4,rfl,sm,er3,pr,hl⟩;obtain⟨z,rfl,hz⟩:=int_at hi;have hil:i<row.length:=(aBq.mp hz).1;have htk:row.take (i+1)=row.take i++[z]:=by rw[aBj,hz];rfl
   have hlt:∀ x∈row.take i,x<z:=fun x hx=>by
    have hp:(row.take i++[z]).Pairwise (·<·):=by rw[<- htk];exact List.Pairwise.sublist (List.take_sublist _ _) hrow
    exact(List.pairwise_append.mp hp).2.2 x hx z (by simp)
   have hpl:ps.length<=60:=by
    have h3:=cU hl.pos;have h4:(szs ps).sum=siz ps:=rfl;have h5:=hl.sizx;rw[aB3]at h5;omega
   have eul:us.length=ps.length:=pr.len;refine fun M1 hM1=>?_;refine⟨_,rfl,r,rfl,⟨_,SqL.of er3⟩,bU (K:=K) (a:=r) (xs:=us) (fun j ys H4=>Same H3 H4/\ys.length<=j/\∃ ns:List Int,ys=ns.map V.int/\(∀ n∈ns,∃ q∈ps,n=q.1/\q.2=z - 1 - 2 * les ps q.1)/\(∀ q∈ps.take j,q.2=z - 1 - 2 * les ps q.1->q.1∈ns)) ⟨Same.refl _,Nat.le_refl _,[],rfl,fun n hn=>(nomatch hn),fun q hq=>by simp at hq⟩ ?_ ?_ ?_⟩
   ·rintro j ys H4 hj ⟨sm4,hyl,_⟩;exact⟨SqL.of (sm4 _ _ er3),aO (by omega)⟩
   ·rintro j x ys H4 hj ⟨sm4,hyl,ns,rfl,hn1,hn2⟩;obtain⟨q,t',hq,rfl,et⟩:=bP (pr.mono (TupS.same sm4)) hj;have hqm:=aBY hq;refine⟨t',_,rfl,SqT.of et,rfl,_,_,rfl,_,_,rfl,rfl,?_⟩;refine⟨_,rfl,_,rfl,_,_,rfl,rfl,_,rfl,_,rfl,r,ps,q.1,rfl,⟨us,sm4 _ _ er3,pr.mono (TupS.same sm4)⟩,by omega,fun H5 g5=>?_⟩;refine⟨_,_,rfl,rfl,.inl ⟨by decide,by decide⟩,_,_,rfl,rfl,_,_,rfl,rfl,_,rfl,?_⟩;have htj:∀ x∈ps.take (j+1),x∈ps.take j\/x=q:=fun x hx=>by
     rw[aBj,hq]at hx;rcases aBs.mp hx with h | h
     ·exact .inl h
     ·exact .inr (by simpa using h)
    have hle:=iB ps q.1;refine oV (fun hc=>?_) (fun hc=>?_)
    ·refine⟨_,rfl,sm4.trans g5,by rw[aBW,List.length_singleton];omega,ns++[q.1],by rw[aB2];rfl,fun n hn=>?_,fun x hx he=>?_⟩
     ·rcases aBs.mp hn with h | h
      ·exact hn1 n h
      ·exact⟨q,hqm,by simpa using h,by omega⟩
     ·rcases htj x hx with h | h
      ·exact aB7 _ (hn2 x h he)
      ·rw[h];exact aBR _ (by simp)
    ·refine⟨sm4.trans g5,by omega,ns,rfl,hn1,fun x hx he=>?_⟩;rcases htj x hx with h | h
     ·exact hn2 x h he
     ·subst h;exact absurd (by omega) hc
   rintro ys H4 ⟨sm4,hyl,ns,rfl,hn1,hn2⟩ D hD;rw[eul,aB1]at hn2;have g5:=Same.upd (o:=.lst (ns.map V.int)) hD;have eD:(upd H4 D (.lst (ns.map V.int))) D=some (.lst (ns.map V.int)):=aB;generalize upd H4 D (.lst (ns.map V.int))=H5 at g5 eD ⊢;have sm35:=sm4.trans g5;have er5:=sm35 _ _ er3;have pr5:=pr.mono (TupS.same sm35);have sm5:=sm.trans sm35;obtain⟨s0,es,hs0,hcase,htop⟩:=S6 hl.pos hn1 hn2;refine hM1 _ _ ?_;refine⟨_,rfl,D,ns,rfl,SqL.of eD,?_⟩;rw[es];refine⟨oS H a r z D s0 ps,?_,?_⟩
   ·refine⟨_,rfl,_,_,rfl,rfl,_,rfl,?_⟩;refine oV (fun hc=>?_) (fun hc=>?_)
    ·rcases hcase with hz0 | ⟨hz1,hmem⟩
     ·omega
     ·refine⟨_,rfl,.inl ⟨rfl,_,SqL.of er5⟩,_,rfl,_,rfl,_,_,rfl,rfl,_,rfl,_,rfl,r,ps,s0,rfl,⟨us,er5,pr5⟩,by omega,fun H6 g6=>?_⟩;refine⟨_,_,rfl,rfl,.inl ⟨by decide,by decide⟩,_,_,rfl,rfl,(show 2<=sizeLine by decide),fun t ht=>?_⟩;have er6:=g6 _ _ er5;have g7:=Same.upd (o:=.tup [V.int s0,V.int (z - 1 - 2 * vV ps s0)]) ht;have et:(upd H6 t (.tup [V.int s0,V.int (z - 1 - 2 * vV ps s0)])) t=some (.tup [V.int s0,V.int (z - 1 - 2 * vV ps s0)]):=aB;rw[iB]at g7 et ⊢;generalize upd H6 t (.tup [V.int s0,V.int (z - 1 - 2 * les ps s0)])=H7 at g7 et ⊢;have er7:=g7 _ _ er6;refine⟨r,us,ps,t,(s0,z - 1 - 2 * les ps s0),rfl,rfl,er7,pr5.mono (TupS.same (g6.trans g7)),et,hmem,fun us' pr' hul=>?_⟩;exact⟨us',_,rfl,Same.upd' hrn ((sm5.trans g6).trans g7),aB,pr'.mono (TupS.lst er7),by omega,.inr ⟨hz1,hmem,rfl⟩⟩
    ·rcases hcase with hz0 | ⟨hz1,_⟩
     ·exact⟨us,ps,rfl,sm5,er5,pr5,by omega,.inl ⟨hz0,rfl⟩⟩
     ·omega
   ·rintro σ' H8 ⟨us1,ps1,rfl,sm8,er8,pr8,hul,hs⟩;have hadd:=add_list hs0 hs htop;have hpl1:us1.length=ps1.length:=pr8.len;refine fun M2 hM2=>?_;refine⟨_,rfl,.inl ⟨rfl,_,SqL.of er8⟩,_,rfl,_,_,rfl,rfl,(show 2<=sizeLine by decide),fun t ht=>?_⟩;have g9:=Same.upd (o:=.tup [V.int (s0+1),V.int 0]) ht;have et:(upd H8 t (.tup [V.int (s0+1),V.int 0])) t=some (.tup [V.int (s0+1),V.int 0]):=aB;generalize upd H8 t (.tup [V.int (s0+1),V.int 0])=H9 at g9 et ⊢;have er9:=g9 _ _ er8;refine⟨r,us1,_,rfl,rfl,er9,aO (by omega),?_⟩;have sm9:Same H (upd H9 r (.lst (us1++[V.ref t]))):=Same.upd' hrn (sm8.trans g9);have er10:(upd H9 r (.lst (us1++[V.ref t]))) r=some (.lst (us1++[V.ref t])):=aB;have pr10:Prs (upd H9 r (.lst (us1++[V.ref t]))) us1 ps1:=(pr8.mono (TupS.same g9)).mono (TupS.lst er9);have et10:(upd H9 r (.lst (us1++[V.ref t]))) t=some (.tup [V.int (s0+1),V.int 0]):=TupS.lst er9 _ _ et;generalize upd H9 r (.lst (us1++[V.ref t]))=H10 at sm9 er10 pr10 et10 ⊢;have prA:Prs H10 (us1++[V.ref t]) (ps1++[(s0+1,0)]):=Paired.append' pr10 (.cons ⟨t,rfl,et10⟩ .nil);refine hM2 _ _ ?_;refine⟨_,rfl,_,_,rfl,rfl,_,rfl,_,rfl,_,rfl,_,_,rfl,rfl,r,ps1++[(s0+1,0)],s0+1,rfl,⟨_,er10,prA⟩,by rw[aBW,List.length_singleton];omega,fun H11 g11=>?_⟩;refine⟨_,_,rfl,rfl,.inl ⟨by decide,by decide⟩,_,_,rfl,rfl,(show 2<=sizeLine by decide),fun t2 ht2=>?_⟩;rw[iB];have er11:=g11 _ _ er10;have g12:=Same.upd (o:=.tup [V.int (s0+1),V.int (z - 2 * les (ps1++[(s0+1,0)]) (s0+1))]) ht2;have et2:(upd H11 t2 (.tup [V.int (s0+1),V.int (z - 2 * les (ps1++[(s0+1,0)]) (s0+1))])) t2=some (.tup [V.int (s0+1),V.int (z - 2 * les (ps1++[(s0+1,0)]) (s0+1))]):=aB;generalize upd H11 t2 (.tup [V.int (s0+1),V.int (z - 2 * les (ps1++[(s0+1,0)]) (s0+1))])=H12 at g12 et2 ⊢;have er12:=g12 _ _ er11;refine⟨_,rfl,_,rfl,r,_,_,_,rfl,rfl,er12,zW _ _,?_⟩;rw[vR];refine⟨us1++[V.ref t2],ps1++[(s0+1,z - 2 * les (ps1++[(s0+1,0)]) (s0+1))],_,_,_,rfl,Same.upd' hrn ((sm9.trans g11).trans g12),aB,?_,by rw[htk];exact .snoc hl hlt hadd⟩;exact Paired.append' ((pr10.mono (TupS.same (g11.trans g12))).mono (TupS.lst er12)) (.cons ⟨t2,rfl,TupS.lst er12 _ _ et2⟩ .nil)
  ·rintro σ H3 ⟨us,ps,v2,v3,v4,rfl,sm,er3,pr,hl⟩;rw[aBN,aB1]at hl;have hpl:ps.length<=60:=by
    have h3:=cU hl.pos;have h4:(szs ps).sum=siz ps:=rfl;have h5:=hl.sizx;omega
   refine⟨_,rfl,r,us,ps,rfl,er3,pr,by omega,fun l us' qs hl' pr' hperm hsort=>?_⟩;exact k qs (hl.perm hperm.symm) hsort l us' _ (sm.free hl') (sm.trans (Same.upd hl')) aB (pr'.mono (TupS.new hl'))
abbrev dA:Stmt:=top 37
theorem eO:bC ["_law_pairs","_law_left","_law_row_here","_law_place","_law_size"] ["_law_pairs"] (aE dA):=⟨rfl,rfl,rfl,by decide +kernel,rfl,by decide +kernel,by decide +kernel⟩
inductive stW (H0:Hp) (ps0:Trs) (a l r:Addr) (m:Nat) (σ:St) (Hx:Hp):Prop
 | mk (us:List V) (ps:Trs) (row:List Int) (v3 v4:Option V) (h0_:σ=[some (.ref a),some (.ref l),some (.ref r),v3,v4]) (h1_:Same H0 Hx) (h2_:Hx l=some (.lst us)) (h3_:Prs Hx us ps) (h4_:(∀ q∈ps,1<=q.1)) (h5_:Hx r=some (.lst (row.map V.int))) (h6_:siz ps=(m:Int)) (h7_:m+row.length<=60) (h8_:∀ r',Lst r' ps->Lst (r'++row.reverse) ps0):stW H0 ps0 a l r m σ Hx
theorem rX {f:Addr} {fd:FuncData} (F:Fun K "_law_stones" "_law_stones" dA f fd) (B:Bt mg) (F_law_lesser:bO P w K mg base "_law_lesser" 1 ["_law_found","_law_size"] kL):FnOk P w K mg base CX0 2 f fd ["_law_pairs"] mW:=by
 refine F.ok eO (fun vs H Q E h=>?_) (fun cdv A outer s H vs Q E hr h=>?_)
 ·obtain⟨a,r,rfl,_⟩:=h;rfl
 ·obtain⟨a,ps0,rfl,⟨us0,ha,pr0⟩,hT,k⟩:=h;have hu:=hr.units;refine⟨_,(aQ (aR (i:=1) eO.nd rfl (Or.inr rfl) (eZ eE (by rfl) B.list bZ (aA (pv 0) aC)))
 (aQ (aR (i:=2) eO.nd rfl (Or.inl rfl) (cC aC))
 (aG (pP PassesOwn.never (aV (nP hu) (pv 1) (cC aC) (aP _))
 (aQ (aR (i:=3) eO.nd rfl (Or.inr rfl) (aF (G7 rfl) (by rfl) B.max mH (aA (cD ["_law_size","_law_offset"] ["_law_left"] [1] rfl (.of (show cB (aE dA) _ ["_law_pairs","_law_left","_law_row_here","_law_place","_law_size"] [1] ["_law_left"]=true by decide +kernel)) (bL (pv 1)) (fun _ _ _=>(cZ (n:=2) K rfl rfl (aN (aL (i:=0) (show (["_law_size","_law_offset","_law_left"]:List Str).Nodup by decide +kernel) rfl (Or.inl rfl)) (aN (aL (i:=1) (show (["_law_size","_law_offset","_law_left"]:List Str).Nodup by decide +kernel) rfl (Or.inl rfl)) bW)))) (dS (aY (by decide) (aY (by decide) cY))) (fun _ _ _=>cA) (fun _ _ _=>(aK bQ (pv 1) (aK cN aD (bE F_law_lesser hr rfl (aA (pv 2) (aA (pv 0) aC))))))) aC)))
 (aQ (aR (i:=4) eO.nd rfl (Or.inl rfl) (aF (G8 rfl) (by rfl) B.min kH (aA (cD ["_law_own","_law_offset"] ["_law_place","_law_left"] [3,1] rfl (.of (show cB (aE dA) _ ["_law_pairs","_law_left","_law_row_here","_law_place","_law_size"] [3,1] ["_law_place","_law_left"]=true by decide +kernel)) (bL (pv 1)) (fun _ _ _=>(cZ (n:=2) K rfl rfl (aN (aL (i:=0) (show (["_law_own","_law_offset","_law_place","_law_left"]:List Str).Nodup by decide +kernel) rfl (Or.inl rfl)) (aN (aL (i:=1) (show (["_law_own","_law_offset","_law_place","_law_left"]:List Str).Nodup by decide +kernel) rfl (Or.inl rfl)) bW)))) (dS (aY (by decide) (aY (by decide) cY))) (fun _ _ _=>mG (aV gG (aK bQ (pv 1) (aK cN aD (bE F_law_lesser hr rfl (aA (pv 3) (aA (pv 0) aC))))) (pv 2) (aP _))) (fun _ _ _=>(pv 0))) aC)))
 (aQ (bI (eK aBm PySem.F.slot_list_remove PySem.F.type_list_remove (qK hu) (pv 1) (aA (cL (aA (pv 4) (aA (aK cG (pv 3) (aK cN aD (bE F_law_lesser hr rfl (aA (pv 1) (aA (pv 4) aC))))) aC))) aC)))
 (aQ (cJ (aV oB (pv 4) aD (aP _))
 (aQ (bI (eK aBm aBn aBo bT (pv 1) (aA (cL (aA (aK cG (pv 4) aD) (aA aD aC))) aC)))
 (aJ (xS (cL (aA (aK cG (pv 4) aD) (aA (aK cG (aK cG (pv 3) aD) (aK cN aD (bE F_law_lesser hr rfl (aA (pv 1) (aA (aK cG (pv 4) aD) aC))))) aC))) (N7 (pv 1) (mF jL aD) vP))))
 bG)
 (aJ (bI (eK aBm aBn aBo bT (pv 2) (aA (pv 3) aC)))))))))
 (aJ (bB (u7 (pv 2))))))),?_⟩
  refine fun M1 hM1=>?_;refine⟨_,rfl,a,us0,rfl,.inl (SqL.of ha),fun l hl=>hM1 [some (.ref a),some (.ref l),none,none,none] _ ?_⟩;clear hM1 M1;have g1:=Same.upd (o:=.lst us0) hl;have el:(upd H l (.lst us0)) l=some (.lst us0):=aB;have pr1:=pr0.mono (TupS.new (o:=.lst us0) hl);generalize upd H l (.lst us0)=H1 at g1 el pr1 ⊢;refine fun M1 hM1=>?_;refine⟨by decide,fun r hrn=>hM1 [some (.ref a),some (.ref l),some (.ref r),none,none] _ ?_⟩;clear hM1 M1;have g2:=Same.upd (o:=.lst []) hrn;have er:(upd H1 r (.lst [])) r=some (.lst []):=aB;have el2:=g2 _ _ el;have pr2:=pr1.mono (TupS.new (o:=.lst []) hrn);have hHr:H r=none:=g1.free hrn;have hnlr:l≠r:=fun e=>by rw[e,hrn]at el;cases el
  generalize upd H1 r (.lst [])=H2 at g2 er el2 pr2 ⊢;have hsz0:siz ps0=(szs ps0).sum:=rfl;have hf:=hT.few;have hlo:=B0 hT.pos;refine⟨stW H ps0 a l r,⟨(siz ps0).toNat,us0,ps0,[],none,none,rfl,g1.trans g2,el2,pr2,hT.pos,er,by omega,by simp only[List.length_nil];omega,fun r' hr'=>by simpa using hr'⟩,?_⟩;clear el2 pr2 er g2 el pr1 g1 hlo hf hsz0 pr0 ha;rintro m σ H3 ⟨us,ps,row,v3,v4,rfl,sm,el,pr,hpos,er,hm,hcount,fin⟩;have hpl:=B0 hpos;have eul:us.length=ps.length:=pr.len;refine⟨_,rfl,by decide,fun z0 hz0=>?_⟩;have g3:=Same.upd (o:=.lst []) hz0;have ez0:(upd H3 z0 (.lst [])) z0=some (.lst []):=aB;have LP3:LP (upd H3 z0 (.lst [])) l ps:=LP.mono g3 ⟨us,el,pr⟩;refine⟨_,_,LP3.den,Den.ints (ns:=[]) ez0,mK _,cQ [],_,rfl,?_⟩;have sm3:=sm.trans g3;have el3:=g3 _ _ el;have er3:=g3 _ _ er;have pr3:=pr.mono (TupS.new (o:=.lst []) hz0);generalize upd H3 z0 (.lst [])=H4 at sm3 el3 er3 pr3;clear g3 ez0 LP3
  by_cases hps:ps=[]
  ·subst hps;have hfin:Lst row.reverse ps0:=by simpa using fin [] .nil
   show (if (!PyData.eqv (.list []) (.list []))=true then _ else _);rw[if_neg (by decide)];refine⟨_,rfl,r,_,rfl,SqL.of er3,fun p hp=>?_⟩;rw[<- List.map_reverse];exact k row.reverse hfin p _ (sm3.free hp) (sm3.trans (Same.upd hp)) aB
  have hne:(!PyData.eqv (.list (ps.map pD)) (.list (([]:List Int).map PyData.int)))=true:=by
   cases ps with
   | nil=>exact absurd rfl hps
   | cons q t=>rfl
  rw[hne];show (if true=true then _ else _);rw[if_pos rfl];refine⟨fun σ' H'=>∃ m',m'<m/\stW H ps0 a l r m' σ' H',fun _ _ h=>h,?_⟩;refine fun M1 hM1=>?_;refine⟨_,rfl,l,rfl,⟨_,SqL.of el3⟩,bU (K:=K) (a:=l) (xs:=us) (fun j ys H5=>Same H4 H5/\ys=((ps.take j).map fun q=>q.2+2 * les ps q.1).map V.int) ⟨Same.refl _,rfl⟩ ?_ ?_ ?_⟩
  ·rintro j ys H5 hj ⟨sm5,rfl⟩;exact⟨SqL.of (sm5 _ _ el3),by simp only[aBN,aB3];exact aO (by omega)⟩
  ·rintro j x ys H5 hj ⟨sm5,rfl⟩;obtain⟨q,t',hq,rfl,et⟩:=bP (pr3.mono (TupS.same sm5)) hj;refine⟨t',_,rfl,SqT.of et,rfl,_,_,rfl,_,_,rfl,rfl,?_⟩;refine⟨_,rfl,_,rfl,_,rfl,l,ps,q.1,rfl,⟨us,sm5 _ _ el3,pr3.mono (TupS.same sm5)⟩,by omega,fun H6 g6=>?_⟩;refine⟨_,_,rfl,rfl,.inl ⟨by decide,by decide⟩,_,_,rfl,rfl,sm5.trans g6,?_⟩;rw[<- dU (fun q=>q.2+2 * les ps q.1) hq];simp only[iB]
  rintro ys H5 ⟨sm5,rfl⟩ D hD;rw[eul,aB1];have g6:=Same.upd (o:=.lst ((ps.map fun q=>q.2+2 * les ps q.1).map V.int)) hD;have eD:(upd H5 D (.lst ((ps.map fun q=>q.2+2 * les ps q.1).map V.int))) D=some (.lst ((ps.map fun q=>q.2+2 * les ps q.1).map V.int)):=aB;generalize upd H5 D (.lst ((ps.map fun q=>q.2+2 * les ps q.1).map V.int))=H6 at g6 eD ⊢;obtain⟨p0,ep0,hp0m,hp0⟩:=S9 (ns:=ps.map fun q=>q.2+2 * les ps q.1) (by simpa using hps);refine⟨D,_,rfl,eD,by simpa using hps,?_⟩;rw[ep0];have sm6:=(sm3.trans sm5).trans g6;have s46:=sm5.trans g6;have el6:=s46 _ _ el3;have er6:=s46 _ _ er3;have pr6:=pr3.mono (TupS.same s46);refine hM1 [some (.ref a),some (.ref l),some (.ref r),some (.int p0),v4] _ ?_;clear hM1 M1 s46 sm5 g6 eD hD hne;have hp0':∀ q∈ps,q.2+2 * les ps q.1<=p0:=fun q hq=>hp0 _ (aBt.mpr ⟨q,hq,rfl⟩);refine fun M1 hM1=>?_;refine⟨_,rfl,l,rfl,⟨_,SqL.of el6⟩,bU (K:=K) (a:=l) (xs:=us) (fun j ys H7=>Same H6 H7/\ys=(((ps.take j).filter fun q=>decide (q.2+2 * les ps q.1=p0)).map (·.1)).map V.int) ⟨Same.refl _,rfl⟩ ?_ ?_ ?_⟩
  ·rintro j ys H7 hj ⟨sm7,rfl⟩;refine⟨SqL.of (sm7 _ _ el6),?_⟩;simp only[aBN];have:=List.length_filter_le (fun q:Int×Int=>decide (q.2+2 * les ps q.1=p0)) (ps.take j);rw[aB3]at this;exact aO (by omega)
  ·rintro j x ys H7 hj ⟨sm7,rfl⟩;obtain⟨q,t',hq,rfl,et⟩:=bP (pr6.mono (TupS.same sm7)) hj;refine⟨t',_,rfl,SqT.of et,rfl,_,_,rfl,_,_,rfl,rfl,?_⟩;refine⟨_,rfl,_,rfl,_,rfl,l,ps,q.1,rfl,⟨us,sm7 _ _ el6,pr6.mono (TupS.same sm7)⟩,by omega,fun H8 g8=>?_⟩;refine⟨_,_,rfl,rfl,.inl ⟨by decide,by decide⟩,_,_,rfl,rfl,_,rfl,_,_,rfl,rfl,_,rfl,?_⟩;have hle:=iB ps q.1;have htk:(ps.take (j+1)).filter (fun q=>decide (q.2+2 * les ps q.1=p0))=(ps.take j).filter (fun q=>decide (q.2+2 * les ps q.1=p0))++if q.2+2 * les ps q.1=p0 then [q]else []:=by
    rw[aBj,hq,List.filter_append]
    congr 1
    by_cases c:q.2+2 * les ps q.1=p0
    ·rw[if_pos c];simp[c]
    ·rw[if_neg c];simp[c]
   refine oV (fun hc=>?_) (fun hc=>?_)
   ·refine⟨_,rfl,sm7.trans g8,?_⟩;rw[htk,if_pos (by omega)];simp
   ·refine⟨sm7.trans g8,?_⟩;rw[htk,if_neg (by omega)];simp
  rintro ys H7 ⟨sm7,rfl⟩ D2 hD2;rw[eul,aB1];obtain⟨ss,ess⟩:∃ ss,ss=(ps.filter fun q=>decide (q.2+2 * les ps q.1=p0)).map (·.1):=⟨_,rfl⟩;rw[<- ess];have hss:ss≠[]:=by
   obtain⟨q,hq,e⟩:=aBt.mp hp0m;intro z;rw[z]at ess;have:q∈ps.filter fun q=>decide (q.2+2 * les ps q.1=p0):=aBu.mpr ⟨hq,by simpa using e⟩;rw[List.map_eq_nil_iff.mp ess.symm]at this;cases this
  have g8:=Same.upd (o:=.lst (ss.map V.int)) hD2;have eD2:(upd H7 D2 (.lst (ss.map V.int))) D2=some (.lst (ss.map V.int)):=aB;generalize upd H7 D2 (.lst (ss.map V.int))=H8 at g8 eD2 ⊢;obtain⟨s0,es0,hs0m,hs0⟩:=T1 hss;refine⟨D2,_,rfl,eD2,hss,?_⟩;rw[es0];have s68:=sm7.trans g8;have sm8:=sm6.trans s68;have el8:=s68 _ _ el6;have er8:=s68 _ _ er6;have pr8:=pr6.mono (TupS.same s68);refine hM1 [some (.ref a),some (.ref l),some (.ref r),some (.int p0),some (.int s0)] _ ?_;clear hM1 M1 s68 sm7 g8 eD2 hD2;have hmem:(s0,p0 - 2 * les ps s0)∈ps:=by
   rw[ess]at hs0m;obtain⟨q,hq,e⟩:=aBt.mp hs0m;obtain⟨h1,h2⟩:=aBu.mp hq;have h3:q.2+2 * les ps q.1=p0:=by simpa using h2
   have e':q.1=s0:=e;have:(s0,p0 - 2 * les ps s0)=q:=by rw[<- e',<- h3];exact Prod.ext rfl (by show _=q.2;omega)
   rw[this];exact h1
  have hmin:∀ q∈ps,q.2+2 * les ps q.1=p0->s0<=q.1:=fun q hq e=>hs0 q.1 (by rw[ess];exact aBt.mpr ⟨q,aBu.mpr ⟨hq,by simpa using e⟩,rfl⟩);have hs1:=hpos _ hmem;have hs1':1<=s0:=hs1;clear ess hss hs0m hs0 es0 hp0m hp0 ep0 ss;refine fun M1 hM1=>?_;refine⟨_,rfl,.inl ⟨rfl,_,SqL.of el8⟩,_,rfl,_,rfl,_,rfl,_,rfl,l,ps,s0,rfl,⟨us,el8,pr8⟩,by omega,fun H9 g9=>?_⟩;refine⟨_,_,rfl,rfl,.inl ⟨by decide,by decide⟩,_,_,rfl,rfl,(show 2<=sizeLine by decide),fun t ht=>?_⟩;have el9:=g9 _ _ el8;have g10:=Same.upd (o:=.tup [V.int s0,V.int (p0 - 2 * vV ps s0)]) ht;have et:(upd H9 t (.tup [V.int s0,V.int (p0 - 2 * vV ps s0)])) t=some (.tup [V.int s0,V.int (p0 - 2 * vV ps s0)]):=aB;rw[iB]at g10 et ⊢;generalize upd H9 t (.tup [V.int s0,V.int (p0 - 2 * les ps s0)])=H10 at g10 et ⊢;have el10:=g10 _ _ el9;have s810:=g9.trans g10;refine⟨l,us,ps,t,(s0,p0 - 2 * les ps s0),rfl,rfl,el10,pr8.mono (TupS.same s810),et,hmem,fun us1 pr1 hul=>?_⟩;have sm11:Same H (upd H10 l (.lst us1)):=Same.upd' hl (sm8.trans s810);have el11:(upd H10 l (.lst us1)) l=some (.lst us1):=aB;have er11:(upd H10 l (.lst us1)) r=some (.lst (row.map V.int)):=by rw[aH (Ne.symm hnlr)];exact s810 _ _ er8
  have pr11:Prs (upd H10 l (.lst us1)) us1 (ps.erase (s0,p0 - 2 * les ps s0)):=pr1.mono (TupS.lst el10);generalize upd H10 l (.lst us1)=H11 at sm11 el11 er11 pr11 ⊢;refine hM1 [some (.ref a),some (.ref l),some (.ref r),some (.int p0),some (.int s0)] _ ?_;clear hM1 M1 s810 g10 et el10 el9 g9 ht pr1;have hl1:us1.length=(ps.erase (s0,p0 - 2 * les ps s0)).length:=pr11.len;refine fun M1 hM1=>?_;have last:∀ (us2:List V) (ps2:Trs) (H12:Hp),Same H H12->H12 l=some (.lst us2)->Prs H12 us2 ps2->H12 r=some (.lst (row.map V.int))->Tak ps p0 ps2->M1 [some (.ref a),some (.ref l),some (.ref r),some (.int p0),some (.int s0)] H12:=fun us2 ps2 H12 sm12 el12 pr12 er12 hTak=>hM1 _ _ (by
   refine⟨_,rfl,.inl ⟨rfl,_,SqL.of er12⟩,_,rfl,r,_,_,rfl,rfl,er12,by rw[aBN];exact aO (by omega),?_⟩;have hsz:=hTak.sizx hpos;refine⟨m - 1,by omega,us2,ps2,row++[p0],_,_,rfl,Same.upd' hHr sm12,by rw[aH hnlr];exact el12,pr12.mono (TupS.lst er12),hTak.pos hpos,by rw[aB,aB2];rfl,by omega,by rw[aBW,List.length_singleton];omega,?_⟩;rw[List.reverse_append];exact qL hTak hpos fin)
  clear hM1;refine⟨_,rfl,_,_,rfl,rfl,_,rfl,?_⟩;refine oV (fun hc=>?_) (fun hc=>?_)
  ·refine fun M2 hM2=>?_;refine⟨_,rfl,.inl ⟨rfl,_,SqL.of el11⟩,_,rfl,_,_,rfl,rfl,(show 2<=sizeLine by decide),fun t ht=>?_⟩;have g12:=Same.upd (o:=.tup [V.int (s0 - 1),V.int 0]) ht;have et:(upd H11 t (.tup [V.int (s0 - 1),V.int 0])) t=some (.tup [V.int (s0 - 1),V.int 0]):=aB;generalize upd H11 t (.tup [V.int (s0 - 1),V.int 0])=H12 at g12 et ⊢;have el12:=g12 _ _ el11;refine⟨l,us1,_,rfl,rfl,el12,aO (by omega),?_⟩;have sm13:Same H (upd H12 l (.lst (us1++[V.ref t]))):=Same.upd' hl (sm11.trans g12);have el13:(upd H12 l (.lst (us1++[V.ref t]))) l=some (.lst (us1++[V.ref t])):=aB;have er13:(upd H12 l (.lst (us1++[V.ref t]))) r=some (.lst (row.map V.int)):=by rw[aH (Ne.symm hnlr)];exact g12 _ _ er11
   have pr13:Prs (upd H12 l (.lst (us1++[V.ref t]))) us1 (ps.erase (s0,p0 - 2 * les ps s0)):=(pr11.mono (TupS.same g12)).mono (TupS.lst el12);have et13:(upd H12 l (.lst (us1++[V.ref t]))) t=some (.tup [V.int (s0 - 1),V.int 0]):=TupS.lst el12 _ _ et;generalize upd H12 l (.lst (us1++[V.ref t]))=H13 at sm13 el13 er13 pr13 et13 ⊢;have prA:Prs H13 (us1++[V.ref t]) (ps.erase (s0,p0 - 2 * les ps s0)++[(s0 - 1,0)]):=Paired.append' pr13 (.cons ⟨t,rfl,et13⟩ .nil);refine hM2 _ _ ?_;clear hM2 M2;refine⟨_,rfl,_,_,rfl,rfl,_,rfl,_,_,rfl,rfl,_,rfl,_,rfl,_,_,rfl,rfl,l,ps.erase (s0,p0 - 2 * les ps s0)++[(s0 - 1,0)],s0 - 1,rfl,⟨_,el13,prA⟩,by rw[aBW,List.length_singleton];omega,fun H14 g14=>?_⟩;refine⟨_,_,rfl,rfl,.inl ⟨by decide,by decide⟩,_,_,rfl,rfl,(show 2<=sizeLine by decide),fun t2 ht2=>?_⟩;rw[iB];have el14:=g14 _ _ el13;have g15:=Same.upd (o:=.tup [V.int (s0 - 1),V.int (p0 - 1 - 2 * les (ps.erase (s0,p0 - 2 * les ps s0)++[(s0 - 1,0)]) (s0 - 1))]) ht2;have et2:(upd H14 t2 (.tup [V.int (s0 - 1),V.int (p0 - 1 - 2 * les (ps.erase (s0,p0 - 2 * les ps s0)++[(s0 - 1,0)]) (s0 - 1))])) t2=some (.tup [V.int (s0 - 1),V.int (p0 - 1 - 2 * les (ps.erase (s0,p0 - 2 * les ps s0)++[(s0 - 1,0)]) (s0 - 1))]):=aB;generalize upd H14 t2 (.tup [V.int (s0 - 1),V.int (p0 - 1 - 2 * les (ps.erase (s0,p0 - 2 * les ps s0)++[(s0 - 1,0)]) (s0 - 1))])=H15 at g15 et2 ⊢;have el15:=g15 _ _ el14;refine⟨_,rfl,_,rfl,l,_,_,_,rfl,rfl,el15,zW _ _,?_⟩;rw[vR];have s1315:=g14.trans g15;refine last (us1++[V.ref t2]) (ps.erase (s0,p0 - 2 * les ps s0)++[(s0 - 1,p0 - 1 - 2 * les (ps.erase (s0,p0 - 2 * les ps s0)++[(s0 - 1,0)]) (s0 - 1))]) _ (Same.upd' hl (sm13.trans s1315)) aB ?_ (by rw[aH (Ne.symm hnlr)];exact s1315 _ _ er13) (wN hpos hmem hp0' hmin (.inr ⟨by omega,rfl⟩));exact Paired.append' ((pr13.mono (TupS.same s1315)).mono (TupS.lst el15)) (.cons ⟨t2,rfl,TupS.lst el15 _ _ et2⟩ .nil)
  ·exact last us1 _ H11 sm11 el11 pr11 er11 (wN hpos hmem hp0' hmin (.inl ⟨by omega,rfl⟩))
abbrev fE:Stmt:=top 38
theorem fK:bC ["_law_d","_law_many","_law_found","_law_k","_law_creel"] ["_law_d","_law_many"] (aE fE):=⟨rfl,rfl,rfl,by decide +kernel,rfl,by decide +kernel,by decide +kernel⟩
inductive nI (H:Hp) (a:Addr) (l:Addr) (m:Nat) (i:Nat) (σ:St) (H2:Hp):Prop
 | mk (us:List V) (ws:List (Int×Int)) (v1 v2:Option V) (k0_:σ=[some (.ref a),some (.int m),some (.ref l),v1,v2]) (k1_:Same H H2) (k2_:H2 l=some (.lst us)) (k3_:Prs H2 us ws) (k4_:ws.length=i) (k5_:Crl ws) (k6_:∀ q∈ws,-4<=q.2/\q.2<=4):nI H a l m i σ H2
inductive nJ (a:Addr) (l:Addr) (m:Nat) (H3:Hp) (i:Nat) (σ':St) (H':Hp):Prop
 | mk (o:Int) (k0_:σ'=[some (.ref a),some (.int m),some (.ref l),some (.int (0+(i:Int))),some (.int o)]) (k1_:H'=H3) (k2_:1<=o):nJ a l m H3 i σ' H'
theorem X5 {f:Addr} {fd:FuncData} (F:Fun K "_law_walks" "_law_walks" fE f fd) (B:Bt mg):FnOk P w K mg base CX0 1 f fd ["_law_d","_law_many"] pJ:=by
 refine F.ok fK (fun vs H Q E h=>?_) (fun cdv A outer s H vs Q E hr h=>?_)
 ·obtain⟨a,ns,m,rfl,_⟩:=h;rfl
 ·obtain⟨a,ns,m,rfl,ha,hlen,hm,k⟩:=h;refine⟨_,(aG (aR (i:=2) fK.nd rfl (Or.inl rfl) (cC aC))
 (aG (dL PassesOwn.never rfl (fN rfl B.range (aA (aK cO (bJ bF (pv 0) aD (fun _ _=>rfl)) (aK bQ (pv 1) aD)) aC)) (aL (i:=3) fK.nd rfl (Or.inl rfl))
 (aG (aR (i:=4) fK.nd rfl (Or.inl rfl) (aK bQ aD (aK cO (bJ bF (pv 0) (aK bQ aD (aK cN aD (pv 3))) (fun _ _=>rfl)) (bJ bF (cC (aA aD (aA aD (aA aD aC)))) (aK cO (aK lC (bJ bF (pv 0) aD (fun _ _=>rfl)) aD) aD) (fun _ _=>rfl)))))
 (pC (cJ (aV gG (aK cO (bJ bF (pv 0) (aK bQ aD (aK cN aD (pv 3))) (fun _ _=>rfl)) aD) aD (aP _))
 (aJ (aR (i:=4) fK.nd rfl (Or.inl rfl) (aK pQ aD aD)))
 bG)
 (aJ (bI (eK aBm aBn aBo bT (pv 2) (aA (cL (aA (pv 4) (aA (aK cG (aK cO (bJ bF (pv 0) (aK bQ aD (aK cN aD (pv 3))) (fun _ _=>rfl)) aD) aD) aC))) aC)))))))
 (aJ (bB (pv 2))))),?_⟩
  obtain⟨n0,m0,_,e0⟩:=dB (ns:=ns) (i:=0) (by omega) (by omega);have p1:(0:Int)<(m:Int)+1:=by omega
  have q1:=Int.emod_nonneg n0 (show ((m:Int)+1)≠0 by omega);have q2:=Int.emod_lt_of_pos n0 p1;refine⟨by decide,fun l hl=>?_⟩;have ha':=Same.upd (o:=.lst []) hl _ _ ha;refine⟨_,rfl,a,_,_,_,rfl,rfl,SqL.of ha',e0,_,rfl,_,_,rfl,rfl,_,_,rfl,rfl,p1,_,rfl,by omega,by omega,
   gT (lo:=0) (n:=(n0 % ((m:Int)+1)).toNat) (nI H a l m)
    ⟨[],[],none,none,rfl,Same.upd hl,aB,.nil,rfl,fun p hp=>(nomatch hp),fun p hp=>(nomatch hp)⟩ ?_ ?_⟩
  ·rintro i σ H2 hi ⟨us,ws,v1,v2,rfl,sm,el,pr,hpl,hcr,hct⟩;obtain⟨x1,w1,_,y1⟩:=dB (ns:=ns) (i:=1+2 * (0+(i:Int))) (by omega) (by omega);obtain⟨x2,w2,_,y2⟩:=dB (ns:=ns) (i:=2+2 * (0+(i:Int))) (by omega) (by omega);have ha2:=sm _ _ ha;refine⟨_,rfl,_,rfl,_,_,rfl,rfl,.inl ⟨by decide,by decide⟩,_,_,rfl,rfl,a,_,_,_,rfl,rfl,SqL.of ha2,y1,(show 3<=sizeLine by decide),fun p1 hp1=>?_⟩;have g1:=Same.upd (o:=.lst [V.int 3,V.int 9,V.int 70]) hp1;have f1:(upd H2 p1 (.lst [V.int 3,V.int 9,V.int 70])) p1=some (.lst ([3,9,70].map V.int)):=aB;generalize upd H2 p1 (.lst [V.int 3,V.int 9,V.int 70])=H3 at g1 f1 ⊢;obtain⟨z,mz,_,ez⟩:=dB (ns:=[3,9,70]) (i:=n0 / 8 % 3) (Int.emod_nonneg _ (by decide)) (Int.emod_lt_of_pos _ (by decide));have hz:(0:Int)<z:=by simp at mz;omega
   have z1:=Int.emod_nonneg x1 (Int.ne_of_gt hz);refine⟨_,rfl,a,_,_,_,rfl,rfl,SqL.of (g1 _ _ ha2),e0,_,_,rfl,rfl,⟨by decide,by decide⟩,_,_,rfl,rfl,(by show (0:Int)<3;decide),p1,_,_,_,rfl,rfl,SqL.of f1,ez,_,_,rfl,rfl,hz,_,_,rfl,rfl,?_⟩;have sm3:=sm.trans g1;have ha3:=sm3 _ _ ha;refine⟨nJ a l m H3 i,⟨_,rfl,_,rfl,_,_,rfl,rfl,.inl ⟨by decide,by decide⟩,_,_,rfl,rfl,a,_,_,_,rfl,rfl,SqL.of ha3,y1,_,_,rfl,rfl,(by show (0:Int)<17;decide),_,_,rfl,rfl,_,rfl,oV (fun _=>?_) (fun _=>⟨_,rfl,rfl,by omega⟩)⟩,?_⟩
   ·exact⟨_,_,rfl,rfl,⟨by decide,by decide,by decide⟩,_,rfl,rfl,by decide⟩
   ·rintro σ' H4 ⟨o,rfl,rfl,ho⟩;have el4:=g1 _ _ el;refine⟨_,rfl,.inl ⟨rfl,_,SqL.of el4⟩,_,rfl,_,rfl,_,rfl,_,_,rfl,rfl,.inl ⟨by decide,by decide⟩,_,_,rfl,rfl,a,_,_,_,rfl,rfl,SqL.of ha3,y2,_,_,rfl,rfl,(by show (0:Int)<9;decide),_,_,rfl,rfl,(show 2<=sizeLine by decide),fun t ht=>?_⟩;have c1:=Int.emod_nonneg x2 (show (9:Int)≠0 by decide);have c2:=Int.emod_lt_of_pos x2 (show (0:Int)<9 by decide);have el6:(upd H4 t (.tup [.int o,.int (x2 % 9 - 4)])) l=some (.lst us):=by rw[aH (bN el4 ht)];exact el4
    refine⟨l,us,_,rfl,rfl,el6,aO (by rw[pr.len];omega),us++[.ref t],ws++[(o,x2 % 9 - 4)],_,_,rfl,Same.upd' hl (Same.upd' (sm3.free ht) sm3),aB,?_,by simp[hpl],fun p hp=>?_,fun p hp=>?_⟩
    ·exact Paired.append' (Prs.mono (TupS.trans (TupS.trans (TupS.same g1) (TupS.new ht)) (TupS.lst el6)) pr) (.cons ⟨t,rfl,by rw[aH (Ne.symm (bN el4 ht)),aB]⟩ .nil)
    ·rcases aBs.mp hp with h | h
     ·exact hcr p h
     ·rw[aBk.mp h];exact ho
    ·rcases aBs.mp hp with h | h
     ·exact hct p h
     ·rw[aBk.mp h]
      constructor
      ·show -4<=x2 % 9 - 4;omega
      ·show x2 % 9 - 4<=4;omega
  ·rintro σ H2 ⟨us,ws,v1,v2,rfl,sm,el,pr,hpl,hcr,hct⟩;exact⟨_,rfl,k ws (by omega) hcr hct l us H2 hl sm el pr⟩
abbrev eX:Stmt:=top 39
theorem iM:bC ["_law_pairs","_law_walks_here","_law_found","_law_size","_law_offset"] ["_law_pairs","_law_walks_here"] (aE eX):=⟨rfl,rfl,rfl,by decide +kernel,rfl,by decide +kernel,by decide +kernel⟩
theorem j6 {f:Addr} {fd:FuncData} (F:Fun K "_law_adds" "_law_adds" eX f fd) (B:Bt mg):FnOk P w K mg base CX0 1 f fd ["_law_pairs","_law_walks_here"] uN:=by
 refine F.ok iM (fun vs H Q E h=>?_) (fun cdv A outer s H vs Q E hr h=>?_)
 ·obtain⟨a,b,ps,ws,rfl,_⟩:=h;rfl
 ·obtain⟨a,b,ps,ws,rfl,⟨us,ha,pr⟩,ht,⟨vs,hb,prw⟩,hwl,hc,k⟩:=h;have e:us.length=ps.length:=pr.len;have ew:vs.length=ws.length:=prw.len;have hpl:=ht.len;refine⟨_,(aG (aR (i:=2) iM.nd rfl (Or.inl rfl) (cC aC))
 (aG (dL PassesOwn.never rfl (bL (pv 0)) (jK rfl (aN (aL (i:=3) iM.nd rfl (Or.inr rfl)) (aN (aL (i:=4) iM.nd rfl (Or.inl rfl)) bW)))
 (aJ (bI (eK aBm aBn aBo bT (pv 2) (aA (cL (aA (pv 3) (aA (aK bQ (pv 4) (aF (jB rfl) (by rfl) B.sum jA (aA (cD ["_law_creel","_law_count"] ["_law_size"] [3] rfl (.of (show cB (aE eX) _ ["_law_pairs","_law_walks_here","_law_found","_law_size","_law_offset"] [3] ["_law_size"]=true by decide +kernel)) (bL (pv 1)) (fun _ _ _=>(cZ (n:=2) K rfl rfl (aN (aL (i:=0) (show (["_law_creel","_law_count","_law_size"]:List Str).Nodup by decide +kernel) rfl (Or.inl rfl)) (aN (aL (i:=1) (show (["_law_creel","_law_count","_law_size"]:List Str).Nodup by decide +kernel) rfl (Or.inl rfl)) bW)))) (dS (aY (by decide) (aY (by decide) cY))) (fun _ _ _=>cA) (fun _ _ _=>(aK cN (pv 1) (aF (lD rfl) (by rfl) B.min kH (aA (pv 0) (aA (pv 2) aC)))))) aC))) aC))) aC)))))
 (aJ (bB (aF gO (by rfl) B.sorted cP (aA (pv 2) aC)))))),?_⟩
  refine⟨by decide,fun l hl=>?_⟩;refine⟨_,rfl,a,rfl,⟨_,SqL.of (Same.upd hl _ _ ha)⟩,dR (K:=K) (a:=a) (xs:=us) (fun i σ H2=>∃ (ys:List V) (v1 v2:Option V),σ=[some (.ref a),some (.ref b),some (.ref l),v1,v2]/\Same H H2/\H2 l=some (.lst ys)/\Prs H2 ys ((cR ps ws).take i))
   ⟨[],none,none,rfl,Same.upd hl,aB,.nil⟩ (fun i σ H2 _ ⟨_,_,_,_,sm,_⟩=>SqL.of (sm _ _ ha)) ?_ ?_⟩
  ·rintro i x σ H2 hi ⟨ys,v1,v2,rfl,sm,el,pr2⟩;obtain⟨p,t',hp,rfl,et⟩:=bP pr hi;have hpm:=aBY hp;have h1:=ht.pos p hpm;have h2:=T4 ht hpm;refine⟨t',_,rfl,SqT.of (sm _ _ et),rfl,_,_,rfl,_,_,rfl,rfl,_,rfl,.inl ⟨rfl,_,SqL.of el⟩,_,rfl,_,rfl,_,rfl,b,rfl,⟨_,SqL.of (sm _ _ hb)⟩,bU (K:=K) (a:=b) (xs:=vs) (fun j zs H3=>H3=H2/\zs=((ws.take j).map (gJ p.1)).map V.int) ⟨rfl,rfl⟩ ?_ ?_ ?_⟩
   ·rintro j zs H3 hj ⟨rfl,rfl⟩;exact⟨SqL.of (sm _ _ hb),by simp only[aBN,aB3];exact aO (by omega)⟩
   ·rintro j y zs H3 hj ⟨rfl,rfl⟩;obtain⟨q,t2,hq,rfl,et2⟩:=bP prw hj;have h3:=hc q (aBY hq);refine⟨t2,_,rfl,SqT.of (sm _ _ et2),rfl,_,_,rfl,_,_,rfl,rfl,_,rfl,_,rfl,_,rfl,_,_,rfl,_,_,rfl,rfl,.inr ⟨?_,?_⟩,rfl,dU (gJ p.1) hq⟩
    ·split <;> omega
    ·split <;> omega
   ·rintro zs H3 ⟨rfl,rfl⟩ D hD;have gD:=Same.upd (o:=.lst (((ws.take vs.length).map (gJ p.1)).map V.int)) hD;refine⟨D,ws.map (gJ p.1),rfl,by rw[aB,ew,aB1],_,_,rfl,rfl,(show 2<=sizeLine by decide),fun t ht'=>?_⟩;have gt:=gD.trans (Same.upd (o:=.tup [.int p.1,.int (p.2+(ws.map (gJ p.1)).sum)]) ht');have elt:=gt _ _ el;have ett:(upd (upd H3 D (.lst (((ws.take vs.length).map (gJ p.1)).map V.int))) t (.tup [.int p.1,.int (p.2+(ws.map (gJ p.1)).sum)])) t=some (.tup [.int p.1,.int (p.2+(ws.map (gJ p.1)).sum)]):=aB;generalize upd (upd H3 D (.lst (((ws.take vs.length).map (gJ p.1)).map V.int))) t (.tup [.int p.1,.int (p.2+(ws.map (gJ p.1)).sum)])=H4 at gt elt ett ⊢;have ly:=pr2.len;refine⟨l,ys,_,rfl,rfl,elt,aO (by rw[ly];simp only[aB3,cR,aBN];omega),ys++[.ref t],_,_,rfl,Same.upd' hl (sm.trans gt),aB,?_⟩;have ei:(cR ps ws).take (i+1)=(cR ps ws).take i++[(p.1,p.2+fM ws p.1)]:=by
     rw[aBj];unfold cR;rw[aBc,hp];rfl
    rw[ei];exact Paired.append' (Prs.mono (TupS.trans (TupS.same gt) (TupS.lst elt)) pr2) (.cons ⟨t,rfl,by rw[aH (fS ett elt (by intro z;cases z))];exact ett⟩ .nil)
  ·rintro σ H2 ⟨ys,v1,v2,rfl,sm,el,pr2⟩;rw[e,show ps.length=(cR ps ws).length by simp[cR],aB1]at pr2;refine⟨_,rfl,l,ys,cR ps ws,rfl,el,pr2,by simp[cR];omega,fun l' us' qs hl' pr' hperm hs=>?_⟩;exact k qs hperm hs l' us' _ (sm.free hl') (Same.upd' (sm.free hl') sm) aB (Prs.mono (TupS.new hl') pr')
abbrev hJ:Stmt:=top 40
theorem jU:bC ["_law_many","_law_found","_law_step"] ["_law_many"] (aE hJ):=⟨rfl,rfl,rfl,by decide +kernel,rfl,by decide +kernel,by decide +kernel⟩
theorem aAC {f:Addr} {fd:FuncData} (F:Fun K "_law_ten" "_law_ten" hJ f fd) (B:Bt mg):FnOk P w K mg base CX0 1 f fd ["_law_many"] zV:=by
 refine F.ok jU (fun vs H Q E h=>?_) (fun cdv A outer s H vs Q E hr h=>?_)
 ·obtain⟨n,rfl,_⟩:=h;rfl
 ·obtain⟨n,rfl,hn,k⟩:=h;refine⟨_,(aG (aR (i:=1) jU.nd rfl (Or.inl rfl) aD)
 (aG (dL PassesOwn.never rfl (fN rfl B.range (aA (pv 0) aC)) (aL (i:=2) jU.nd rfl (Or.inl rfl))
 (aJ (aR (i:=1) jU.nd rfl (Or.inl rfl) (aK cN (pv 1) aD))))
 (aJ (bB (pv 1))))),?_⟩
  refine⟨_,rfl,_,rfl,by omega,by omega,gT (n:=n) (fun i σ H2=>∃ v,σ=[some (.int n),some (.int (10 ^ i)),v]/\H2=H) ⟨none,rfl,rfl⟩ ?_ ?_⟩
  ·rintro i σ H2 hi ⟨v,rfl,rfl⟩;refine⟨_,rfl,_,_,rfl,rfl,.inr ⟨by decide,by decide⟩,_,rfl,rfl⟩
  ·rintro σ H2 ⟨v,rfl,rfl⟩;exact⟨_,rfl,k⟩
abbrev dD:Stmt:=top 41
theorem rF:bC ["_law_pairs","_law_size"] ["_law_pairs","_law_size"] (aE dD):=⟨rfl,rfl,rfl,by decide +kernel,rfl,by decide +kernel,by decide +kernel⟩
theorem rG {f:Addr} {fd:FuncData} (F:Fun K "_law_offsets" "_law_offsets" dD f fd) (B:Bt mg):FnOk P w K mg base CX0 1 f fd ["_law_pairs","_law_size"] lK:=by
 refine F.ok rF (fun vs H Q E h=>?_) (fun cdv A outer s H vs Q E hr h=>?_)
 ·obtain⟨a,ps,z,rfl,_⟩:=h;rfl
 ·obtain⟨a,ps,z,rfl,⟨us,ha,pr⟩,hl,k⟩:=h;have e:us.length=ps.length:=pr.len;refine⟨_,(aJ (bB (cD ["_law_own","_law_offset"] ["_law_size"] [1] rfl (.of (show cB (aE dD) _ ["_law_pairs","_law_size"] [1] ["_law_size"]=true by decide +kernel)) (bL (pv 0)) (fun _ _ _=>(cZ (n:=2) K rfl rfl (aN (aL (i:=0) (show (["_law_own","_law_offset","_law_size"]:List Str).Nodup by decide +kernel) rfl (Or.inl rfl)) (aN (aL (i:=1) (show (["_law_own","_law_offset","_law_size"]:List Str).Nodup by decide +kernel) rfl (Or.inl rfl)) bW)))) (dS (aY (by decide) (aY (by decide) cY))) (fun _ _ _=>mG (aV gG (pv 0) (pv 2) (aP _))) (fun _ _ _=>(pv 1))))),?_⟩;refine⟨_,rfl,a,rfl,⟨_,SqL.of ha⟩,bU (K:=K) (a:=a) (xs:=us) (fun i ys H3=>H3=H/\ys=(aM (ps.take i) z).map V.int/\ys.length<=i) ⟨rfl,rfl,Nat.le_refl _⟩ ?_ ?_ ?_⟩
  ·rintro i ys H3 hi ⟨rfl,rfl,hy⟩;exact⟨SqL.of ha,aO (by omega)⟩
  ·rintro i x ys H3 hi ⟨rfl,rfl,hy⟩;obtain⟨p,t',hp,rfl,et⟩:=bP pr hi;have so:=L5 hp z;refine⟨t',_,rfl,SqT.of et,rfl,_,_,rfl,_,_,rfl,rfl,_,rfl,_,rfl,_,_,rfl,rfl,_,rfl,oV (fun c=>?_) (fun c=>?_)⟩
   ·refine⟨_,rfl,rfl,?_,by rw[aBW];simp at hy ⊢;omega⟩;rw[so,if_pos c,aB2];rfl
   ·refine⟨rfl,?_,by omega⟩;rw[so,if_neg c,List.append_nil]
  ·rintro ys H3 ⟨rfl,rfl,hy⟩ D hD;rw[e,aB1];exact k D _ hD (Same.upd hD) aB
abbrev eA:Stmt:=top 42
theorem fF:bC ["_law_one","_law_other","_law_bars_here","_law_sizes","_law_size","_law_pairs"] ["_law_one","_law_other"] (aE eA):=⟨rfl,rfl,rfl,by decide +kernel,rfl,by decide +kernel,by decide +kernel⟩
theorem xR {f:Addr} {fd:FuncData} (F:Fun K "_law_bars" "_law_bars" eA f fd) (B:Bt mg) (F_law_offsets:bO P w K mg base "_law_offsets" 1 ["_law_pairs","_law_size"] lK):FnOk P w K mg base CX0 2 f fd ["_law_one","_law_other"] uZ:=by
 refine F.ok fF (fun vs H Q E h=>?_) (fun cdv A outer s H vs Q E hr h=>?_)
 ·obtain⟨a,b,ps1,ps2,rfl,_⟩:=h;rfl
 ·obtain⟨a,b,ps1,ps2,rfl,⟨us1,ha,pr1⟩,⟨us2,hb,pr2⟩,hpos,hsum,hl1,hl2,kk⟩:=h;have hu:=hr.units;have eu1:us1.length=ps1.length:=pr1.len;have eu2:us2.length=ps2.length:=pr2.len;refine⟨_,(aG (aR (i:=2) fF.nd rfl (Or.inl rfl) (cC aC))
 (aG (aR (i:=3) fF.nd rfl (Or.inl rfl) (uU rfl (by rfl) B.sorted cP (by rfl) B.set pU (aA (cD ["_law_size","_law_offset"] [] [] rfl (.of (show cB (aE eA) _ ["_law_one","_law_other","_law_bars_here","_law_sizes","_law_size","_law_pairs"] [] []=true by decide +kernel)) (bL (aK jM (pv 0) (pv 1))) (fun _ _ _=>(cZ (n:=2) K rfl rfl (aN (aL (i:=0) (show (["_law_size","_law_offset"]:List Str).Nodup by decide +kernel) rfl (Or.inl rfl)) (aN (aL (i:=1) (show (["_law_size","_law_offset"]:List Str).Nodup by decide +kernel) rfl (Or.inl rfl)) bW)))) (dS (aY (by decide) (aY (by decide) cY))) (fun _ _ _=>cA) (fun _ _ _=>(pv 0))) aC)))
 (aG (dL PassesOwn.never rfl (bL (pv 3)) (aL (i:=4) fF.nd rfl (Or.inl rfl))
 (aJ (cJ (aV tV (aF aS (by rfl) B.len PySem.boot_len (aA (bE F_law_offsets hr rfl (aA (pv 0) (aA (pv 4) aC))) aC)) (aF aS (by rfl) B.len PySem.boot_len (aA (bE F_law_offsets hr rfl (aA (pv 1) (aA (pv 4) aC))) aC)) (aP _))
 (aJ (bI (eK aBm aBn aBo bT (pv 2) (aA (cL (aA lV (aA (pv 4) aC))) aC))))
 bG)))
 (aG (cJ (aV (nP hu) (pv 2) (cC aC) (aP _))
 (aJ (bB (pv 2)))
 bG)
 (aG (dL PassesOwn.never rfl (bL (pv 3)) (aL (i:=4) fF.nd rfl (Or.inl rfl))
 (aG (aR (i:=5) fF.nd rfl (Or.inl rfl) (zG rfl (by rfl) B.list (by rfl) B.zip (aA (bE F_law_offsets hr rfl (aA (pv 0) (aA (pv 4) aC))) (aA (bE F_law_offsets hr rfl (aA (pv 1) (aA (pv 4) aC))) aC))))
 (aJ (cJ (aV oB (aF tI (by rfl) B.len PySem.boot_len (aA (eZ (tH rfl) (by rfl) B.set pU (aA (cD ["_law_here","_law_there"] [] [] rfl (.of (show cB (aE eA) _ ["_law_one","_law_other","_law_bars_here","_law_sizes","_law_size","_law_pairs"] [] []=true by decide +kernel)) (bL (pv 5)) (fun _ _ _=>(cZ (n:=2) K rfl rfl (aN (aL (i:=0) (show (["_law_here","_law_there"]:List Str).Nodup by decide +kernel) rfl (Or.inl rfl)) (aN (aL (i:=1) (show (["_law_here","_law_there"]:List Str).Nodup by decide +kernel) rfl (Or.inl rfl)) bW)))) (dS (aY (by decide) (aY (by decide) cY))) (fun _ _ _=>cA) (fun _ _ _=>(aK cG (pv 1) (pv 0)))) aC)) aC)) aD (aP _))
 (aJ (bI (eK aBm aBn aBo bT (pv 2) (aA (cL (aA lV (aA (pv 4) aC))) aC))))
 bG))))
 (aJ (bB (pv 2)))))))),?_⟩
  refine⟨by decide,fun l2 hl2n=>?_⟩;have g1:=Same.upd (o:=.lst []) hl2n;have el2:(upd H l2 (.lst [])) l2=some (.lst []):=aB;generalize upd H l2 (.lst [])=H1 at g1 el2 ⊢;refine⟨_,rfl,_,rfl,a,b,us1,us2,rfl,rfl,g1 _ _ ha,g1 _ _ hb,gL (by omega),fun p hp=>?_⟩;have g2:=Same.upd (o:=.lst (us1++us2)) hp;have ep:(upd H1 p (.lst (us1++us2))) p=some (.lst (us1++us2)):=aB;generalize upd H1 p (.lst (us1++us2))=H2 at g2 ep ⊢;have prs:Prs H2 (us1++us2) (ps1++ps2):=Prs.mono (TupS.same (g1.trans g2)) (Paired.append' pr1 pr2);have eus:(us1++us2).length=(ps1++ps2).length:=prs.len;refine⟨p,rfl,⟨_,SqL.of ep⟩,bU (K:=K) (a:=p) (xs:=us1++us2) (fun i ys H3=>H3=H2/\ys=(((ps1++ps2).take i).map (·.1)).map V.int) ⟨rfl,rfl⟩ ?_ ?_ ?_⟩
  ·rintro i ys H3 hi ⟨rfl,rfl⟩;exact⟨SqL.of ep,by rw[aBN,aBN,aB3];rw[aBW]at hi;exact aO (by omega)⟩
  ·rintro i x ys H3 hi ⟨rfl,rfl⟩;obtain⟨q,t',hq,rfl,et⟩:=bP prs hi;exact⟨t',_,rfl,SqT.of et,rfl,_,_,rfl,_,_,rfl,rfl,_,rfl,rfl,dU (·.1) hq⟩
  rintro ys H3 ⟨rfl,rfl⟩ D hD;rw[eus,aB1];have g3:=Same.upd (o:=.lst (((ps1++ps2).map (·.1)).map V.int)) hD;have eD:(upd H3 D (.lst (((ps1++ps2).map (·.1)).map V.int))) D=some (.lst (((ps1++ps2).map (·.1)).map V.int)):=aB;generalize upd H3 D (.lst (((ps1++ps2).map (·.1)).map V.int))=H4 at g3 eD ⊢;have hpos':∀ n∈(ps1++ps2).map (·.1),1<=n:=fun n hn=>by obtain⟨q,hq,rfl⟩:=aBt.mp hn;exact hpos q hq
  have hfew:=aAe hpos' hsum;refine⟨D,_,rfl,eD,hfew,fun l3 ms hl3 pm up=>?_⟩;have g4:=Same.upd (o:=.lst (ms.map V.int)) hl3;have el3:(upd H4 l3 (.lst (ms.map V.int))) l3=some (.lst (ms.map V.int)):=aB;have n23:l2≠l3:=fun e=>by
   have:=g3 _ _ (g2 _ _ el2);rw[e,hl3]at this;cases this
  generalize upd H4 l3 (.lst (ms.map V.int))=H5 at g4 el3 ⊢;have g15:=(g2.trans g3).trans g4;have s5:=g1.trans g15;have el2:=g15 _ _ el2;have hml:ms.length<=18:=by rw[pm.length_eq];exact hfew
  have mem:∀ s,s∈ms↔∃ q∈ps1++ps2,q.1=s:=fun s=>by
   rw[pm.mem_iff,dP,aBt]
  clear ep eD hp hD hl3 prs g2 g3 g4 g15 g1;have na2:a≠l2:=fun e=>by rw[e,hl2n]at ha;cases ha
  have nb2:b≠l2:=fun e=>by rw[e,hl2n]at hb;cases hb
  have lpk:∀ {Hx:Hp} {z:Addr} {qs:Trs},z≠l2->LP H z qs->(∀ y o,y≠l2->H5 y=some o->Hx y=some o)->LP Hx z qs:=fun hz h kp=>by
   obtain⟨us,e,pr⟩:=h;exact⟨us,kp _ _ hz (s5 _ _ e),pr.mono fun t xs q=>kp _ _ (fun z=>by rw[z,hl2n]at q;cases q) (s5 _ _ q)⟩
  have lpa:LP H a ps1:=⟨us1,ha,pr1⟩;have lpb:LP H b ps2:=⟨us2,hb,pr2⟩
  let fd:Int->Bool:=fun s=>!decide (((aM ps1 s).length:Int)=((aM ps2 s).length:Int))
  refine⟨_,rfl,l3,rfl,⟨_,SqL.of el3⟩,dR (K:=K) (a:=l3) (xs:=ms.map V.int) (z6 H5 fd "sizes" ms a b l2 l3) ⟨none,none,[],rfl,el2,.nil,fun y o _ e=>e⟩ (fun i σ Hx _ h=>by obtain⟨_,_,_,_,_,_,kp⟩:=h;exact SqL.of (kp _ _ (Ne.symm n23) el3)) ?_ ?_⟩
  ·rintro i x σ Hx hi ⟨v4,v5,us,rfl,eu,br,kp⟩;obtain⟨z,rfl,hz⟩:=int_at hi;refine⟨_,rfl,_,rfl,a,ps1,z,rfl,lpk na2 lpa kp,by omega,fun q Hq hq gq eq=>?_⟩;refine⟨q,_,rfl,.inl (SqL.of eq),?_⟩;refine⟨_,rfl,_,rfl,b,ps2,z,rfl,(lpk nb2 lpb kp).mono gq,by omega,fun q2 Hq2 hq2 gq2 eq2=>?_⟩;refine⟨q2,_,rfl,.inl (SqL.of eq2),_,_,rfl,rfl,_,rfl,?_⟩;rw[aBN,aBN];have gg:=gq.trans gq2
   by_cases c:((aM ps1 z).length:Int)=((aM ps2 z).length:Int)
   ·refine oC c ⟨_,_,us,rfl,gg _ _ eu,?_,fun y o h e=>gg _ _ (kp y o h e)⟩;rw[iL hz,if_neg (show ¬ (!decide (((aM ps1 z).length:Int)=((aM ps2 z).length:Int)))=true by rw[aBa c];decide),List.append_nil];exact br.mono (TupS.same gg)
   ·rw[aB9 c];show (if (!false)=true then _ else _);rw[if_pos (show (!false)=true from rfl)];have eu2:=gg _ _ eu;refine⟨_,rfl,.inl ⟨rfl,_,SqL.of eu2⟩,_,rfl,(show 2<=sizeLine by decide),fun t ht=>?_⟩;have eu3:(upd Hq2 t (.tup [.str "sizes",.int z])) l2=some (.lst us):=by rw[aH (bN eu2 ht)];exact eu2
    have hul:us.length<=18:=by
     have:=Paired.length br;rw[aBN]at this;rw[this];exact Nat.le_trans (List.length_filter_le ..) (by rw[aB3];omega)
    refine⟨l2,us,_,rfl,rfl,eu3,aO (by omega),_,_,us++[.ref t],rfl,aB,?_,fun y o h e=>?_⟩
    ·rw[iL hz,if_pos (show (!decide (((aM ps1 z).length:Int)=((aM ps2 z).length:Int)))=true by rw[aB9 c];rfl),aB2];exact Paired.append' (Brs.mono (TupS.trans (TupS.trans (TupS.same gg) (TupS.new ht)) (TupS.lst eu3)) br) (.cons ⟨t,rfl,by rw[aH (Ne.symm (bN eu2 ht)),aB]⟩ .nil)
    ·have e2:=gg _ _ (kp y o h e);rw[aH h,aH (bN e2 ht)];exact e2
  rintro σ Hx ⟨v4,v5,us,rfl,eu,br,kp⟩;rw[aBN,aB1]at br;have txt:∀ (x:Str) (l:List Int),PyData.strOk x=true->∀ b∈l.map (fun s=>(x,s)),PyData.strOk b.1=true:=fun x l hx b hb=>by
   obtain⟨s,_,rfl⟩:=aBt.mp hb;exact hx
  have hlen:∀ (x:Str) (f:Int->Bool),((ms.filter f).map fun s=>(x,s)).length<=18:=fun x f=>by
   rw[aBN];exact Nat.le_trans (List.length_filter_le ..) hml
  have nil1:(aM ps1 ·=[]:Int->Prop)=(aM ps1 ·=[]):=rfl;have inU:∀ s,(aM ps1 s≠[]\/aM ps2 s≠[])->s∈ms:=fun s h=>by
   rw[mem];rcases h with h | h
   ·obtain⟨q,hq,e⟩:=kU.mp h;exact⟨q,aB7 _ hq,e⟩
   ·obtain⟨q,hq,e⟩:=kU.mp h;exact⟨q,aBR _ hq,e⟩
  have ofU:∀ s∈ms,aM ps1 s≠[]\/aM ps2 s≠[]:=fun s h=>by
   rw[mem]at h;obtain⟨q,hq,e⟩:=h;rcases aBs.mp hq with z | z
   ·exact .inl (kU.mpr ⟨q,z,e⟩)
   ·exact .inr (kU.mpr ⟨q,z,e⟩)
  have szin:∀ s,(aM ps1 s).length≠(aM ps2 s).length->s∈ms.filter fd:=fun s h=>by
   refine aBu.mpr ⟨inU s ?_,?_⟩
   ·apply Decidable.byContradiction
    intro c;have c1:aM ps1 s=[]:=Decidable.byContradiction fun z=>c (.inl z);have c2:aM ps2 s=[]:=Decidable.byContradiction fun z=>c (.inr z);rw[c1,c2]at h;exact h rfl
   ·show (!decide (((aM ps1 s).length:Int)=((aM ps2 s).length:Int)))=true;rw[aB9 (by omega)];rfl
  refine⟨_,rfl,by decide,fun z0 hz0=>?_⟩;have g6:=Same.upd (o:=.lst []) hz0;have ez0:(upd Hx z0 (.lst [])) z0=some (.lst []):=aB;generalize upd Hx z0 (.lst [])=H6 at g6 ez0 ⊢;have eu6:=g6 _ _ eu;have br6:=br.mono (TupS.same g6);refine⟨_,_,.lst eu6 br6.dens,Den.ints (ns:=[]) ez0,oO (txt "sizes" _ (by decide +kernel)),cQ [],_,rfl,?_⟩;rw[nE];have s6:Same H H6:=fun y o e=>g6 _ _ (kp y o (fun z=>by rw[z,hl2n]at e;cases e) (s5 _ _ e));have kp6:∀ y o,y≠l2->H5 y=some o->H6 y=some o:=fun y o h e=>g6 _ _ (kp y o h e)
  by_cases c:((ms.filter fd).map fun s=>(("sizes":Str),s))=[]
  ·refine oC c ?_;have c':ms.filter fd=[]:=List.map_eq_nil_iff.mp c;have cnt:∀ s,(aM ps1 s).length=(aM ps2 s).length:=fun s=>by
    apply Decidable.byContradiction
    intro h;have:=szin s h;rw[c']at this;cases this
   have hus:us=[]:=by
    have:=Paired.length br;rw[c]at this;exact aBl this
   subst hus;have both:∀ s∈ms,aM ps1 s≠[]:=fun s hs z=>by
    rcases ofU s hs with h | h
    ·exact h z
    ·exact h (aBl (by rw[<- cnt s,z];rfl))
   let fa:Int->Bool:=fun s=>decide (((bK (gH (aM ps1 s) (aM ps2 s))).length:Int) > 1)
   have el36:=kp6 _ _ (Ne.symm n23) el3;refine⟨_,rfl,l3,rfl,⟨_,SqL.of el36⟩,dR (K:=K) (a:=l3) (xs:=ms.map V.int) (z6 H6 fa "apart" ms a b l2 l3) ⟨v4,v5,[],rfl,eu6,.nil,fun y o _ e=>e⟩ (fun i σ Hx _ h=>by obtain⟨_,_,_,_,_,_,kp⟩:=h;exact SqL.of (kp _ _ (Ne.symm n23) el36)) ?_ ?_⟩
   ·rintro i x σ Hy hi ⟨w4,w5,us,rfl,eu,br,kq⟩;obtain⟨z,rfl,hz⟩:=int_at hi;have hzm:z∈ms:=aBY hz;have kq':∀ y o,y≠l2->H5 y=some o->Hy y=some o:=fun y o h e=>kq y o h (kp6 y o h e);refine⟨_,rfl,_,rfl,a,ps1,z,rfl,lpk na2 lpa kq',by omega,fun q Hq hq gq eq=>?_⟩;refine⟨_,rfl,_,rfl,b,ps2,z,rfl,(lpk nb2 lpb kq').mono gq,by omega,fun q2 Hq2 hq2 gq2 eq2=>?_⟩;have ho60:(aM ps1 z).length<=60:=by unfold aM;rw[aBN];exact Nat.le_trans (List.length_filter_le ..) hl1
    refine⟨q,q2,(aM ps1 z).map V.int,(aM ps2 z).map V.int,rfl,SqL.of (gq2 _ _ eq),SqL.of eq2,by rw[aBN,aBN];exact cnt z,by rw[aBN];exact List.length_pos_iff.mpr (both z hzm),fun S Ts H7 hS g7 eS hTl hT=>?_⟩;have gg:=(gq.trans gq2).trans g7;rw[aBN]at hTl;refine⟨_,rfl,S,rfl,⟨_,SqL.of eS⟩,bU (K:=K) (a:=S) (xs:=Ts.map V.ref) (fun j ys H8=>H8=H7/\ys=((gH (aM ps1 z) (aM ps2 z)).take j).map V.int) ⟨rfl,rfl⟩ ?_ ?_ ?_⟩
    ·rintro j ys H8 hj ⟨rfl,rfl⟩;rw[aBN]at hj;exact⟨SqL.of eS,by rw[aBN,aB3];exact aO (by omega)⟩
    ·rintro j x ys H8 hj ⟨rfl,rfl⟩;rw[aBc]at hj;obtain⟨T,hTj,rfl⟩:=aBp.mp hj;obtain⟨x,y,hx,hy,eT⟩:=hT j T hTj;obtain⟨x',rfl,hx'⟩:=int_at hx;obtain⟨y',rfl,hy'⟩:=int_at hy;refine⟨T,_,rfl,SqT.of eT,rfl,_,_,rfl,_,_,rfl,rfl,_,rfl,_,rfl,_,_,rfl,rfl,rfl,?_⟩;have hd:(gH (aM ps1 z) (aM ps2 z))[j]?=some (y' - x'):=by
      unfold gH;rw[List.getElem?_zipWith,hx',hy']
     rw[aBj,hd,aB2];rfl
    rintro ys H8 ⟨rfl,rfl⟩ D hD;have hdl:(gH (aM ps1 z) (aM ps2 z)).length=(aM ps1 z).length:=by
     unfold gH;rw[List.length_zipWith,cnt z,Nat.min_self]
    rw[aBN,hTl,<- hdl,aB1];have g8:=Same.upd (o:=.lst ((gH (aM ps1 z) (aM ps2 z)).map V.int)) hD;have eD:(upd H8 D (.lst ((gH (aM ps1 z) (aM ps2 z)).map V.int))) D=some (.lst ((gH (aM ps1 z) (aM ps2 z)).map V.int)):=aB;generalize upd H8 D (.lst ((gH (aM ps1 z) (aM ps2 z)).map V.int))=H9 at g8 eD ⊢;refine⟨D,_,rfl,eD,by rw[hdl];omega,fun l hl=>?_⟩;refine⟨l,_,_,rfl,aB,_,_,rfl,rfl,_,rfl,?_⟩;have g9:=Same.upd (o:=.set (fun k=>(bK (gH (aM ps1 z) (aM ps2 z))).any (· == k)) (bK (gH (aM ps1 z) (aM ps2 z))).length) hl;generalize upd H9 l (.set (fun k=>(bK (gH (aM ps1 z) (aM ps2 z))).any (· == k)) (bK (gH (aM ps1 z) (aM ps2 z))).length)=HA at g9 ⊢;have gA:=(gg.trans g8).trans g9;have euA:=gA _ _ eu
    by_cases cc:((bK (gH (aM ps1 z) (aM ps2 z))).length:Int) > 1
    ·refine sN cc ⟨_,rfl,.inl ⟨rfl,_,SqL.of euA⟩,_,rfl,(show 2<=sizeLine by decide),fun t ht=>?_⟩;have eu3:(upd HA t (.tup [.str "apart",.int z])) l2=some (.lst us):=by rw[aH (bN euA ht)];exact euA
     have hul:us.length<=18:=by
      have:=Paired.length br;rw[aBN]at this;rw[this];exact Nat.le_trans (List.length_filter_le ..) (by rw[aB3];omega)
     refine⟨l2,us,_,rfl,rfl,eu3,aO (by omega),_,_,us++[.ref t],rfl,aB,?_,fun y o h e=>?_⟩
     ·rw[iL hz,if_pos (show fa z=true from aBa cc),aB2];exact Paired.append' (Brs.mono (TupS.trans (TupS.trans (TupS.same gA) (TupS.new ht)) (TupS.lst eu3)) br) (.cons ⟨t,rfl,by rw[aH (Ne.symm (bN euA ht)),aB]⟩ .nil)
     ·have e2:=gA _ _ (kq y o h e);rw[aH h,aH (bN e2 ht)];exact e2
    ·refine hV cc ⟨_,_,us,rfl,euA,?_,fun y o h e=>gA _ _ (kq y o h e)⟩;rw[iL hz,if_neg (show ¬ fa z=true by show ¬ decide _=true;rw[aB9 cc];decide),List.append_nil];exact br.mono (TupS.same gA)
   ·rintro σ Hy ⟨w4,w5,us,rfl,eu,br,kq⟩;rw[aBN,aB1]at br;refine⟨_,rfl,kk _ l2 us Hy hl2n (fun y o e=>kq y o (fun z=>by rw[z,hl2n]at e;cases e) (s6 _ _ e)) eu br ⟨fun s h=>absurd (cnt s) h,fun _ s h=>?_,fun _ h=>?_,hlen _ _,txt "apart" _ (by decide +kernel)⟩⟩
    ·refine aBt.mpr ⟨s,aBu.mpr ⟨inU s (.inl fun z=>?_),?_⟩,rfl⟩
     ·have z2:aM ps2 s=[]:=aBl (by rw[<- cnt s,z];rfl);exact h 0 (by rw[z,z2];rfl)
     ·have hne:aM ps1 s≠[]:=fun z=>by
       have z2:aM ps2 s=[]:=aBl (by rw[<- cnt s,z];rfl);exact h 0 (by rw[z,z2];rfl)
      have:=(xM (cnt s) hne).mpr h;exact aBa (by omega)
    ·have:ms.filter fa=[]:=List.filter_eq_nil_iff.mpr fun s hs hf=>by
      have hf':((bK (gH (aM ps1 s) (aM ps2 s))).length:Int) > 1:=of_decide_eq_true hf;obtain⟨g,hg⟩:=h s (both s hs);exact(xM (cnt s) (both s hs)).mp (by omega) g hg.symm
     rw[this];rfl
  ·rw[aB9 c];show (if (!false)=true then _ else _);rw[if_pos (show (!false)=true from rfl)];refine⟨_,rfl,kk _ l2 us H6 hl2n s6 eu6 br6 ⟨fun s h=>aBt.mpr ⟨s,szin s h,rfl⟩,fun h=>?_,fun h _=>?_,hlen _ _,txt "sizes" _ (by decide +kernel)⟩⟩
   ·exact absurd (by
     rw[List.map_eq_nil_iff];exact List.filter_eq_nil_iff.mpr fun s hs hf=>by
      have hf':(!decide (((aM ps1 s).length:Int)=((aM ps2 s).length:Int)))=true:=hf;rw[aBa (by rw[h s])]at hf';cases hf') c
   ·exact absurd (by
     rw[List.map_eq_nil_iff];exact List.filter_eq_nil_iff.mpr fun s hs hf=>by
      have hf':(!decide (((aM ps1 s).length:Int)=((aM ps2 s).length:Int)))=true:=hf;rw[aBa (by rw[h s])]at hf';cases hf') c
abbrev bS:Stmt:=top 43
theorem cW:bC ["_law_one","_law_other","_law_walks_here","_law_most","_law_creels","_law_creel","_law_count"] ["_law_one","_law_other","_law_walks_here"] (aE bS):=⟨rfl,rfl,rfl,by decide +kernel,rfl,by decide +kernel,by decide +kernel⟩
theorem mE {f:Addr} {fd:FuncData} (F:Fun K "_law_walks_right" "_law_walks_right" bS f fd) (B:Bt mg) (F_trains:bO P w K mg base "trains" 5 ["row"] fI) (F_far:bO P w K mg base "far" 5 ["row","walks"] B1) (F_law_same:bO P w K mg base "_law_same" 4 ["_law_found","_law_due"] (W9 (kJ 3) lM)):FnOk P w K mg base CX0 6 f fd ["_law_one","_law_other","_law_walks_here"] i7:=by
 refine F.ok cW (fun vs H Q E h=>?_) (fun cdv A outer s H vs Q E hr h=>?_)
 ·obtain⟨a,b,c,r1,r2,ps1,ws,rfl,_⟩:=h;rfl
 ·obtain⟨a,b,c,r1,r2,ps1,ws,rfl,ha,hr1,hl1,hb,⟨us,hc,pr⟩,hwl,L1,L2',hws,hnd,kk⟩:=h;have hu:=hr.units;have eu:us.length=ws.length:=pr.len;have lpc:LP H c ws:=⟨us,hc,pr⟩;refine⟨_,(aG (cJ (PW.pt (jV (kA (eM (aF aZ (by rfl) B.isinstance aI (aA (pv 2) (aA (bA (v:=.ty "list") rfl B.list bZ rfl) aC))) (fun _=>rfl))) (iO (kA (eM (aF (kF rfl) (by rfl) B.all kG (aA (cD ["_law_pair"] [] [] rfl (.of (show cB (aE bS) _ ["_law_one","_law_other","_law_walks_here","_law_most","_law_creels","_law_creel","_law_count"] [] []=true by decide +kernel)) (bL (pv 2)) (fun _ _ _=>(aL (i:=0) (show (["_law_pair"]:List Str).Nodup by decide +kernel) rfl (Or.inl rfl))) (fH (by decide)) (fun _ _ _=>cA) (fun _ _ _=>(iQ (aF (M0 K rfl) (by rfl) B.isinstance aI (aA (pv 0) (aA (bA (v:=.ty "tuple") rfl B.tuple cT rfl) aC))) (iP (dE gG (aF (iT K rfl) (by rfl) B.len PySem.boot_len (aA (pv 0) aC)) aD (aP _)))))) aC)) (fun _=>rfl))))))
 (aJ (bB lO))
 bG)
 (aG (aR (i:=3) cW.nd rfl (Or.inl rfl) (nR rfl rfl B.max (cD ["_law_size","_law_offset"] [] [] rfl (.of (show cB (aE bS) _ ["_law_one","_law_other","_law_walks_here","_law_most","_law_creels","_law_creel","_law_count"] [] []=true by decide +kernel)) (bL (bE F_trains hr rfl (aA (eZ eE (by rfl) B.list bZ (aA (pv 0) aC)) aC))) (fun _ _ _=>(cZ (n:=2) K rfl rfl (aN (aL (i:=0) (show (["_law_size","_law_offset"]:List Str).Nodup by decide +kernel) rfl (Or.inl rfl)) (aN (aL (i:=1) (show (["_law_size","_law_offset"]:List Str).Nodup by decide +kernel) rfl (Or.inl rfl)) bW)))) (dS (aY (by decide) (aY (by decide) cY))) (fun _ _ _=>cA) (fun _ _ _=>(pv 0))) aD))
 (aG (pB (i:=4) ["_law_creel","_law_count"] [] [] rfl cW.nd rfl rfl (.of (show cB (aE bS) _ ["_law_one","_law_other","_law_walks_here","_law_most","_law_creels","_law_creel","_law_count"] [] []=true by decide +kernel)) (bL (pv 2)) (fun _ _ _=>(cZ (n:=2) K rfl rfl (aN (aL (i:=0) (show (["_law_creel","_law_count"]:List Str).Nodup by decide +kernel) rfl (Or.inl rfl)) (aN (aL (i:=1) (show (["_law_creel","_law_count"]:List Str).Nodup by decide +kernel) rfl (Or.inl rfl)) bW)))) (dS (aY (by decide) (aY (by decide) cY))) (fun _ _ _=>cA) (fun _ _ _=>(pv 0)) (by first | rfl | decide +kernel))
 (aG (dL PassesOwn.never rfl (bL (pv 2)) (jK rfl (aN (aL (i:=5) cW.nd rfl (Or.inl rfl)) (aN (aL (i:=6) cW.nd rfl (Or.inl rfl)) bW)))
 (aJ (cJ (PW.pt (jV (kA (eM (bE F_law_same hr rfl (aA (cC (aA (aK bQ (pv 5) aD) (aA (aK bQ (pv 6) aD) aC))) (aA (cC (aA (pv 5) (aA (pv 6) aC))) aC))) (fun _=>rfl))) (jV (kA (O6 O5 O5 aD (pv 5) (pv 3))) (iO (aV gG (pv 6) aD (aP _))))))
 (aJ (bB lO))
 bG)))
 (aJ (bB (iQ (dE gG (aF tI (by rfl) B.len PySem.boot_len (aA (eZ (tH rfl) (by rfl) B.set pU (aA (pv 4) aC)) aC)) (aF aS (by rfl) B.len PySem.boot_len (aA (pv 4) aC)) (aP _)) (iP (dE (pT hu) (bE F_far hr rfl (aA (eZ eE (by rfl) B.list bZ (aA (pv 0) aC)) (aA (eZ eE (by rfl) B.list bZ (aA (pv 2) aC)) aC))) (pv 1) (aP _)))))))))),?_⟩
  refine⟨_,rfl,_,"list",.list (ws.map pD),true,rfl,lpc.den,rfl,_,rfl,?_⟩;refine⟨_,rfl,c,rfl,⟨_,SqL.of hc⟩,bU (K:=K) (a:=c) (xs:=us) (fun i ys H2=>H2=H/\ys=(List.replicate i true).map V.bl) ⟨rfl,rfl⟩ ?_ ?_ ?_⟩
  ·rintro i ys H3 hi ⟨rfl,rfl⟩;exact⟨SqL.of hc,by rw[aBN,aB8];exact aO (by omega)⟩
  ·rintro i x ys H3 hi ⟨rfl,rfl⟩;obtain⟨q,t',hq,rfl,et⟩:=bP pr hi;refine⟨_,rfl,_,"tuple",pD q,true,rfl,Den.tup et (.cons (.int _) (.cons (.int _) .nil)),rfl,_,rfl,?_⟩;refine⟨_,rfl,t',_,rfl,.inr (SqT.of et),_,_,rfl,rfl,?_⟩;refine⟨rfl,?_⟩;rw[List.replicate_succ',aB2];rfl
  rintro ys H3 ⟨rfl,rfl⟩ D hD;refine⟨D,_,rfl,aB,?_⟩;rw[show ∀ k:Nat,(List.replicate k true).all id=true from fun k=>by simp];have g1:=Same.upd (o:=.lst ((List.replicate us.length true).map V.bl)) hD;generalize upd H3 D (.lst ((List.replicate us.length true).map V.bl))=H1 at g1 ⊢;refine⟨_,rfl,?_⟩;refine⟨_,rfl,a,_,rfl,.inl (SqL.of (g1 _ _ ha)),fun p1 hp1=>?_⟩;have g2:=Same.upd (o:=.lst (r1.map V.int)) hp1;have ep1:(upd H1 p1 (.lst (r1.map V.int))) p1=some (.lst (r1.map V.int)):=aB;generalize upd H1 p1 (.lst (r1.map V.int))=H2 at g2 ep1 ⊢;refine⟨p1,r1,rfl,ep1,hr1,hl1,fun qs hL hqs l vs2 H4 hl g4 el pr4=>?_⟩;have hql:=Lst.few hL hl1;have eq4:vs2.length=qs.length:=pr4.len;refine⟨l,rfl,⟨_,SqL.of el⟩,bU (K:=K) (a:=l) (xs:=vs2) (fun i ys H5=>H5=H4/\ys=((qs.take i).map (·.1)).map V.int) ⟨rfl,rfl⟩ ?_ ?_ ?_⟩
  ·rintro i ys H5 hi ⟨rfl,rfl⟩;exact⟨SqL.of el,mJ _ _ (by omega) _⟩
  ·rintro i x ys H5 hi ⟨rfl,rfl⟩;obtain⟨q,t',hq,rfl,et⟩:=bP pr4 hi;exact⟨t',_,rfl,SqT.of et,rfl,_,_,rfl,_,_,rfl,rfl,_,rfl,rfl,dU (·.1) hq⟩
  rintro ys H5 ⟨rfl,rfl⟩ D2 hD2;rw[eq4,aB1];have g5:=Same.upd (o:=.lst ((qs.map (·.1)).map V.int)) hD2;have eD2:(upd H5 D2 (.lst ((qs.map (·.1)).map V.int))) D2=some (.lst ((qs.map (·.1)).map V.int)):=aB;generalize upd H5 D2 (.lst ((qs.map (·.1)).map V.int))=H6 at g5 eD2 ⊢;refine⟨D2,_,rfl,SqL.of eD2,?_⟩;obtain⟨M,hM,hMq⟩:∃ M:Int,mxD (qs.map (·.1)) (V.int 0)=V.int M/\∀ q∈ws,q.1<=M:=by
   have hperm:=hL.uniq L1;obtain⟨M,h1,h2⟩:=z7 (qs.map (·.1));refine⟨M,h1,fun q hq=>?_⟩;obtain⟨_,⟨p,hp,hpq⟩,_⟩:=hws q hq;exact Int.le_trans hpq (h2 _ (aBt.mpr ⟨p,hperm.mem_iff.mpr hp,rfl⟩))
  rw[hM];have s6:=((g1.trans g2).trans g4).trans g5;clear hM eD2 hD2 g1 g2 g4 g5 ep1 hp1 el pr4 hl;have hc6:=s6 _ _ hc;have pr6:=pr.mono (TupS.same s6);refine⟨_,rfl,c,rfl,⟨_,SqL.of hc6⟩,bU (K:=K) (a:=c) (xs:=us) (fun i ys H7=>H7=H6/\ys=((ws.take i).map (·.1)).map V.int) ⟨rfl,rfl⟩ ?_ ?_ ?_⟩
  ·rintro i ys H7 hi ⟨rfl,rfl⟩;exact⟨SqL.of hc6,mJ _ _ (by omega) _⟩
  ·rintro i x ys H7 hi ⟨rfl,rfl⟩;obtain⟨q,t',hq,rfl,et⟩:=bP pr6 hi;exact⟨t',_,rfl,SqT.of et,rfl,_,_,rfl,_,_,rfl,rfl,_,rfl,rfl,dU (·.1) hq⟩
  rintro ys H7 ⟨rfl,rfl⟩ D3 hD3;rw[eu,aB1];have g7:=Same.upd (o:=.lst ((ws.map (·.1)).map V.int)) hD3;have eD3:(upd H7 D3 (.lst ((ws.map (·.1)).map V.int))) D3=some (.lst ((ws.map (·.1)).map V.int)):=aB;generalize upd H7 D3 (.lst ((ws.map (·.1)).map V.int))=H8 at g7 eD3 ⊢;have s8:=s6.trans g7;have hc8:=s8 _ _ hc;have pr8:=pr.mono (TupS.same s8);refine⟨_,rfl,c,rfl,⟨_,SqL.of hc8⟩,dR (K:=K) (a:=c) (xs:=us) (fun i σ Hx=>∃ v5 v6,σ=[some (.ref a),some (.ref b),some (.ref c),some (.int M),some (.ref D3),v5,v6]/\Same H8 Hx) ⟨none,none,rfl,Same.refl _⟩ (fun i σ Hx _ ⟨_,_,_,sm⟩=>SqL.of (sm _ _ hc8)) ?_ ?_⟩
  ·rintro i x σ Hx hi ⟨v5,v6,rfl,sm⟩;obtain⟨q,t',hq,rfl,et⟩:=bP pr8 hi;have hqm:=aBY hq;obtain⟨q1,_,q3⟩:=hws q hqm;have q2:=hMq q hqm;refine⟨t',_,rfl,SqT.of (sm _ _ et),rfl,_,_,rfl,_,_,rfl,rfl,?_⟩;refine⟨_,rfl,_,_,rfl,rfl,_,rfl,_,_,rfl,rfl,(show 2<=sizeLine by decide),fun x1 hx1=>?_⟩;have gx:=Same.upd (o:=.lst [V.int (q.1+0),V.int (q.2+0)]) hx1;have ex1:(upd Hx x1 (.lst [V.int (q.1+0),V.int (q.2+0)])) x1=some (.lst ([q.1,q.2].map V.int)):=by rw[aB,Int.add_zero,Int.add_zero];rfl
   generalize upd Hx x1 (.lst [V.int (q.1+0),V.int (q.2+0)])=Hy at gx ex1 ⊢;refine⟨_,rfl,_,rfl,(show 2<=sizeLine by decide),fun x2 hx2=>?_⟩;have gy:=Same.upd (o:=.lst [V.int q.1,V.int q.2]) hx2;have ex2:(upd Hy x2 (.lst [V.int q.1,V.int q.2])) x2=some (.lst ([q.1,q.2].map V.int)):=aB;generalize upd Hy x2 (.lst [V.int q.1,V.int q.2])=Hz at gy ex2 ⊢;refine .inl ⟨_,_,_,rfl,Den.ints (gy _ _ ex1),Den.ints ex2,yA _,cQ _,P7 (by simp),fun Hw sw=>?_⟩;have sall:=((sm.trans gx).trans gy).trans sw;refine⟨_,rfl,?_⟩;refine⟨_,rfl,_,_,rfl,rfl,_,rfl,sN q1 ⟨_,rfl,_,_,rfl,rfl,_,rfl,?_⟩⟩;rw[aBa q2];refine⟨_,rfl,_,_,rfl,rfl,_,rfl,hV q3 ⟨_,_,rfl,sall⟩⟩
  rintro σ Hx ⟨v5,v6,rfl,sm⟩;have sx:=s8.trans sm;have hcx:=sx _ _ hc;have prx:=pr.mono (TupS.same sx);have eD3x:=sm _ _ eD3;refine⟨_,rfl,D3,ws.map (·.1),rfl,eD3x,by rw[aBN];omega,fun l hl=>?_⟩;have gl:=Same.upd (o:=.set (fun k=>(bK (ws.map (·.1))).any (· == k)) (bK (ws.map (·.1))).length) hl;have el:(upd Hx l (.set (fun k=>(bK (ws.map (·.1))).any (· == k)) (bK (ws.map (·.1))).length)) l=some (.set (fun k=>(bK (ws.map (·.1))).any (· == k)) (bK (ws.map (·.1))).length):=aB;generalize upd Hx l (.set (fun k=>(bK (ws.map (·.1))).any (· == k)) (bK (ws.map (·.1))).length)=Hl at gl el ⊢;refine⟨l,_,_,rfl,el,_,rfl,D3,_,rfl,.inl (SqL.of (gl _ _ eD3x)),_,_,rfl,rfl,_,rfl,?_⟩;rw[J9 hnd,aBN,aBN,aBN,aBa rfl];have sl:=sx.trans gl;refine⟨_,rfl,a,_,rfl,.inl (SqL.of (sl _ _ ha)),fun p3 hp3=>?_⟩;have g3:=Same.upd (o:=.lst (r1.map V.int)) hp3;have ep3:(upd Hl p3 (.lst (r1.map V.int))) p3=some (.lst (r1.map V.int)):=aB;generalize upd Hl p3 (.lst (r1.map V.int))=H9 at g3 ep3 ⊢;have s9:=sl.trans g3;refine⟨_,rfl,c,_,rfl,.inl (SqL.of (s9 _ _ hc)),fun p4 hp4=>?_⟩;have g4:=Same.upd (o:=.lst us) hp4;have ep4:(upd H9 p4 (.lst us)) p4=some (.lst us):=aB;generalize upd H9 p4 (.lst us)=HA at g4 ep4 ⊢;have sA:=s9.trans g4;refine⟨p3,p4,r1,ws,rfl,g4 _ _ ep3,hr1,hl1,⟨us,ep4,pr.mono (TupS.same sA)⟩,by omega,fun q hq=>(hws q hq).1,fun r ps hLa hLb lr HB hlr gB elr=>?_⟩;have er:r=r2:=hLb.row L2' (List.Perm.map _ (hLa.uniq L1));subst er;have sB:=sA.trans gB;refine⟨_,rfl,_,_,Den.ints elr,Den.ints (sB _ _ hb),cQ _,cQ _,?_⟩;rw[kK (cQ _)];exact kk _ sB
abbrev eC:Stmt:=top 44
theorem fL:bC ["_law_one","_law_other","_law_handed","_law_found","_law_bars_here","_law_again"] ["_law_one","_law_other"] (aE eC):=⟨rfl,rfl,rfl,by decide +kernel,rfl,by decide +kernel,by decide +kernel⟩
theorem vH {f:Addr} {fd:FuncData} (F:Fun K "_law_right" "_law_right" eC f fd) (B:Bt mg) (F_kin:bO P w K mg base "kin" 5 ["one","other"] C2) (F_law_list:bO P w K mg base "_law_list" 2 ["_law_row_here"] jF) (F_law_bars:bO P w K mg base "_law_bars" 2 ["_law_one","_law_other"] uZ) (F_law_same:bO P w K mg base "_law_same" 4 ["_law_found","_law_due"] (W9 (kJ 3) lM)) (F_law_walks_right:bO P w K mg base "_law_walks_right" 6 ["_law_one","_law_other","_law_walks_here"] i7):FnOk P w K mg base CX0 7 f fd ["_law_one","_law_other"] pL:=by
 refine F.ok fL (fun vs H Q E h=>?_) (fun cdv A outer s H vs Q E hr h=>?_)
 ·obtain⟨a,b,r1,r2,rfl,_⟩:=h;rfl
 ·obtain⟨a,b,r1,r2,rfl,ha,hr1,hl1,hb,hr2,hl2,kk⟩:=h;have hu:=hr.units;refine⟨_,(aQ (aR (i:=2) fL.nd rfl (Or.inl rfl) (cC (aA (eZ eE (by rfl) B.list bZ (aA (pv 0) aC)) (aA (eZ eE (by rfl) B.list bZ (aA (pv 1) aC)) aC))))
 (aQ (aR (i:=3) fL.nd rfl (Or.inr rfl) (bE F_kin hr rfl (aA (bJ bF (pv 2) aD (fun _ _=>rfl)) (aA (bJ bF (pv 2) aD (fun _ _=>rfl)) aC))))
 (aQ (aR (i:=4) fL.nd rfl (Or.inl rfl) (bE F_law_bars hr rfl (aA (bE F_law_list hr rfl (aA (pv 0) aC)) (aA (bE F_law_list hr rfl (aA (pv 1) aC)) aC))))
 (aQ (cJ (PW.pt (jV (aV (nP hu) (pv 2) (cC (aA (pv 0) (aA (pv 1) aC))) (aP _)) (jV (kA (eM (aF aZ (by rfl) B.isinstance aI (aA (pv 3) (aA (bA (v:=.ty "tuple") rfl B.tuple cT rfl) aC))) (fun _=>rfl))) (iO (aV tV (aF aS (by rfl) B.len PySem.boot_len (aA (pv 3) aC)) aD (aP _))))))
 (aJ (bB lO))
 bG)
 (aQ (cJ (aV (nP hu) (pv 4) (cC aC) (aP _))
 (aJ (bB (aF (L6 rfl) (by rfl) B.any W1 (aA (cD ["_law_bar"] ["_law_found"] [3] rfl (.of (show cB (aE eC) _ ["_law_one","_law_other","_law_handed","_law_found","_law_bars_here","_law_again"] [3] ["_law_found"]=true by decide +kernel)) (bL (pv 4)) (fun _ _ _=>(aL (i:=0) (show (["_law_bar","_law_found"]:List Str).Nodup by decide +kernel) rfl (Or.inl rfl))) (fH (by decide)) (fun _ _ _=>cA) (fun _ _ _=>(bE F_law_same hr rfl (aA (pv 1) (aA (pv 0) aC))))) aC))))
 bG)
 (aQ (cJ (PW.pt (jV (kA (eM (bE F_law_same hr rfl (aA (bJ iR (pv 3) aD (fun _ _=>rfl)) (aA lV aC))) (fun _=>rfl))) (iO (kA (eM (bE F_law_walks_right hr rfl (aA (pv 0) (aA (pv 1) (aA (bJ iR (pv 3) aD (fun _ _=>rfl)) aC)))) (fun _=>rfl))))))
 (aJ (bB lO))
 bG)
 (aQ (bI (eK aBm aBn aBo bT (bJ iR (pv 3) aD (fun _ _=>rfl)) (aA (cL (aA aD (aA aD aC))) aC)))
 (aQ (aR (i:=5) fL.nd rfl (Or.inl rfl) (bE F_kin hr rfl (aA (bJ bF (pv 2) aD (fun _ _=>rfl)) (aA (bJ bF (pv 2) aD (fun _ _=>rfl)) aC))))
 (aJ (bB (iQ (dE (pT hu) (bJ iR (pv 5) aD (fun _ _=>rfl)) lV (aP _)) (iP (bE F_law_walks_right hr rfl (aA (pv 0) (aA (pv 1) (aA (bJ iR (pv 5) aD (fun _ _=>rfl)) aC)))))))))))))))),?_⟩
  refine fun M1 hM1=>?_;refine⟨_,rfl,a,_,rfl,.inl (SqL.of ha),fun h1 hh1=>?_⟩;have g1:=Same.upd (o:=.lst (r1.map V.int)) hh1;have e1:(upd H h1 (.lst (r1.map V.int))) h1=some (.lst (r1.map V.int)):=aB;generalize upd H h1 (.lst (r1.map V.int))=H1 at g1 e1 ⊢;refine⟨_,rfl,b,_,rfl,.inl (SqL.of (g1 _ _ hb)),fun h2 hh2=>?_⟩;have g2:=Same.upd (o:=.lst (r2.map V.int)) hh2;have e2:(upd H1 h2 (.lst (r2.map V.int))) h2=some (.lst (r2.map V.int)):=aB;generalize upd H1 h2 (.lst (r2.map V.int))=H2 at g2 e2 ⊢;refine⟨(show 2<=sizeLine by decide),fun lh hlh=>?_⟩;have g3:=Same.upd (o:=.lst [V.ref h1,V.ref h2]) hlh;have elh:(upd H2 lh (.lst [V.ref h1,V.ref h2])) lh=some (.lst [V.ref h1,V.ref h2]):=aB;generalize upd H2 lh (.lst [V.ref h1,V.ref h2])=H3 at g3 elh ⊢;have s3:=(g1.trans g2).trans g3;have e13:=(g2.trans g3) _ _ e1;have e23:=g3 _ _ e2;refine hM1 [some (.ref a),some (.ref b),some (.ref lh),none,none,none] _ ?_;clear hM1 M1 g1 g2 g3 e1 e2 hh1 hh2 hlh;refine fun M1 hM1=>?_;refine⟨_,rfl,lh,_,_,_,rfl,rfl,SqL.of elh,rfl,_,rfl,lh,_,_,_,rfl,rfl,SqL.of elh,rfl,?_⟩;refine⟨h1,h2,r1,r2,rfl,e13,hr1,by omega,e23,hr2,by omega,fun ps1 ps2 t xs H4 L1 sp1 L2' sp2 ht g4 et kr=>?_⟩;refine hM1 [some (.ref a),some (.ref b),some (.ref lh),some (.ref t),none,none] _ ?_;clear hM1 M1;refine fun M1 hM1=>?_;have s4:=s3.trans g4;refine⟨_,rfl,a,r1,rfl,s4 _ _ ha,hr1,by omega,fun qs1 hL1 hq1 la va H5 hla g5 ela pra=>?_⟩;have s5:=s4.trans g5;refine⟨_,rfl,b,r2,rfl,s5 _ _ hb,hr2,by omega,fun qs2 hL2 hq2 lb vb H6 hlb g6 elb prb=>?_⟩;obtain rfl:qs1=ps1:=mU (hL1.uniq L1) hq1 sp1;obtain rfl:qs2=ps2:=mU (hL2.uniq L2') hq2 sp2;have z1:=hL1.sizx;have z2:=hL2.sizx;have hf1:=Lst.few hL1 (by omega);have hf2:=Lst.few hL2 (by omega);refine⟨la,lb,qs1,qs2,rfl,LP.mono g6 ⟨va,ela,pra⟩,⟨vb,elb,prb⟩,fun p hp=>?_,?_,hf1,hf2,fun bs l4 us4 H7 hl4 g7 el4 br bo=>?_⟩
  ·rcases aBs.mp hp with q | q
   ·exact hL1.pos p q
   ·exact hL2.pos p q
  ·have:siz (qs1++qs2)=siz qs1+siz qs2:=by unfold siz;rw[aB2,List.sum_append]
   omega
  refine hM1 [some (.ref a),some (.ref b),some (.ref lh),some (.ref t),some (.ref l4),none] _ ?_;clear hM1 M1;have g47:=(g5.trans g6).trans g7;have s7:=s4.trans g47;have s37:=g4.trans g47;clear g5 g6 g7 ela pra elb prb hla hlb s5;refine fun M1 hM1=>?_;have two:∀ {H':Hp},Same H3 H'->Den H' (.ref lh) (.list [.list (r1.map PyData.int),.list (r2.map PyData.int)]):=fun g=>.lst (g _ _ elh) (.cons (Den.ints (g _ _ e13)) (.cons (Den.ints (g _ _ e23)) .nil));have two':∀ {H':Hp} {q:Addr},Same H H'->H' q=some (.lst [V.ref a,V.ref b])->Den H' (.ref q) (.list [.list (r1.map PyData.int),.list (r2.map PyData.int)]):=fun g e=>.lst e (.cons (Den.ints (g _ _ ha)) (.cons (Den.ints (g _ _ hb)) .nil));have hsh2:SeqAt.shaped (.list [.list (r1.map PyData.int),.list (r2.map PyData.int)])=true:=M6 r1 r2;refine⟨_,rfl,_,rfl,_,rfl,(show 2<=sizeLine by decide),fun q hq=>?_⟩;have g8:=Same.upd (o:=.lst [V.ref a,V.ref b]) hq;have eq:(upd H7 q (.lst [V.ref a,V.ref b])) q=some (.lst [V.ref a,V.ref b]):=aB;generalize upd H7 q (.lst [V.ref a,V.ref b])=H8 at g8 eq ⊢;have s8:=s7.trans g8;have s38:=s37.trans g8;have g48:=g47.trans g8;refine⟨_,_,two s38,two' s8 eq,hsh2,hsh2,_,rfl,?_⟩;rw[kK hsh2];obtain⟨hx2,ds,dsx⟩:=kr.den;have et8:=g48 _ _ et;have dt8:Den H8 (.ref t) (.tuple ds):=(Den.tup et dsx).mono g48;refine⟨_,rfl,_,"tuple",.tuple ds,true,rfl,dt8,rfl,_,rfl,?_⟩;refine⟨_,rfl,t,_,rfl,.inr (SqT.of et8),_,_,rfl,rfl,_,rfl,oC (by rw[hx2];rfl) ?_⟩;refine hM1 _ _ ?_;clear hM1 M1;have el48:=g8 _ _ el4;have br8:=br.mono (TupS.same g8);clear eq hq g8 el4 br g47 s7 s37;refine fun M1 hM1=>?_;refine⟨_,rfl,by decide,fun z0 hz0=>?_⟩;have g9:=Same.upd (o:=.lst []) hz0;have ez0:(upd H8 z0 (.lst [])) z0=some (.lst []):=aB;generalize upd H8 z0 (.lst [])=H9 at g9 ez0 ⊢;have el49:=g9 _ _ el48;have br9:=br8.mono (TupS.same g9);have s9:=s8.trans g9;have et9:=g9 _ _ et8;refine⟨_,_,.lst el49 br9.dens,Den.ints (ns:=[]) ez0,oO bo.txt,cQ [],_,rfl,?_⟩;rw[nE];rcases kr.bars bo with ⟨x,hx,hm⟩ | ⟨l,us,ms,rfl,k,hm,hl,el,pr⟩
  ·subst hx;rw[aB9 (fun e=>by rw[e]at hm;cases hm)];show (if (!false)=true then _ else _);rw[if_pos (show (!false)=true from rfl)];have hb18:=bo.len;have eul:us4.length=bs.length:=Paired.length br9;refine⟨_,rfl,l4,rfl,⟨_,SqL.of el49⟩,bU (K:=K) (a:=l4) (xs:=us4) (fun i ys HA=>Same H9 HA/\ys=((bs.take i).map fun b=>decide (x=b)).map V.bl) ⟨Same.refl _,rfl⟩ ?_ ?_ ?_⟩
   ·rintro i ys HA hi ⟨sA,rfl⟩;exact⟨SqL.of (sA _ _ el49),by rw[aBN,aBN,aB3];exact aO (by omega)⟩
   ·rintro i v ys HA hi ⟨sA,rfl⟩;obtain⟨y,hy,u,rfl,eu⟩:=paired_get br9 hi;have hym:=aBY hy;refine⟨_,rfl,_,rfl,.inr ⟨t,u,x,y,rfl,sA _ _ et9,sA _ _ eu,bo.txt x hm,bo.txt y hym,fun HB sB=>⟨sA.trans sB,?_⟩⟩⟩;rw[aBj,hy];simp
   ·rintro ys HA ⟨sA,rfl⟩ D hD;rw[eul,aB1];refine⟨D,_,rfl,aB,?_⟩;rw[show (bs.map fun b=>decide (x=b)).any id=true by rw[List.any_map,List.any_eq_true];exact⟨x,hm,by simp⟩];exact kk _ ((s9.trans sA).trans (Same.upd hD))
  ·have hbs:=bo.no k.cnt k.gs;refine oC hbs ?_;refine hM1 _ _ ?_;clear hM1 M1;have g49:=g48.trans g9;have el9:=g49 _ _ el;have pr9:=pr.mono (TupS.same g49);obtain⟨w1,w2,w3,w4⟩:=k.right hm hL2;generalize hws:nC (stf ms (grt ms)) (grt ms)=ws at w1 w2 w3 w4 pr9;refine fun M1 hM1=>?_;refine⟨_,rfl,t,_,_,_,rfl,rfl,SqT.of et9,rfl,.inl ⟨_,_,_,rfl,.str _,.str _,(by decide),nF (by decide +kernel),rfl,fun HA sA=>?_⟩⟩;refine⟨_,rfl,?_⟩;have s9A:=s9.trans sA;refine⟨_,rfl,_,rfl,_,rfl,t,_,_,_,rfl,rfl,SqT.of (sA _ _ et9),rfl,?_⟩;refine⟨a,b,l,r1,r2,qs1,ws,rfl,s9A _ _ ha,hr1,by omega,s9A _ _ hb,⟨us,sA _ _ el9,pr9.mono (TupS.same sA)⟩,w1,hL1,w2,w3,w4,fun HB sB=>?_⟩;refine⟨_,rfl,?_⟩;have gB:=sA.trans sB;refine hM1 [some (.ref a),some (.ref b),some (.ref lh),some (.ref t),some (.ref l4),none] _ ?_;clear hM1 M1;refine fun M1 hM1=>?_;have etB:=gB _ _ et9;have elB:=gB _ _ el9;have eus:us.length=ws.length:=by have:=pr9.len;exact this
   refine⟨_,rfl,t,_,_,_,rfl,rfl,SqT.of etB,rfl,.inl ⟨rfl,_,SqL.of elB⟩,(show 2<=sizeLine by decide),fun t1 ht1=>?_⟩;have gC:=Same.upd (o:=.tup [V.int 1,V.int 1]) ht1;generalize upd HB t1 (.tup [V.int 1,V.int 1])=HC at gC ⊢;refine⟨l,us,_,rfl,rfl,gC _ _ elB,aO (by omega),?_⟩;have sC:=(s9.trans gB).trans gC;have hH3l:H3 l=none:=hl;have hHl:H l=none:=s3.free hl;have kD:∀ y o,y≠l->HC y=some o->(upd HC l (.lst (us++[V.ref t1]))) y=some o:=fun y o h e=>by rw[aH h];exact e
   have s3C:Same H3 HC:=((s38.trans g9).trans gB).trans gC;have nl:∀ y o,H3 y=some o->y≠l:=fun y o e z=>by rw[z,hl]at e;cases e
   have nl0:∀ y o,H y=some o->y≠l:=fun y o e z=>by rw[z,hHl]at e;cases e
   have s3D:Same H3 (upd HC l (.lst (us++[V.ref t1]))):=fun y o e=>kD y o (nl y o e) (s3C _ _ e);generalize upd HC l (.lst (us++[V.ref t1]))=HD at kD s3D ⊢;refine hM1 [some (.ref a),some (.ref b),some (.ref lh),some (.ref t),some (.ref l4),none] _ ?_;clear hM1 M1;refine fun M1 hM1=>?_;refine⟨_,rfl,lh,_,_,_,rfl,rfl,SqL.of (s3D _ _ elh),rfl,_,rfl,lh,_,_,_,rfl,rfl,SqL.of (s3D _ _ elh),rfl,?_⟩;refine⟨h1,h2,r1,r2,rfl,s3D _ _ e13,hr1,by omega,s3D _ _ e23,hr2,by omega,fun ps3 ps4 t2 xs2 HE L3 sp3 L4 sp4 ht2 gE et2 kr2=>?_⟩;obtain rfl:ps3=qs1:=mU (L3.uniq hL1) sp3 hq1;obtain rfl:ps4=qs2:=mU (L4.uniq hL2) sp4 hq2;refine hM1 [some (.ref a),some (.ref b),some (.ref lh),some (.ref t),some (.ref l4),some (.ref t2)] _ ?_;clear hM1 M1;have sE:=(s3.trans s3D).trans gE;cases kr2 with
   | sizes s h=>exact absurd (k.cnt s) h
   | apart s c h=>exact(k.not_apart h).elim
   | walks l' us' ms' k' hm' hl' el' pr' =>
    obtain⟨w1',w2',w3',w4'⟩:=k'.right hm' hL2;refine⟨_,rfl,t2,_,_,_,rfl,rfl,SqT.of et2,rfl,_,_,.str _,.str _,nF (by decide +kernel),nF (by decide +kernel),?_⟩;rw[aAg,aBa rfl];refine⟨_,rfl,?_⟩;refine⟨_,rfl,_,rfl,_,rfl,t2,_,_,_,rfl,rfl,SqT.of et2,rfl,?_⟩;exact⟨a,b,l',r1,r2,ps3,_,rfl,sE _ _ ha,hr1,by omega,sE _ _ hb,⟨us',el',pr'⟩,w1',hL1,w2',w3',w4',fun HF sF=>kk _ (sE.trans sF)⟩
end
section
variable {P:Program} {w:World} {K:PySem.W.Frag} {mg:Str->Option Value} {base:Heap}
abbrev lT:Stmt:=top 45
theorem lB:bC ["_law_script","_law_numbers_here","_law_row_here","_law_walks_here","_law_pairs","_law_others","_law_at","_law_more"] ["_law_script"] (aE lT):=⟨rfl,rfl,rfl,by decide +kernel,rfl,by decide +kernel,by decide +kernel⟩
theorem aAD {f:Addr} {fd:FuncData} (F:Fun K "law" "law" lT f fd) (B:Bt mg) (F_law_numbers:bO P w K mg base "_law_numbers" 1 ["_law_script","_law_many"] (lG K)) (F_law_long_row:bO P w K mg base "_law_long_row" 2 ["_law_d","_law_most"] uA) (F_law_walks:bO P w K mg base "_law_walks" 1 ["_law_d","_law_many"] pJ) (F_law_ten:bO P w K mg base "_law_ten" 1 ["_law_many"] zV)
 (F_law_list:bO P w K mg base "_law_list" 2 ["_law_row_here"] jF) (F_law_adds:bO P w K mg base "_law_adds" 1 ["_law_pairs","_law_walks_here"] uN) (F_law_stones:bO P w K mg base "_law_stones" 2 ["_law_pairs"] mW) (F_law_right:bO P w K mg base "_law_right" 7 ["_law_one","_law_other"] pL) :
 FnOk P w K mg base CX0 8 f fd ["_law_script"] (vU K):=by
 refine F.ok lB (fun vs H Q E h=>?_) (fun cdv A outer s H vs Q E hr h=>?_)
 ·obtain⟨a,ns,rfl,_⟩:=h;rfl
 ·obtain⟨a,sc,rfl,hS,hlen,kk⟩:=h;have hu:=hr.units;refine⟨_,(aQ (aR (i:=1) lB.nd rfl (Or.inl rfl) (bE F_law_numbers hr rfl (aA (pv 0) (aA aD aC))))
 (aQ (aR (i:=2) lB.nd rfl (Or.inr rfl) (bE F_law_long_row hr rfl (aA (dN eU (pv 1) (eQ aD) eP) (aA (bJ bF (cC (aA aD (aA aD (aA aD aC)))) (aK cO (bJ bF (pv 1) aD (fun _ _=>rfl)) aD) (fun _ _=>rfl)) aC))))
 (aQ (aR (i:=3) lB.nd rfl (Or.inl rfl) (aK jM (bE F_law_walks hr rfl (aA (dN eU (pv 1) (eQ aD) eP) (aA aD aC))) (cC (aA (cL (aA (aK bQ aD (aK cO (bJ bF (pv 1) aD (fun _ _=>rfl)) aD)) (aA (aK cN (aK cG (aK cO (bJ bF (pv 1) aD (fun _ _=>rfl)) aD) aD) (bE F_law_ten hr rfl (aA (aK cO (bJ bF (pv 1) aD (fun _ _=>rfl)) aD) aC))) aC))) aC))))
 (aQ (aR (i:=4) lB.nd rfl (Or.inl rfl) (bE F_law_adds hr rfl (aA (bE F_law_list hr rfl (aA (pv 2) aC)) (aA (pv 3) aC))))
 (aQ (aR (i:=5) lB.nd rfl (Or.inl rfl) (cC (aA (pv 2) (aA (bE F_law_stones hr rfl (aA (pv 4) aC)) (aA (bE F_law_long_row hr rfl (aA (dN eU (pv 1) (eQ aD) eP) (aA aD aC))) aC)))))
 (aQ (cJ (aV (nP hu) (pv 4) (cC aC) (aP _))
 (aQ (aR (i:=6) lB.nd rfl (Or.inl rfl) (aK cO (bJ bF (pv 1) aD (fun _ _=>rfl)) (aF aS (by rfl) B.len PySem.boot_len (aA (pv 4) aC))))
 (aQ (aR (i:=7) lB.nd rfl (Or.inl rfl) (aK jM (aK jM (dN eU (pv 4) eP (eQ (pv 6))) (cC (aA (cL (aA (bJ iR (bJ bF (pv 4) (pv 6) (fun _ _=>rfl)) aD (fun _ _=>rfl)) (aA (aK bQ (aK bQ (bJ iR (bJ bF (pv 4) (pv 6) (fun _ _=>rfl)) aD (fun _ _=>rfl)) aD) (aK cO (bJ bF (pv 1) aD (fun _ _=>rfl)) aD)) aC))) aC))) (dN eU (pv 4) (eQ (aK bQ (pv 6) aD)) eP)))
 (aQ (bI (eK aBm aBn aBo bT (pv 5) (aA (bE F_law_stones hr rfl (aA (pv 7) aC)) aC)))
 (aQ (bI (eK aBm aBn aBo bT (pv 5) (aA (bE F_law_stones hr rfl (aA (aK jM (aK jM (dN eU (pv 4) eP (eQ (pv 6))) (cC (aA (cL (aA (aK bQ (bJ iR (bJ bF (pv 4) (pv 6) (fun _ _=>rfl)) aD (fun _ _=>rfl)) aD) (aA (bJ iR (bJ bF (pv 4) (pv 6) (fun _ _=>rfl)) aD (fun _ _=>rfl)) aC))) aC))) (dN eU (pv 4) (eQ (aK bQ (pv 6) aD)) eP)) aC)) aC)))
 (aJ (bI (eK aBm aBn aBo bT (pv 5) (aA (bE F_law_stones hr rfl (aA (aK jM (pv 7) (dN eU (pv 4) eP (eQ aD))) aC)) aC))))))))
 bG)
 (aJ (bB (aF (kF rfl) (by rfl) B.all kG (aA (cD ["_law_other"] ["_law_row_here"] [2] rfl (.of (show cB (aE lT) _ ["_law_script","_law_numbers_here","_law_row_here","_law_walks_here","_law_pairs","_law_others","_law_at","_law_more"] [2] ["_law_row_here"]=true by decide +kernel)) (bL (pv 5)) (fun _ _ _=>(aL (i:=0) (show (["_law_other","_law_row_here"]:List Str).Nodup by decide +kernel) rfl (Or.inl rfl))) (fH (by decide)) (fun _ _ _=>cA) (fun _ _ _=>(iQ (bE F_law_right hr rfl (aA (pv 1) (aA (pv 0) aC))) (iP (bE F_law_right hr rfl (aA (pv 0) (aA (pv 1) aC))))))) aC)))))))))),?_⟩
  refine fun M1 hM1=>?_;refine⟨_,rfl,a,sc,120,rfl,hS,hlen,by decide,fun l1 nums H1 hnl hnums hl1 sm1 el1=>?_⟩;refine hM1 [some (.ref a),some (.ref l1),none,none,none,none,none,none] _ ?_;clear hM1 M1;obtain⟨n0,m0,_,e0⟩:=dB (ns:=nums) (i:=0) (by omega) (by omega);obtain⟨n1,m1,_,e1⟩:=dB (ns:=nums) (i:=1) (by omega) (by omega);obtain⟨n2,m2,_,e2⟩:=dB (ns:=nums) (i:=2) (by omega) (by omega);obtain⟨n3,m3,_,e3⟩:=dB (ns:=nums) (i:=3) (by omega) (by omega);obtain⟨n4,m4,_,e4⟩:=dB (ns:=nums) (i:=4) (by omega) (by omega);refine fun M1 hM1=>?_;refine⟨_,rfl,_,rfl,l1,_,rfl,SqL.of el1,fun p1 hp1=>?_⟩;rw[show gK (nums.map V.int) (some 5) none=(nums.drop 5).map V.int from mI nums 5 (by omega)];have g2:=Same.upd (o:=.lst ((nums.drop 5).map V.int)) hp1;have ep1:(upd H1 p1 (.lst ((nums.drop 5).map V.int))) p1=some (.lst ((nums.drop 5).map V.int)):=aB;generalize upd H1 p1 (.lst ((nums.drop 5).map V.int))=H2 at g2 ep1 ⊢;refine⟨(show 3<=sizeLine by decide),fun p2 hp2=>?_⟩;have g3:=Same.upd (o:=.lst [V.int 5,V.int 12,V.int 20]) hp2;have ep2:(upd H2 p2 (.lst [V.int 5,V.int 12,V.int 20])) p2=some (.lst ([5,12,20].map V.int)):=aB;generalize upd H2 p2 (.lst [V.int 5,V.int 12,V.int 20])=H3 at g3 ep2 ⊢;obtain⟨wd,hwd,_,ew⟩:=dB (ns:=[5,12,20]) (i:=n0 % 3) (Int.emod_nonneg _ (by decide)) (Int.emod_lt_of_pos _ (by decide));have hwd2:0<=wd/\wd<=20:=by simp at hwd;omega
  obtain⟨wn,rfl⟩:∃ wn:Nat,wd=(wn:Int):=⟨wd.toNat,by omega⟩;refine⟨_,rfl,l1,_,_,_,rfl,rfl,SqL.of ((g2.trans g3) _ _ el1),e0,_,_,rfl,rfl,(by show (0:Int)<3;decide),p2,_,_,_,rfl,rfl,SqL.of ep2,ew,?_⟩;refine⟨p1,nums.drop 5,wn,rfl,g3 _ _ ep1,fun n hn=>hnums n (List.mem_of_mem_drop hn),by simp;omega,by omega,fun row hrow hrl l2 H4 hl2 g4 el2=>?_⟩;have hrl20:row.length<=20:=by omega
  refine hM1 [some (.ref a),some (.ref l1),some (.ref l2),none,none,none,none,none] _ ?_;clear hM1 M1;have s4:=(g2.trans g3).trans g4;have el4:=s4 _ _ el1;clear g2 g3 g4 ep1 ep2 hp1 hp2 ew hwd hwd2 hrl;refine fun M1 hM1=>?_;refine⟨_,rfl,_,rfl,l1,_,rfl,SqL.of el4,fun p3 hp3=>?_⟩;rw[show gK (nums.map V.int) (some 40) none=(nums.drop 40).map V.int from mI nums 40 (by omega)];have g5:=Same.upd (o:=.lst ((nums.drop 40).map V.int)) hp3;have ep3:(upd H4 p3 (.lst ((nums.drop 40).map V.int))) p3=some (.lst ((nums.drop 40).map V.int)):=aB;generalize upd H4 p3 (.lst ((nums.drop 40).map V.int))=H5 at g5 ep3 ⊢;refine⟨p3,nums.drop 40,6,rfl,ep3,by simp;omega,by decide,fun ws hwl hcr _ lw vw H6 hlw g6 elw prw=>?_⟩;have s46:=g5.trans g6;have c1:=Int.emod_nonneg n3 (show (30:Int)≠0 by decide);have c2:=Int.emod_lt_of_pos n3 (show (0:Int)<30 by decide);obtain⟨kb,hkb⟩:∃ kb:Nat,n3 % 30=(kb:Int):=⟨(n3 % 30).toNat,by omega⟩;have d1:=Int.emod_nonneg n2 (show (9:Int)≠0 by decide);have d2:=Int.emod_lt_of_pos n2 (show (0:Int)<9 by decide);have f1:=Int.emod_nonneg n1 (show (9:Int)≠0 by decide);refine⟨_,rfl,l1,_,_,_,rfl,rfl,SqL.of (s46 _ _ el4),e1,_,_,rfl,rfl,(by show (0:Int)<9;decide),_,_,rfl,rfl,?_⟩;refine⟨_,rfl,l1,_,_,_,rfl,rfl,SqL.of (s46 _ _ el4),e2,_,_,rfl,rfl,(by show (0:Int)<9;decide),_,_,rfl,rfl,?_⟩;refine⟨_,rfl,l1,_,_,_,rfl,rfl,SqL.of (s46 _ _ el4),e3,_,_,rfl,rfl,(by show (0:Int)<30;decide),?_⟩;refine⟨kb,by show [V.int (n3 % 30)]=_;rw[hkb],by omega,_,_,rfl,rfl,.inl ⟨by show -(2 ^ 64)<n2 % 9 - 4;omega,by show n2 % 9 - 4<2 ^ 64;omega⟩,?_⟩;refine⟨(show 2<=sizeLine by decide),fun t1 ht1=>?_⟩;have g7:=Same.upd (o:=.tup [V.int (1+n1 % 9),V.int ((n2 % 9 - 4) * 10 ^ kb)]) ht1;have et1:(upd H6 t1 (.tup [V.int (1+n1 % 9),V.int ((n2 % 9 - 4) * 10 ^ kb)])) t1=some (.tup [V.int (1+n1 % 9),V.int ((n2 % 9 - 4) * 10 ^ kb)]):=aB;generalize upd H6 t1 (.tup [V.int (1+n1 % 9),V.int ((n2 % 9 - 4) * 10 ^ kb)])=H7 at g7 et1 ⊢;refine⟨(show 1<=sizeLine by decide),fun p4 hp4=>?_⟩;have g8:=Same.upd (o:=.lst [V.ref t1]) hp4;have ep4:(upd H7 p4 (.lst [V.ref t1])) p4=some (.lst [V.ref t1]):=aB;generalize upd H7 p4 (.lst [V.ref t1])=H8 at g8 ep4 ⊢;have ewl:vw.length=ws.length:=prw.len;refine⟨lw,p4,vw,[V.ref t1],rfl,rfl,(g7.trans g8) _ _ elw,ep4,gL (by simp;omega),fun l3 hl3=>?_⟩;have g9:=Same.upd (o:=.lst (vw++[V.ref t1])) hl3;have el3:(upd H8 l3 (.lst (vw++[V.ref t1]))) l3=some (.lst (vw++[V.ref t1])):=aB;generalize upd H8 l3 (.lst (vw++[V.ref t1]))=H9 at g9 el3 ⊢;have s69:=(g7.trans g8).trans g9;have pr9:Prs H9 (vw++[V.ref t1]) (ws++[(1+n1 % 9,(n2 % 9 - 4) * 10 ^ kb)]):=Paired.append' (Prs.mono (TupS.same s69) prw) (.cons ⟨t1,rfl,(g8.trans g9) _ _ et1⟩ .nil);have hcr9:Crl (ws++[(1+n1 % 9,(n2 % 9 - 4) * 10 ^ kb)]):=fun q hq=>by
   rcases aBs.mp hq with h | h
   ·exact hcr q h
   ·rw[aBk.mp h];show 1<=1+n1 % 9;omega
  have hwl9:(ws++[(1+n1 % 9,(n2 % 9 - 4) * 10 ^ kb)]).length<=200:=by simp;omega
  have LPw:LP H9 l3 (ws++[(1+n1 % 9,(n2 % 9 - 4) * 10 ^ kb)]):=⟨_,el3,pr9⟩;generalize ws++[(1+n1 % 9,(n2 % 9 - 4) * 10 ^ kb)]=ws9 at LPw hcr9 hwl9;refine hM1 [some (.ref a),some (.ref l1),some (.ref l2),some (.ref l3),none,none,none,none] _ ?_;clear hM1 M1;have s49:=s46.trans s69;have el9:=s49 _ _ el4;have er9:=s49 _ _ el2;clear g5 g6 g7 g8 g9 ep3 ep4 et1 elw prw el3 pr9 s46 s69 s49 hp3 hp4 ht1 hl3 hlw;refine fun M1 hM1=>?_;refine⟨_,rfl,l2,row,rfl,er9,hrow,by omega,fun qs hL _ lq vq H10 hlq g10 elq prq=>?_⟩;refine⟨_,rfl,lq,l3,qs,ws9,rfl,⟨vq,elq,prq⟩,hL.trn (by omega),LPw.mono g10,hwl9,hcr9,fun ps hps _ l4 v4 H11 hl4 g11 el4p pr4=>?_⟩;refine hM1 [some (.ref a),some (.ref l1),some (.ref l2),some (.ref l3),some (.ref l4),none,none,none] _ ?_;clear hM1 M1;have s911:=g10.trans g11;have el11:=s911 _ _ el9;have er11:=s911 _ _ er9;have hpos:∀ p∈ps,1<=p.1:=fun p hp=>by
   obtain⟨q,hq,rfl⟩:=aBt.mp (hps.mem_iff.mp hp);exact hL.pos q hq
  have hsiz:siz ps<=20:=by
   rw[jC hps];have:siz (cR qs ws9)=siz qs:=by unfold siz cR;rw[aBi];rfl
   have:=hL.sizx;omega
  have hsz0:=X0 hpos;have hplen:ps.length<=20:=by have:=cU hpos;unfold szs at this;unfold siz at hsiz;omega
  have evl:v4.length=ps.length:=pr4.len;clear g10 g11 s911 hL elq prq hlq LPw hcr9 hwl9 hps;refine fun M1 hM1=>?_;refine⟨_,rfl,_,rfl,l4,ps,rfl,⟨v4,el4p,pr4⟩,vA hpos (by omega),fun ra hLa pa H12 hpa g12 epa=>?_⟩;refine⟨_,rfl,_,rfl,l1,_,rfl,SqL.of (g12 _ _ el11),fun p5 hp5=>?_⟩;rw[show gK (nums.map V.int) (some 60) none=(nums.drop 60).map V.int from mI nums 60 (by omega)];have g13:=Same.upd (o:=.lst ((nums.drop 60).map V.int)) hp5;have ep5:(upd H12 p5 (.lst ((nums.drop 60).map V.int))) p5=some (.lst ((nums.drop 60).map V.int)):=aB;generalize upd H12 p5 (.lst ((nums.drop 60).map V.int))=H13 at g13 ep5 ⊢;refine⟨p5,nums.drop 60,12,rfl,ep5,fun n hn=>hnums n (List.mem_of_mem_drop hn),by simp;omega,by omega,fun rb hrb hrbl pb H14 hpb g14 epb=>?_⟩;refine⟨(show 3<=sizeLine by decide),fun l5 hl5=>?_⟩;have s1114:=(g12.trans g13).trans g14;have g15:=Same.upd (o:=.lst [V.ref l2,V.ref pa,V.ref pb]) hl5;have el5:(upd H14 l5 (.lst [V.ref l2,V.ref pa,V.ref pb])) l5=some (.lst [V.ref l2,V.ref pa,V.ref pb]):=aB;generalize upd H14 l5 (.lst [V.ref l2,V.ref pa,V.ref pb])=H15 at g15 el5 ⊢;have s15:=s1114.trans g15;have er15:=s15 _ _ er11;have el15:=s15 _ _ el11;have zla:=hLa.sizx;have rws:RwsA H15 [V.ref l2,V.ref pa,V.ref pb]:=fun v hv=>by
   simp only[aBr,List.not_mem_nil,or_false]at hv;rcases hv with rfl | rfl | rfl
   ·exact⟨_,row,rfl,er15,hrow,by omega⟩
   ·exact⟨_,ra,rfl,((g13.trans g14).trans g15) _ _ epa,hLa.rowp,by omega⟩
   ·exact⟨_,rb,rfl,g15 _ _ epb,hrb,by omega⟩
  have el415:=s15 _ _ el4p;have pr415:=Prs.mono (TupS.same s15) pr4;have ne5:∀ y o,H11 y=some o->y≠l5:=fun y o e z=>by
   have h:=s1114 _ _ e;rw[z,hl5]at h;cases h
  have n15:=ne5 _ _ el11;have n25:=ne5 _ _ er11;have n45:=ne5 _ _ el4p;have nt5:∀ t xs,H11 t=some (.tup xs)->t≠l5:=fun t xs e=>ne5 _ _ e;refine hM1 [some (.ref a),some (.ref l1),some (.ref l2),some (.ref l3),some (.ref l4),some (.ref l5),none,none] _ ?_;clear hM1 M1 g12 g13 g14 g15 s1114 ep5 epa epb hp5 hpa hpb el11 er11 hl5;refine fun M1 hM1=>?_;have key:∀ (v6 v7:Option V) (us5:List V) (Hx:Hp),Hx l5=some (.lst us5)->us5.length<=10->RwsA Hx us5->Hx l2=some (.lst (row.map V.int))->M1 [some (.ref a),some (.ref l1),some (.ref l2),some (.ref l3),some (.ref l4),some (.ref l5),v6,v7] Hx:=by
   intro v6 v7 us5 Hx e5 hul hR er;refine hM1 _ _ ?_;refine⟨_,rfl,l5,rfl,⟨_,SqL.of e5⟩,bU (K:=K) (a:=l5) (xs:=us5) (fun i ys HA=>Same Hx HA/\ys=(List.replicate i true).map V.bl) ⟨Same.refl _,rfl⟩ ?_ ?_ ?_⟩
   ·rintro i ys HA hi ⟨sA,rfl⟩;exact⟨SqL.of (sA _ _ e5),by rw[aBN,aB8];exact aO (by omega)⟩
   ·rintro i v ys HA hi ⟨sA,rfl⟩;obtain⟨q,r,rfl,eq,hrr,hr40⟩:=hR v (aBY hi);refine⟨_,rfl,_,rfl,l2,q,row,r,rfl,sA _ _ er,hrow,by omega,sA _ _ eq,hrr,hr40,fun HB sB=>?_⟩;have sAB:=sA.trans sB;refine⟨_,rfl,_,rfl,_,rfl,q,l2,r,row,rfl,sAB _ _ eq,hrr,hr40,sAB _ _ er,hrow,by omega,fun HC sC=>?_⟩;refine⟨sAB.trans sC,?_⟩;rw[List.replicate_succ',aB2];rfl
   ·rintro ys HA ⟨sA,rfl⟩ D hD;refine⟨D,_,rfl,aB,?_⟩;rw[show ∀ k:Nat,(List.replicate k true).all id=true from fun k=>by simp];exact kk _
  clear hM1;refine⟨_,rfl,by decide,fun z0 hz0=>?_⟩;have g16:=Same.upd (o:=.lst []) hz0;have ez0:(upd H15 z0 (.lst [])) z0=some (.lst []):=aB;generalize upd H15 z0 (.lst [])=H16 at g16 ez0 ⊢;have e116:=g16 _ _ el15;have e216:=g16 _ _ er15;have e416:=g16 _ _ el415;have p416:=Prs.mono (TupS.same g16) pr415;have e516:=g16 _ _ el5;have rws16:=nG rws g16;have s16:=s15.trans g16;refine⟨_,_,LP.den ⟨v4,e416,p416⟩,Den.ints (ns:=[]) ez0,mK _,cQ [],_,rfl,?_⟩;rw[xO];clear el15 er15 el415 pr415 el5 rws g16 ez0 hz0 s15
  by_cases c:ps=[]
  ·exact oC c (key _ _ _ _ e516 (show 3<=10 by decide) rws16 e216)
  rw[aB9 c];show (if (!false)=true then _ else _);rw[if_pos (show (!false)=true from rfl)];have hpl:0<ps.length:=List.length_pos_iff.mpr c;refine fun M2 hM2=>?_;refine⟨_,rfl,l1,_,_,_,rfl,rfl,SqL.of e116,e4,_,rfl,l4,_,rfl,.inl (SqL.of e416),_,_,rfl,rfl,(by show (0:Int)<(v4.length:Int);omega),?_⟩;have a1:=Int.emod_nonneg n4 (show (v4.length:Int)≠0 by omega);have a2:=Int.emod_lt_of_pos n4 (show (0:Int)<(v4.length:Int)by omega);obtain⟨k,hk⟩:∃ k:Nat,n4 % (v4.length:Int)=(k:Int):=⟨(n4 % (v4.length:Int)).toNat,by omega⟩;show M2 [some (.ref a),some (.ref l1),some (.ref l2),some (.ref l3),some (.ref l4),some (.ref l5),some (.int (n4 % (v4.length:Int))),none] H16;rw[hk]at a2 ⊢;refine hM2 _ _ ?_;clear hM2 M2 hk a1;have hkl:k<ps.length:=by omega
  obtain⟨q,hq⟩:∃ q,ps[k]?=some q:=⟨_,aBX hkl⟩;obtain⟨tq,hv,eq⟩:∃ tq,v4[k]?=some (V.ref tq)/\H16 tq=some (.tup [.int q.1,.int q.2]):=by
   have hkv:k<v4.length:=by omega
   obtain⟨q',t',hq',hv',et'⟩:=bP p416 (aBX hkv);rw[hq]at hq';cases hq';exact⟨t',by rw[aBX hkv,hv'],et'⟩
  have hat:=lE hv;have hqp:=hpos q (aBY hq);have b1:=Int.emod_nonneg n1 (show (5:Int)≠0 by decide);have put:∀ (Hx:Hp) (q':Int×Int) (tn:Addr),Hx l4=some (.lst v4)->Prs Hx v4 ps->Hx tn=some (.tup [.int q'.1,.int q'.2])->Prs Hx ((v4.take k++[V.ref tn])++v4.drop (k+1)) ((ps.take k++[q'])++ps.drop (k+1)):=fun Hx q' tn _ pr e =>
   Paired.append' (Paired.append' (qM k pr) (.cons ⟨tn,rfl,e⟩ .nil)) (wO (k+1) pr)
  refine fun M2 hM2=>?_;refine⟨_,rfl,_,rfl,_,rfl,l4,_,rfl,SqL.of e416,fun c1 hc1=>?_⟩;rw[uB];have g17:=Same.upd (o:=.lst (v4.take k)) hc1;have ec1:(upd H16 c1 (.lst (v4.take k))) c1=some (.lst (v4.take k)):=aB;generalize upd H16 c1 (.lst (v4.take k))=H17 at g17 ec1 ⊢;refine⟨_,rfl,_,rfl,l4,_,_,_,rfl,rfl,SqL.of (g17 _ _ e416),hat,tq,_,_,_,rfl,rfl,SqT.of (g17 _ _ eq),rfl,?_⟩;refine⟨_,rfl,_,rfl,l4,_,_,_,rfl,rfl,SqL.of (g17 _ _ e416),hat,tq,_,_,_,rfl,rfl,SqT.of (g17 _ _ eq),rfl,_,_,rfl,rfl,?_⟩;refine⟨_,rfl,l1,_,_,_,rfl,rfl,SqL.of (g17 _ _ e116),e1,_,_,rfl,rfl,(by show (0:Int)<5;decide),_,_,rfl,rfl,?_⟩;refine⟨(show 2<=sizeLine by decide),fun tn htn=>?_⟩;have g18:=Same.upd (o:=.tup [V.int q.1,V.int (q.2+1+n1 % 5)]) htn;have etn:(upd H17 tn (.tup [V.int q.1,V.int (q.2+1+n1 % 5)])) tn=some (.tup [V.int q.1,V.int (q.2+1+n1 % 5)]):=aB;generalize upd H17 tn (.tup [V.int q.1,V.int (q.2+1+n1 % 5)])=H18 at g18 etn ⊢;refine⟨(show 1<=sizeLine by decide),fun c2 hc2=>?_⟩;have g19:=Same.upd (o:=.lst [V.ref tn]) hc2;have ec2:(upd H18 c2 (.lst [V.ref tn])) c2=some (.lst [V.ref tn]):=aB;generalize upd H18 c2 (.lst [V.ref tn])=H19 at g19 ec2 ⊢;refine⟨c1,c2,_,_,rfl,rfl,(g18.trans g19) _ _ ec1,ec2,gL (by simp;omega),fun c3 hc3=>?_⟩;have g20:=Same.upd (o:=.lst (v4.take k++[V.ref tn])) hc3;have ec3:(upd H19 c3 (.lst (v4.take k++[V.ref tn]))) c3=some (.lst (v4.take k++[V.ref tn])):=aB;generalize upd H19 c3 (.lst (v4.take k++[V.ref tn]))=H20 at g20 ec3 ⊢;have s1620:=((g17.trans g18).trans g19).trans g20;refine⟨_,rfl,_,rfl,_,_,rfl,rfl,_,rfl,l4,_,rfl,SqL.of (s1620 _ _ e416),fun c4 hc4=>?_⟩;rw[show gK v4 (some ((k:Int)+1)) none=v4.drop (k+1) from sQ v4 (k+1)];have g21:=Same.upd (o:=.lst (v4.drop (k+1))) hc4;have ec4:(upd H20 c4 (.lst (v4.drop (k+1)))) c4=some (.lst (v4.drop (k+1))):=aB;generalize upd H20 c4 (.lst (v4.drop (k+1)))=H21 at g21 ec4 ⊢;refine⟨c3,c4,_,_,rfl,rfl,g21 _ _ ec3,ec4,gL (by simp;omega),fun l7 hl7=>?_⟩;have g22:=Same.upd (o:=.lst ((v4.take k++[V.ref tn])++v4.drop (k+1))) hl7;have el7:(upd H21 l7 (.lst ((v4.take k++[V.ref tn])++v4.drop (k+1)))) l7=some (.lst ((v4.take k++[V.ref tn])++v4.drop (k+1))):=aB;generalize upd H21 l7 (.lst ((v4.take k++[V.ref tn])++v4.drop (k+1)))=H22 at g22 el7 ⊢;have s22:=(s1620.trans g21).trans g22;have hl716:H16 l7=none:=(s1620.trans g21).free hl7;have n75:l7≠l5:=fun e=>by rw[e,e516]at hl716;cases hl716
  have pr7:=put H22 (q.1,q.2+1+n1 % 5) tn (s22 _ _ e416) (Prs.mono (TupS.same s22) p416) ((((g19.trans g20).trans g21).trans g22) _ _ etn);obtain⟨hp7,hz7⟩:=C7 (q':=(q.1,q.2+1+n1 % 5)) hq hpos hqp;have e722:(v4.take k++[V.ref tn])++v4.drop (k+1)=(v4.take k++[V.ref tn])++v4.drop (k+1):=rfl;generalize hv7:(v4.take k++[V.ref tn])++v4.drop (k+1)=v7 at el7 pr7;generalize hp7e:(ps.take k++[(q.1,q.2+1+n1 % 5)])++ps.drop (k+1)=ps7 at pr7 hp7 hz7;refine hM2 [some (.ref a),some (.ref l1),some (.ref l2),some (.ref l3),some (.ref l4),some (.ref l5),some (.int k),some (.ref l7)] _ ?_;clear hM2 M2 e722 hv7 hp7e;have hz7':siz ps7<=20:=by
   have:siz ps7=siz ps:=by rw[hz7];show siz ps - q.1+q.1=siz ps;omega
   omega
  have e122:=s22 _ _ e116;have e222:=s22 _ _ e216;have e422:=s22 _ _ e416;have p422:=Prs.mono (TupS.same s22) p416;have e522:=s22 _ _ e516;have rws22:=nG rws16 s22;have eq22:=s22 _ _ eq;have s1122:=s16.trans s22;clear g17 g18 g19 g20 g21 g22 s1620 ec1 ec2 ec3 ec4 etn hc1 hc2 hc3 hc4 htn hl7 e116 e216 e416 p416 e516 rws16 eq s22 hz7;refine fun M2 hM2=>?_;refine⟨_,rfl,.inl ⟨rfl,_,SqL.of e522⟩,_,rfl,l7,ps7,rfl,⟨v7,el7,pr7⟩,vA hp7 (by omega),fun r1 hL1 pc H23 hpc g23 epc=>?_⟩;have z1:=hL1.sizx;refine⟨l5,_,_,rfl,rfl,g23 _ _ e522,aO (show 3<=10000 by decide),?_⟩;have rw24:=RwsA.add e522 rws22 hpc g23 epc hL1.rowp (by omega);have e524:(upd H23 l5 (.lst ([V.ref l2,V.ref pa,V.ref pb]++[V.ref pc]))) l5=some (.lst ([V.ref l2,V.ref pa,V.ref pb]++[V.ref pc])):=aB;have k24:∀ y o,y≠l5->H22 y=some o->(upd H23 l5 (.lst ([V.ref l2,V.ref pa,V.ref pb]++[V.ref pc]))) y=some o:=fun y o h e=>by rw[aH h];exact g23 _ _ e
  have T24:TupS H22 (upd H23 l5 (.lst ([V.ref l2,V.ref pa,V.ref pb]++[V.ref pc]))):=TupS.trans (TupS.same g23) (TupS.lst (g23 _ _ e522));generalize upd H23 l5 (.lst ([V.ref l2,V.ref pa,V.ref pb]++[V.ref pc]))=H24 at rw24 e524 k24 T24 ⊢;refine hM2 [some (.ref a),some (.ref l1),some (.ref l2),some (.ref l3),some (.ref l4),some (.ref l5),some (.int k),some (.ref l7)] _ ?_;clear hM2 M2;have e224:=k24 _ _ n25 e222;have e424:=k24 _ _ n45 e422;have p424:=Prs.mono T24 p422;have e724:=k24 _ _ n75 el7;have p724:=Prs.mono T24 pr7;have eq24:=T24 _ _ eq22;clear e122 e222 e422 p422 e522 el7 pr7 eq22 k24 T24 g23 epc rws22 s1122 s16;refine fun M2 hM2=>?_;refine⟨_,rfl,.inl ⟨rfl,_,SqL.of e524⟩,?_⟩;refine⟨_,rfl,_,rfl,_,rfl,l4,_,rfl,SqL.of e424,fun c1 hc1=>?_⟩;rw[uB];have g17:=Same.upd (o:=.lst (v4.take k)) hc1;have ec1:(upd H24 c1 (.lst (v4.take k))) c1=some (.lst (v4.take k)):=aB;generalize upd H24 c1 (.lst (v4.take k))=H25 at g17 ec1 ⊢;refine⟨_,rfl,_,rfl,l4,_,_,_,rfl,rfl,SqL.of (g17 _ _ e424),hat,tq,_,_,_,rfl,rfl,SqT.of (g17 _ _ eq24),rfl,_,_,rfl,rfl,?_⟩;refine⟨_,rfl,_,rfl,l4,_,_,_,rfl,rfl,SqL.of (g17 _ _ e424),hat,tq,_,_,_,rfl,rfl,SqT.of (g17 _ _ eq24),rfl,?_⟩;refine⟨(show 2<=sizeLine by decide),fun tm htm=>?_⟩;have g18:=Same.upd (o:=.tup [V.int (q.1+1),V.int q.2]) htm;have etm:(upd H25 tm (.tup [V.int (q.1+1),V.int q.2])) tm=some (.tup [V.int (q.1+1),V.int q.2]):=aB;generalize upd H25 tm (.tup [V.int (q.1+1),V.int q.2])=H26 at g18 etm ⊢;refine⟨(show 1<=sizeLine by decide),fun c2 hc2=>?_⟩;have g19:=Same.upd (o:=.lst [V.ref tm]) hc2;have ec2:(upd H26 c2 (.lst [V.ref tm])) c2=some (.lst [V.ref tm]):=aB;generalize upd H26 c2 (.lst [V.ref tm])=H27 at g19 ec2 ⊢;refine⟨c1,c2,_,_,rfl,rfl,(g18.trans g19) _ _ ec1,ec2,gL (by simp;omega),fun c3 hc3=>?_⟩;have g20:=Same.upd (o:=.lst (v4.take k++[V.ref tm])) hc3;have ec3:(upd H27 c3 (.lst (v4.take k++[V.ref tm]))) c3=some (.lst (v4.take k++[V.ref tm])):=aB;generalize upd H27 c3 (.lst (v4.take k++[V.ref tm]))=H28 at g20 ec3 ⊢;have s2428:=((g17.trans g18).trans g19).trans g20;refine⟨_,rfl,_,rfl,_,_,rfl,rfl,_,rfl,l4,_,rfl,SqL.of (s2428 _ _ e424),fun c4 hc4=>?_⟩;rw[show gK v4 (some ((k:Int)+1)) none=v4.drop (k+1) from sQ v4 (k+1)];have g21:=Same.upd (o:=.lst (v4.drop (k+1))) hc4;have ec4:(upd H28 c4 (.lst (v4.drop (k+1)))) c4=some (.lst (v4.drop (k+1))):=aB;generalize upd H28 c4 (.lst (v4.drop (k+1)))=H29 at g21 ec4 ⊢;refine⟨c3,c4,_,_,rfl,rfl,g21 _ _ ec3,ec4,gL (by simp;omega),fun l8 hl8=>?_⟩;have g22:=Same.upd (o:=.lst ((v4.take k++[V.ref tm])++v4.drop (k+1))) hl8;have el8:(upd H29 l8 (.lst ((v4.take k++[V.ref tm])++v4.drop (k+1)))) l8=some (.lst ((v4.take k++[V.ref tm])++v4.drop (k+1))):=aB;generalize upd H29 l8 (.lst ((v4.take k++[V.ref tm])++v4.drop (k+1)))=H30 at g22 el8 ⊢;have s30:=(s2428.trans g21).trans g22;have pr8:=put H30 (q.1+1,q.2) tm (s30 _ _ e424) (Prs.mono (TupS.same s30) p424) ((((g19.trans g20).trans g21).trans g22) _ _ etm);obtain⟨hp8,hz8⟩:=C7 (q':=(q.1+1,q.2)) hq hpos (by show 1<=q.1+1;omega);have hz8':siz ((ps.take k++[(q.1+1,q.2)])++ps.drop (k+1))=siz ps+1:=by rw[hz8];show siz ps - q.1+(q.1+1)=siz ps+1;omega
  refine⟨l8,_,rfl,⟨_,el8,pr8⟩,vA hp8 (by omega),fun r2 hL2 pd H31 hpd g31 epd=>?_⟩;have z2:=hL2.sizx;have e530:=s30 _ _ e524;refine⟨l5,_,_,rfl,rfl,g31 _ _ e530,aO (show 4<=10000 by decide),?_⟩;have rw32:=RwsA.add e530 (nG rw24 s30) hpd g31 epd hL2.rowp (by omega);have e532:(upd H31 l5 (.lst (([V.ref l2,V.ref pa,V.ref pb]++[V.ref pc])++[V.ref pd]))) l5=some (.lst (([V.ref l2,V.ref pa,V.ref pb]++[V.ref pc])++[V.ref pd])):=aB;have s31:=s30.trans g31;have k32:∀ y o,y≠l5->H24 y=some o->(upd H31 l5 (.lst (([V.ref l2,V.ref pa,V.ref pb]++[V.ref pc])++[V.ref pd]))) y=some o:=fun y o h e=>by rw[aH h];exact s31 _ _ e
  have T32:TupS H24 (upd H31 l5 (.lst (([V.ref l2,V.ref pa,V.ref pb]++[V.ref pc])++[V.ref pd]))):=TupS.trans (TupS.same s31) (TupS.lst (g31 _ _ e530));generalize upd H31 l5 (.lst (([V.ref l2,V.ref pa,V.ref pb]++[V.ref pc])++[V.ref pd]))=H32 at rw32 e532 k32 T32 ⊢;refine hM2 [some (.ref a),some (.ref l1),some (.ref l2),some (.ref l3),some (.ref l4),some (.ref l5),some (.int k),some (.ref l7)] _ ?_;clear hM2 M2;have e232:=k32 _ _ n25 e224;have e432:=k32 _ _ n45 e424;have p432:=Prs.mono T32 p424;have e732:=k32 _ _ n75 e724;have p732:=Prs.mono T32 p724;clear e224 e424 p424 e724 p724 eq24 k32 T32 g31 s31 s30 g17 g18 g19 g20 g21 g22 s2428 ec1 ec2 ec3 ec4 etm el8 pr8 epd rw24;refine⟨_,rfl,.inl ⟨rfl,_,SqL.of e532⟩,_,rfl,?_⟩;refine⟨_,rfl,_,rfl,l4,_,rfl,SqL.of e432,fun c1 hc1=>?_⟩;rw[show gK v4 none (some 1)=v4.take 1 from uB v4 1];have g17:=Same.upd (o:=.lst (v4.take 1)) hc1;have ec1:(upd H32 c1 (.lst (v4.take 1))) c1=some (.lst (v4.take 1)):=aB;generalize upd H32 c1 (.lst (v4.take 1))=H33 at g17 ec1 ⊢;have ev7:v7.length=ps7.length:=p732.len;have hl7':ps7.length<=20:=by have:=cU hp7;unfold szs at this;unfold siz at hz7';omega
  refine⟨l7,c1,_,_,rfl,rfl,g17 _ _ e732,ec1,gL (by rw[aB3];omega),fun l9 hl9=>?_⟩;have g18:=Same.upd (o:=.lst (v7++v4.take 1)) hl9;have el9:(upd H33 l9 (.lst (v7++v4.take 1))) l9=some (.lst (v7++v4.take 1)):=aB;generalize upd H33 l9 (.lst (v7++v4.take 1))=H34 at g18 el9 ⊢;have s34:=g17.trans g18;have pr9:Prs H34 (v7++v4.take 1) (ps7++ps.take 1):=Paired.append' (Prs.mono (TupS.same s34) p732) (qM 1 (Prs.mono (TupS.same s34) p432));have hz9:siz (ps7++ps.take 1)<=40:=by
   rw[iE];have:=M8 hpos;omega
  have hp9:∀ p∈ps7++ps.take 1,1<=p.1:=fun p hp=>by
   rcases aBs.mp hp with h | h
   ·exact hp7 p h
   ·exact hpos p (List.mem_of_mem_take h)
  refine⟨l9,_,rfl,⟨_,el9,pr9⟩,vA hp9 (by omega),fun r3 hL3 pe H35 hpe g35 epe=>?_⟩;have z3:=hL3.sizx;have e534:=s34 _ _ e532;refine⟨l5,_,_,rfl,rfl,g35 _ _ e534,aO (show 5<=10000 by decide),?_⟩;have rw36:=RwsA.add e534 (nG rw32 s34) hpe g35 epe hL3.rowp (by omega);exact key _ _ _ _ aB (show 6<=10 by decide) rw36 (by rw[aH n25];exact(s34.trans g35) _ _ e232)
end
theorem all_mk {l:PySem.W.OpenLaw} {w:World} {K:PySem.W.Frag} {h:Heap} {mg:Str->Option Value} {fa:Addr} (X:K.In h) (G:h.Ns mainGlobals mg) (hfa:mg "law"=some (.ref fa))
 {f0:Addr} {od0 an0:Option Addr} {sl0:Array (Option Value)} {oc0 kV0 dc0 pm0 cd0 ct0:Value}
 {f1:Addr} {od1 an1:Option Addr} {sl1:Array (Option Value)} {oc1 kV1 dc1 pm1 cd1 ct1:Value}
 {f2:Addr} {od2 an2:Option Addr} {sl2:Array (Option Value)} {oc2 kV2 dc2 pm2 cd2 ct2:Value}
 {f3:Addr} {od3 an3:Option Addr} {sl3:Array (Option Value)} {oc3 kV3 dc3 pm3 cd3 ct3:Value}
 {f4:Addr} {od4 an4:Option Addr} {sl4:Array (Option Value)} {oc4 kV4 dc4 pm4 cd4 ct4:Value}
 {f5:Addr} {od5 an5:Option Addr} {sl5:Array (Option Value)} {oc5 kV5 dc5 pm5 cd5 ct5:Value}
 {f6:Addr} {od6 an6:Option Addr} {sl6:Array (Option Value)} {oc6 kV6 dc6 pm6 cd6 ct6:Value}
 {f7:Addr} {od7 an7:Option Addr} {sl7:Array (Option Value)} {oc7 kV7 dc7 pm7 cd7 ct7:Value}
 {f8:Addr} {od8 an8:Option Addr} {sl8:Array (Option Value)} {oc8 kV8 dc8 pm8 cd8 ct8:Value}
 {f9:Addr} {od9 an9:Option Addr} {sl9:Array (Option Value)} {oc9 kV9 dc9 pm9 cd9 ct9:Value}
 {f10:Addr} {od10 an10:Option Addr} {sl10:Array (Option Value)} {oc10 kV10 dc10 pm10 cd10 ct10:Value}
 {f11:Addr} {od11 an11:Option Addr} {sl11:Array (Option Value)} {oc11 kV11 dc11 pm11 cd11 ct11:Value}
 {f12:Addr} {od12 an12:Option Addr} {sl12:Array (Option Value)} {oc12 kV12 dc12 pm12 cd12 ct12:Value}
 {f13:Addr} {od13 an13:Option Addr} {sl13:Array (Option Value)} {oc13 kV13 dc13 pm13 cd13 ct13:Value}
 {f14:Addr} {od14 an14:Option Addr} {sl14:Array (Option Value)} {oc14 kV14 dc14 pm14 cd14 ct14:Value}
 {f15:Addr} {od15 an15:Option Addr} {sl15:Array (Option Value)} {oc15 kV15 dc15 pm15 cd15 ct15:Value}
 {f16:Addr} {od16 an16:Option Addr} {sl16:Array (Option Value)} {oc16 kV16 dc16 pm16 cd16 ct16:Value}
 {f17:Addr} {od17 an17:Option Addr} {sl17:Array (Option Value)} {oc17 kV17 dc17 pm17 cd17 ct17:Value}
 {f18:Addr} {od18 an18:Option Addr} {sl18:Array (Option Value)} {oc18 kV18 dc18 pm18 cd18 ct18:Value}
 {f19:Addr} {od19 an19:Option Addr} {sl19:Array (Option Value)} {oc19 kV19 dc19 pm19 cd19 ct19:Value}
 {f20:Addr} {od20 an20:Option Addr} {sl20:Array (Option Value)} {oc20 kV20 dc20 pm20 cd20 ct20:Value}
 {f21:Addr} {od21 an21:Option Addr} {sl21:Array (Option Value)} {oc21 kV21 dc21 pm21 cd21 ct21:Value}
 {f22:Addr} {od22 an22:Option Addr} {sl22:Array (Option Value)} {oc22 kV22 dc22 pm22 cd22 ct22:Value}
 {f23:Addr} {od23 an23:Option Addr} {sl23:Array (Option Value)} {oc23 kV23 dc23 pm23 cd23 ct23:Value}
 {f24:Addr} {od24 an24:Option Addr} {sl24:Array (Option Value)} {oc24 kV24 dc24 pm24 cd24 ct24:Value}
 {f25:Addr} {od25 an25:Option Addr} {sl25:Array (Option Value)} {oc25 kV25 dc25 pm25 cd25 ct25:Value}
 {f26:Addr} {od26 an26:Option Addr} {sl26:Array (Option Value)} {oc26 kV26 dc26 pm26 cd26 ct26:Value}
 {f27:Addr} {od27 an27:Option Addr} {sl27:Array (Option Value)} {oc27 kV27 dc27 pm27 cd27 ct27:Value}
 {f28:Addr} {od28 an28:Option Addr} {sl28:Array (Option Value)} {oc28 kV28 dc28 pm28 cd28 ct28:Value}
 {f29:Addr} {od29 an29:Option Addr} {sl29:Array (Option Value)} {oc29 kV29 dc29 pm29 cd29 ct29:Value}
 {f30:Addr} {od30 an30:Option Addr} {sl30:Array (Option Value)} {oc30 kV30 dc30 pm30 cd30 ct30:Value}
 {f31:Addr} {od31 an31:Option Addr} {sl31:Array (Option Value)} {oc31 kV31 dc31 pm31 cd31 ct31:Value}
 {f32:Addr} {od32 an32:Option Addr} {sl32:Array (Option Value)} {oc32 kV32 dc32 pm32 cd32 ct32:Value}
 {t_MOST_STONES:Tok}
 (a0:PySem.W.nsIn K mainGlobals "look_row"=some (some (.ref f0))) (l0:K.lookup f0=some ⟨oc0,od0,.func (PySem.W.fnOf "look_row" "look_row" (aX fO) (aU fO) (aE fO) .none kV0 dc0 pm0 an0 cd0 ct0),sl0⟩) (c0:PySem.W.codeIn K cd0 "look_row"=true) (k0:PySem.W.keepIn K (.ref f0)=true)
 (a1:PySem.W.nsIn K mainGlobals "look_creel"=some (some (.ref f1))) (l1:K.lookup f1=some ⟨oc1,od1,.func (PySem.W.fnOf "look_creel" "look_creel" (aX eF) (aU eF) (aE eF) .none kV1 dc1 pm1 an1 cd1 ct1),sl1⟩) (c1:PySem.W.codeIn K cd1 "look_creel"=true) (k1:PySem.W.keepIn K (.ref f1)=true)
 (a2:PySem.W.nsIn K mainGlobals "look_walks"=some (some (.ref f2))) (l2:K.lookup f2=some ⟨oc2,od2,.func (PySem.W.fnOf "look_walks" "look_walks" (aX eI) (aU eI) (aE eI) .none kV2 dc2 pm2 an2 cd2 ct2),sl2⟩) (c2:PySem.W.codeIn K cd2 "look_walks"=true) (k2:PySem.W.keepIn K (.ref f2)=true)
 (a3:PySem.W.nsIn K mainGlobals "look_trains"=some (some (.ref f3))) (l3:K.lookup f3=some ⟨oc3,od3,.func (PySem.W.fnOf "look_trains" "look_trains" (aX dC) (aU dC) (aE dC) .none kV3 dc3 pm3 an3 cd3 ct3),sl3⟩) (c3:PySem.W.codeIn K cd3 "look_trains"=true) (k3:PySem.W.keepIn K (.ref f3)=true)
 (a4:PySem.W.nsIn K mainGlobals "by_size"=some (some (.ref f4))) (l4:K.lookup f4=some ⟨oc4,od4,.func (PySem.W.fnOf "by_size" "by_size" (aX gY) (aU gY) (aE gY) .none kV4 dc4 pm4 an4 cd4 ct4),sl4⟩) (c4:PySem.W.codeIn K cd4 "by_size"=true) (k4:PySem.W.keepIn K (.ref f4)=true)
 (a5:PySem.W.nsIn K mainGlobals "crowd"=some (some (.ref f5))) (l5:K.lookup f5=some ⟨oc5,od5,.func (PySem.W.fnOf "crowd" "crowd" (aX jS) (aU jS) (aE jS) .none kV5 dc5 pm5 an5 cd5 ct5),sl5⟩) (c5:PySem.W.codeIn K cd5 "crowd"=true) (k5:PySem.W.keepIn K (.ref f5)=true)
 (a6:PySem.W.nsIn K mainGlobals "crowds"=some (some (.ref f6))) (l6:K.lookup f6=some ⟨oc6,od6,.func (PySem.W.fnOf "crowds" "crowds" (aX iG) (aU iG) (aE iG) .none kV6 dc6 pm6 an6 cd6 ct6),sl6⟩) (c6:PySem.W.codeIn K cd6 "crowds"=true) (k6:PySem.W.keepIn K (.ref f6)=true)
 (a7:PySem.W.nsIn K mainGlobals "drop_last"=some (some (.ref f7))) (l7:K.lookup f7=some ⟨oc7,od7,.func (PySem.W.fnOf "drop_last" "drop_last" (aX fA) (aU fA) (aE fA) .none kV7 dc7 pm7 an7 cd7 ct7),sl7⟩) (c7:PySem.W.codeIn K cd7 "drop_last"=true) (k7:PySem.W.keepIn K (.ref f7)=true)
 (a8:PySem.W.nsIn K mainGlobals "add_train"=some (some (.ref f8))) (l8:K.lookup f8=some ⟨oc8,od8,.func (PySem.W.fnOf "add_train" "add_train" (aX fB) (aU fB) (aE fB) .none kV8 dc8 pm8 an8 cd8 ct8),sl8⟩) (c8:PySem.W.codeIn K cd8 "add_train"=true) (k8:PySem.W.keepIn K (.ref f8)=true)
 (a9:PySem.W.nsIn K mainGlobals "add_stone"=some (some (.ref f9))) (l9:K.lookup f9=some ⟨oc9,od9,.func (PySem.W.fnOf "add_stone" "add_stone" (aX dY) (aU dY) (aE dY) .none kV9 dc9 pm9 an9 cd9 ct9),sl9⟩) (c9:PySem.W.codeIn K cd9 "add_stone"=true) (k9:PySem.W.keepIn K (.ref f9)=true)
 (a10:PySem.W.nsIn K mainGlobals "list_of"=some (some (.ref f10))) (l10:K.lookup f10=some ⟨oc10,od10,.func (PySem.W.fnOf "list_of" "list_of" (aX fP) (aU fP) (aE fP) .none kV10 dc10 pm10 an10 cd10 ct10),sl10⟩) (c10:PySem.W.codeIn K cd10 "list_of"=true) (k10:PySem.W.keepIn K (.ref f10)=true)
 (a11:PySem.W.nsIn K mainGlobals "trains"=some (some (.ref f11))) (l11:K.lookup f11=some ⟨oc11,od11,.func (PySem.W.fnOf "trains" "trains" (aX jJ) (aU jJ) (aE jJ) .none kV11 dc11 pm11 an11 cd11 ct11),sl11⟩) (c11:PySem.W.codeIn K cd11 "trains"=true) (k11:PySem.W.keepIn K (.ref f11)=true)
 (a12:PySem.W.nsIn K mainGlobals "row_of"=some (some (.ref f12))) (l12:K.lookup f12=some ⟨oc12,od12,.func (PySem.W.fnOf "row_of" "row_of" (aX iH) (aU iH) (aE iH) .none kV12 dc12 pm12 an12 cd12 ct12),sl12⟩) (c12:PySem.W.codeIn K cd12 "row_of"=true) (k12:PySem.W.keepIn K (.ref f12)=true)
 (a13:PySem.W.nsIn K mainGlobals "gain"=some (some (.ref f13))) (l13:K.lookup f13=some ⟨oc13,od13,.func (PySem.W.fnOf "gain" "gain" (aX mC) (aU mC) (aE mC) .none kV13 dc13 pm13 an13 cd13 ct13),sl13⟩) (c13:PySem.W.codeIn K cd13 "gain"=true) (k13:PySem.W.keepIn K (.ref f13)=true)
 (a14:PySem.W.nsIn K mainGlobals "added"=some (some (.ref f14))) (l14:K.lookup f14=some ⟨oc14,od14,.func (PySem.W.fnOf "added" "added" (aX jT) (aU jT) (aE jT) .none kV14 dc14 pm14 an14 cd14 ct14),sl14⟩) (c14:PySem.W.codeIn K cd14 "added"=true) (k14:PySem.W.keepIn K (.ref f14)=true)
 (a15:PySem.W.nsIn K mainGlobals "far"=some (some (.ref f15))) (l15:K.lookup f15=some ⟨oc15,od15,.func (PySem.W.fnOf "far" "far" (aX tN) (aU tN) (aE tN) .none kV15 dc15 pm15 an15 cd15 ct15),sl15⟩) (c15:PySem.W.codeIn K cd15 "far"=true) (k15:PySem.W.keepIn K (.ref f15)=true)
 (a16:PySem.W.nsIn K mainGlobals "walks_of"=some (some (.ref f16))) (l16:K.lookup f16=some ⟨oc16,od16,.func (PySem.W.fnOf "walks_of" "walks_of" (aX dZ) (aU dZ) (aE dZ) .none kV16 dc16 pm16 an16 cd16 ct16),sl16⟩) (c16:PySem.W.codeIn K cd16 "walks_of"=true) (k16:PySem.W.keepIn K (.ref f16)=true)
 (a17:PySem.W.nsIn K mainGlobals "kin"=some (some (.ref f17))) (l17:K.lookup f17=some ⟨oc17,od17,.func (PySem.W.fnOf "kin" "kin" (aX rD) (aU rD) (aE rD) .none kV17 dc17 pm17 an17 cd17 ct17),sl17⟩) (c17:PySem.W.codeIn K cd17 "kin"=true) (k17:PySem.W.keepIn K (.ref f17)=true)
 (a18:PySem.W.nsIn K mainGlobals "_law_numbers"=some (some (.ref f18))) (l18:K.lookup f18=some ⟨oc18,od18,.func (PySem.W.fnOf "_law_numbers" "_law_numbers" (aX dQ) (aU dQ) (aE dQ) .none kV18 dc18 pm18 an18 cd18 ct18),sl18⟩) (c18:PySem.W.codeIn K cd18 "_law_numbers"=true) (k18:PySem.W.keepIn K (.ref f18)=true)
 (a19:PySem.W.nsIn K mainGlobals "_law_same"=some (some (.ref f19))) (l19:K.lookup f19=some ⟨oc19,od19,.func (PySem.W.fnOf "_law_same" "_law_same" (aX cI) (aU cI) (aE cI) .none kV19 dc19 pm19 an19 cd19 ct19),sl19⟩) (c19:PySem.W.codeIn K cd19 "_law_same"=true) (k19:PySem.W.keepIn K (.ref f19)=true)
 (a20:PySem.W.nsIn K mainGlobals "_law_row"=some (some (.ref f20))) (l20:K.lookup f20=some ⟨oc20,od20,.func (PySem.W.fnOf "_law_row" "_law_row" (aX gZ) (aU gZ) (aE gZ) .none kV20 dc20 pm20 an20 cd20 ct20),sl20⟩) (c20:PySem.W.codeIn K cd20 "_law_row"=true) (k20:PySem.W.keepIn K (.ref f20)=true)
 (a21:PySem.W.nsIn K mainGlobals "_law_long_row"=some (some (.ref f21))) (l21:K.lookup f21=some ⟨oc21,od21,.func (PySem.W.fnOf "_law_long_row" "_law_long_row" (aX cV) (aU cV) (aE cV) .none kV21 dc21 pm21 an21 cd21 ct21),sl21⟩) (c21:PySem.W.codeIn K cd21 "_law_long_row"=true) (k21:PySem.W.keepIn K (.ref f21)=true)
 (a22:PySem.W.nsIn K mainGlobals "_law_lesser"=some (some (.ref f22))) (l22:K.lookup f22=some ⟨oc22,od22,.func (PySem.W.fnOf "_law_lesser" "_law_lesser" (aX dM) (aU dM) (aE dM) .none kV22 dc22 pm22 an22 cd22 ct22),sl22⟩) (c22:PySem.W.codeIn K cd22 "_law_lesser"=true) (k22:PySem.W.keepIn K (.ref f22)=true)
 (a23:PySem.W.nsIn K mainGlobals "_law_list"=some (some (.ref f23))) (l23:K.lookup f23=some ⟨oc23,od23,.func (PySem.W.fnOf "_law_list" "_law_list" (aX eW) (aU eW) (aE eW) .none kV23 dc23 pm23 an23 cd23 ct23),sl23⟩) (c23:PySem.W.codeIn K cd23 "_law_list"=true) (k23:PySem.W.keepIn K (.ref f23)=true)
 (a24:PySem.W.nsIn K mainGlobals "_law_stones"=some (some (.ref f24))) (l24:K.lookup f24=some ⟨oc24,od24,.func (PySem.W.fnOf "_law_stones" "_law_stones" (aX dA) (aU dA) (aE dA) .none kV24 dc24 pm24 an24 cd24 ct24),sl24⟩) (c24:PySem.W.codeIn K cd24 "_law_stones"=true) (k24:PySem.W.keepIn K (.ref f24)=true)
 (a25:PySem.W.nsIn K mainGlobals "_law_walks"=some (some (.ref f25))) (l25:K.lookup f25=some ⟨oc25,od25,.func (PySem.W.fnOf "_law_walks" "_law_walks" (aX fE) (aU fE) (aE fE) .none kV25 dc25 pm25 an25 cd25 ct25),sl25⟩) (c25:PySem.W.codeIn K cd25 "_law_walks"=true) (k25:PySem.W.keepIn K (.ref f25)=true)
 (a26:PySem.W.nsIn K mainGlobals "_law_adds"=some (some (.ref f26))) (l26:K.lookup f26=some ⟨oc26,od26,.func (PySem.W.fnOf "_law_adds" "_law_adds" (aX eX) (aU eX) (aE eX) .none kV26 dc26 pm26 an26 cd26 ct26),sl26⟩) (c26:PySem.W.codeIn K cd26 "_law_adds"=true) (k26:PySem.W.keepIn K (.ref f26)=true)
 (a27:PySem.W.nsIn K mainGlobals "_law_ten"=some (some (.ref f27))) (l27:K.lookup f27=some ⟨oc27,od27,.func (PySem.W.fnOf "_law_ten" "_law_ten" (aX hJ) (aU hJ) (aE hJ) .none kV27 dc27 pm27 an27 cd27 ct27),sl27⟩) (c27:PySem.W.codeIn K cd27 "_law_ten"=true) (k27:PySem.W.keepIn K (.ref f27)=true)
 (a28:PySem.W.nsIn K mainGlobals "_law_offsets"=some (some (.ref f28))) (l28:K.lookup f28=some ⟨oc28,od28,.func (PySem.W.fnOf "_law_offsets" "_law_offsets" (aX dD) (aU dD) (aE dD) .none kV28 dc28 pm28 an28 cd28 ct28),sl28⟩) (c28:PySem.W.codeIn K cd28 "_law_offsets"=true) (k28:PySem.W.keepIn K (.ref f28)=true)
 (a29:PySem.W.nsIn K mainGlobals "_law_bars"=some (some (.ref f29))) (l29:K.lookup f29=some ⟨oc29,od29,.func (PySem.W.fnOf "_law_bars" "_law_bars" (aX eA) (aU eA) (aE eA) .none kV29 dc29 pm29 an29 cd29 ct29),sl29⟩) (c29:PySem.W.codeIn K cd29 "_law_bars"=true) (k29:PySem.W.keepIn K (.ref f29)=true)
 (a30:PySem.W.nsIn K mainGlobals "_law_walks_right"=some (some (.ref f30))) (l30:K.lookup f30=some ⟨oc30,od30,.func (PySem.W.fnOf "_law_walks_right" "_law_walks_right" (aX bS) (aU bS) (aE bS) .none kV30 dc30 pm30 an30 cd30 ct30),sl30⟩) (c30:PySem.W.codeIn K cd30 "_law_walks_right"=true) (k30:PySem.W.keepIn K (.ref f30)=true)
 (a31:PySem.W.nsIn K mainGlobals "_law_right"=some (some (.ref f31))) (l31:K.lookup f31=some ⟨oc31,od31,.func (PySem.W.fnOf "_law_right" "_law_right" (aX eC) (aU eC) (aE eC) .none kV31 dc31 pm31 an31 cd31 ct31),sl31⟩) (c31:PySem.W.codeIn K cd31 "_law_right"=true) (k31:PySem.W.keepIn K (.ref f31)=true)
 (a32:PySem.W.nsIn K mainGlobals "law"=some (some (.ref f32))) (l32:K.lookup f32=some ⟨oc32,od32,.func (PySem.W.fnOf "law" "law" (aX lT) (aU lT) (aE lT) .none kV32 dc32 pm32 an32 cd32 ct32),sl32⟩) (c32:PySem.W.codeIn K cd32 "law"=true) (k32:PySem.W.keepIn K (.ref f32)=true)
 (z_len:PySem.W.nsIn K mainGlobals "len"=some none)
 (z_range:PySem.W.nsIn K mainGlobals "range"=some none)
 (z_list:PySem.W.nsIn K mainGlobals "list"=some none)
 (z_tuple:PySem.W.nsIn K mainGlobals "tuple"=some none)
 (z_bool:PySem.W.nsIn K mainGlobals "bool"=some none)
 (z_str:PySem.W.nsIn K mainGlobals "str"=some none)
 (z_int:PySem.W.nsIn K mainGlobals "int"=some none)
 (z_isinstance:PySem.W.nsIn K mainGlobals "isinstance"=some none)
 (z_all:PySem.W.nsIn K mainGlobals "all"=some none)
 (z_sorted:PySem.W.nsIn K mainGlobals "sorted"=some none)
 (z_max:PySem.W.nsIn K mainGlobals "max"=some none)
 (z_min:PySem.W.nsIn K mainGlobals "min"=some none)
 (z_set:PySem.W.nsIn K mainGlobals "set"=some none)
 (z_reversed:PySem.W.nsIn K mainGlobals "reversed"=some none)
 (z_sum:PySem.W.nsIn K mainGlobals "sum"=some none)
 (z_enumerate:PySem.W.nsIn K mainGlobals "enumerate"=some none)
 (z_zip:PySem.W.nsIn K mainGlobals "zip"=some none)
 (z_any:PySem.W.nsIn K mainGlobals "any"=some none)
 (z_abs:PySem.W.nsIn K mainGlobals "abs"=some none)
 (y_MOST_STONES:PySem.W.nsIn K mainGlobals "MOST_STONES"=some (some (.int 60 t_MOST_STONES))) :
 ∃ fd:FuncData,(∀ (s:Shared) (v:Value),BindsTo s fd ⟨[v],[]⟩ [("_law_script",v)])/\∀ base:Heap,K.In base->base.Ns mainGlobals mg->FnOk l.prog w K mg base CX0 8 fa fd ["_law_script"] (vU K):=by
 have e:=hfa.symm.trans (PySem.W.mg_of X G a32);cases e;have B:Bt mg:=⟨PySem.W.mg_none_of X G z_len,PySem.W.mg_none_of X G z_range,PySem.W.mg_none_of X G z_list,PySem.W.mg_none_of X G z_tuple,PySem.W.mg_none_of X G z_bool,PySem.W.mg_none_of X G z_str,PySem.W.mg_none_of X G z_int,PySem.W.mg_none_of X G z_isinstance,PySem.W.mg_none_of X G z_all,PySem.W.mg_none_of X G z_sorted,PySem.W.mg_none_of X G z_max,PySem.W.mg_none_of X G z_min,PySem.W.mg_none_of X G z_set,PySem.W.mg_none_of X G z_reversed,PySem.W.mg_none_of X G z_sum,PySem.W.mg_none_of X G z_enumerate,PySem.W.mg_none_of X G z_zip,PySem.W.mg_none_of X G z_any,PySem.W.mg_none_of X G z_abs⟩;have C:Cn mg t_MOST_STONES:=⟨PySem.W.mg_of X G y_MOST_STONES⟩;have F0:=bV (st:=fO) l0 c0 k0;have b0:=F0.binds1 (p1:="row") fun _ _ _ _ _ _ _=>rfl;have m0:=PySem.W.mg_of X G a0;have F1:=bV (st:=eF) l1 c1 k1;have b1:=F1.binds1 (p1:="creel") fun _ _ _ _ _ _ _=>rfl;have m1:=PySem.W.mg_of X G a1;have F2:=bV (st:=eI) l2 c2 k2;have b2:=F2.binds1 (p1:="walks") fun _ _ _ _ _ _ _=>rfl;have m2:=PySem.W.mg_of X G a2;have F3:=bV (st:=dC) l3 c3 k3;have b3:=F3.binds1 (p1:="trains") fun _ _ _ _ _ _ _=>rfl;have m3:=PySem.W.mg_of X G a3;have F4:=bV (st:=gY) l4 c4 k4;have b4:=F4.binds1 (p1:="trains") fun _ _ _ _ _ _ _=>rfl;have m4:=PySem.W.mg_of X G a4;have F5:=bV (st:=jS) l5 c5 k5;have b5:=F5.binds2 (p1:="offsets") (p2:="size") fun _ _ _ _ _ _ _ _=>rfl;have m5:=PySem.W.mg_of X G a5;have F6:=bV (st:=iG) l6 c6 k6;have b6:=F6.binds1 (p1:="offsets") fun _ _ _ _ _ _ _=>rfl;have m6:=PySem.W.mg_of X G a6;have F7:=bV (st:=fA) l7 c7 k7;have b7:=F7.binds2 (p1:="offsets") (p2:="size") fun _ _ _ _ _ _ _ _=>rfl;have m7:=PySem.W.mg_of X G a7;have F8:=bV (st:=fB) l8 c8 k8;have b8:=F8.binds3 (p1:="offsets") (p2:="size") (p3:="place") fun _ _ _ _ _ _ _ _ _=>rfl;have m8:=PySem.W.mg_of X G a8;have F9:=bV (st:=dY) l9 c9 k9;have b9:=F9.binds2 (p1:="offsets") (p2:="place") fun _ _ _ _ _ _ _ _=>rfl;have m9:=PySem.W.mg_of X G a9;have F10:=bV (st:=fP) l10 c10 k10;have b10:=F10.binds1 (p1:="row") fun _ _ _ _ _ _ _=>rfl;have m10:=PySem.W.mg_of X G a10;have F11:=bV (st:=jJ) l11 c11 k11;have b11:=F11.binds1 (p1:="row") fun _ _ _ _ _ _ _=>rfl;have m11:=PySem.W.mg_of X G a11;have F12:=bV (st:=iH) l12 c12 k12;have b12:=F12.binds1 (p1:="trains") fun _ _ _ _ _ _ _=>rfl;have m12:=PySem.W.mg_of X G a12;have F13:=bV (st:=mC) l13 c13 k13;have b13:=F13.binds2 (p1:="walks") (p2:="size") fun _ _ _ _ _ _ _ _=>rfl;have m13:=PySem.W.mg_of X G a13;have F14:=bV (st:=jT) l14 c14 k14;have b14:=F14.binds2 (p1:="trains") (p2:="walks") fun _ _ _ _ _ _ _ _=>rfl;have m14:=PySem.W.mg_of X G a14;have F15:=bV (st:=tN) l15 c15 k15;have b15:=F15.binds2 (p1:="row") (p2:="walks") fun _ _ _ _ _ _ _ _=>rfl;have m15:=PySem.W.mg_of X G a15;have F16:=bV (st:=dZ) l16 c16 k16;have b16:=F16.binds1 (p1:="gains") fun _ _ _ _ _ _ _=>rfl;have m16:=PySem.W.mg_of X G a16;have F17:=bV (st:=rD) l17 c17 k17;have b17:=F17.binds2 (p1:="one") (p2:="other") fun _ _ _ _ _ _ _ _=>rfl;have m17:=PySem.W.mg_of X G a17;have F18:=bV (st:=dQ) l18 c18 k18;have b18:=F18.binds2 (p1:="_law_script") (p2:="_law_many") fun _ _ _ _ _ _ _ _=>rfl;have m18:=PySem.W.mg_of X G a18;have F19:=bV (st:=cI) l19 c19 k19;have b19:=F19.binds2 (p1:="_law_found") (p2:="_law_due") fun _ _ _ _ _ _ _ _=>rfl;have m19:=PySem.W.mg_of X G a19;have F20:=bV (st:=gZ) l20 c20 k20;have b20:=F20.binds2 (p1:="_law_d") (p2:="_law_most") fun _ _ _ _ _ _ _ _=>rfl;have m20:=PySem.W.mg_of X G a20;have F21:=bV (st:=cV) l21 c21 k21;have b21:=F21.binds2 (p1:="_law_d") (p2:="_law_most") fun _ _ _ _ _ _ _ _=>rfl;have m21:=PySem.W.mg_of X G a21;have F22:=bV (st:=dM) l22 c22 k22;have b22:=F22.binds2 (p1:="_law_found") (p2:="_law_size") fun _ _ _ _ _ _ _ _=>rfl
 have m22:=PySem.W.mg_of X G a22;have F23:=bV (st:=eW) l23 c23 k23;have b23:=F23.binds1 (p1:="_law_row_here") fun _ _ _ _ _ _ _=>rfl;have m23:=PySem.W.mg_of X G a23;have F24:=bV (st:=dA) l24 c24 k24;have b24:=F24.binds1 (p1:="_law_pairs") fun _ _ _ _ _ _ _=>rfl;have m24:=PySem.W.mg_of X G a24;have F25:=bV (st:=fE) l25 c25 k25;have b25:=F25.binds2 (p1:="_law_d") (p2:="_law_many") fun _ _ _ _ _ _ _ _=>rfl;have m25:=PySem.W.mg_of X G a25;have F26:=bV (st:=eX) l26 c26 k26;have b26:=F26.binds2 (p1:="_law_pairs") (p2:="_law_walks_here") fun _ _ _ _ _ _ _ _=>rfl;have m26:=PySem.W.mg_of X G a26;have F27:=bV (st:=hJ) l27 c27 k27;have b27:=F27.binds1 (p1:="_law_many") fun _ _ _ _ _ _ _=>rfl;have m27:=PySem.W.mg_of X G a27;have F28:=bV (st:=dD) l28 c28 k28;have b28:=F28.binds2 (p1:="_law_pairs") (p2:="_law_size") fun _ _ _ _ _ _ _ _=>rfl;have m28:=PySem.W.mg_of X G a28;have F29:=bV (st:=eA) l29 c29 k29;have b29:=F29.binds2 (p1:="_law_one") (p2:="_law_other") fun _ _ _ _ _ _ _ _=>rfl;have m29:=PySem.W.mg_of X G a29;have F30:=bV (st:=bS) l30 c30 k30;have b30:=F30.binds3 (p1:="_law_one") (p2:="_law_other") (p3:="_law_walks_here") fun _ _ _ _ _ _ _ _ _=>rfl;have m30:=PySem.W.mg_of X G a30;have F31:=bV (st:=eC) l31 c31 k31;have b31:=F31.binds2 (p1:="_law_one") (p2:="_law_other") fun _ _ _ _ _ _ _ _=>rfl;have m31:=PySem.W.mg_of X G a31;have F32:=bV (st:=lT) l32 c32 k32;have b32:=F32.binds1 (p1:="_law_script") fun _ _ _ _ _ _ _=>rfl;have m32:=PySem.W.mg_of X G a32;refine⟨PySem.W.fnOf "law" "law" (aX lT) (aU lT) (aE lT) .none kV32 dc32 pm32 an32 cd32 ct32,fun s v=>.of_eq rfl,fun base _ _=>?_⟩;have A_look_row:bO l.prog w K mg base "look_row" 1 ["row"] tY:=⟨f0,_,i8 F0 B C,m0,k0,b0⟩;have A_look_creel:bO l.prog w K mg base "look_creel" 1 ["creel"] iI:=⟨f1,_,rR F1 B,m1,k1,b1⟩;have A_look_walks:bO l.prog w K mg base "look_walks" 2 ["walks"] pH:=⟨f2,_,rS F2 B A_look_creel,m2,k2,b2⟩;have A_look_trains:bO l.prog w K mg base "look_trains" 1 ["trains"] mM:=⟨f3,_,rA F3 B C,m3,k3,b3⟩;have A_by_size:bO l.prog w K mg base "by_size" 1 ["trains"] jG:=⟨f4,_,zI F4 B,m4,k4,b4⟩;have A_crowd:bO l.prog w K mg base "crowd" 1 ["offsets","size"] mS:=⟨f5,_,X2 F5 B,m5,k5,b5⟩;have A_crowds:bO l.prog w K mg base "crowds" 1 ["offsets"] jE:=⟨f6,_,M9 F6 B,m6,k6,b6⟩;have A_drop_last:bO l.prog w K mg base "drop_last" 1 ["offsets","size"] iA:=⟨f7,_,vC F7 B,m7,k7,b7⟩;have A_add_train:bO l.prog w K mg base "add_train" 2 ["offsets","size","place"] fW:=⟨f8,_,vD F8 B A_crowd,m8,k8,b8⟩;have A_add_stone:bO l.prog w K mg base "add_stone" 3 ["offsets","place"] jO:=⟨f9,_,vE F9 B A_crowds A_drop_last A_add_train,m9,k9,b9⟩;have A_list_of:bO l.prog w K mg base "list_of" 4 ["row"] fI:=⟨f10,_,zJ F10 B A_look_row A_add_stone,m10,k10,b10⟩;have A_trains:bO l.prog w K mg base "trains" 5 ["row"] fI:=⟨f11,_,N1 F11 B A_list_of,m11,k11,b11⟩;have A_row_of:bO l.prog w K mg base "row_of" 3 ["trains"] mV:=⟨f12,_,N2 F12 B A_look_trains A_by_size A_crowds A_drop_last A_add_train,m12,k12,b12⟩;have A_gain:bO l.prog w K mg base "gain" 1 ["walks","size"] uM:=⟨f13,_,j3 F13 B,m13,k13,b13⟩;have A_added:bO l.prog w K mg base "added" 3 ["trains","walks"] pI:=⟨f14,_,X4 F14 B A_look_trains A_look_walks A_gain,m14,k14,b14⟩;have A_far:bO l.prog w K mg base "far" 5 ["row","walks"] B1:=⟨f15,_,z9 F15 B A_list_of A_added A_row_of,m15,k15,b15⟩;have A_walks_of:bO l.prog w K mg base "walks_of" 1 ["gains"] lJ:=⟨f16,_,xP F16 B,m16,k16,b16⟩;have A_kin:bO l.prog w K mg base "kin" 5 ["one","other"] C2:=⟨f17,_,aAA F17 B A_list_of A_by_size A_walks_of,m17,k17,b17⟩
 have A_law_numbers:bO l.prog w K mg base "_law_numbers" 1 ["_law_script","_law_many"] (lG K):=⟨f18,_,zK F18 B,m18,k18,b18⟩;have A_law_same:bO l.prog w K mg base "_law_same" 4 ["_law_found","_law_due"] (W9 (kJ 3) lM):=⟨f19,_,N3 F19 B m19 b19,m19,k19,b19⟩;have A_law_row:bO l.prog w K mg base "_law_row" 1 ["_law_d","_law_most"] zX:=⟨f20,_,aAB F20 B,m20,k20,b20⟩;have A_law_long_row:bO l.prog w K mg base "_law_long_row" 2 ["_law_d","_law_most"] uA:=⟨f21,_,j5 F21 B A_law_row,m21,k21,b21⟩;have A_law_lesser:bO l.prog w K mg base "_law_lesser" 1 ["_law_found","_law_size"] kL:=⟨f22,_,N4 F22 B,m22,k22,b22⟩;have A_law_list:bO l.prog w K mg base "_law_list" 2 ["_law_row_here"] jF:=⟨f23,_,xQ F23 B A_law_lesser,m23,k23,b23⟩;have A_law_stones:bO l.prog w K mg base "_law_stones" 2 ["_law_pairs"] mW:=⟨f24,_,rX F24 B A_law_lesser,m24,k24,b24⟩;have A_law_walks:bO l.prog w K mg base "_law_walks" 1 ["_law_d","_law_many"] pJ:=⟨f25,_,X5 F25 B,m25,k25,b25⟩;have A_law_adds:bO l.prog w K mg base "_law_adds" 1 ["_law_pairs","_law_walks_here"] uN:=⟨f26,_,j6 F26 B,m26,k26,b26⟩;have A_law_ten:bO l.prog w K mg base "_law_ten" 1 ["_law_many"] zV:=⟨f27,_,aAC F27 B,m27,k27,b27⟩;have A_law_offsets:bO l.prog w K mg base "_law_offsets" 1 ["_law_pairs","_law_size"] lK:=⟨f28,_,rG F28 B,m28,k28,b28⟩;have A_law_bars:bO l.prog w K mg base "_law_bars" 2 ["_law_one","_law_other"] uZ:=⟨f29,_,xR F29 B A_law_offsets,m29,k29,b29⟩;have A_law_walks_right:bO l.prog w K mg base "_law_walks_right" 6 ["_law_one","_law_other","_law_walks_here"] i7:=⟨f30,_,mE F30 B A_trains A_far A_law_same,m30,k30,b30⟩;have A_law_right:bO l.prog w K mg base "_law_right" 7 ["_law_one","_law_other"] pL:=⟨f31,_,vH F31 B A_kin A_law_list A_law_bars A_law_same A_law_walks_right,m31,k31,b31⟩;exact aAD F32 B A_law_numbers A_law_long_row A_law_walks A_law_ten A_law_list A_law_adds A_law_stones A_law_right
theorem walk {l:PySem.W.OpenLaw} {q:Program} {loose:List Str} {XP:(Str->Option Value)->Heap->Prop} {YP:World->Heap->Prop} {d:DefRec} {K:Params->PySem.W.Frag} (hn:l.most=some 63) (hdf:d.params.defaults=[])
 (hY:∀ (w:World) (h:Heap),YP w h->(K w.params).In h)
 (F:∀ (w:World) (mg:Str->Option Value) (fa:Addr) (h:Heap),(K w.params).In h->h.Ns mainGlobals mg->mg d.name=some (.ref fa) ->
  ∃ fd:FuncData,(∀ (s:Shared) (u:Value),BindsTo s fd ⟨[u],[]⟩ [("_law_script",u)])/\∀ base:Heap,(K w.params).In base->base.Ns mainGlobals mg->FnOk l.prog w (K w.params) mg base CX0 8 fa fd ["_law_script"] (vU (K w.params))) :
 PySem.W.WalkO q loose XP YP l.row.toRowW d [] (fun f vs=>PySem.call f vs) :=
 L2.walk_of (n:=63) (k:=8) (x:="_law_script") (CX:=fun _=>CX0) (sp:=fun w=>vU (K w.params)) hn (by decide) hdf ⟨rfl,by decide,by decide⟩ hY F (fun _ _ a ns hl _ hS=>⟨a,ns,rfl,hS,hl,fun _=>rfl⟩) fun _ _ _ _ _ z=>z
end CW
def PySem.W.Fast.tw6015705722597708870:Unit:=()
def PySem.W.Fast.tw10061888114240834509:Unit:=()
def PySem.W.Fast.tw16513108164554888780:Unit:=()
def PySem.W.Fast.tw4420817966772318344:Unit:=()
def PySem.W.Fast.tw7035414243646083582:Unit:=()
def PySem.W.Fast.tw2404911258170717974:Unit:=()
def PySem.W.Fast.tw15205034994464517662:Unit:=()
def PySem.W.Fast.tw1881568962791626080:Unit:=()
def PySem.W.Fast.tw1977548464035050425:Unit:=()
def PySem.W.Fast.tw7604789957061559087:Unit:=()
def PySem.W.Fast.tw9962972760717394697:Unit:=()
def PySem.W.Fast.tw14924060443869633830:Unit:=()
def PySem.W.Fast.tw7637318894134808040:Unit:=()
def PySem.W.Fast.tw1890930817549097639:Unit:=()
def PySem.W.Fast.tw9260679942972691640:Unit:=()
def PySem.W.Fast.tw10114556740137567590:Unit:=()
def PySem.W.Fast.tw13415517830008531430:Unit:=()
def PySem.W.Fast.tw8467290048000723379:Unit:=()
def PySem.W.Fast.tw2836430947297788552:Unit:=()
def PySem.W.Fast.tw14913516212033961873:Unit:=()
def PySem.W.Fast.tw6285068319135637434:Unit:=()
def PySem.W.Fast.tw16691909012926328884:Unit:=()
def PySem.W.Fast.tw3995196309347773005:Unit:=()
def PySem.W.Fast.tw11506497988088492454:Unit:=()
def PySem.W.Fast.tw304483886610818577:Unit:=()
def PySem.W.Fast.tw203812761377012249:Unit:=()
def PySem.W.Fast.tw5817263768331528807:Unit:=()
def PySem.W.Fast.tw4104526151737367156:Unit:=()
def PySem.W.Fast.tw9617438801087412394:Unit:=()
def PySem.W.Fast.tw2605679645730391096:Unit:=()
def PySem.W.Fast.tw17603596671219422054:Unit:=()
def PySem.W.Fast.tw4942622680731770527:Unit:=()
def PySem.W.Fast.tw14490040913667463504:Unit:=()
def PySem.W.Fast.tw5497105071291511037:Unit:=()
def PySem.W.Fast.tw5852054179731989569:Unit:=()
def PySem.W.Fast.tw14867939225028203579:Unit:=()
def PySem.W.Fast.tw1175052511369069388:Unit:=()
def PySem.W.Fast.tw349714061466108141:Unit:=()
def PySem.W.Fast.tw15922324329054804774:Unit:=()
def PySem.W.Fast.tw2487966922095516777:Unit:=()
def PySem.W.Fast.tw12094521678621283042:Unit:=()
def PySem.W.Fast.tw2841159914131980199:Unit:=()
def PySem.W.Fast.tw13977019461783868131:Unit:=()
def PySem.W.Fast.tw1230660292496693191:Unit:=()
def PySem.W.Fast.tw2928156710964100172:Unit:=()
def PySem.W.Fast.tw6385563568841134266:Unit:=()
def PySem.W.Fast.tw6977384935954009538:Unit:=()
def PySem.W.Fast.tw12822671034348506313:Unit:=()
def PySem.W.Fast.tw11309504441559790874:Unit:=()
def PySem.W.Fast.tw15849474799458212720:Unit:=()
def PySem.W.Fast.tw7715205807842477907:Unit:=()
def PySem.W.Fast.tw6606112964231419968:Unit:=()
def PySem.W.Fast.tw17231516508189186271:Unit:=()
def PySem.W.Fast.tw16545395004509947769:Unit:=()
def PySem.W.Fast.tw16025245714920245192:Unit:=()
def PySem.W.Fast.tw5151065454839585157:Unit:=()
def PySem.W.Fast.tw495016900431523817:Unit:=()
def PySem.W.Fast.tw4016601960633376404:Unit:=()
def PySem.W.Fast.tw13072471446541733255:Unit:=()
def PySem.W.Fast.tw1848682830645839415:Unit:=()
def PySem.W.Fast.tw13452335403252299291:Unit:=()
def PySem.W.Fast.tw3457633747968673992:Unit:=()
def PySem.W.Fast.tw5857570873237942541:Unit:=()
def PySem.W.Fast.tw4000057751512215188:Unit:=()
def PySem.W.Fast.tw18003644358133626401:Unit:=()
def PySem.W.Fast.tw5354205238075808903:Unit:=()
def PySem.W.Fast.tw14552924843972694915:Unit:=()
def PySem.W.Fast.tw8131344541517722867:Unit:=()
def PySem.W.Fast.tw11293397176996858807:Unit:=()
def PySem.W.Fast.tw11376759798201004646:Unit:=()
def PySem.W.Fast.tw510626769117358396:Unit:=()
def PySem.W.Fast.tw9773399177821413462:Unit:=()
def PySem.W.Fast.tw2252788748303121050:Unit:=()
def PySem.W.Fast.tw1816865913820222706:Unit:=()
def PySem.W.Fast.tw10834058880448869015:Unit:=()
def PySem.W.Fast.tw101979774872889056:Unit:=()
def PySem.W.Fast.tw10244965325484201837:Unit:=()
def PySem.W.Fast.tw3835727755474329484:Unit:=()
def PySem.W.Fast.tw2849734327816323179:Unit:=()
def PySem.W.Fast.tw6014947553079417163:Unit:=()
def PySem.W.Fast.tw12901058746863707092:Unit:=()
def PySem.W.Fast.tw11670352069110354513:Unit:=()
def PySem.W.Fast.tw887876335633289743:Unit:=()
def PySem.W.Fast.tw7707131961989421291:Unit:=()
def PySem.W.Fast.tw16346124657357030506:Unit:=()
def PySem.W.Fast.tw3196176858592609511:Unit:=()
def PySem.W.Fast.tw16093506009807809466:Unit:=()
def PySem.W.Fast.tw7690059321852934447:Unit:=()
def PySem.W.Fast.tw5702019359664050406:Unit:=()
def PySem.W.Fast.tw7044119163456895760:Unit:=()
def PySem.W.Fast.tw10698526341371431980:Unit:=()
def PySem.W.Fast.tw18295411774294293373:Unit:=()
def PySem.W.Fast.tw3660676206854091360:Unit:=()
def PySem.W.Fast.tw7338138986438936603:Unit:=()
def PySem.W.Fast.tw5269909407157406931:Unit:=()
def PySem.W.Fast.tw6313740740394335679:Unit:=()
def PySem.W.Fast.tw9517226124839638941:Unit:=()
def PySem.W.Fast.tw14145051081691054815:Unit:=()
def PySem.W.Fast.tw11781521305508331051:Unit:=()
def PySem.W.Fast.tw7327266587171091615:Unit:=()
def PySem.W.Fast.tw12549366007027087658:Unit:=()
def PySem.W.Fast.tw3103725250959841996:Unit:=()
def PySem.W.Fast.tw673747199513858886:Unit:=()
def PySem.W.Fast.tw10674086948601021697:Unit:=()
def PySem.W.Fast.tw1190845943729300844:Unit:=()
def PySem.W.Fast.tw10624383937721659818:Unit:=()
def PySem.W.Fast.tw13442919529229699547:Unit:=()
def PySem.W.Fast.tw3196184066352993181:Unit:=()
def PySem.W.Fast.tw3265220349354785568:Unit:=()
def PySem.W.Fast.tw18260863438289795489:Unit:=()
def PySem.W.Fast.tw12522692131842387104:Unit:=()
def PySem.W.Fast.tw10399858721733467147:Unit:=()
def PySem.W.Fast.tw18225451136776928625:Unit:=()
def PySem.W.Fast.tw11648819416955484960:Unit:=()
def PySem.W.Fast.tw10154474708685234622:Unit:=()
def PySem.W.Fast.tw6995407563910935585:Unit:=()
def PySem.W.Fast.tw15788917479384758362:Unit:=()
def PySem.W.Fast.tw17631704695384258745:Unit:=()
def PySem.W.Fast.tw6790664172749223803:Unit:=()
def PySem.W.Fast.tw14836523689149593752:Unit:=()
def PySem.W.Fast.tw5164617806776078266:Unit:=()
def PySem.W.Fast.tw9592510740229833365:Unit:=()
def PySem.W.Fast.tw13159793091921394944:Unit:=()
def PySem.W.Fast.tw11081906638930845475:Unit:=()
def PySem.W.Fast.tw17890738349280378917:Unit:=()
def PySem.W.Fast.tw5645988794510282302:Unit:=()
def PySem.W.Fast.tw11658681798724894512:Unit:=()
def PySem.W.Fast.tw10798754297601367809:Unit:=()
def PySem.W.Fast.tw15675671638823715437:Unit:=()
open PySem PySem.W PyProof.Rows
set_option maxRecDepth 100000 in
set_option maxHeartbeats 0 in
theorem PySem.Challenge.cw_creelway_k31_whole_kin_or_what_bars_holds : PySem.Challenge.rw_creelway_k31_whole_kin_or_what_bars.Holds := by
 w_on;o_law;k_head;(case hw=>w_witness2)
 k_fill
 refine CW.walk (l:=PySem.Challenge.rw_creelway_k31_whole_kin_or_what_bars) rfl rfl (fun w h Y=>PySem.W.kIn_of Y) ?F
 case F =>
  intro w mg fa h KX G hmg;refine' CW.all_mk KX G hmg ?a0 ?l0 ?c0 ?k0 ?a1 ?l1 ?c1 ?k1 ?a2 ?l2 ?c2 ?k2 ?a3 ?l3 ?c3 ?k3 ?a4 ?l4 ?c4 ?k4 ?a5 ?l5 ?c5 ?k5 ?a6 ?l6 ?c6 ?k6 ?a7 ?l7 ?c7 ?k7 ?a8 ?l8 ?c8 ?k8 ?a9 ?l9 ?c9 ?k9 ?a10 ?l10 ?c10 ?k10 ?a11 ?l11 ?c11 ?k11 ?a12 ?l12 ?c12 ?k12 ?a13 ?l13 ?c13 ?k13 ?a14 ?l14 ?c14 ?k14 ?a15 ?l15 ?c15 ?k15 ?a16 ?l16 ?c16 ?k16 ?a17 ?l17 ?c17 ?k17 ?a18 ?l18 ?c18 ?k18 ?a19 ?l19 ?c19 ?k19 ?a20 ?l20 ?c20 ?k20 ?a21 ?l21 ?c21 ?k21 ?a22 ?l22 ?c22 ?k22 ?a23 ?l23 ?c23 ?k23 ?a24 ?l24 ?c24 ?k24 ?a25 ?l25 ?c25 ?k25 ?a26 ?l26 ?c26 ?k26 ?a27 ?l27 ?c27 ?k27 ?a28 ?l28 ?c28 ?k28 ?a29 ?l29 ?c29 ?k29 ?a30 ?l30 ?c30 ?k30 ?a31 ?l31 ?c31 ?k31 ?a32 ?l32 ?c32 ?k32 ?z_len ?z_range ?z_list ?z_tuple ?z_bool ?z_str ?z_int ?z_isinstance ?z_all ?z_sorted ?z_max ?z_min ?z_set ?z_reversed ?z_sum ?z_enumerate ?z_zip ?z_any ?z_abs ?y_MOST_STONES
  (case a0=>k_is)
  (case l0=>k_is)
  (case c0=>k_is)
  (case k0=>k_is)
  (case a1=>k_is)
  (case l1=>k_is)
  (case c1=>k_is)
  (case k1=>k_is)
  (case a2=>k_is)
  (case l2=>k_is)
  (case c2=>k_is)
  (case k2=>k_is)
  (case a3=>k_is)
  (case l3=>k_is)
  (case c3=>k_is)
  (case k3=>k_is)
  (case a4=>k_is)
  (case l4=>k_is)
  (case c4=>k_is)
  (case k4=>k_is)
  (case a5=>k_is)
  (case l5=>k_is)
  (case c5=>k_is)
  (case k5=>k_is)
  (case a6=>k_is)
  (case l6=>k_is)
  (case c6=>k_is)
  (case k6=>k_is)
  (case a7=>k_is)
  (case l7=>k_is)
  (case c7=>k_is)
  (case k7=>k_is)
  (case a8=>k_is)
  (case l8=>k_is)
  (case c8=>k_is)
  (case k8=>k_is)
  (case a9=>k_is)
  (case l9=>k_is)
  (case c9=>k_is)
  (case k9=>k_is)
  (case a10=>k_is)
  (case l10=>k_is)
  (case c10=>k_is)
  (case k10=>k_is)
  (case a11=>k_is)
  (case l11=>k_is)
  (case c11=>k_is)
  (case k11=>k_is)
  (case a12=>k_is)
  (case l12=>k_is)
  (case c12=>k_is)
  (case k12=>k_is)
  (case a13=>k_is)
  (case l13=>k_is)
  (case c13=>k_is)
  (case k13=>k_is)
  (case a14=>k_is)
  (case l14=>k_is)
  (case c14=>k_is)
  (case k14=>k_is)
  (case a15=>k_is)
  (case l15=>k_is)
  (case c15=>k_is)
  (case k15=>k_is)
  (case a16=>k_is)
  (case l16=>k_is)
  (case c16=>k_is)
  (case k16=>k_is)
  (case a17=>k_is)
  (case l17=>k_is)
  (case c17=>k_is)
  (case k17=>k_is)
  (case a18=>k_is)
  (case l18=>k_is)
  (case c18=>k_is)
  (case k18=>k_is)
  (case a19=>k_is)
  (case l19=>k_is)
  (case c19=>k_is)
  (case k19=>k_is)
  (case a20=>k_is)
  (case l20=>k_is)
  (case c20=>k_is)
  (case k20=>k_is)
  (case a21=>k_is)
  (case l21=>k_is)
  (case c21=>k_is)
  (case k21=>k_is)
  (case a22=>k_is)
  (case l22=>k_is)
  (case c22=>k_is)
  (case k22=>k_is)
  (case a23=>k_is)
  (case l23=>k_is)
  (case c23=>k_is)
  (case k23=>k_is)
  (case a24=>k_is)
  (case l24=>k_is)
  (case c24=>k_is)
  (case k24=>k_is)
  (case a25=>k_is)
  (case l25=>k_is)
  (case c25=>k_is)
  (case k25=>k_is)
  (case a26=>k_is)
  (case l26=>k_is)
  (case c26=>k_is)
  (case k26=>k_is)
  (case a27=>k_is)
  (case l27=>k_is)
  (case c27=>k_is)
  (case k27=>k_is)
  (case a28=>k_is)
  (case l28=>k_is)
  (case c28=>k_is)
  (case k28=>k_is)
  (case a29=>k_is)
  (case l29=>k_is)
  (case c29=>k_is)
  (case k29=>k_is)
  (case a30=>k_is)
  (case l30=>k_is)
  (case c30=>k_is)
  (case k30=>k_is)
  (case a31=>k_is)
  (case l31=>k_is)
  (case c31=>k_is)
  (case k31=>k_is)
  (case a32=>k_is)
  (case l32=>k_is)
  (case c32=>k_is)
  (case k32=>k_is)
  (case z_len=>k_is)
  (case z_range=>k_is)
  (case z_list=>k_is)
  (case z_tuple=>k_is)
  (case z_bool=>k_is)
  (case z_str=>k_is)
  (case z_int=>k_is)
  (case z_isinstance=>k_is)
  (case z_all=>k_is)
  (case z_sorted=>k_is)
  (case z_max=>k_is)
  (case z_min=>k_is)
  (case z_set=>k_is)
  (case z_reversed=>k_is)
  (case z_sum=>k_is)
  (case z_enumerate=>k_is)
  (case z_zip=>k_is)
  (case z_any=>k_is)
  (case z_abs=>k_is)
  (case y_MOST_STONES=>k_is)
