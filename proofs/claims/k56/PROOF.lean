import PyProof.Rows.All
import Wide.All
import OpenK.AllK
import Wide.FinOn
import Lean
import PyProof.EqAt
import PyProof.EqKinds
import PyProof.TupleCall
import PySem.Challenge.RW_creelway_k56_asked_by_turns
set_option Elab.async false
set_option linter.all false
set_option maxRecDepth 100000
set_option maxHeartbeats 4000000
section
open PySem PySem.Spec PyProof.Rows
def aB2:=@wpAny_bind
def aB3:=@wpAny_pure
def aB4:=@List.length_map
def aB5:=@Heap.get?_push_of_some
def aB6:=@List.mem_cons_self
def aB7:=@List.mem_cons_of_mem
def aB8:=@List.mem_append_right
def aB9:=@Heap.get?_update_other
def aBa:=@Heap.lt_size
def aBb:=@Heap.get?_push_size
def aBc:=@List.size_toArray
def aBd:=@List.length_append
def aBe:=@List.getElem?_eq_getElem
def aBf:=@List.mem_of_getElem?
def aBg:=@Around.under_plainId
def aBh:=@Bool.false_ne_true
def aBi:=@List.take_length
def aBj:=@List.map_append
def aBk:=@List.length_take
def aBl:=@Nat.lt_of_lt_of_le
def aBm:=@Heap.get?_update_self
def aBn:=@List.mem_append_left
def aBo:=@List.length_replicate
def aBp:=@decide_eq_false
def aBq:=@decide_eq_true
def aBr:=@Nat.ne_of_lt
def aBs:=@List.getElem?_map
def aBt:=@List.map_cons
def aBu:=@Nat.ne_of_gt
def aBv:=@List.foldl_cons
def aBw:=@List.sum_cons
def aBx:=@List.length_cons
def aBy:=@List.map_map
def aBz:=@List.take_succ
def aCA:=@List.mem_singleton
def aCB:=@PySem.F.plainAttrs_list
def aCC:=@PySem.F.slot_list_append
def aCD:=@PySem.F.type_list_append
def aCE:=@Option.map_eq_some_iff
def aCF:=@List.getElem?_eq_some_iff
def aCG:=@List.mem_cons
def aCH:=@List.mem_append
def aCI:=@List.mem_map
def aCJ:=@List.mem_filter
end
namespace L2
open PySem PySem.Spec PyProof.Rows
abbrev Key:=Sum Int Str
def pW:Key->Value->Bool
 | .inl k,v=>Value.isInt k v
 | .inr x,v=>Value.isStrOf x v
def aAx (w:World):Key->Int
 | .inl k=>hashInt k
 | .inr x=>hashStr w x
theorem bZ:∀ {k:Key} {v:Value},pW k v=true->(∃ i t,k=Sum.inl i/\v=Value.int i t)\/(∃ x t,k=Sum.inr x/\v=Value.str x t)
 | .inl i,v,h=>by
  obtain⟨t,e⟩:=Value.isInt_shape (k:=i) (v:=v) h;exact .inl ⟨i,t,rfl,e⟩
 | .inr x,v,h=>by
  obtain⟨t,e⟩:=Value.isStrOf_shape (x:=x) (v:=v) h;exact .inr ⟨x,t,rfl,e⟩
theorem C9 (i:Int) (t:Tok):pW (.inl i) (.int i t)=true:=by simp[pW,Value.isInt]
theorem D1 (x:Str) (t:Tok):pW (.inr x) (.str x t)=true:=by simp[pW,Value.isStrOf]
theorem p7 (a b:Int):decide ((Sum.inl a:Key)=Sum.inl b)=(a == b):=by
 by_cases e:a=b
 ·subst e;simp
 ·have h:¬ (Sum.inl a:Key)=Sum.inl b:=fun q=>e (Sum.inl.inj q);rw[aBp h];exact(beq_eq_false_iff_ne.mpr e).symm
theorem p8 (a b:Str):decide ((Sum.inr a:Key)=Sum.inr b)=decide (a=b):=by
 by_cases e:a=b
 ·subst e;simp
 ·have h:¬ (Sum.inr a:Key)=Sum.inr b:=fun q=>e (Sum.inr.inj q);rw[aBp h,aBp e]
theorem p9 (a:Int) (b:Str):decide ((Sum.inl a:Key)=Sum.inr b)=false:=aBp (fun q=>nomatch q)
theorem r6 (a:Str) (b:Int):decide ((Sum.inr a:Key)=Sum.inl b)=false:=aBp (fun q=>nomatch q)
def bK (prog:Program) (w:World):PySem.KeyKind prog w Key where
 is:=pW
 hash:=aAx w
 inj:=fun v a b ha hb=>by
  rcases bZ ha with ⟨i,t,rfl,rfl⟩ | ⟨x,t,rfl,rfl⟩
  ·rcases bZ hb with ⟨j,u,rfl,e⟩ | ⟨y,u,rfl,e⟩
   ·injection e with e1 _;rw[e1]
   ·exact nomatch e
  ·rcases bZ hb with ⟨j,u,rfl,e⟩ | ⟨y,u,rfl,e⟩
   ·exact nomatch e
   ·injection e with e1 _;rw[e1]
 byValue:=fun k v h=>by
  rcases bZ h with ⟨i,t,rfl,rfl⟩ | ⟨x,t,rfl,rfl⟩ <;> rfl
 pyHash:=fun hv h=>by
  rcases bZ hv with ⟨i,t,rfl,rfl⟩ | ⟨x,t,rfl,rfl⟩
  ·exact wpAny_pyHash_int h
  ·exact wpAny_pyHash_str h
 eqBool:=fun hu hv h=>by
  rcases bZ hu with ⟨i,t,rfl,rfl⟩ | ⟨x,t,rfl,rfl⟩
  ·rcases bZ hv with ⟨j,u,rfl,rfl⟩ | ⟨y,u,rfl,rfl⟩
   ·rw[p7]at h;exact wpAny_eqBool_int h
   ·rw[p9]at h;exact SeqAt.EqAt.int_str i t y u _ _ _ _ h
  ·rcases bZ hv with ⟨j,u,rfl,rfl⟩ | ⟨y,u,rfl,rfl⟩
   ·rw[r6]at h;exact SeqAt.EqAt.str_int x t j u _ _ _ _ h
   ·rw[p8]at h;exact wpAny_eqBool_str h
 «strs»:=fun k x t v h=>by
  rcases bZ h with ⟨i,u,rfl,e⟩ | ⟨y,u,rfl,e⟩
  ·exact nomatch e
  ·injection e with e1 _
   subst e1;cases v <;> rfl
theorem pX (prog:Program) (w:World) (k:Key) (v:Value):(bK prog w).is k v=pW k v:=rfl
theorem wB (prog:Program) (w:World) (i:Int) (t:Tok):(bK prog w).is (.inl i) (.int i t)=true:=C9 i t
theorem wC (prog:Program) (w:World) (x:Str) (t:Tok):(bK prog w).is (.inr x) (.str x t)=true:=D1 x t
inductive V where
 | non | bl (b:Bool) | int (i:Int) | str (x:Str) | byt (b:Array UInt8) | flt (b:UInt64) | ref (a:Addr) | ty (n:String)
 deriving DecidableEq
def RelV:V->Value->Prop
 | .non,u=>u=Value.none
 | .bl b,u=>u=Value.bool b
 | .int i,u=>∃ t,u=Value.int i t
 | .str x,u=>∃ t,u=Value.str x t
 | .byt b,u=>∃ t,u=Value.bytes b t
 | .flt b,u=>∃ t,u=Value.float b t
 | .ref a,u=>u=Value.ref a
 | .ty n,u=>u=Value.type n
abbrev Vals:List V->List Value->Prop:=Paired RelV
theorem Vals.length {xs:List V} {us:List Value} (r:Vals xs us):xs.length=us.length:=Paired.length r
theorem Vals.get:∀ {xs:List V} {us:List Value} {i:Nat} {x:V},Vals xs us->xs[i]?=some x->∃ u,us[i]?=some u/\RelV x u
 | _,_,_,_,.nil,e=>by simp at e
 | _,_,0,_,.cons r _,e=>by simp at e;subst e;exact⟨_,rfl,r⟩
 | _,_,i+1,x,.cons _ t,e=>by
  obtain⟨u,h1,h2⟩:=Vals.get (i:=i) (x:=x) t (by simpa using e);exact⟨u,by simpa using h1,h2⟩
theorem Vals.set {x:V} {u:Value} (r:RelV x u):∀ {xs:List V} {us:List Value} (i:Nat),Vals xs us->Vals (xs.set i x) (us.set i u)
 | _,_,_,.nil=>.nil
 | _,_,0,.cons _ t=>.cons r t
 | _,_,i+1,.cons q t=>.cons q (Vals.set r i t)
theorem Vals.append:∀ {xs ys:List V} {us ws:List Value},Vals xs us->Vals ys ws->Vals (xs++ys) (us++ws)
 | _,_,_,_,.nil,s=>s
 | _,_,_,_,.cons r t,s=>.cons r (Vals.append t s)
theorem Vals.take:∀ {xs:List V} {us:List Value} (n:Nat),Vals xs us->Vals (xs.take n) (us.take n)
 | _,_,0,_=>.nil
 | _,_,_+1,.nil=>.nil
 | _,_,n+1,.cons r t=>.cons r (Vals.take n t)
theorem Vals.drop:∀ {xs:List V} {us:List Value} (n:Nat),Vals xs us->Vals (xs.drop n) (us.drop n)
 | _,_,0,r=>r
 | _,_,_+1,.nil=>.nil
 | _,_,n+1,.cons _ t=>Vals.drop n t
def RelO:Option V->Option Value->Prop
 | some v,some u=>RelV v u
 | none,none=>True
 | _,_=>False
def KV {κ:Type}:List (κ×V)->List (κ×Value)->Prop:=Paired fun(p:κ×V) (q:κ×Value)=>p.1=q.1/\RelV p.2 q.2
def kV:Key->V
 | .inl i=>.int i
 | .inr x=>.str x
inductive HO where
 | lst (xs:List V)
 | tup (xs:List V)
 | dK (kvs:List (Key×V)) | dT (kvs:List (List Key×V))
 | set (S:Int->Bool) (n:Nat)
 | ins (C dx:Addr) (fs:List (Str×V))
 | own (x:Addr)
 | xd (fs:List (Str×V))
 | met (f x:Addr)
 | rng (lo hi:Int)
 | frz (o:Obj) (u:HO)
 | tbl (ps:Array Value)
 | ext (φ:Heap->Prop)
abbrev Hp:=Addr->Option HO
def upd (H:Hp) (a:Addr) (o:HO):Hp:=fun b=>if b=a then some o else H b
theorem aB {H:Hp} {a:Addr} {o:HO}:upd H a o a=some o:=by unfold upd;rw[if_pos rfl]
theorem aG {H:Hp} {a b:Addr} {o:HO} (h:b≠a):upd H a o b=H b:=by unfold upd;rw[if_neg h]
theorem fV {H:Hp} {a b:Addr} {o u:HO} (h:H a=some o) (h':H b=some u) (d:o≠u):a≠b:=by
 intro e;subst e;rw[h]at h';exact d (Option.some.inj h')
theorem aV {H:Hp} {a b:Addr} {o:HO} (h:H a=some o) (h':H b=none):a≠b:=by
 intro e;subst e;rw[h]at h';cases h'
section
variable (P:Program) (w:World)
def ObjOk (H:Hp) (h:Heap) (a:Addr):HO->Prop
 | .lst xs=>xs.length<=sizeLine/\∃ (its:List Value) (n:Nat),Vals xs its/\h.get? a=some { cls:=.type "list",data:=.seq its.toArray n }
 | .tup xs=>xs.length<=sizeLine/\∃ its:List Value,Vals xs its/\IsTup h a its.toArray
 | .dK kvs=>kvs.length<=sizeLine/\(a == sysModules)=false/\∃ vs,KV kvs vs/\h.DictOf (bK P w) a vs
 | .dT kvs=>kvs.length<=sizeLine/\(a == sysModules)=false/\∃ xs:List (List Key×Addr×Value),
  Paired (fun(p:List Key×V) (q:List Key×Addr×Value)=>p.1=q.1/\H q.2.1=some (.tup (p.1.map kV))/\RelV p.2 q.2.2) kvs xs /\
  ∃ o es ep,h.get? a=some o/\o.ExactDict/\o.data=.dict es ep/\es.toList=xs.map (entryOfKey (tupleKind (bK P w)))/\(xs.map (·.1)).Nodup
 | .set S n=>h.SetOf (intKind P w) a S n
 | .ins C dx fs=>H dx=some (.own a)/\fs.length<=1000/\dx≠a/\h.get? a=some (PySem.W.instObj C dx) /\
  ∃ mA,h.Ns1 dx mA/\(∀ f,RelO (fs.lookup f) (mA f))/\PySem.Within mA (fs.map (·.1))
 | .own _=>∃ o,h.get? a=some o
 | .xd fs=>∃ mA,h.Ns1 a mA/\∀ f,RelO (fs.lookup f) (mA f)
 | .rng lo hi=>∃ t u v,h.get? a=some { cls:=.type "range",data:=.fields #[.int lo t,.int hi u,.int 1 v] }
 | .frz o u=>h.get? a=some o/\ObjOk H h a u
 | .tbl ps=>h.get? a=some { cls:=.none,data:=.fields ps }
 | .met f x=>h.get? a=some (PySem.W.methodObj (.ref f) (.ref x))
 | .ext φ=>φ h/\(∃ o,h.get? a=some o)/\∀ h1 h2:Heap,φ h1->(∀ o,h1.get? a=some o->h2.get? a=some o)->φ h2
def HOk (H:Hp) (h:Heap):Prop:=∀ a o,H a=some o->ObjOk P w H h a o
end
section
variable {P:Program} {w:World} {H H':Hp} {h h':Heap} {a:Addr} {o:HO}
theorem ObjOk.lt (x:ObjOk P w H h a o):a<h.objs.size:=by
 cases o with
 | lst xs=>obtain⟨_,_,_,_,e⟩:=x;exact aBa e
 | tup xs=>obtain⟨_,_,_,p⟩:=x;exact p.lt
 | dK kvs=>obtain⟨_,_,_,_,o,_,_,e,_⟩:=x;exact aBa e
 | dT kvs=>obtain⟨_,_,_,_,o,_,_,e,_⟩:=x;exact aBa e
 | set S n=>obtain⟨o,_,_,_,e,_⟩:=x;exact aBa e
 | ins C dx fs=>obtain⟨_,_,_,e,_⟩:=x;exact aBa e
 | own y=>obtain⟨_,e⟩:=x;exact aBa e
 | xd fs=>obtain⟨_,⟨_,_,_,e,_⟩,_⟩:=x;exact aBa e
 | rng lo hi=>obtain⟨_,_,_,e⟩:=x;exact aBa e
 | frz ob u=>obtain⟨e,_⟩:=x;exact aBa e
 | tbl ps=>exact aBa (show h.get? a=some _ from x)
 | met f y=>exact aBa (show h.get? a=some _ from x)
 | ext φ=>obtain⟨_,⟨_,e⟩,_⟩:=x;exact aBa e
theorem Paired.mapP {α β:Type} {F G:α->β->Prop}:∀ {l₁:List α} {l₂:List β},Paired F l₁ l₂->(∀ a b,F a b->G a b)->Paired G l₁ l₂
 | _,_,.nil,_=>.nil
 | _,_,.cons r t,f=>.cons (f _ _ r) (Paired.mapP t f)
theorem ObjOk.stay (x:ObjOk P w H h a o) (k:∀ b u,(b=a\/H b=some (.own a))->h.get? b=some u->h'.get? b=some u)
 (ho:∀ b,H b=some (.own a)->H' b=some (.own a)) (ht:∀ b xs,H b=some (.tup xs)->H' b=some (.tup xs)):ObjOk P w H' h' a o:=by
 induction o with
 | lst xs=>obtain⟨z,its,n,r,e⟩:=x;exact⟨z,its,n,r,k _ _ (.inl rfl) e⟩
 | tup xs=>obtain⟨z,its,r,ob,e,c⟩:=x;exact⟨z,its,r,ob,k _ _ (.inl rfl) e,c⟩
 | dK kvs=>obtain⟨z,y,vs,r,ob,es,ep,e,c⟩:=x;exact⟨z,y,vs,r,ob,es,ep,k _ _ (.inl rfl) e,c⟩
 | dT kvs =>
  obtain⟨z,y,xs,r,ob,es,ep,e,c⟩:=x;exact⟨z,y,xs,Paired.mapP r fun p q z=>⟨z.1,ht _ _ z.2.1,z.2.2⟩,ob,es,ep,k _ _ (.inl rfl) e,c⟩
 | set S n=>obtain⟨ob,es,ep,t,e,c⟩:=x;exact⟨ob,es,ep,t,k _ _ (.inl rfl) e,c⟩
 | ins C dx fs =>
  obtain⟨d,z,ne,e,mA,⟨od,es,ep,e2,c⟩,r⟩:=x;exact⟨ho _ d,z,ne,k _ _ (.inl rfl) e,mA,⟨od,es,ep,k _ _ (.inr d) e2,c⟩,r⟩
 | own y=>obtain⟨ob,e⟩:=x;exact⟨ob,k _ _ (.inl rfl) e⟩
 | xd fs=>obtain⟨mA,⟨od,es,ep,e,c⟩,r⟩:=x;exact⟨mA,⟨od,es,ep,k _ _ (.inl rfl) e,c⟩,r⟩
 | rng lo hi=>obtain⟨t,u,v,e⟩:=x;exact⟨t,u,v,k _ _ (.inl rfl) e⟩
 | frz ob u ih=>obtain⟨e,q⟩:=x;exact⟨k _ _ (.inl rfl) e,ih q⟩
 | tbl ps =>
  have e:h.get? a=some { cls:=.none,data:=.fields ps }:=x;show h'.get? a=some { cls:=.none,data:=.fields ps };exact k a _ (.inl rfl) e
 | met f y =>
  have e:h.get? a=some (PySem.W.methodObj (.ref f) (.ref y)):=x;show h'.get? a=some (PySem.W.methodObj (.ref f) (.ref y));exact k a _ (.inl rfl) e
 | ext φ=>obtain⟨p,⟨o,e⟩,st⟩:=x;exact⟨st _ _ p fun o q=>k _ _ (.inl rfl) q,⟨o,k _ _ (.inl rfl) e⟩,st⟩
theorem HOk.lt (x:HOk P w H h) (e:H a=some o):a<h.objs.size:=(x a o e).lt
theorem HOk.fresh (x:HOk P w H h) (e:h.objs.size<=a):H a=none:=by
 cases q:H a with
 | none=>rfl
 | some u=>exact absurd (aBl (x.lt q) e) (Nat.lt_irrefl _)
theorem HOk.kept (x:HOk P w H h) (k:∀ b u,h.get? b=some u->h'.get? b=some u):HOk P w H h':=fun a o e =>
 (x a o e).stay (fun b u _ q=>k b u q) (fun _ q=>q) fun _ _ q=>q
theorem HOk.laid (x:HOk P w H h) (k:∀ b u,h.get? b=some u->h'.get? b=some u) (hp:h.objs.size<=a) (new:ObjOk P w (upd H a o) h' a o):HOk P w (upd H a o) h':=fun b u e=>by
 have hn:=x.fresh hp
 by_cases hb:b=a
 ·subst hb;rw[aB]at e;cases e;exact new
 ·rw[aG hb]at e;exact(x b u e).stay (fun c v _ q=>k c v q) (fun c q=>by rw[aG (aV q hn)];exact q) fun c xs q=>by rw[aG (aV q hn)];exact q
end
def Rd (H:Hp) (a:Addr) (u:HO):Prop:=H a=some u\/∃ o,H a=some (.frz o u)
theorem Rd.ok {P:Program} {w:World} {H:Hp} {h:Heap} {a:Addr} {u:HO} (r:Rd H a u) (x:HOk P w H h):ObjOk P w H h a u:=by
 rcases r with r | ⟨o,r⟩
 ·exact x a u r
 ·obtain⟨_,q⟩:=x a _ r;exact q
def Mut:Option HO->Prop
 | some (.lst _)=>True
 | some (.dK _)=>True
 | some (.dT _)=>True
 | some (.set _ _)=>True
 | some (.ins _ _ _)=>True
 | some (.ext _)=>True
 | _=>False
section
variable {P:Program} {w:World} {H:Hp} {h h':Heap} {x e:Addr} {o':HO}
theorem HOk.write (ok:HOk P w H h) (mu:Mut (H x)) (he:e=x\/H e=some (.own x)) (k:∀ b u,b≠e->h.get? b=some u->h'.get? b=some u) (heo:∃ u,h'.get? e=some u)
 (new:ObjOk P w (upd H x o') h' x o'):HOk P w (upd H x o') h':=fun b u q=>by
 have nown:∀ c y,H c=some (.own y)->c≠x:=fun c y r z=>by subst z;rw[r]at mu;exact mu
 have ntup:∀ c xs,H c=some (.tup xs)->c≠x:=fun c xs r z=>by subst z;rw[r]at mu;exact mu
 by_cases hb:b=x
 ·subst hb;rw[aB]at q;cases q;exact new
 ·rw[aG hb]at q
  by_cases hbe:b=e
  ·have q':H b=some (.own x):=by
    rcases he with z | z
    ·exact absurd (hbe.trans z) hb
    ·rw[hbe];exact z
   rw[q]at q';cases q';obtain⟨v,hv⟩:=heo;exact⟨v,by rw[hbe];exact hv⟩
  ·refine(ok b u q).stay (fun c v hc r=>k c v ?_ r) (fun c r=>by rw[aG (nown c b r)];exact r) fun c xs r=>by rw[aG (ntup c xs r)];exact r
   rcases hc with rfl | hc
   ·exact hbe
   ·rintro rfl;rcases he with z | z
    ·exact nown c b hc z
    ·rw[hc]at z;cases z;exact hb rfl
end
structure Un (fs ex:List Addr) (H H':Hp) (h h':Heap):Prop where
 keep:∀ b o,h.get? b=some o->H b=none->b∉fs->b∉ex->h'.get? b=some o
 slot:∀ b o,h.get? b=some o->H b=none->b∈fs->b∉ex->∃ sl,h'.get? b=some { o with slots:=sl }
 free:∀ b o,h.get? b=some o->H b=none->b∉ex->H' b=none
 there:∀ b o,h.get? b=some o->b∉ex->∃ o',h'.get? b=some o'
 tups:∀ b xs,H b=some (.tup xs)->H' b=some (.tup xs)
 frzs:∀ b o u,H b=some (.frz o u)->H' b=some (.frz o u)
 tbls:∀ b ps,H b=some (.tbl ps)->∃ more,H' b=some (.tbl (ps++more))
section
variable {fs fs' ex ex':List Addr} {H H1 H2:Hp} {h h1 h2 h':Heap} {a x e:Addr} {o:HO}
theorem Un.any (u:Un fs ex H H1 h h1) {b:Addr} {ob:Obj} (q:h.get? b=some ob) (n:H b=none) (hx:b∉ex):∃ sl,h1.get? b=some { ob with slots:=sl }:=by
 by_cases hb:b∈fs
 ·exact u.slot b ob q n hb hx
 ·exact⟨ob.slots,u.keep b ob q n hb hx⟩
theorem Un.trans (a:Un fs ex H H1 h h1) (b:Un fs ex H1 H2 h1 h2):Un fs ex H H2 h h2 where
 keep:=fun c ob q n hc hx=>b.keep c ob (a.keep c ob q n hc hx) (a.free c ob q n hx) hc hx
 slot:=fun c ob q n hc hx=>by
  obtain⟨sl,e1⟩:=a.slot c ob q n hc hx;obtain⟨sl',e2⟩:=b.slot c _ e1 (a.free c ob q n hx) hc hx;exact⟨sl',e2⟩
 free:=fun c ob q n hx=>by
  obtain⟨o',e1⟩:=a.there c ob q hx;exact b.free c o' e1 (a.free c ob q n hx) hx
 there:=fun c ob q hx=>by
  obtain⟨o',e1⟩:=a.there c ob q hx;exact b.there c o' e1 hx
 tups:=fun c xs q=>b.tups c xs (a.tups c xs q)
 frzs:=fun c ob xs q=>b.frzs c ob xs (a.frzs c ob xs q)
 tbls:=fun c ps q=>by
  obtain⟨m1,e1⟩:=a.tbls c ps q;obtain⟨m2,e2⟩:=b.tbls c _ e1;exact⟨m1++m2,by rw[e2,Array.append_assoc]⟩
theorem Un.kept (k:∀ b u,h.get? b=some u->h'.get? b=some u):Un fs ex H H h h' :=
 ⟨fun b ob q _ _ _=>k b ob q,fun b ob q _ _ _=>⟨ob.slots,k b ob q⟩,fun _ _ _ n _=>n,fun b ob q _=>⟨ob,k b ob q⟩,fun _ _ q=>q,fun _ _ _ q=>q,fun _ ps q=>⟨#[],by rw[q];simp⟩⟩
theorem Un.refl:Un fs ex H H h h:=Un.kept fun _ _ q=>q
theorem Un.laid (k:∀ b u,h.get? b=some u->h'.get? b=some u) (hp:h.objs.size<=a) (hn:H a=none):Un fs ex H (upd H a o) h h' where
 keep:=fun b u q _ _ _=>k b u q
 slot:=fun b u q _ _ _=>⟨u.slots,k b u q⟩
 free:=fun b u q n _=>by rw[aG (aBr (aBl (aBa q) hp))];exact n
 there:=fun b u q _=>⟨u,k b u q⟩
 tups:=fun b xs q=>by rw[aG (aV q hn)];exact q
 frzs:=fun b u xs q=>by rw[aG (aV q hn)];exact q
 tbls:=fun b ps q=>⟨#[],by rw[aG (aV q hn),q];simp⟩
theorem Un.write (mu:Mut (H x)) (he:e=x\/H e=some (.own x)) (k:∀ b u,b≠e->h.get? b=some u->h'.get? b=some u) (heo:∃ u,h'.get? e=some u):Un fs ex H (upd H x o) h h':=by
 have hx:∀ b,H b=none->b≠x:=fun b n z=>by subst z;rw[n]at mu;exact mu
 have hb:∀ b,H b=none->b≠e:=fun b n z=>by
  subst z;rcases he with r | r
  ·exact hx b n r
  ·rw[n]at r;cases r
 have hm:∀ b u,H b=some u->¬ Mut (some u)->b≠x:=fun b u q nm z=>by subst z;rw[q]at mu;exact nm mu
 refine⟨fun b u q n _ _=>k b u (hb b n) q,fun b u q n _ _=>⟨u.slots,k b u (hb b n) q⟩,fun b u q n _=>by rw[aG (hx b n)];exact n,fun b u q _=>?_,
  fun b xs q=>by rw[aG (hm b _ q fun z=>z)];exact q,fun b u xs q=>by rw[aG (hm b _ q fun z=>z)];exact q,fun b ps q=>⟨#[],by rw[aG (hm b _ q fun z=>z),q];simp⟩⟩
 by_cases hbe:b=e
 ·subst hbe;exact heo
 ·exact⟨u,k b u hbe q⟩
end
def trk (h:Heap) (H:Hp):List Addr:=(List.range h.objs.size).filter fun a=>(H a).isSome
def uA (h:Heap) (H:Hp):Heap:=PySem.W.hideAll h (trk h H)
theorem D3 (h:Heap) (H:Hp):(uA h H).objs.size=h.objs.size:=PySem.W.hideAll_size _ _
theorem M7 {h:Heap} {H:Hp} {b:Addr} {o:Obj} (e:h.get? b=some o) (n:H b=none):(uA h H).get? b=some o :=
 PySem.W.hideAll_get _ e fun hm=>by
  have q:(H b).isSome=true:=(aCJ.mp hm).2;rw[n]at q;simp at q
theorem X6 {h:Heap} {H:Hp} {b:Addr} {o:Obj} (e:(uA h H).get? b=some o):h.get? b=some o/\H b=none:=by
 have e':h.get? b=some o:=PySem.W.of_hideAll (trk h H) e;refine⟨e',?_⟩;cases q:H b with
 | none=>rfl
 | some x =>
  have hm:b∈trk h H:=aCJ.mpr ⟨List.mem_range.mpr (aBa e'),by simp[q]⟩;have z:(uA h H).get? b=none:=PySem.W.hideAll_none (trk h H) hm;rw[z]at e;cases e
def X7 (g h:Heap) (L:Addr):List (Addr×Obj):=(List.range h.objs.size).filterMap fun a=>if a=L\/(g.get? a).isSome=true then none else (h.get? a).map fun o=>(a,o)
def rest (g h:Heap) (L d:Addr):List (Addr×Obj):=(X7 g h L).filter fun p=>decide (p.1≠d)
structure Mod (K:PySem.W.Frag) (mg:Str->Option Value) (base:Heap):Prop where
 kin:K.In base
 glob:base.Ns mainGlobals mg
 blt:∃ mb,base.Ns builtinsNs mb/\∀ x:Str,x≠"__name__"->mb x=bootBuiltins x
 nolimit:base.NoLimit
structure Cx where
 prog:Program
 w:World
 K:PySem.W.Frag
 mg:Str->Option Value
 base:Heap
 A:Around
 N:List Str
 s₀:Shared
 H₀:Hp
 env:Env
 outer:List Env
 stack:List Env
 ex:List Addr
 fn:Str->Bool
 calm:Bool
 pn:List (Addr×Obj)
 xe:Value->Shared->Prop
def frs (l:List Env):List Addr:=l.filterMap (·.frame)
abbrev Cx.fs (X:Cx):List Addr:=frs X.outer
def Vis (sc:Scope) (x:Str):Prop:=sc.names.lookup x=some .local\/sc.names.lookup x=some .cell\/sc.names.lookup x=some .free
def Loc (sc:Scope) (x:Str):Prop:=sc.names.lookup x=some .local\/sc.names.lookup x=some .cell
def aAy (env:Env) (h:Heap) (m:Str->Option Value) (x:Str) (u:Value):Prop :=
 (env.kindOf x=some .local/\m x=some u)\/((env.kindOf x=some .cell\/env.kindOf x=some .free)/\∃ c,env.cells.lookup x=some c/\h.IsCell c (some u))
structure Cx.Ok (X:Cx):Prop where
 mod:Mod X.K X.mg X.base
 kind:X.env.scope.kind=.function
 glob:X.env.globals=mainGlobals
 blt:X.env.builtins=builtinsNs
 above:X.s₀.heap.objs.size<=X.env.locals
 inj:∀ x y c,X.env.cells.lookup x=some c->X.env.cells.lookup y=some c->x=y
 has:∀ x,(X.env.kindOf x=some .cell\/X.env.kindOf x=some .free)->∃ c,X.env.cells.lookup x=some c
 cab:∀ x c,X.fn x=true->X.env.cells.lookup x=some c->X.s₀.heap.objs.size<=c
 hd:X.calm=true->X.A.handled=none
 frames:X.A.frames=some X.stack
 stk:X.stack=X.outer\/(X.stack=X.env :: X.outer/\X.env.frame=some X.env.locals)
 exf:∀ b∈X.ex,b≠X.env.locals/\∀ x c,X.env.cells.lookup x=some c->c≠b
 bs:∀ b o,X.base.get? b=some o->X.s₀.heap.get? b=some o/\X.H₀ b=none
 bsz:X.base.objs.size<=X.s₀.heap.objs.size
 noex:∀ b o,X.base.get? b=some o->b∉X.ex
 exfs:∀ b∈X.ex,b∉X.fs
 funs:X.s₀.heap.FunFrames X.base X.outer
 frf:∀ b∈X.fs,X.H₀ b=none
structure Inv (X:Cx) (pins:List (Addr×Obj)) (σ:List (Option V)) (H:Hp) (s:Shared):Prop where
 ok:X.Ok
 os:s.os=X.s₀.os
 bare:AllBare s.gens
 base:Un X.fs X.ex X.H₀ H X.s₀.heap s.heap
 loc:∃ m,s.heap.Ns X.env.locals m/\∀ (i:Nat) (x:Str) (v:V),X.N[i]?=some x->σ[i]?=some (some v)->Vis X.env.scope x->∃ u,RelV v u/\aAy X.env s.heap m x u
 cell:∀ x c,X.env.cells.lookup x=some c->∃ v,s.heap.IsCell c v
 free:H X.env.locals=none
 freeC:∀ x c,X.env.cells.lookup x=some c->H c=none
 pin:∀ p∈X.pn++pins,s.heap.get? p.1=some p.2/\H p.1=none/\p.1≠X.env.locals/\p.1∉X.fs/\∀ v,p.2.data≠.cell v
 hok:HOk X.prog X.w H s.heap
 len:σ.length=X.N.length
section
variable {X:Cx} {pins:List (Addr×Obj)} {σ:List (Option V)} {H H':Hp} {s:Shared} {h':Heap}
theorem Cx.Ok.nofr (ok:X.Ok) {b:Addr} {o:Obj} (e:X.base.get? b=some o):b∉X.fs:=fun hb=>by
 have:=(ok.funs.mem hb).1;rw[e]at this;cases this
theorem Inv.bs (I:Inv X pins σ H s):∀ b o,X.base.get? b=some o->s.heap.get? b=some o/\H b=none:=fun b o e =>
 ⟨I.base.keep b o (I.ok.bs b o e).1 (I.ok.bs b o e).2 (I.ok.nofr e) (I.ok.noex b o e),I.base.free b o (I.ok.bs b o e).1 (I.ok.bs b o e).2 (I.ok.noex b o e)⟩
theorem Inv.bk (I:Inv X pins σ H s):∀ b o,X.base.get? b=some o->s.heap.get? b=some o:=fun b o e=>(I.bs b o e).1
theorem Inv.mod (I:Inv X pins σ H s):Mod X.K X.mg X.base:=I.ok.mod
theorem Inv.kIn (I:Inv X pins σ H s):X.K.In s.heap:=I.ok.mod.kin.keeps I.bk
theorem Inv.nolimit (I:Inv X pins σ H s):s.heap.NoLimit:=I.ok.mod.nolimit.keeps I.bk
theorem Inv.fr (I:Inv X pins σ H s):∃ m,Fr X.base X.env.locals s.heap m :=
 let ⟨m,hn,_⟩:=I.loc
 ⟨m,hn,I.bk,Nat.le_trans I.ok.bsz I.ok.above⟩
theorem Inv.lt (I:Inv X pins σ H s):X.env.locals<s.heap.objs.size:=let ⟨_,hn,_⟩:=I.loc;hn.lt
theorem Inv.sz (I:Inv X pins σ H s):X.s₀.heap.objs.size<=s.heap.objs.size:=Nat.le_trans I.ok.above (Nat.le_of_lt I.lt)
theorem Inv.nofs (I:Inv X pins σ H s) {a:Addr} (h:s.heap.objs.size<=a):a∉X.fs:=fun hb=>by
 obtain⟨_,o,ho,_⟩:=I.ok.funs.mem hb;exact absurd (aBl (aBa ho) (Nat.le_trans I.sz h)) (Nat.lt_irrefl _)
theorem Inv.cne (I:Inv X pins σ H s):∀ x c,X.env.cells.lookup x=some c->c≠X.env.locals:=fun x c e z=>by
 obtain⟨v,o,ho,hd⟩:=I.cell x c e;obtain⟨m,⟨o',es,ep,ho',hd',_⟩,_⟩:=I.loc;rw[z,ho']at ho;cases ho;rw[hd']at hd;cases hd
theorem Inv.funs (I:Inv X pins σ H s):s.heap.FunFrames X.base X.outer:=by
 have all:∀ (l:List Env),(∀ b∈frs l,b∈X.fs)->X.s₀.heap.FunFrames X.base l->s.heap.FunFrames X.base l:=by
  intro l
  induction l with
  | nil=>intro _ _;trivial
  | cons env r ih =>
   intro hs hl;obtain⟨hk,⟨L,o,hf,hn,ho,hd⟩,hr⟩:=hl;have hL:L∈X.fs:=hs L (by unfold frs;rw[List.filterMap_cons,hf];exact aB6);obtain⟨sl,e⟩:=I.base.slot L o ho (I.ok.frf L hL) hL fun z=>I.ok.exfs L z hL;exact⟨hk,⟨L,_,hf,hn,e,hd⟩,ih (fun b hb=>hs b (by unfold frs;rw[List.filterMap_cons,hf];exact aB7 _ hb)) hr⟩
 exact all X.outer (fun _ hb=>hb) I.ok.funs
theorem Inv.stack (I:Inv X pins σ H s):s.heap.FunFrames X.base X.stack:=by
 rcases I.ok.stk with e | ⟨e,hf⟩
 ·rw[e];exact I.funs
 ·rw[e];obtain⟨m,hn,_⟩:=I.loc;refine .cons (by rw[I.ok.kind];decide) hf hn ?_ I.funs;exact Heap.get?_none_of_le (Nat.le_trans I.ok.bsz I.ok.above)
theorem Inv.stkSub (I:Inv X pins σ H s):∀ b∈frs X.stack,b∈X.env.locals :: X.fs:=fun b hb=>by
 rcases I.ok.stk with e | ⟨e,hf⟩
 ·rw[e]at hb;exact aB7 _ hb
 ·rw[e]at hb;unfold frs at hb;rw[List.filterMap_cons,hf]at hb;exact hb
theorem Inv.stkFree (I:Inv X pins σ H s):∀ b∈frs X.stack,H b=none:=fun b hb=>by
 rcases aCG.mp (I.stkSub b hb)with e | hb
 ·rw[e];exact I.free
 ·obtain⟨_,o,ho,_⟩:=I.ok.funs.mem hb;exact I.base.free b o ho (I.ok.frf b hb) fun z=>I.ok.exfs b z hb
theorem Inv.step {g':Array GenState} {t':Nat} {d':Drawn} {ch:List Addr} (I:Inv X pins σ H s)
 (hch:∀ b∈ch,(b∈X.ex\/X.s₀.heap.objs.size<=b)/\b≠X.env.locals/\(∀ x c,X.env.cells.lookup x=some c->c≠b)/\∀ p∈X.pn++pins,p.1≠b)
 (keep:∀ b o,b≠X.env.locals->b∉X.fs->b∉ch->s.heap.get? b=some o->H b=none->h'.get? b=some o)
 (slot:∀ b o,b≠X.env.locals->b∈X.fs->b∉ch->s.heap.get? b=some o->H b=none->∃ sl,h'.get? b=some { o with slots:=sl }) (free:∀ b o,b∉ch->s.heap.get? b=some o->H b=none->H' b=none)
 (there:∀ b o,b∉ch->s.heap.get? b=some o->∃ o',h'.get? b=some o')
 (tups:∀ b xs,H b=some (.tup xs)->H' b=some (.tup xs)) (frzs:∀ b o u,H b=some (.frz o u)->H' b=some (.frz o u)) (tbls:∀ b ps,H b=some (.tbl ps)->∃ more,H' b=some (.tbl (ps++more)))
 (ns:∀ m,s.heap.Ns X.env.locals m->h'.Ns X.env.locals m) (hok:HOk X.prog X.w H' h') (hg:AllBare g') :
 Inv X pins σ H' { s with heap:=h',gens:=g',drawn:=d',toks:=t' }:=by
 have neL:∀ b o,X.s₀.heap.get? b=some o->b≠X.env.locals:=fun b o e=>aBr (aBl (aBa e) I.ok.above);have neC:∀ b o,X.s₀.heap.get? b=some o->b∉X.ex->b∉ch:=fun b o e hx hb=>by
  rcases (hch b hb).1 with z | z
  ·exact hx z
  ·exact absurd (aBl (aBa e) z) (Nat.lt_irrefl _)
 have cellK:∀ x c,X.env.cells.lookup x=some c->∀ v,s.heap.IsCell c v->h'.IsCell c v:=fun x c e v ⟨o,ho,hd⟩=>by
  have nch:c∉ch:=fun z=>(hch c z).2.2.1 x c e rfl
  by_cases hc:c∈X.fs
  ·obtain⟨sl,q⟩:=slot c o (I.cne x c e) hc nch ho (I.freeC x c e);exact⟨_,q,hd⟩
  ·exact⟨o,keep c o (I.cne x c e) hc nch ho (I.freeC x c e),hd⟩
 refine⟨I.ok,I.os,hg,⟨fun b o e n hb hx=>?_,fun b o e n hb hx=>?_,fun b o e n hx=>?_,fun b o e hx=>?_,fun b xs e=>tups b xs (I.base.tups b xs e),fun b o xs e=>frzs b o xs (I.base.frzs b o xs e),fun b ps e=>?_⟩,?_,fun x c e=>?_,?_,fun x c e=>?_,fun p hp=>?_,hok,I.len⟩
 ·exact keep b o (neL b o e) hb (neC b o e hx) (I.base.keep b o e n hb hx) (I.base.free b o e n hx)
 ·obtain⟨sl,e1⟩:=I.base.slot b o e n hb hx;obtain⟨sl',e2⟩:=slot b _ (neL b o e) hb (neC b o e hx) e1 (I.base.free b o e n hx);exact⟨sl',e2⟩
 ·obtain⟨o',e1⟩:=I.base.there b o e hx;exact free b o' (neC b o e hx) e1 (I.base.free b o e n hx)
 ·obtain⟨o',e1⟩:=I.base.there b o e hx;exact there b o' (neC b o e hx) e1
 ·obtain⟨m1,e1⟩:=I.base.tbls b ps e;obtain⟨m2,e2⟩:=tbls b _ e1;exact⟨m1++m2,by rw[e2,Array.append_assoc]⟩
 ·obtain⟨m,hn,hl⟩:=I.loc;refine⟨m,ns m hn,fun i x v e1 e2 e3=>?_⟩;obtain⟨u,r,l⟩:=hl i x v e1 e2 e3;refine⟨u,r,?_⟩;rcases l with l | ⟨k,c,e,z⟩
  ·exact .inl l
  ·exact .inr ⟨k,c,e,cellK x c e _ z⟩
 ·obtain⟨v,z⟩:=I.cell x c e;exact⟨v,cellK x c e v z⟩
 ·obtain⟨m,⟨o,_,_,ho,_⟩,_⟩:=I.loc;exact free _ o (fun z=>(hch _ z).2.1 rfl) ho I.free
 ·obtain⟨v,o,ho,hd⟩:=I.cell x c e;exact free c o (fun z=>(hch c z).2.2.1 x c e rfl) ho (I.freeC x c e)
 ·obtain⟨e,n,ne,nf,d⟩:=I.pin p hp;have nch:p.1∉ch:=fun z=>(hch p.1 z).2.2.2 p hp rfl;exact⟨keep p.1 p.2 ne nf nch e n,free p.1 p.2 nch e n,ne,nf,d⟩
theorem Inv.un {t':Nat} (I:Inv X pins σ H s) (u:Un X.fs [] H H' s.heap h') (hok:HOk X.prog X.w H' h'):Inv X pins σ H' { s with heap:=h',toks:=t' }:=by
 obtain⟨m,⟨o,es,ep,ho,r⟩,_⟩:=id I.loc;obtain⟨sl,hL⟩:=u.any ho I.free (by simp);exact I.step (g':=s.gens) (d':=s.drawn) (ch:=[]) (fun _ z=>nomatch z) (fun b o _ hb _ e n=>u.keep b o e n hb (by simp)) (fun b o _ hb _ e n=>u.slot b o e n hb (by simp)) (fun b o _ e n=>u.free b o e n (by simp)) (fun b o _ e=>u.there b o e (by simp)) u.tups u.frzs u.tbls (fun m' hm=>by
  obtain⟨o',es',ep',ho',r'⟩:=hm;rw[ho]at ho';cases ho';exact⟨_,es',ep',hL,r'⟩) hok I.bare
theorem Inv.call {g':Array GenState} {t':Nat} {d':Drawn} {ch:List Addr} (I:Inv X pins σ H s) (u:Un (frs X.stack) ch H H' s.heap h') (hok:HOk X.prog X.w H' h') (hg:AllBare g')
 (hch:∀ b∈ch,(b∈X.ex\/X.s₀.heap.objs.size<=b)/\b≠X.env.locals/\(∀ x c,X.env.cells.lookup x=some c->c≠b)/\∀ p∈X.pn++pins,p.1≠b) :
 Inv X pins σ H' { s with heap:=h',gens:=g',drawn:=d',toks:=t' }:=by
 obtain⟨m,⟨o,es,ep,ho,r⟩,_⟩:=id I.loc;obtain⟨sl,hL⟩:=u.any ho I.free fun z=>(hch _ z).2.1 rfl;exact I.step (ch:=ch) hch (fun b o hL hb hc e n=>u.keep b o e n (fun z=>(aCG.mp (I.stkSub b z)).elim hL hb) hc) (fun b o _ _ hc e n=>u.any e n hc) (fun b o hc e n=>u.free b o e n hc) (fun b o hc e=>u.there b o e hc) u.tups u.frzs u.tbls (fun m' hm=>by
  obtain⟨o',es',ep',ho',r'⟩:=hm;rw[ho]at ho';cases ho';exact⟨_,es',ep',hL,r'⟩) hok hg
theorem Inv.turned {t':Nat} {it:Addr} (I:Inv X pins σ H s) (k:∀ b o,b≠it->s.heap.get? b=some o->h'.get? b=some o) (hn:H it=none) (hL:it≠X.env.locals)
 (h1:it∈X.ex\/X.s₀.heap.objs.size<=it) (h2:∀ x c,X.env.cells.lookup x=some c->c≠it) (h3:∀ p∈X.pn++pins,p.1≠it):Inv X pins σ H { s with heap:=h',toks:=t' }:=by
 have nit:∀ b u,H b=some u->b≠it:=fun b u e z=>by rw[z,hn]at e;cases e
 refine I.step (g':=s.gens) (d':=s.drawn) (ch:=[it]) (fun b hb=>?_) (fun b o _ _ hc e _=>k b o (fun z=>hc (by simp[z])) e) (fun b o _ _ hc e _=>⟨o.slots,k b o (fun z=>hc (by simp[z])) e⟩) (fun _ _ _ _ n=>n)
  (fun b o hc e=>⟨o,k b o (fun z=>hc (by simp[z])) e⟩) (fun _ _ e=>e) (fun _ _ _ e=>e) (fun b ps e=>⟨#[],by rw[e];simp⟩) (fun m hm=>?_) (fun b u e=>?_) I.bare
 ·have e:b=it:=by simpa using hb
  subst e;exact⟨h1,hL,h2,h3⟩
 ·obtain⟨o,es,ep,ho,r⟩:=hm;exact⟨o,es,ep,k _ o (Ne.symm hL) ho,r⟩
 ·refine(I.hok b u e).stay (fun c v hc q=>k c v ?_ q) (fun _ q=>q) fun _ _ q=>q;rcases hc with z | z
  ·rw[z];exact nit b u e
  ·exact nit c _ z
theorem Inv.tok (I:Inv X pins σ H s) (t:Nat):Inv X pins σ H { s with toks:=t }:=I.un (h':=s.heap) (t':=t) Un.refl I.hok
theorem Inv.kept {t':Nat} (I:Inv X pins σ H s) (k:∀ b u,s.heap.get? b=some u->h'.get? b=some u):Inv X pins σ H { s with heap:=h',toks:=t' }:=I.un (Un.kept k) (I.hok.kept k)
theorem Inv.laid {a:Addr} {o:HO} {t':Nat} (I:Inv X pins σ H s) (k:∀ b u,s.heap.get? b=some u->h'.get? b=some u) (hp:s.heap.objs.size<=a) (new:ObjOk X.prog X.w (upd H a o) h' a o) :
 Inv X pins σ (upd H a o) { s with heap:=h',toks:=t' }:=I.un (Un.laid k hp (I.hok.fresh hp)) (I.hok.laid k hp new)
theorem Inv.write {x e:Addr} {o:HO} {t':Nat} (I:Inv X pins σ H s) (mu:Mut (H x)) (he:e=x\/H e=some (.own x)) (k:∀ b u,b≠e->s.heap.get? b=some u->h'.get? b=some u) (heo:∃ u,h'.get? e=some u)
 (new:ObjOk X.prog X.w (upd H x o) h' x o):Inv X pins σ (upd H x o) { s with heap:=h',toks:=t' }:=I.un (Un.write mu he k heo) (I.hok.write mu he k heo new)
theorem Inv.weak {σ':List (Option V)} (I:Inv X pins σ H s) (hl:σ'.length=σ.length) (w:∀ (i:Nat) v,σ'[i]?=some (some v)->σ[i]?=some (some v)):Inv X pins σ' H s :=
 ⟨I.ok,I.os,I.bare,I.base,let ⟨m,hn,hl'⟩:=I.loc;⟨m,hn,fun i x v e1 e2 e3=>hl' i x v e1 (w i v e2) e3⟩,I.cell,I.free,I.freeC,I.pin,I.hok,hl.trans I.len⟩
theorem Inv.pins_of {pins':List (Addr×Obj)} (I:Inv X pins σ H s) (h:∀ p∈pins',s.heap.get? p.1=some p.2/\H p.1=none/\p.1≠X.env.locals/\p.1∉X.fs/\∀ v,p.2.data≠.cell v):Inv X pins' σ H s :=
 ⟨I.ok,I.os,I.bare,I.base,I.loc,I.cell,I.free,I.freeC,fun p hp=>(aCH.mp hp).elim (fun z=>I.pin p (aBn _ z)) (h p),I.hok,I.len⟩
theorem wD {N:List Str} (hN:N.Nodup) {i j:Nat} {x:Str} (a:N[i]?=some x) (b:N[j]?=some x):i=j:=by
 obtain⟨h1,e1⟩:=aCF.mp a;obtain⟨h2,e2⟩:=aCF.mp b;exact(List.getElem_inj hN).mp (e1.trans e2.symm)
theorem sK {M:Model} {A:Around} {E:Value->Shared->Prop} {i:Nat} {x:Str} {v:V} {u:Value} {Q:Unit->Shared->Prop} (I:Inv X pins σ H s) (hN:X.N.Nodup) (hi:X.N[i]?=some x) (hx:Loc X.env.scope x) (r:RelV v u)
 (h:∀ s',Inv X pins (σ.set i (some v)) H s'->(∃ a,Heap.SameBut a s.heap s'.heap/\(a=X.env.locals\/X.env.cells.lookup x=some a))->Q () s') (hf:X.fn x=true\/X.env.scope.names.lookup x=some .local:=by first | exact .inl rfl | exact .inr rfl | assumption):wpAny M A (storeName X.env x u) Q E s:=by
 obtain⟨m,hn,hl⟩:=id I.loc;have hcls:(X.env.scope.kind == .class || (X.env.scope.kind == .module && X.env.locals != X.env.globals))=false:=by rw[I.ok.kind];rfl
 have hiσ:i<σ.length:=by rw[I.len];exact(aCF.mp hi).1
 have cne:=I.cne;have tracked:∀ {a:Addr} {h':Heap},(∃ o,s.heap.get? a=some o/\H a=none)->Heap.SameBut a s.heap h'->HOk X.prog X.w H h':=fun {a h'} ha hs b ob e=>by
  obtain⟨_,_,hfree⟩:=ha;refine(I.hok b ob e).stay (fun c w' hc q=>(hs.2 c ?_).trans q) (fun _ q=>q) fun _ _ q=>q;rintro rfl;rcases hc with rfl | hc
  ·rw[hfree]at e;cases e
  ·rw[hfree]at hc;cases hc
 rcases hx with hk | hk
 ·refine wpAny_storeName_local hk hn (fun h' hn' hs=>?_) hcls;obtain⟨oL,_,_,hoL,_⟩:=id hn;refine h _ ⟨I.ok,I.os,I.bare,⟨fun b o e n hb hx=>?_,fun b o e n hb hx=>?_,I.base.free,fun b o e hx=>?_,I.base.tups,I.base.frzs,I.base.tbls⟩,⟨_,hn',fun j y v' e1 e2 e3=>?_⟩,fun y c e=>?_,I.free,I.freeC,fun p hp=>?_,tracked ⟨oL,hoL,I.free⟩ hs,by simpa using I.len⟩ ⟨_,hs,.inl rfl⟩
  ·exact(hs.2 b (aBr (aBl (aBa e) I.ok.above))).trans (I.base.keep b o e n hb hx)
  ·obtain⟨sl,e1⟩:=I.base.slot b o e n hb hx;exact⟨sl,(hs.2 b (aBr (aBl (aBa e) I.ok.above))).trans e1⟩
  ·obtain⟨o',e1⟩:=I.base.there b o e hx;exact⟨o',(hs.2 b (aBr (aBl (aBa e) I.ok.above))).trans e1⟩
  ·by_cases hj:j=i
   ·subst hj;rw[hi]at e1;cases e1;rw[List.getElem?_set_self hiσ]at e2;cases e2;exact⟨u,r,.inl ⟨hk,by simp⟩⟩
   ·rw[List.getElem?_set_ne (Ne.symm hj)]at e2;obtain⟨u',r',q⟩:=hl j y v' e1 e2 e3;refine⟨u',r',?_⟩;rcases q with ⟨k,e⟩ | ⟨k,c,e,z⟩
    ·refine .inl ⟨k,?_⟩;have:y≠x:=fun e=>hj (wD hN e1 (e ▸ hi));simp[this,e]
    ·exact .inr ⟨k,c,e,z.sameBut hs (cne y c e)⟩
  ·obtain⟨w',z⟩:=I.cell y c e;exact⟨w',z.sameBut hs (cne y c e)⟩
  ·obtain⟨e,n,ne,nf,d⟩:=I.pin p hp;exact⟨(hs.2 p.1 ne).trans e,n,ne,nf,d⟩
 ·have hfn:X.fn x=true:=by
   rcases hf with z | z
   ·exact z
   ·rw[z]at hk;cases hk
  obtain⟨c,hc⟩:=I.ok.has x (.inl hk);obtain⟨w',z⟩:=I.cell x c hc;refine wpAny_storeName_cell I.ok.kind hk hc z (fun h' hc' hs=>?_);obtain⟨oc,hoc,hocd⟩:=id z;refine h { s with heap:=h' } ⟨I.ok,I.os,I.bare,⟨fun b o e n hb hx=>?_,fun b o e n hb hx=>?_,I.base.free,fun b o e hx=>?_,I.base.tups,I.base.frzs,I.base.tbls⟩,⟨m,hn.sameBut hs (Ne.symm (cne x c hc)),fun j y v' e1 e2 e3=>?_⟩,fun y c' e=>?_,I.free,I.freeC,fun p hp=>?_,tracked ⟨oc,hoc,I.freeC x c hc⟩ hs,by simpa using I.len⟩ ⟨c,hs,.inr hc⟩
  ·exact(hs.2 b (aBr (aBl (aBa e) (I.ok.cab x c hfn hc)))).trans (I.base.keep b o e n hb hx)
  ·obtain⟨sl,e1⟩:=I.base.slot b o e n hb hx;exact⟨sl,(hs.2 b (aBr (aBl (aBa e) (I.ok.cab x c hfn hc)))).trans e1⟩
  ·obtain⟨o',e1⟩:=I.base.there b o e hx;exact⟨o',(hs.2 b (aBr (aBl (aBa e) (I.ok.cab x c hfn hc)))).trans e1⟩
  ·by_cases hj:j=i
   ·subst hj;rw[hi]at e1;cases e1;rw[List.getElem?_set_self hiσ]at e2;cases e2;exact⟨u,r,.inr ⟨.inl hk,c,hc,hc'⟩⟩
   ·rw[List.getElem?_set_ne (Ne.symm hj)]at e2;obtain⟨u',r',q⟩:=hl j y v' e1 e2 e3;refine⟨u',r',?_⟩;rcases q with q | ⟨k,c',e,z'⟩
    ·exact .inl q
    ·refine .inr ⟨k,c',e,z'.sameBut hs ?_⟩;rintro rfl;exact hj (wD hN e1 (I.ok.inj _ _ _ e hc ▸ hi))
  ·by_cases hcc:c'=c
   ·subst hcc;exact⟨_,hc'⟩
   ·obtain⟨w2,z2⟩:=I.cell y c' e;exact⟨w2,z2.sameBut hs hcc⟩
  ·obtain⟨e,n,ne,nf,d⟩:=I.pin p hp;refine⟨(hs.2 p.1 ?_).trans e,n,ne,nf,d⟩;intro q;rw[q,hoc]at e;have q':oc=p.2:=Option.some.inj e;exact d w' (by rw[<- q'];exact hocd)
theorem pY {M:Model} {A:Around} {E:Value->Shared->Prop} {i:Nat} {x:Str} {v:V} {u:Value} {Q:Unit->Shared->Prop} (I:Inv X pins σ H s) (hN:X.N.Nodup) (hi:X.N[i]?=some x) (hx:Loc X.env.scope x) (r:RelV v u)
 (h:∀ s',Inv X pins (σ.set i (some v)) H s'->Q () s') (hf:X.fn x=true\/X.env.scope.names.lookup x=some .local:=by first | exact .inl rfl | exact .inr rfl | assumption):wpAny M A (storeName X.env x u) Q E s :=
 sK I hN hi hx r (fun s' I' _=>h s' I') hf
theorem Inv.call' {s':Shared} {ch:List Addr} (I:Inv X pins σ H s) (ho:s'.os=s.os) (u:Un (frs X.stack) ch H H' s.heap s'.heap) (hok:HOk X.prog X.w H' s'.heap) (hg:AllBare s'.gens)
 (hch:∀ b∈ch,(b∈X.ex\/X.s₀.heap.objs.size<=b)/\b≠X.env.locals/\(∀ x c,X.env.cells.lookup x=some c->c≠b)/\∀ p∈X.pn++pins,p.1≠b):Inv X pins σ H' s':=by
 obtain⟨h',g',d',t',o'⟩:=s';have e:o'=s.os:=ho;subst e;exact I.call (g':=g') (t':=t') (d':=d') u hok hg hch
end
abbrev XK:=Value->Option Addr->Hp->Prop
abbrev St:=List (Option V)
abbrev VK:=V->Hp->Prop
abbrev TE:=St->Hp->VK->Prop
abbrev TT:=St->Hp->(Bool->Hp->Prop)->Prop
abbrev TA:=St->Hp->(List V->Hp->Prop)->Prop
structure pZ where
 nx:St->Hp->Prop
 rt:VK
 bk:St->Hp->Prop:=fun _ _=>False
 ct:St->Hp->Prop:=fun _ _=>False
abbrev TS:=pZ->St->Hp->Prop
def EP (X:Cx) (pins:List (Addr×Obj)) (σ:St) (Q:VK) (u:Value) (s':Shared):Prop:=∃ v H',Inv X pins σ H' s'/\RelV v u/\Q v H'
def TP (X:Cx) (pins:List (Addr×Obj)) (σ:St) (Q:Bool->Hp->Prop) (b:Bool) (s':Shared):Prop:=∃ H',Inv X pins σ H' s'/\Q b H'
def AP (X:Cx) (pins:List (Addr×Obj)) (σ:St) (Q:List V->Hp->Prop) (us:List Value) (s':Shared):Prop:=∃ vs H',Inv X pins σ H' s'/\Vals vs us/\Q vs H'
def SP (X:Cx) (pins:List (Addr×Obj)) (D:pZ) (f:Flow) (s':Shared):Prop :=
 match f with
 | .next=>∃ σ' H',Inv X pins σ' H' s'/\D.nx σ' H'
 | .brk=>∃ σ' H',Inv X pins σ' H' s'/\D.bk σ' H'
 | .cont=>∃ σ' H',Inv X pins σ' H' s'/\D.ct σ' H'
 | .ret u=>∃ v σ' H',Inv X pins σ' H' s'/\RelV v u/\D.rt v H'
def PE (X:Cx) (e:Expr) (t:TE):Prop :=
 ∀ (pins:List (Addr×Obj)) (s:Shared) (σ:St) (H:Hp) (Q:VK),Inv X pins σ H s->t σ H Q->wpAny (model X.prog X.w) X.A (eval e X.env) (EP X pins σ Q) X.xe s
def PT (X:Cx) (e:Expr) (t:TT):Prop :=
 ∀ (pins:List (Addr×Obj)) (s:Shared) (σ:St) (H:Hp) (Q:Bool->Hp->Prop),Inv X pins σ H s->t σ H Q->wpAny (model X.prog X.w) X.A (isTrue e X.env (eval e X.env)) (TP X pins σ Q) X.xe s
def PW (X:Cx) (e:Expr) (t:TT):Prop :=
 ∀ (whole:Sem Value) (pins:List (Addr×Obj)) (s:Shared) (σ:St) (H:Hp) (Q:Bool->Hp->Prop),Inv X pins σ H s->t σ H Q->wpAny (model X.prog X.w) X.A (isTrue e X.env whole) (TP X pins σ Q) X.xe s
theorem PW.pt {X:Cx} {e:Expr} {t:TT} (h:PW X e t):PT X e t:=h _
def PA (X:Cx) (es:List Expr) (t:TA):Prop :=
 ∀ (pos:Pos) (pins:List (Addr×Obj)) (s:Shared) (σ:St) (H:Hp) (Q:List V->Hp->Prop),Inv X pins σ H s->t σ H Q->wpAny (model X.prog X.w) X.A (spliced (backTo pos (starEach es X.env))) (AP X pins σ Q) X.xe s
def PS (X:Cx) (st:Stmt) (t:TS):Prop :=
 ∀ (pins:List (Addr×Obj)) (s:Shared) (σ:St) (H:Hp) (D:pZ),Inv X pins σ H s->t D σ H->wpAny (model X.prog X.w) X.A (exec st X.env) (SP X pins D) X.xe s
def PSs (X:Cx) (st:List Stmt) (t:TS):Prop :=
 ∀ (pins:List (Addr×Obj)) (s:Shared) (σ:St) (H:Hp) (D:pZ),Inv X pins σ H s->t D σ H->wpAny (model X.prog X.w) X.A (execs st X.env) (SP X pins D) X.xe s
theorem thn {α:Type} {t:Sem α} {Q Q':α->Shared->Prop} {M:Model} {A:Around} {E:Value->Shared->Prop} {s:Shared} (h:wpAny M A t Q E s) (hQ:∀ a s,Q a s->Q' a s):wpAny M A t Q' E s:=wpAny_mono h hQ fun _ _ x=>x
section
variable {X:Cx}
def aAW (i:Nat):TE:=fun σ H Q=>∃ v,σ[i]?=some (some v)/\Q v H
def tC (v:V):TE:=fun _ H Q=>Q v H
theorem r8 {i:Nat} {x:Str} {pos:Pos} (hN:X.N[i]?=some x) (hv:Vis X.env.scope x) (hd:(x == ("__debug__":Str))=false:=by decide) (hcd:(x == ("__classdict__":Str))=false:=by decide):PE X (.Name x pos) (aAW i):=by
 intro pins s σ H Q I h;obtain⟨v,e,h⟩:=h;obtain⟨m,hn,hl⟩:=I.loc;obtain⟨u,r,l⟩:=hl i x v hN e hv;have fin:EP X pins σ Q u s:=⟨v,H,I,r,h⟩;rcases l with ⟨hk,hm⟩ | ⟨hk,c,hc,hcell⟩
 ·exact wpAny_Name (wpAny_loadName_local I.ok.kind hk hn hm fin) hd
 ·rcases hk with hk | hk
  ·exact wpAny_Name (wpAny_loadName_cell I.ok.kind hk hc hcell fin) hd
  ·exact wpAny_Name (wpAny_loadName_free I.ok.kind hk hc hcell fin hcd) hd
theorem aF {i j pos}:PE X (.Constant (.int i) j pos) (tC (.int i)):=fun _ _ _ H _ I h=>wpAny_Constant_int ⟨.int i,H,I.tok _,⟨_,rfl⟩,h⟩
theorem wE {b j pos}:PE X (.Constant (.bool b) j pos) (tC (.bl b)):=fun _ _ _ H _ I h=>Constant_bool ⟨.bl b,H,I,rfl,h⟩
theorem M8 {j pos}:PE X (.Constant .none j pos) (tC .non):=fun _ _ _ H _ I h=>Constant_none ⟨.non,H,I,rfl,h⟩
def Gl (X:Cx) (x:Str):Prop:=X.env.kindOf x=some .globalImplicit
theorem zR {E:Value->Shared->Prop} {pins:List (Addr×Obj)} {s:Shared} {σ:St} {H:Hp} {x:Str} {u:Value} {pos:Pos} {Q:Value->Shared->Prop} (I:Inv X pins σ H s) (hg:Gl X x) (hm:X.mg x=some u) (h:Q u s)
 (hd:(x == ("__debug__":Str))=false:=by decide):wpAny (model X.prog X.w) X.A (eval (.Name x pos) X.env) Q E s :=
 Calls.Name_function_global I.ok.kind hg (Calls.loadGlobal_global (by rw[I.ok.glob];exact I.mod.glob.keeps I.bk) hm h) hd
theorem jC {E:Value->Shared->Prop} {pins:List (Addr×Obj)} {s:Shared} {σ:St} {H:Hp} {x:Str} {u:Value} {pos:Pos} {Q:Value->Shared->Prop} (I:Inv X pins σ H s) (hg:Gl X x) (hm:X.mg x=none) (hv:bootBuiltins x=some u) (h:Q u s)
 (hn:x≠"__name__":=by decide) (hd:(x == ("__debug__":Str))=false:=by decide):wpAny (model X.prog X.w) X.A (eval (.Name x pos) X.env) Q E s:=by
 obtain⟨mb,h1,h2⟩:=I.mod.blt;exact Calls.Name_function_global I.ok.kind hg (Calls.loadGlobal_builtin (by rw[I.ok.glob];exact I.mod.glob.keeps I.bk) hm (by rw[I.ok.blt];exact h1.keeps I.bk) ((h2 x hn).trans hv) h) hd
theorem uB {x:Str} {v:V} {u:Value} {pos:Pos} (hg:Gl X x) (hm:X.mg x=some u) (r:RelV v u) (hd:(x == ("__debug__":Str))=false:=by decide):PE X (.Name x pos) (tC v) :=
 fun _ _ _ H _ I h=>zR I hg hm ⟨v,H,I,r,h⟩ hd
theorem eL {x:Str} {v:V} {u:Value} {pos:Pos} (hg:Gl X x) (hm:X.mg x=none) (hv:bootBuiltins x=some u) (r:RelV v u) (hn:x≠"__name__":=by decide) (hd:(x == ("__debug__":Str))=false:=by decide):PE X (.Name x pos) (tC v) :=
 fun _ _ _ H _ I h=>jC I hg hm hv ⟨v,H,I,r,h⟩ hn hd
variable {a b:Expr} {ta tb:TE} {pos:Pos}
variable {tA tB':TT} {rest:List Expr}
def aAz (t u:TT):TT:=fun σ H Q=>t σ H fun c H1=>if c=true then u σ H1 Q else Q false H1
def tOr (t u:TT):TT:=fun σ H Q=>t σ H fun c H1=>if c=true then Q true H1 else u σ H1 Q
def aBA (t:TT):TT:=fun σ H Q=>t σ H fun c H1=>Q (!c) H1
theorem mQ (ha:PT X a tA):PW X (.BoolOp .And [a] pos) tA:=by
 intro wh pins s σ H Q I h;refine isTrue_and (thn (ha pins s σ H Q I h) fun c s1 e=>?_);cases c with
 | true=>exact isTrue_and_nil e
 | false=>exact e
theorem yA (ha:PT X a tA):PW X (.BoolOp .Or [a] pos) tA:=by
 intro wh pins s σ H Q I h;refine isTrue_or (thn (ha pins s σ H Q I h) fun c s1 e=>?_);cases c with
 | false=>exact isTrue_or_nil e
 | true=>exact e
theorem qA (ha:PT X a tA) (hb:PW X (.BoolOp .And (b :: rest) pos) tB'):PW X (.BoolOp .And (a :: b :: rest) pos) (aAz tA tB'):=by
 intro wh pins s σ H Q I h;refine isTrue_and (thn (ha pins s σ H _ I h) fun c s1 ⟨H1,I1,q1⟩=>?_);cases c with
 | true=>exact hb wh pins s1 σ H1 Q I1 q1
 | false=>exact⟨H1,I1,q1⟩
theorem M9 (ha:PT X a tA) (hb:PW X (.BoolOp .Or (b :: rest) pos) tB'):PW X (.BoolOp .Or (a :: b :: rest) pos) (tOr tA tB'):=by
 intro wh pins s σ H Q I h;refine isTrue_or (thn (ha pins s σ H _ I h) fun c s1 ⟨H1,I1,q1⟩=>?_);cases c with
 | true=>exact⟨H1,I1,q1⟩
 | false=>exact hb wh pins s1 σ H1 Q I1 q1
theorem N0 (ha:PT X a tA):PT X (.UnaryOp .Not a pos) (aBA tA):=by
 intro pins s σ H Q I h;exact isTrue_not (ha pins s σ H (fun c H1=>Q (!c) H1) I h)
def aAX (ta tb:TE):TE:=fun σ H Q=>ta σ H fun x H1=>∃ c,x=.bl c/\if c=true then tb σ H1 Q else Q (.bl false) H1
theorem N7 {op} {t:TE} (h:PE X a t):PE X (.BoolOp op [a] pos) t:=fun pins s σ H Q I hw=>BoolOp_one (h pins s σ H Q I hw)
theorem N8 (ha:PE X a ta) (hb:PE X (.BoolOp .And (b :: rest) pos) tb):PE X (.BoolOp .And (a :: b :: rest) pos) (aAX ta tb):=by
 intro pins s σ H Q I h;refine BoolOp_and (thn (ha pins s σ H _ I h) fun v s1 ⟨x,H1,I1,r1,q1⟩=>?_);obtain⟨c,rfl,q1⟩:=q1;cases r1;refine wpAny_truthy_bool ?_;cases c with
 | true=>exact hb pins s1 σ H1 Q I1 q1
 | false=>exact⟨.bl false,H1,I1,rfl,q1⟩
def tIf (t:TT) (ta tb:TE):TE:=fun σ H Q=>t σ H fun c H1=>if c=true then ta σ H1 Q else tb σ H1 Q
theorem qB {c:Expr} (hc:PT X c tA) (ha:PE X a ta) (hb:PE X b tb):PE X (.IfExp c a b pos) (tIf tA ta tb):=by
 intro pins s σ H Q I h;refine wpAny_IfExp (thn (hc pins s σ H _ I h) fun d s1 ⟨H1,I1,q1⟩=>?_);cases d with
 | true=>exact ha pins s1 σ H1 Q I1 q1
 | false=>exact hb pins s1 σ H1 Q I1 q1
end
def SqL (K:PySem.W.Frag) (H:Hp) (a:Addr) (xs:List V):Prop :=
 Rd H a (.lst xs) \/
  ∃ (o:Obj) (its:Array Value) (n:Nat),K.lookup a=some o/\o.cls=.type "list"/\o.dict=none/\o.data=.seq its n/\its.size<=sizeLine/\Vals xs its.toList
def SqT (K:PySem.W.Frag) (H:Hp) (a:Addr) (xs:List V):Prop :=
 Rd H a (.tup xs) \/
  ∃ (o:Obj) (its:Array Value) (n:Nat),K.lookup a=some o/\o.cls=.type "tuple"/\o.data=.seq its n/\its.size<=sizeLine/\Vals xs its.toList
def aBB:Value->Option V
 | .none=>some .non
 | .bool b=>some (.bl b)
 | .int i _=>some (.int i)
 | .str x _=>some (.str x)
 | .bytes b _=>some (.byt b)
 | .float b _=>some (.flt b)
 | .ref a=>some (.ref a)
 | .type n=>some (.ty n)
 | _=>none
theorem RelV.abs {x:V} {u:Value} (r:RelV x u):aBB u=some x:=by
 cases x with
 | non=>cases r;rfl
 | bl _=>cases r;rfl
 | int _=>obtain⟨t,rfl⟩:=r;rfl
 | str _=>obtain⟨t,rfl⟩:=r;rfl
 | byt _=>obtain⟨t,rfl⟩:=r;rfl
 | flt _=>obtain⟨t,rfl⟩:=r;rfl
 | ref _=>cases r;rfl
 | ty _=>cases r;rfl
theorem RelV.inj {x y:V} {u:Value} (r:RelV x u) (q:RelV y u):x=y:=Option.some.inj (r.abs.symm.trans q.abs)
theorem Vals.inj:∀ {xs ys:List V} {us:List Value},Vals xs us->Vals ys us->xs=ys
 | _,_,_,.nil,.nil=>rfl
 | _,_,_,.cons r t,.cons r' t'=>by rw[r.inj r',Vals.inj t t']
section
variable {X:Cx} {pins:List (Addr×Obj)} {σ:St} {H:Hp} {s:Shared} {a:Addr} {xs ys:List V}
theorem SqL.of {K:PySem.W.Frag} (h:H a=some (.lst xs)):SqL K H a xs:=.inl (.inl h)
theorem SqT.of {K:PySem.W.Frag} (h:H a=some (.tup xs)):SqT K H a xs:=.inl (.inl h)
theorem Inv.list (I:Inv X pins σ H s) (h:SqL X.K H a xs):∃ its:List Value,Vals xs its/\PlainL s.heap a its.toArray/\xs.length<=sizeLine:=by
 rcases h with h | ⟨o,its,n,hk,hc,hd,hs,hz,r⟩
 ·obtain⟨z,its,n,r,e⟩:=h.ok I.hok;exact⟨its,r,⟨_,n,e,rfl,rfl,rfl⟩,z⟩
 ·refine⟨its.toList,r,⟨o,n,I.kIn a o hk,hc,hd,by simpa using hs⟩,?_⟩;have e:=r.length;simp only[Array.length_toList]at e;omega
theorem Inv.tuple (I:Inv X pins σ H s) (h:SqT X.K H a xs):∃ its:List Value,Vals xs its/\IsTup s.heap a its.toArray/\xs.length<=sizeLine:=by
 rcases h with h | ⟨o,its,n,hk,hc,hs,hz,r⟩
 ·obtain⟨z,its,r,p⟩:=h.ok I.hok;exact⟨its,r,p,z⟩
 ·refine⟨its.toList,r,⟨o,I.kIn a o hk,hc,n,by simpa using hs⟩,?_⟩;have e:=r.length;simp only[Array.length_toList]at e;omega
theorem Inv.list_inj (I:Inv X pins σ H s) (h:SqL X.K H a xs) (h':SqL X.K H a ys):xs=ys:=by
 obtain⟨its,r,⟨o,n,e,_,_,d⟩,_⟩:=I.list h;obtain⟨its',r',⟨o',n',e',_,_,d'⟩,_⟩:=I.list h';rw[e]at e';cases e';rw[d]at d'
 injection d' with d1 _
 have:its=its':=by simpa using congrArg Array.toList d1
 subst this;exact r.inj r'
end
abbrev Cx.wish (X:Cx) (E:Value->Shared->Prop):Cx:={ X with xe:=E }
abbrev Cx.nox (X:Cx):Cx:=X.wish fun _ _=>False
theorem Cx.Ok.wish {X:Cx} (ok:X.Ok) (E:Value->Shared->Prop):(X.wish E).Ok :=
 ⟨ok.mod,ok.kind,ok.glob,ok.blt,ok.above,ok.inj,ok.has,ok.cab,ok.hd,ok.frames,ok.stk,ok.exf,ok.bs,ok.bsz,ok.noex,ok.exfs,ok.funs,ok.frf⟩
theorem Cx.Ok.unwish {X:Cx} {E:Value->Shared->Prop} (ok:(X.wish E).Ok):X.Ok :=
 ⟨ok.mod,ok.kind,ok.glob,ok.blt,ok.above,ok.inj,ok.has,ok.cab,ok.hd,ok.frames,ok.stk,ok.exf,ok.bs,ok.bsz,ok.noex,ok.exfs,ok.funs,ok.frf⟩
section
variable {X:Cx} {pins:List (Addr×Obj)} {σ:St} {H:Hp} {s:Shared} {E:Value->Shared->Prop}
theorem Inv.wish (I:Inv X pins σ H s) (E:Value->Shared->Prop):Inv (X.wish E) pins σ H s:=⟨I.ok.wish E,I.os,I.bare,I.base,I.loc,I.cell,I.free,I.freeC,I.pin,I.hok,I.len⟩
theorem Inv.unwish (I:Inv (X.wish E) pins σ H s):Inv X pins σ H s:=⟨I.ok.unwish,I.os,I.bare,I.base,I.loc,I.cell,I.free,I.freeC,I.pin,I.hok,I.len⟩
theorem SP.unwish {D:pZ} {f:Flow} {s':Shared} (h:SP (X.wish E) pins D f s'):SP X pins D f s':=by
 cases f with
 | next=>obtain⟨σ',H',I,q⟩:=h;exact⟨σ',H',I.unwish,q⟩
 | brk=>obtain⟨σ',H',I,q⟩:=h;exact⟨σ',H',I.unwish,q⟩
 | cont=>obtain⟨σ',H',I,q⟩:=h;exact⟨σ',H',I.unwish,q⟩
 | ret u=>obtain⟨v,σ',H',I,r,q⟩:=h;exact⟨v,σ',H',I.unwish,r,q⟩
theorem PE.nox {e:Expr} {t:TE} (h:PE X.nox e t):PE X e t:=fun pins s σ H Q I hw =>
 wpAny_mono (h pins s σ H Q (I.wish _) hw) (fun _ _ ⟨v,H',I',r,q⟩=>⟨v,H',I'.unwish,r,q⟩) fun _ _ z=>False.elim z
theorem PT.nox {e:Expr} {t:TT} (h:PT X.nox e t):PT X e t:=fun pins s σ H Q I hw =>
 wpAny_mono (h pins s σ H Q (I.wish _) hw) (fun _ _ ⟨H',I',q⟩=>⟨H',I'.unwish,q⟩) fun _ _ z=>False.elim z
theorem PSs.nox {st:List Stmt} {t:TS} (h:PSs X.nox st t):PSs X st t:=fun pins s σ H D I hw =>
 wpAny_mono (h pins s σ H D (I.wish _) hw) (fun _ _ q=>q.unwish) fun _ _ z=>False.elim z
end
section
variable {X:Cx} {st:Stmt} {rest:List Stmt} {t u:TS} {e:Expr} {te:TE} {pos:Pos}
def aAY:TS:=fun D σ H=>D.nx σ H
def aAZ (t u:TS):TS:=fun D σ H=>t { D with nx:=u D } σ H
theorem cB:PSs X [] aAY:=fun _ _ σ H _ I h=>wpAny_execs_nil ⟨σ,H,I,h⟩
theorem aE (h1:PS X st t) (h2:PSs X rest u):PSs X (st :: rest) (aAZ t u):=by
 intro pins s σ H D I h;refine wpAny_execs_cons (thn (h1 pins s σ H { D with nx:=u D } I h) fun f s1 q=>?_);cases f with
 | next =>
  obtain⟨σ',H',I',q⟩:=q;exact h2 pins s1 σ' H' D I' q
 | ret v=>exact q
 | brk=>exact q
 | cont=>exact q
theorem aH (h1:PS X st t):PSs X [st] t:=by
 intro pins s σ H D I h;refine wpAny_execs_cons (thn (h1 pins s σ H D I h) fun f s1 q=>?_);cases f with
 | next=>exact wpAny_execs_nil q
 | ret v=>exact q
 | brk=>exact q
 | cont=>exact q
theorem Inv.quiet {pins:List (Addr×Obj)} {σ:St} {H:Hp} {s:Shared} (I:Inv X pins σ H s):interactive X.env=false:=by simp[interactive,I.ok.kind]
def aA0 (te:TE):TS:=fun D σ H=>te σ H fun _ H1=>D.nx σ H1
theorem aR (he:PE X e te) (hs:swapsWith e none pos.line X.env=pure false:=by rfl):PS X (.Expr e pos) (aA0 te):=by
 intro pins s σ H D I h;exact wpAny_Expr_any (thn (he pins s σ H _ I h) fun v s1 ⟨x,H1,I1,r1,q1⟩=>⟨σ,H1,I1,q1⟩) I.quiet hs
def aBC (te:TE):TS:=fun D σ H=>te σ H D.rt
theorem bF (he:PE X e te):PS X (.Return (some e) pos) (aBC te):=by
 intro pins s σ H D I h;exact wpAny_Return_some (thn (he pins s σ H _ I h) fun v s1 ⟨x,H1,I1,r1,q1⟩=>⟨x,σ,H1,I1,r1,q1⟩)
def aBD (c:TT) (t u:TS):TS:=fun D σ H=>c σ H fun b H1=>if b=true then t D σ H1 else u D σ H1
theorem cX {c:Expr} {a b:List Stmt} {tc:TT} (hc:PT X c tc) (ha:PSs X a t) (hb:PSs X b u):PS X (.If c a b pos) (aBD tc t u):=by
 intro pins s σ H D I h;refine wpAny_If (thn (hc pins s σ H _ I h) fun d s1 ⟨H1,I1,q1⟩=>?_);cases d with
 | true=>exact ha pins s1 σ H1 D I1 q1
 | false=>exact hb pins s1 σ H1 D I1 q1
def r9:TS:=fun _ _ _=>False
theorem jH:PS X st r9:=fun _ _ _ _ _ _ h=>h.elim
end
abbrev TG:=V->St->Hp->(St->Hp->Prop)->Prop
abbrev TGs:=List V->St->Hp->(St->Hp->Prop)->Prop
def PG (X:Cx) (target:Expr) (t:TG):Prop :=
 ∀ (pins:List (Addr×Obj)) (s:Shared) (σ:St) (H:Hp) (v:V) (u:Value) (Q:St->Hp->Prop),Inv X pins σ H s->RelV v u->t v σ H Q ->
  wpAny (model X.prog X.w) X.A (assign target X.env u) (fun _ s'=>∃ σ' H',Inv X pins σ' H' s'/\Q σ' H') X.xe s
def PGs (X:Cx) (ts:List Expr) (t:TGs):Prop :=
 ∀ (pins:List (Addr×Obj)) (s:Shared) (σ:St) (H:Hp) (vs:List V) (us:List Value) (Q:St->Hp->Prop),Inv X pins σ H s->Vals vs us->t vs σ H Q ->
  wpAny (model X.prog X.w) X.A (assignInOrder ((assignEach ts X.env).map (·.2)) us) (fun _ s'=>∃ σ' H',Inv X pins σ' H' s'/\Q σ' H') X.xe s
abbrev u0:=V->V->V->Hp->(Hp->Prop)->Prop
def aA1 (X:Cx) (t:u0):Prop :=
 ∀ (pins:List (Addr×Obj)) (s:Shared) (σ:St) (H:Hp) (o i v:V) (ov iv u:Value) (Q:Hp->Prop),Inv X pins σ H s->RelV o ov->RelV i iv->RelV v u->t o i v H Q ->
  wpAny (model X.prog X.w) X.A (setItem ov iv u) (fun _ s'=>∃ H',Inv X pins σ H' s'/\Q H') X.xe s
abbrev TIp:=V->V->Hp->VK->Prop
def PIp (X:Cx) (op:Operator) (t:TIp):Prop :=
 ∀ (pins:List (Addr×Obj)) (s:Shared) (σ:St) (H:Hp) (x y:V) (v u:Value) (Q:VK),Inv X pins σ H s->RelV x v->RelV y u->t x y H Q ->
  wpAny (model X.prog X.w) X.A (inplaceOp op v u) (EP X pins σ Q) X.xe s
section
variable {X:Cx} {pos:Pos}
def sL (i:Nat):TG:=fun v σ H Q=>Q (σ.set i (some v)) H
theorem aI {i:Nat} {x:Str} (hN:X.N.Nodup) (hi:X.N[i]?=some x) (hx:Loc X.env.scope x) (hf:X.fn x=true\/X.env.scope.names.lookup x=some .local:=by first | exact .inl rfl | exact .inr rfl | assumption):PG X (.Name x pos) (sL i):=by
 intro pins s σ H v u Q I r h;exact wpAny_assign_Name (pY I hN hi hx r (fun s' I'=>⟨_,H,I',h⟩) hf)
def aA2:TGs:=fun vs σ H Q=>vs=[]/\Q σ H
def o3 (t:TG) (u:TGs):TGs:=fun vs σ H Q=>∃ v r,vs=v :: r/\t v σ H fun σ' H'=>u r σ' H' Q
theorem bR:PGs X [] aA2:=by
 intro pins s σ H vs us Q I r h;obtain⟨e,h⟩:=h;subst e;cases r;exact assignInOrder_nil ⟨σ,H,I,h⟩
theorem aO {e:Expr} {es:List Expr} {t:TG} {u:TGs} (h1:PG X e t) (h2:PGs X es u)
 (hs:(assignEach (e :: es) X.env).map (·.2)=assign e X.env :: (assignEach es X.env).map (·.2):=by rfl):PGs X (e :: es) (o3 t u):=by
 intro pins s σ H vs us Q I r h;obtain⟨v,vr,e1,h⟩:=h;subst e1;cases r with
 | cons r rr =>
  rw[hs];refine assignInOrder_cons (thn (h1 pins s σ H _ _ _ I r h) fun _ s1 ⟨σ1,H1,I1,q1⟩=>?_);exact h2 pins s1 σ1 H1 _ _ Q I1 rr q1
def u3 (K:PySem.W.Frag) (n:Nat) (t:TGs):TG:=fun v σ H Q=>∃ a xs,v=.ref a/\SqT K H a xs/\xs.length=n/\t xs σ H Q
theorem jU {es:List Expr} {k:Nat} {t:TGs} {n:Nat} (hc:X.calm=true) (h:PGs X es t)
 (hn:(assignEach es X.env).length=n:=by rfl) (hst:(assignEach es X.env).findIdx? (·.1)=none:=by rfl):PG X (.Tuple es k pos) (u3 X.K n t):=by
 intro pins s σ H v u Q I r hw;obtain⟨a,xs,e1,hq,hl,hw⟩:=hw;subst e1;cases r;obtain⟨its,rv,ht,hz⟩:=I.tuple hq;refine assign_Tuple_tuple (I.ok.hd hc) ht (by simp[hn,<- hl,rv.length]) hst fun h' hx=>?_;have I1:Inv X pins σ H { s with heap:=h' }:=I.kept (t':=s.toks) fun b o e=>hx b o (aBr (aBa e)) e;exact h pins _ σ H xs _ Q I1 (by simpa using rv) hw
def aBE (to ti:TE) (t:u0):TG:=fun v σ H Q=>to σ H fun o H1=>ti σ H1 fun i H2=>t o i v H2 fun H3=>Q σ H3
theorem uC {o i:Expr} {to ti:TE} {t:u0} (ho:PE X o to) (hi:PE X i ti) (hs:aA1 X t)
 (ha:∀ v,assign (.Subscript o i pos) X.env v=(do
  let ov <- holding [v] (eval o X.env)
  let iv <- holding [v,ov] (eval i X.env)
  standAt pos
  holding [v,ov,iv] (setItem ov iv v)
  release [v,ov,iv] []):=by intro _;rfl):PG X (.Subscript o i pos) (aBE to ti t):=by
 intro pins s σ H v u Q I r h;rw[ha];refine aB2 (wpAny_holding (thn (ho pins s σ H _ I h) fun ov s1 ⟨x,H1,I1,r1,q1⟩=>?_));refine aB2 (wpAny_holding (thn (hi pins s1 σ H1 _ I1 q1) fun iv s2 ⟨y,H2,I2,r2,q2⟩=>?_));refine aB2 (wpAny_standAt (aB2 (wpAny_holding (thn (hs pins s2 σ H2 x y v ov iv u _ I2 r1 r2 r q2) fun _ s3 ⟨H3,I3,q3⟩=>?_))));exact wpAny_release ⟨σ,H3,I3,q3⟩
def u4 (te:TE) (g:TG):TS:=fun D σ H=>te σ H fun x H1=>g x σ H1 D.nx
theorem qC {tg e:Expr} {te:TE} {g:TG} (he:PE X e te) (hg:PG X tg g) (hs:swapsWithSole [tg] e pos.line X.env=pure false:=by rfl) (hw:swappedStores [tg] e X.env=pure none:=by rfl)
 (h1:(assignEach [tg] X.env).map (·.2)=[assign tg X.env]:=by rfl):PS X (.Assign [tg] e pos) (u4 te g):=by
 intro pins s σ H D I h;refine wpAny_Assign_stores (thn (he pins s σ H _ I h) fun v s1 ⟨x,H1,I1,r1,q1⟩=>?_) hs hw;rw[h1];exact thn (hg pins s1 σ H1 x v _ I1 r1 q1) fun _ s2 q=>q
theorem aM {i:Nat} {x:Str} {e:Expr} {te:TE} {pos':Pos} (hN:X.N.Nodup) (hi:X.N[i]?=some x) (hx:Loc X.env.scope x) (he:PE X e te) (hs:swapsWith e (some (.Name x pos')) pos.line X.env=pure false:=by rfl) (hf:X.fn x=true\/X.env.scope.names.lookup x=some .local:=by first | exact .inl rfl | exact .inr rfl | assumption) :
 PS X (.Assign [.Name x pos'] e pos) (u4 te (sL i)):=by
 intro pins s σ H D I h;refine wpAny_Assign_Name (thn (he pins s σ H _ I h) fun v s1 ⟨y,H1,I1,r1,q1⟩=>?_) hs;exact pY I1 hN hi hx r1 (fun s2 I2=>⟨_,H1,I2,q1⟩) hf
def aBF (i:Nat) (te:TE) (ti:TIp):TS:=fun D σ H=>∃ x,σ[i]?=some (some x)/\te σ H fun y H1=>ti x y H1 fun z H2=>D.nx (σ.set i (some z)) H2
theorem jD {i:Nat} {x:Str} {e:Expr} {te:TE} {op:Operator} {ti:TIp} {pos':Pos} (hN:X.N.Nodup) (hi:X.N[i]?=some x) (hx:Loc X.env.scope x) (he:PE X e te) (ho:PIp X op ti) (hf:X.fn x=true\/X.env.scope.names.lookup x=some .local:=by first | exact .inl rfl | exact .inr rfl | assumption) :
 PS X (.AugAssign (.Name x pos') op e pos) (aBF i te ti):=by
 intro pins s σ H D I h;obtain⟨v,e1,h⟩:=h;obtain⟨m,hn,hl⟩:=I.loc;have vis:Vis X.env.scope x:=by rcases hx with k | k;exact .inl k;exact .inr (.inl k)
 obtain⟨u,r,l⟩:=hl i x v hi e1 vis;refine wpAny_AugAssign_Name ?_;have go:wpAny (model X.prog X.w) X.A (eval e X.env) (fun w s₂=>wpAny (model X.prog X.w) X.A (inplaceOp op u w) (fun r s₃=>wpAny (model X.prog X.w) X.A (storeName X.env x r) (fun _=>SP X pins D .next) X.xe s₃) X.xe s₂) X.xe s:=by
  refine thn (he pins s σ H _ I h) fun w s1 ⟨y,H1,I1,r1,q1⟩=>?_;refine thn (ho pins s1 σ H1 v y u w _ I1 r r1 q1) fun z s2 ⟨zv,H2,I2,r2,q2⟩=>?_;exact pY I2 hN hi hx r2 (fun s3 I3=>⟨_,H2,I3,q2⟩) hf
 rcases l with ⟨hk,hm⟩ | ⟨hk,c,hc,hcell⟩
 ·exact wpAny_loadName_local I.ok.kind hk hn hm go
 ·rcases hk with hk | hk
  ·exact wpAny_loadName_cell I.ok.kind hk hc hcell go
  ·rcases hx with k | k
   ·have:X.env.scope.names.lookup x=some .free:=hk;rw[k]at this;cases this
   ·have:X.env.scope.names.lookup x=some .free:=hk;rw[k]at this;cases this
def ipI (f:Int->Int->Int):TIp:=fun x y H Q=>∃ i j,x=.int i/\y=.int j/\Q (.int (f i j)) H
theorem mI:PIp X .Add (ipI fun i j=>i+j):=by
 intro pins s σ H x y v u Q I r1 r2 h;obtain⟨i,j,e1,e2,q⟩:=h;subst e1;subst e2;obtain⟨t,rfl⟩:=r1;obtain⟨t',rfl⟩:=r2;exact iadd_int ⟨.int _,H,I.tok _,⟨_,rfl⟩,q⟩
theorem yB:PIp X .Sub (ipI fun i j=>i - j):=by
 intro pins s σ H x y v u Q I r1 r2 h;obtain⟨i,j,e1,e2,q⟩:=h;subst e1;subst e2;obtain⟨t,rfl⟩:=r1;obtain⟨t',rfl⟩:=r2;exact isub_int ⟨.int _,H,I.tok _,⟨_,rfl⟩,q⟩
end
section
variable {X:Cx} {pos:Pos}
def N9 (c:TT) (tb:TS):TS:=fun D σ H=>∃ W:Nat->St->Hp->Prop,(∃ m,W m σ H)/\∀ m σ H,W m σ H ->
 c σ H fun b H1=>if b=true then ∃ N:St->Hp->Prop,(∀ σ' H',N σ' H'->∃ m',m'<m/\W m' σ' H')/\tb { D with nx:=N,ct:=N,bk:=D.nx } σ H1 else D.nx σ H1
theorem eZ {c:Expr} {body:List Stmt} {tc:TT} {tb:TS} (hp:PassesOwn (model X.prog X.w) X.A X.env X.xe) (hc:PT X c tc) (hb:PSs X body tb):PS X (.While c body [] pos) (N9 tc tb):=by
 intro pins s σ H D I h;obtain⟨W,⟨m0,w0⟩,turn⟩:=h;refine wpAny_While (codeAny_whileLoop (fun n s'=>∃ σ' H',Inv X pins σ' H' s'/\W n σ' H') ?_ m0 ⟨σ,H,I,w0⟩);rintro n s1 ⟨σ1,H1,I1,w1⟩;refine wpAny_passesOwn hp (thn (hc pins s1 σ1 H1 _ I1 (turn n σ1 H1 w1)) fun b s2 ⟨H2,I2,q2⟩=>?_);cases b with
 | true =>
  obtain⟨N,hN,q2⟩:=q2;rw[if_pos rfl];refine wpAny_passesOwn hp (thn (hb pins s2 σ1 H2 _ I2 q2) fun f s3 q3=>?_);cases f with
  | next =>
   obtain⟨σ3,H3,I3,n3⟩:=q3;obtain⟨m',hm,w3⟩:=hN σ3 H3 n3;exact⟨m',hm,σ3,H3,I3,w3⟩
  | cont =>
   obtain⟨σ3,H3,I3,n3⟩:=q3;obtain⟨m',hm,w3⟩:=hN σ3 H3 n3;exact⟨m',hm,σ3,H3,I3,w3⟩
  | brk=>exact q3
  | ret v=>exact q3
 | false =>
  rw[if_neg aBh];exact wpAny_execs_nil ⟨σ1,H2,I2,q2⟩
end
structure It where
 go:Nat->Hp->Prop
 yld:Nat->Hp->V->Hp->Prop
 stop:Nat->Hp->Prop
def iT (X:Cx) (pins:List (Addr×Obj)) (H:Hp) (b:Addr):Prop :=
 H b=none/\b≠X.env.locals/\b∉X.fs/\(b∈X.ex\/X.s₀.heap.objs.size<=b)/\(∀ x c,X.env.cells.lookup x=some c->c≠b)/\∀ p∈X.pn++pins,p.1≠b
theorem Inv.fpOk {X:Cx} {pins:List (Addr×Obj)} {σ:St} {H H':Hp} {s:Shared} {b:Addr} (I:Inv X pins σ H s) (hb:s.heap.objs.size<=b) (hn:H' b=none):iT X pins H' b:=by
 refine⟨hn,aBu (aBl I.lt hb),I.nofs hb,.inr (Nat.le_trans I.sz hb),fun x c e z=>?_,fun p hp z=>?_⟩
 ·obtain⟨v,q⟩:=I.cell x c e;exact absurd (aBl q.lt (by rw[z];exact hb)) (Nat.lt_irrefl _)
 ·exact absurd (aBl (aBa (I.pin p hp).1) (by rw[z];exact hb)) (Nat.lt_irrefl _)
structure pB (P:Program) (w:World) (K:PySem.W.Frag) (tg:Expr) (J:It) (fp:List Addr) (it:Addr) (tn:Nat->Heap->Prop):Prop where
 mem:it∈fp
 obj:∀ i h,tn i h->∀ b∈fp,∃ o,h.get? b=some o/\∀ v,o.data≠.cell v
 keep:∀ i h h',tn i h->(∀ b∈fp,∀ o,h.get? b=some o->h'.get? b=some o)->tn i h'
 item:∀ (X:Cx),X.prog=P->X.w=w->X.K=K->X.calm=true->∀ (i:Nat) (pins:List (Addr×Obj)) (s:Shared) (σ:St) (H:Hp) (E:Value->Shared->Prop),Inv X pins σ H s->(∀ b∈fp,iT X pins H b)->tn i s.heap->J.go i H ->
  wpAny (model P w) X.A (pyNext (.ref it)) (fun r s1=>∃ u,r=some u /\
   wpAny (model P w) X.A (letOwnedTupleGo tg (.ref it) u) (fun _ s2=>∃ x H',Inv X pins σ H' s2/\RelV x u/\J.yld i H x H'/\tn (i+1) s2.heap/\∀ b∈fp,H' b=none) E s1) E s
 done:∀ (X:Cx),X.prog=P->X.w=w->X.K=K->X.calm=true->∀ (i:Nat) (pins:List (Addr×Obj)) (s:Shared) (σ:St) (H:Hp) (E:Value->Shared->Prop),Inv X pins σ H s->(∀ b∈fp,iT X pins H b)->tn i s.heap->J.stop i H ->
  wpAny (model P w) X.A (pyNext (.ref it)) (fun r s1=>r=none/\Inv X pins σ H s1) E s
 self:∀ (A:Around) (i:Nat) (s:Shared) (Q:Value->Shared->Prop) (E:Value->Shared->Prop),tn i s.heap->Q (.ref it) s->wpAny (model P w) A (pyIter (.ref it)) Q E s
abbrev TI:=St->Hp->(It->Hp->Prop)->Prop
def PIE (X:Cx) (pins:List (Addr×Obj)) (σ:St) (tg:Expr) (R:It->Hp->Prop) (itv:Value) (s2:Shared):Prop :=
 ∃ (it:Addr) (fp:List Addr) (tn:Nat->Heap->Prop) (J:It) (H':Hp),itv=.ref it/\Inv X pins σ H' s2/\pB X.prog X.w X.K tg J fp it tn/\tn 0 s2.heap/\(∀ b∈fp,iT X pins H' b)/\R J H'
def PI (X:Cx) (tg iter:Expr) (wi:TI):Prop :=
 ∀ (pins:List (Addr×Obj)) (s:Shared) (σ:St) (H:Hp) (R:It->Hp->Prop),Inv X pins σ H s->wi σ H R ->
  wpAny (model X.prog X.w) X.A (eval iter X.env) (fun v s1=>wpAny (model X.prog X.w) X.A (pyIter v) (PIE X pins σ tg R) X.xe s1) X.xe s
theorem zS {M:Model} {A:Around} {E:Value->Shared->Prop} {s:Shared} {tg:Expr} {it:Addr} {u:Value} {o:Obj} {n:String} {vs:Array Value} {Q:Unit->Shared->Prop} (ho:s.heap.get? it=some o) (hc:o.cls=.type n) (hd:o.data=.fields vs)
 (hn:["enumerate","zip","dict_itemiterator","dict_reverseitemiterator","odict_iterator","itertools.zip_longest","itertools.pairwise"].contains n=false) (hQ:Q () s):wpAny M A (letOwnedTupleGo tg (.ref it) u) Q E s:=by
 unfold letOwnedTupleGo;cases tg <;> first
  | exact aB3 hQ
  | (cases u <;> first
   | exact aB3 hQ
   | (refine aB2 (wpAny_load ho ?_)
      rw[hc,hd];show wpAny M A (if (["enumerate","zip","dict_itemiterator","dict_reverseitemiterator","odict_iterator","itertools.zip_longest","itertools.pairwise"].contains n && vs[0]? == some (rawInt _))=true then _ else _) Q E s;rw[if_neg (by intro h;rw[hn,Bool.false_and]at h;cases h)];exact aB3 hQ))
def Itl (K:PySem.W.Frag) (a:Addr):It :=
 ⟨fun i H=>∃ xs x,SqL K H a xs/\xs[i]?=some x,fun i H x H'=>H'=H/\∀ xs,SqL K H a xs->xs[i]?=some x,fun i H=>∃ xs,SqL K H a xs/\xs.length<=i⟩
def Itr (lo:Int) (n:Nat):It:=⟨fun i _=>i<n,fun i H x H'=>H'=H/\x=.int (lo+i),fun i _=>n<=i⟩
theorem D4 {P:Program} {w:World} {K:PySem.W.Frag} {tg:Expr} (a it:Addr):pB P w K tg (Itl K a) [it] it (fun i h=>h.IsListIter it a i) where
 mem:=by simp
 obj:=fun i h st b hb=>by
  have e:b=it:=by simpa using hb
  subst e;obtain⟨o,e,c,d⟩:=st;exact⟨o,e,fun v z=>by rw[d]at z;cases z⟩
 keep:=fun i h h' st k=>st.at fun o e=>k it (by simp) o e
 item:=by
  intro X hP hw hK hc i pins s σ H E I hf st hg;subst hP hw hK;obtain⟨xs,x,hq,hx⟩:=hg;obtain⟨its,rv,p,hz⟩:=I.list hq;obtain⟨u,hu,ru⟩:=rv.get hx;obtain⟨f0,f1,f2,f3,f4,f5⟩:=hf it (by simp);refine wpAny_pyNext_list_item st p.isList (x:=u) (by simpa using hu) fun h' st' sb=>?_;have I1:Inv X pins σ H { s with heap:=h' }:=I.turned (t':=s.toks) (fun b o hb e=>(sb.2 b hb).trans e) f0 f1 f3 f4 f5;obtain⟨o,e,c,d⟩:=id st';exact⟨u,rfl,zS (s:={ s with heap:=h' }) e c d (by decide) ⟨x,H,I1,ru,⟨rfl,fun ys hy=>by rw[I.list_inj hy hq];exact hx⟩,st',fun b hb=>(hf b hb).1⟩⟩
 done:=by
  intro X hP hw hK hc i pins s σ H E I hf st hg;subst hP hw hK;obtain⟨xs,hq,hx⟩:=hg;obtain⟨its,rv,p,hz⟩:=I.list hq;obtain⟨f0,f1,f2,f3,f4,f5⟩:=hf it (by simp);have hl:=rv.length;exact wpAny_pyNext_list_end (I.ok.hd hc) st p.isList (by simp;omega) fun h' eb=>⟨rfl,I.turned (t':=s.toks) (fun b o hb e=>eb b o hb e) f0 f1 f3 f4 f5⟩
 self:=fun _ _ _ _ _ st h=>wpAny_pyIter_listiter st h
theorem yC {P:Program} {w:World} {K:PySem.W.Frag} {tg:Expr} (it:Addr) (lo:Int) (n:Nat):pB P w K tg (Itr lo n) [it] it (fun i h=>IsRangeIter h it (lo+(i:Nat) * 1) ((n:Int) - (i:Nat)) 1) where
 mem:=by simp
 obj:=fun i h st b hb=>by
  have e:b=it:=by simpa using hb
  subst e;exact⟨_,st,fun v z=>by
   have z':Data.fields _=Data.cell v:=z;cases z'⟩
 keep:=fun i h h' st k=>k it (by simp) _ st
 item:=by
  intro X hP hw hK hc i pins s σ H E I hf st hg;subst hP hw hK;obtain⟨f0,f1,f2,f3,f4,f5⟩:=hf it (by simp);have W:=Walks.range (prog:=X.prog) (w:=X.w) (I.ok.hd hc) it lo 1 n;refine W.item i s _ _ hg st fun v h' tk hv st' kk=>?_;obtain⟨t,rfl⟩:=hv;have I1:Inv X pins σ H { s with heap:=h',toks:=tk }:=I.turned (fun b o hb e=>kk b o (by simpa using hb) e) f0 f1 f3 f4 f5;refine⟨_,rfl,zS (s:={ s with heap:=h',toks:=tk }) (n:="range_iterator") st' rfl rfl (by decide) ⟨.int (lo+i),H,I1,⟨t,?_⟩,⟨rfl,rfl⟩,st',fun b hb=>(hf b hb).1⟩⟩;rw[Int.mul_one]
 done:=by
  intro X hP hw hK hc i pins s σ H E I hf st hg;subst hP hw hK;obtain⟨f0,f1,f2,f3,f4,f5⟩:=hf it (by simp);exact wpAny_pyNext_range_end (I.ok.hd hc) st (by have:n<=i:=hg;omega) fun h' eb=>⟨rfl,I.turned (t':=s.toks) (fun b o hb e=>eb b o hb e) f0 f1 f3 f4 f5⟩
 self:=fun _ _ _ _ _ st h=>wpAny_pyIter_rangeiter st h
section
variable {X:Cx} {tg:Expr}
def o4 (K:PySem.W.Frag) (tl:TE):TI:=fun σ H R=>tl σ H fun x H1=>∃ a,x=.ref a/\(∃ xs,SqL K H1 a xs)/\R (Itl K a) H1
theorem bH {l:Expr} {tl:TE} (hl:PE X l tl):PI X tg l (o4 X.K tl):=by
 intro pins s σ H R I h;refine thn (hl pins s σ H _ I h) fun v s1 ⟨x,H1,I1,r1,q1⟩=>?_;obtain⟨a,e,⟨xs,hq⟩,q⟩:=q1;subst e;cases r1;obtain⟨its,rv,p,hz⟩:=I1.list hq;refine wpAny_pyIter_list p.isList ?_;refine⟨s1.heap.objs.size,[s1.heap.objs.size],_,_,H1,rfl,I1.kept (t':=s1.toks) fun b o e=>aB5 _ e,D4 a _,⟨_,aBb _ rfl,rfl,rfl⟩,fun b hb=>?_,q⟩;have e:b=s1.heap.objs.size:=by simpa using hb
 subst e;exact I1.fpOk (Nat.le_refl _) (I1.hok.fresh (Nat.le_refl _))
theorem wF {pins:List (Addr×Obj)} {σ:St} {H:Hp} {s:Shared} {R:It->Hp->Prop} {E:Value->Shared->Prop} {lo hi:Int} {t u v:Tok} {tk:Nat} (I:Inv X pins σ H s) (h1:-(2 ^ 62)<=lo) (h2:lo<2 ^ 62) (h3:-(2 ^ 62)<=hi) (h4:hi<2 ^ 62)
 (q:R (Itr lo (hi - lo).toNat) H):wpAny (model X.prog X.w) X.A (pyIter (.ref s.heap.objs.size)) (PIE X pins σ tg R) E { s with heap:=s.heap.push { cls:=.type "range",data:=.fields #[.int lo t,.int hi u,.int 1 v] },toks:=tk }:=by
 refine wpAny_pyIter_range (IsRange.new ..) (small_one h1 h2 h3 h4) ?_;have I1:Inv X pins σ H { s with heap:=s.heap.push { cls:=.type "range",data:=.fields #[.int lo t,.int hi u,.int 1 v] },toks:=tk }:=I.kept fun b o e=>aB5 _ e;refine⟨(s.heap.push { cls:=.type "range",data:=.fields #[.int lo t,.int hi u,.int 1 v] }).objs.size,[(s.heap.push { cls:=.type "range",data:=.fields #[.int lo t,.int hi u,.int 1 v] }).objs.size],_,_,H,rfl,
  I1.kept (t':=tk) fun b o e=>aB5 _ e,yC _ lo (hi - lo).toNat,?_,fun b hb=>?_,q⟩
 ·have e1:lo+((0:Nat):Int) * 1=lo:=by simp
  have e2:(((hi - lo).toNat:Nat):Int) - ((0:Nat):Int)=Builtin.Range.rangeSize lo hi 1:=by rw[rangeSize_one];split <;> omega
  show IsRangeIter _ _ (lo+((0:Nat):Int) * 1) ((((hi - lo).toNat:Nat):Int) - ((0:Nat):Int)) 1;rw[e1,e2];exact aBb _ rfl
 ·have e:b=(s.heap.push { cls:=.type "range",data:=.fields #[.int lo t,.int hi u,.int 1 v] }).objs.size:=by simpa using hb
  subst e;exact I1.fpOk (Nat.le_refl _) (I1.hok.fresh (Nat.le_refl _))
def aA3 (ta:TA):TI:=fun σ H R=>ta σ H fun vs H1=>∃ j:Int,vs=[.int j]/\-(2 ^ 62)<=j/\j<2 ^ 62/\R (Itr 0 j.toNat) H1
def aA4 (ta:TA):TI:=fun σ H R=>ta σ H fun vs H1=>∃ i j:Int,vs=[.int i,.int j]/\(-(2 ^ 62)<=i/\i<2 ^ 62/\-(2 ^ 62)<=j/\j<2 ^ 62)/\R (Itr i (j - i).toNat) H1
theorem jI {a:Expr} {ta:TA} {p pos:Pos} (hg:Gl X "range") (hm:X.mg "range"=none) (ha:PA X [a] ta) (hs:starEach [a] X.env=[(false,eval a X.env)]:=by rfl):PI X tg (.Call (.Name "range" p) [a] [] pos) (aA3 ta):=by
 intro pins s σ H R I h;refine Call_ (jC I hg hm boot_range (PyProof.Rows.callWith_type1 (thn (ha pos pins s σ H _ I h) fun us s1 ⟨vs,H1,I1,r1,q1⟩=>?_) hs rfl));obtain⟨j,e,q1,q2,q⟩:=q1;subst e;cases r1 with
 | cons r rr =>
  cases rr;obtain⟨t,rfl⟩:=r;exact call_range_1 (wF I1 (by omega) (by omega) q1 q2 (by simpa using q))
theorem sM {a b:Expr} {ta:TA} {p pos:Pos} (hg:Gl X "range") (hm:X.mg "range"=none) (ha:PA X [a,b] ta) (hs:starEach [a,b] X.env=[(false,eval a X.env),(false,eval b X.env)]:=by rfl) (hs2:starEach [b] X.env=[(false,eval b X.env)]:=by rfl) :
 PI X tg (.Call (.Name "range" p) [a,b] [] pos) (aA4 ta):=by
 intro pins s σ H R I h;refine Call_ (jC I hg hm boot_range (PyProof.Rows.callWith_type1 (thn (ha pos pins s σ H _ I h) fun us s1 ⟨vs,H1,I1,r1,q1⟩=>?_) (by rw[hs,hs2]) (by rw[hs2];rfl)));obtain⟨i,j,e,⟨q1,q2,q3,q4⟩,q⟩:=q1;subst e;cases r1 with
 | cons r rr =>
  cases rr with
  | cons r' rr =>
   cases rr;obtain⟨t,rfl⟩:=r;obtain⟨t',rfl⟩:=r';exact call_range_2 (wF I1 q1 q2 q3 q4 q)
def aBG (wi:TI) (g:TG) (tb:TS):TS:=fun D σ H=>wi σ H fun J H1=>∃ W:Nat->Nat->St->Hp->Prop,(∃ m,W 0 m σ H1)/\∀ i m σ H,W i m σ H ->
 (J.stop i H/\D.nx σ H)\/(J.go i H/\∃ N:St->Hp->Prop,(∀ σ' H',N σ' H'->∃ m',m'<m/\W (i+1) m' σ' H')/\∀ x H',J.yld i H x H'->g x σ H' fun σ2 H2=>tb { D with nx:=N,ct:=N,bk:=D.nx } σ2 H2)
def bU (fp:List Addr) (h:Heap):List (Addr×Obj):=fp.filterMap fun b=>(h.get? b).map fun o=>(b,o)
theorem bN {fp:List Addr} {h:Heap} {b:Addr} {o:Obj} (hb:b∈fp) (e:h.get? b=some o):(b,o)∈bU fp h:=List.mem_filterMap.mpr ⟨b,hb,by rw[e];rfl⟩
theorem gW {fp:List Addr} {h:Heap} {p:Addr×Obj} (hp:p∈bU fp h):p.1∈fp/\h.get? p.1=some p.2:=by
 obtain⟨b,hb,e⟩:=List.mem_filterMap.mp hp;cases q:h.get? b with
 | none=>rw[q]at e;cases e
 | some o =>
  rw[q]at e;have e':(b,o)=p:=Option.some.inj e;subst e';exact⟨hb,q⟩
theorem Inv.pinned {pins:List (Addr×Obj)} {σ:St} {H:Hp} {s:Shared} {fp:List Addr} (I:Inv X pins σ H s) (hf:∀ b∈fp,iT X pins H b) (ho:∀ b∈fp,∃ o,s.heap.get? b=some o/\∀ v,o.data≠.cell v):Inv X (pins++bU fp s.heap) σ H s :=
 I.pins_of fun p hp=>(aCH.mp hp).elim (fun z=>I.pin p (aB8 _ z)) fun z=>by
  obtain⟨hb,e⟩:=gW z;obtain⟨f0,f1,f2,_⟩:=hf p.1 hb;obtain⟨o,e',d⟩:=ho p.1 hb;rw[e]at e';cases e';exact⟨e,f0,f1,f2,d⟩
theorem Inv.unpinned {pins pl:List (Addr×Obj)} {σ:St} {H:Hp} {s:Shared} (I:Inv X (pins++pl) σ H s):Inv X pins σ H s:=I.pins_of fun p hp=>I.pin p (aB8 _ (aBn _ hp))
theorem cQ {iter:Expr} {body:List Stmt} {wi:TI} {g:TG} {tb:TS} {pos:Pos} (hp:PassesOwn (model X.prog X.w) X.A X.env X.xe) (hc:X.calm=true) (hi:PI X tg iter wi) (hg:PG X tg g) (hb:PSs X body tb)
 (hs:∀ x,foldedSetIterable iter X.env x=pure x:=by intro _;rfl):PS X (.For tg iter body [] pos) (aBG wi g tb):=by
 intro pins s σ H D I h;refine wpAny_For (thn (hi pins s σ H _ I h) fun v s1 h1=>thn h1 fun itv s2 h2=>?_) hs;obtain⟨it,fp,tn,J,H2,e,I2,T,st2,f2,W,⟨m0,w0⟩,turn⟩:=h2;subst e;have stat:∀ {H':Hp},(∀ b∈fp,H' b=none)->∀ b∈fp,iT X pins H' b:=fun hn b hb=>⟨hn b hb,(f2 b hb).2⟩;refine codeAny_forLoop_any (fun n s'=>∃ i σ' H',Inv X pins σ' H' s'/\tn i s'.heap/\(∀ b∈fp,H' b=none)/\W i n σ' H') ?_ m0 ⟨0,σ,H2,I2,st2,fun b hb=>(f2 b hb).1,w0⟩;rintro n s3 ⟨i,σ3,H3,I3,st3,fr3,w3⟩;rcases turn i n σ3 H3 w3 with ⟨stop,qn⟩ | ⟨go,N,hN,step⟩
 ·refine wpAny_passesOwn hp (thn (T.done X rfl rfl rfl hc i pins s3 σ3 H3 X.xe I3 (stat fr3) st3 stop) fun r s4 ⟨hr,I4⟩=>?_);subst hr;exact wpAny_execs_nil ⟨σ3,H3,I4,qn⟩
 ·refine wpAny_passesOwn hp (thn (T.item X rfl rfl rfl hc i pins s3 σ3 H3 X.xe I3 (stat fr3) st3 go) fun r s4 ⟨u,hr,h4⟩=>?_);subst hr;refine wpAny_passesOwn hp (thn h4 fun _ s5 ⟨x,H5,I5,r5,y5,st5,fr5⟩=>?_);have I5':=I5.pinned (stat fr5) (T.obj _ _ st5);refine wpAny_passesOwn hp (thn (hg _ s5 σ3 H5 x u _ I5' r5 (step x H5 y5)) fun _ s6 ⟨σ6,H6,I6,q6⟩=>?_);refine wpAny_passesOwn hp (thn (hb _ s6 σ6 H6 _ I6 q6) fun f s7 q7=>?_);have again:∀ {σ7:St} {H7:Hp},Inv X (pins++bU fp s5.heap) σ7 H7 s7->N σ7 H7->∃ m,m<n/\∃ i σ' H',Inv X pins σ' H' s7/\tn i s7.heap/\(∀ b∈fp,H' b=none)/\W i m σ' H':=fun {σ7 H7} I7 n7=>by
   obtain⟨m',hm,w7⟩:=hN σ7 H7 n7;refine⟨m',hm,i+1,σ7,H7,I7.unpinned,T.keep _ _ _ st5 fun b hb o e=>(I7.pin (b,o) (aB8 _ (aB8 _ (bN hb e)))).1,fun b hb=>?_,w7⟩;obtain⟨o,e,d⟩:=T.obj _ _ st5 b hb;exact(I7.pin (b,o) (aB8 _ (aB8 _ (bN hb e)))).2.1
  cases f with
  | next=>obtain⟨σ7,H7,I7,n7⟩:=q7;exact again I7 n7
  | cont=>obtain⟨σ7,H7,I7,n7⟩:=q7;exact again I7 n7
  | brk=>obtain⟨σ7,H7,I7,q7⟩:=q7;exact⟨σ7,H7,I7.unpinned,q7⟩
  | ret v=>obtain⟨x7,σ7,H7,I7,r7,q7⟩:=q7;exact⟨x7,σ7,H7,I7.unpinned,r7,q7⟩
end
theorem cN {K:PySem.W.Frag} {a:Addr} {xs:List V} {g:TG} {tb:TS} {D:pZ} {σ:St} {H:Hp} (Pv:Nat->St->Hp->Prop) (h0:Pv 0 σ H) (hl:∀ i σ H,i<=xs.length->Pv i σ H->SqL K H a xs)
 (hs:∀ i x σ H,xs[i]?=some x->Pv i σ H->g x σ H fun σ2 H2=>tb { D with nx:=Pv (i+1),ct:=Pv (i+1),bk:=D.nx } σ2 H2) (hd:∀ σ H,Pv xs.length σ H->D.nx σ H) :
 ∃ W:Nat->Nat->St->Hp->Prop,(∃ m,W 0 m σ H)/\∀ i m σ H,W i m σ H ->
  ((Itl K a).stop i H/\D.nx σ H)\/((Itl K a).go i H/\∃ N:St->Hp->Prop,(∀ σ' H',N σ' H'->∃ m',m'<m/\W (i+1) m' σ' H')/\∀ x H',(Itl K a).yld i H x H'->g x σ H' fun σ2 H2=>tb { D with nx:=N,ct:=N,bk:=D.nx } σ2 H2):=by
 refine⟨fun i m σ H=>m=xs.length - i/\i<=xs.length/\Pv i σ H,⟨xs.length,by simp,Nat.zero_le _,h0⟩,?_⟩;rintro i m σ H ⟨rfl,hi,p⟩;have q:=hl i σ H hi p
 by_cases hlt:i<xs.length
 ·refine .inr ⟨⟨xs,xs[i],q,by simp[hlt]⟩,Pv (i+1),fun σ' H' p'=>⟨xs.length - (i+1),by omega,rfl,hlt,p'⟩,fun x H' y=>?_⟩;obtain⟨e,y⟩:=y;subst e;exact hs i x σ _ (y xs q) p
 ·have e:i=xs.length:=by omega
  subst e;exact .inl ⟨⟨xs,q,Nat.le_refl _⟩,hd σ H p⟩
theorem jJ {lo:Int} {n:Nat} {g:TG} {tb:TS} {D:pZ} {σ:St} {H:Hp} (Pv:Nat->St->Hp->Prop) (h0:Pv 0 σ H)
 (hs:∀ i σ H,i<n->Pv i σ H->g (.int (lo+i)) σ H fun σ2 H2=>tb { D with nx:=Pv (i+1),ct:=Pv (i+1),bk:=D.nx } σ2 H2) (hd:∀ σ H,Pv n σ H->D.nx σ H) :
 ∃ W:Nat->Nat->St->Hp->Prop,(∃ m,W 0 m σ H)/\∀ i m σ H,W i m σ H ->
  ((Itr lo n).stop i H/\D.nx σ H)\/((Itr lo n).go i H/\∃ N:St->Hp->Prop,(∀ σ' H',N σ' H'->∃ m',m'<m/\W (i+1) m' σ' H')/\∀ x H',(Itr lo n).yld i H x H'->g x σ H' fun σ2 H2=>tb { D with nx:=N,ct:=N,bk:=D.nx } σ2 H2):=by
 refine⟨fun i m σ H=>m=n - i/\i<=n/\Pv i σ H,⟨n,by simp,Nat.zero_le _,h0⟩,?_⟩;rintro i m σ H ⟨rfl,hi,p⟩
 by_cases hlt:i<n
 ·refine .inr ⟨hlt,Pv (i+1),fun σ' H' p'=>⟨n - (i+1),by omega,rfl,hlt,p'⟩,fun x H' y=>?_⟩;obtain⟨e,y⟩:=y;subst e y;exact hs i σ _ hlt p
 ·have e:i=n:=by omega
  subst e;exact .inl ⟨Nat.le_refl _,hd σ H p⟩
theorem mR {c:TT} {tb:TS} {D:pZ} {σ:St} {H:Hp} (Pv:St->Hp->Prop) (μ:St->Hp->Nat) (h0:Pv σ H)
 (hs:∀ σ H,Pv σ H->c σ H fun b H1=>if b=true then tb { D with nx:=fun σ' H'=>Pv σ' H'/\μ σ' H'<μ σ H,ct:=fun σ' H'=>Pv σ' H'/\μ σ' H'<μ σ H,bk:=D.nx } σ H1 else D.nx σ H1)
 (mono:∀ σ H Q Q',(∀ b H1,Q b H1->Q' b H1)->c σ H Q->c σ H Q'):N9 c tb D σ H:=by
 refine⟨fun m σ H=>m=μ σ H/\Pv σ H,⟨_,rfl,h0⟩,?_⟩;rintro m σ H ⟨rfl,p⟩;refine mono σ H _ _ (fun b H1 q=>?_) (hs σ H p);cases b with
 | true=>exact⟨_,fun σ' H' ⟨p',l⟩=>⟨_,l,rfl,p'⟩,q⟩
 | false=>exact q
abbrev R2:=V->V->Hp->VK->Prop
def OpR (X:Cx) (f:Value->Value->Sem Value) (r:R2):Prop :=
 ∀ (pins:List (Addr×Obj)) (s:Shared) (σ:St) (H:Hp) (x y:V) (v u:Value) (Q:VK),Inv X pins σ H s->RelV x v->RelV y u->r x y H Q ->
  wpAny (model X.prog X.w) X.A (f v u) (EP X pins σ Q) X.xe s
def UnR (X:Cx) (f:Value->Sem Value) (r:V->Hp->VK->Prop):Prop :=
 ∀ (pins:List (Addr×Obj)) (s:Shared) (σ:St) (H:Hp) (x:V) (v:Value) (Q:VK),Inv X pins σ H s->RelV x v->r x H Q ->
  wpAny (model X.prog X.w) X.A (f v) (EP X pins σ Q) X.xe s
def fW (X:Cx) (f:Value) (r:List V->Hp->VK->Prop):Prop :=
 ∀ (pins:List (Addr×Obj)) (s:Shared) (σ:St) (H:Hp) (xs:List V) (us:List Value) (Q:VK),Inv X pins σ H s->Vals xs us->r xs H Q ->
  wpAny (model X.prog X.w) X.A (call f us) (EP X pins σ Q) X.xe s
def aBH (X:Cx) (r:V->Hp->(Bool->Hp->Prop)->Prop):Prop :=
 ∀ (pins:List (Addr×Obj)) (s:Shared) (σ:St) (H:Hp) (x:V) (v:Value) (Q:Bool->Hp->Prop),Inv X pins σ H s->RelV x v->r x H Q ->
  wpAny (model X.prog X.w) X.A (truthy v) (TP X pins σ Q) X.xe s
def tOp (r:R2) (ta tb:TE):TE:=fun σ H Q=>ta σ H fun x H1=>tb σ H1 fun y H2=>r x y H2 Q
def tUn (r:V->Hp->VK->Prop) (ta:TE):TE:=fun σ H Q=>ta σ H fun x H1=>r x H1 Q
def rI (C:Int->Int->Prop) (g:Int->Int->V):R2:=fun x y H Q=>∃ i j,x=.int i/\y=.int j/\C i j/\Q (g i j) H
def rI0 (g:Int->Int->V):R2:=fun x y H Q=>∃ i j,x=.int i/\y=.int j/\Q (g i j) H
def rU (g:Int->V):V->Hp->VK->Prop:=fun x H Q=>∃ i,x=.int i/\Q (g i) H
section
variable {X:Cx} {a b c:Expr} {ta tb tc:TE} {pos:Pos}
theorem u7 (ha:PE X a ta) (hb:PE X b tb) {pins:List (Addr×Obj)} {s:Shared} {σ:St} {H:Hp} {R:V->V->Hp->Prop} (I:Inv X pins σ H s)
 (h:ta σ H fun x H1=>tb σ H1 fun y H2=>R x y H2) {Q:Value->Shared->Prop} {f:Value->Value->Sem Value}
 (hf:∀ v u s2 x y H2,Inv X pins σ H2 s2->RelV x v->RelV y u->R x y H2->wpAny (model X.prog X.w) X.A (f v u) Q X.xe s2) :
 wpAny (model X.prog X.w) X.A (eval a X.env) (fun v s₁=>wpAny (model X.prog X.w) X.A (eval b X.env) (fun u s₂=>wpAny (model X.prog X.w) X.A (f v u) Q X.xe s₂) X.xe s₁) X.xe s:=by
 refine thn (ha pins s σ H _ I h) fun v s1 ⟨x,H1,I1,r1,q1⟩=>?_;refine thn (hb pins s1 σ H1 _ I1 q1) fun u s2 ⟨y,H2,I2,r2,q2⟩=>?_;exact hf v u s2 x y H2 I2 r1 r2 q2
theorem aK {op:Operator} {r:R2} (ho:OpR X (binaryOp op) r) (ha:PE X a ta) (hb:PE X b tb):PE X (.BinOp a op b pos) (tOp r ta tb):=by
 intro pins s σ H Q I h;exact wpAny_BinOp (u7 ha hb I h fun v u s2 x y H2 I2 rx ry q=>ho pins s2 σ H2 x y v u Q I2 rx ry q)
theorem gK {op:UnaryOp} {r:V->Hp->VK->Prop} (ho:UnR X (unaryOp op) r) (ha:PE X a ta):PE X (.UnaryOp op a pos) (tUn r ta):=by
 intro pins s σ H Q I h;exact UnaryOp_ (thn (ha pins s σ H _ I h) fun v s1 ⟨x,H1,I1,r1,q1⟩=>ho pins s1 σ H1 x v Q I1 r1 q1)
theorem opI {f:Value->Value->Sem Value} {C:Int->Int->Prop} {g:Int->Int->Int}
 (rule:∀ (i j:Int) (t u:Tok) (s:Shared) (Q:Value->Shared->Prop) (E:Value->Shared->Prop),C i j->Q (.int (g i j) s.toks) { s with toks:=s.toks+1 }->wpAny (model X.prog X.w) X.A (f (.int i t) (.int j u)) Q E s) :
 OpR X f (rI C fun i j=>.int (g i j)):=by
 intro pins s σ H x y v u Q I rx ry h;obtain⟨i,j,rfl,rfl,hc,q⟩:=h;obtain⟨t,rfl⟩:=rx;obtain⟨t',rfl⟩:=ry;exact rule i j t t' s _ _ hc ⟨.int (g i j),H,I.tok _,⟨_,rfl⟩,q⟩
theorem aA5 {f:Value->Value->Sem Value} {g:Int->Int->Int}
 (rule:∀ (i j:Int) (t u:Tok) (s:Shared) (Q:Value->Shared->Prop) (E:Value->Shared->Prop),Q (.int (g i j) s.toks) { s with toks:=s.toks+1 }->wpAny (model X.prog X.w) X.A (f (.int i t) (.int j u)) Q E s) :
 OpR X f (rI0 fun i j=>.int (g i j)):=by
 intro pins s σ H x y v u Q I rx ry h;obtain⟨i,j,rfl,rfl,q⟩:=h;obtain⟨t,rfl⟩:=rx;obtain⟨t',rfl⟩:=ry;exact rule i j t t' s _ _ ⟨.int (g i j),H,I.tok _,⟨_,rfl⟩,q⟩
theorem O0 {f:Value->Value->Sem Value} {g:Int->Int->Bool}
 (rule:∀ (i j:Int) (t u:Tok) (s:Shared) (Q:Value->Shared->Prop) (E:Value->Shared->Prop),Q (.bool (g i j)) s->wpAny (model X.prog X.w) X.A (f (.int i t) (.int j u)) Q E s) :
 OpR X f (rI0 fun i j=>.bl (g i j)):=by
 intro pins s σ H x y v u Q I rx ry h;obtain⟨i,j,rfl,rfl,q⟩:=h;obtain⟨t,rfl⟩:=rx;obtain⟨t',rfl⟩:=ry;exact rule i j t t' s _ _ ⟨.bl (g i j),H,I,rfl,q⟩
def aBI (i j:Int):Prop:=0<j/\j<1073741824
def aBJ (i j:Int):Prop:=0<=j/\j<=1000000/\i.natAbs<2 ^ 64
def CMul (i j:Int):Prop:=(-(2 ^ 64)<i/\i<2 ^ 64)\/(-(2 ^ 64)<j/\j<2 ^ 64)
theorem CMul.ok {i j:Int} (h:CMul i j):IntMulOk i j:=by
 rcases h with ⟨h1,h2⟩ | ⟨h1,h2⟩
 ·exact .of_left (intBits_le_64 h1 h2)
 ·exact .of_right (intBits_le_64 h1 h2)
theorem bS:OpR X (binaryOp .Add) (rI0 fun i j=>.int (i+j)):=aA5 fun _ _ _ _ _ _ _ q=>add_int q
theorem bV:OpR X (binaryOp .Sub) (rI0 fun i j=>.int (i - j)):=aA5 fun _ _ _ _ _ _ _ q=>sub_int q
theorem cR:OpR X (binaryOp .Mult) (rI CMul fun i j=>.int (i * j)):=opI fun _ _ _ _ _ _ _ hc q=>mul_int q hc.ok
theorem uD:OpR X (binaryOp .FloorDiv) (rI aBI fun i j=>.int (i / j)):=opI fun i j _ _ _ _ _ hc q=>by
 have h1:(0:Int)<j:=hc.1;have h2:j<1073741824:=hc.2;exact floordiv_int (by omega) (by rw[Int.fdiv_eq_ediv_of_nonneg i (by omega)];exact q) (.inl (PyProof.noPylong_small (by omega)))
theorem eM:OpR X (binaryOp .Mod) (rI (fun _ j=>0<j) fun i j=>.int (i % j)):=opI fun i j _ _ _ _ _ hc q=>by
 have h1:(0:Int)<j:=hc;exact mod_int' (by omega) (by rw[Int.fmod_eq_emod_of_nonneg i (by omega)];exact q)
theorem yD:OpR X (binaryOp .Pow) (rI aBJ fun i j=>.int (i ^ j.toNat)):=opI fun _ _ _ _ _ _ _ hc q=>pow_int_small hc.1 hc.2.1 hc.2.2 q
theorem unI {f:Value->Sem Value} {g:Int->Int}
 (rule:∀ (i:Int) (t:Tok) (s:Shared) (Q:Value->Shared->Prop) (E:Value->Shared->Prop),Q (.int (g i) s.toks) { s with toks:=s.toks+1 }->wpAny (model X.prog X.w) X.A (f (.int i t)) Q E s) :
 UnR X f (rU fun i=>.int (g i)):=by
 intro pins s σ H x v Q I rx h;obtain⟨i,rfl,q⟩:=h;obtain⟨t,rfl⟩:=rx;exact rule i t s _ _ ⟨.int (g i),H,I.tok _,⟨_,rfl⟩,q⟩
theorem eF:UnR X (unaryOp .USub) (rU fun i=>.int (-i)):=unI fun _ _ _ _ _ q=>neg_int q
end
def aA6:V->V->Bool
 | .non,.non=>true | .non,.int _=>true | .int _,.non=>true | .non,.bl _=>true | .bl _,.non=>true | .non,.str _=>true | .str _,.non=>true
 | .int _,.int _=>true | .bl _,.bl _=>true | .str _,.str _=>true | .byt _,.byt _=>true
 | .int _,.str _=>true | .str _,.int _=>true | .bl _,.str _=>true | .str _,.bl _=>true
 | _,_=>false
def rEq:R2:=fun x y H Q=>aA6 x y=true/\Q (.bl (decide (x=y))) H
def rNe:R2:=fun x y H Q=>aA6 x y=true/\Q (.bl (!decide (x=y))) H
theorem zT {i j:Int}:decide (V.int i=V.int j)=(i == j):=by
 rw[Bool.eq_iff_iff];simp
theorem O1 {i j:Bool}:decide (V.bl i=V.bl j)=(i == j):=by
 rw[Bool.eq_iff_iff];simp
theorem zU {i j:Str}:decide (V.str i=V.str j)=(i == j):=by
 rw[Bool.eq_iff_iff];simp
theorem zV {i j:Array UInt8}:decide (V.byt i=V.byt j)=(i.toList == j.toList):=by
 rw[Bool.eq_iff_iff];cases i;cases j;simp
section
variable {X:Cx} {a b c:Expr} {ta tb tc:TE} {pos:Pos}
theorem bO {pins:List (Addr×Obj)} {σ:St} {H:Hp} {s:Shared} {Q:VK} {k k':Bool} (I:Inv X pins σ H s) (q:Q (.bl k) H) (e:k=k'):EP X pins σ Q (.bool k') s:=by
 subst e;exact⟨.bl k,H,I,rfl,q⟩
theorem aA7:OpR X (compareOp .Eq) rEq:=by
 intro pins s σ H x y v u Q I rx ry h;obtain⟨hs,q⟩:=h;cases x with
 | non =>
  cases rx;cases y with
  | non=>cases ry;exact PySem.EqNone.eq_none_none (bO I q (by simp))
  | bl j=>cases ry;exact PySem.EqNone.eq_none_bool (bO I q (by simp))
  | int j=>obtain⟨t',rfl⟩:=ry;exact PySem.EqNone.eq_none_int (bO I q (by simp))
  | str j=>obtain⟨t',rfl⟩:=ry;exact PySem.EqNone.eq_none_str (bO I q (by simp))
  | _=>exact absurd (show false=true from hs) aBh
 | bl i =>
  cases rx;cases y with
  | non=>cases ry;exact PySem.EqNone.eq_bool_none (bO I q (by simp))
  | bl j=>cases ry;exact eq_bool (bO I q O1)
  | str j=>obtain⟨t',rfl⟩:=ry;exact PySem.EqMixed.eq_bool_str (bO I q (by simp))
  | _=>exact absurd (show false=true from hs) aBh
 | int i =>
  obtain⟨t,rfl⟩:=rx;cases y with
  | non=>cases ry;exact PySem.EqNone.eq_int_none (bO I q (by simp))
  | int j=>obtain⟨t',rfl⟩:=ry;exact eq_int (bO I q zT)
  | str j=>obtain⟨t',rfl⟩:=ry;exact PySem.EqMixed.eq_int_str (bO I q (by simp))
  | _=>exact absurd (show false=true from hs) aBh
 | str i =>
  obtain⟨t,rfl⟩:=rx;cases y with
  | non=>cases ry;exact PySem.EqNone.eq_str_none (bO I q (by simp))
  | bl j=>cases ry;exact PySem.EqMixed.eq_str_bool (bO I q (by simp))
  | int j=>obtain⟨t',rfl⟩:=ry;exact PySem.EqMixed.eq_str_int (bO I q (by simp))
  | str j=>obtain⟨t',rfl⟩:=ry;exact eq_str (bO I q zU)
  | _=>exact absurd (show false=true from hs) aBh
 | byt i =>
  obtain⟨t,rfl⟩:=rx;cases y with
  | byt j=>obtain⟨t',rfl⟩:=ry;exact PySem.W.eq_bytes (bO I q zV)
  | _=>exact absurd (show false=true from hs) aBh
 | _=>cases y <;> exact absurd (show false=true from hs) aBh
theorem zW:OpR X (compareOp .NotEq) rNe:=by
 intro pins s σ H x y v u Q I rx ry h;obtain⟨hs,q⟩:=h;cases x with
 | non =>
  cases rx;cases y with
  | non=>cases ry;exact PySem.EqNone.ne_none_none (bO I q (by simp))
  | bl j=>cases ry;exact PySem.EqNone.ne_none_bool (bO I q (by simp))
  | int j=>obtain⟨t',rfl⟩:=ry;exact PySem.EqNone.ne_none_int (bO I q (by simp))
  | str j=>obtain⟨t',rfl⟩:=ry;exact PySem.EqNone.ne_none_str (bO I q (by simp))
  | _=>exact absurd (show false=true from hs) aBh
 | bl i =>
  cases rx;cases y with
  | non=>cases ry;exact PySem.EqNone.ne_bool_none (bO I q (by simp))
  | bl j=>cases ry;exact ne_bool (bO I q (congrArg not O1))
  | str j=>obtain⟨t',rfl⟩:=ry;exact PySem.EqMixed.ne_bool_str (bO I q (by simp))
  | _=>exact absurd (show false=true from hs) aBh
 | int i =>
  obtain⟨t,rfl⟩:=rx;cases y with
  | non=>cases ry;exact PySem.EqNone.ne_int_none (bO I q (by simp))
  | int j=>obtain⟨t',rfl⟩:=ry;exact ne_int (bO I q (congrArg not zT))
  | str j=>obtain⟨t',rfl⟩:=ry;exact PySem.EqMixed.ne_int_str (bO I q (by simp))
  | _=>exact absurd (show false=true from hs) aBh
 | str i =>
  obtain⟨t,rfl⟩:=rx;cases y with
  | non=>cases ry;exact PySem.EqNone.ne_str_none (bO I q (by simp))
  | bl j=>cases ry;exact PySem.EqMixed.ne_str_bool (bO I q (by simp))
  | int j=>obtain⟨t',rfl⟩:=ry;exact PySem.EqMixed.ne_str_int (bO I q (by simp))
  | str j=>obtain⟨t',rfl⟩:=ry;exact ne_str (bO I q (congrArg not zU))
  | _=>exact absurd (show false=true from hs) aBh
 | byt i =>
  obtain⟨t,rfl⟩:=rx;cases y with
  | byt j=>obtain⟨t',rfl⟩:=ry;exact PySem.W.ne_bytes (bO I q (congrArg not zV))
  | _=>exact absurd (show false=true from hs) aBh
 | _=>cases y <;> exact absurd (show false=true from hs) aBh
theorem kH:OpR X (compareOp .Lt) (rI0 fun i j=>.bl (decide (i<j))):=O0 fun _ _ _ _ _ _ _ q=>lt_int q
theorem aA8:OpR X (compareOp .LtE) (rI0 fun i j=>.bl (decide (i<=j))):=O0 fun _ _ _ _ _ _ _ q=>le_int q
theorem kF:OpR X (compareOp .Gt) (rI0 fun i j=>.bl (decide (j<i))):=O0 fun _ _ _ _ _ _ _ q=>gt_int q
theorem O2:OpR X (compareOp .Is) (fun x y H Q=>y=.non/\Q (.bl (decide (x=.non))) H):=by
 intro pins s σ H x y v u Q I rx ry h;obtain⟨rfl,q⟩:=h;cases ry;refine is_none_gen (bO I q ?_);cases x <;> first
  | (cases rx;rfl)
  | (obtain⟨t,rfl⟩:=rx;rfl)
theorem bB (b:Expr) {op:CmpOp} (h:op≠.In:=by decide) (h2:op≠.NotIn:=by decide):behindInMarks op b=false:=by
 have e1:(op == CmpOp.In)=false:=by cases op <;> first | rfl | exact absurd rfl h
 have e2:(op == CmpOp.NotIn)=false:=by cases op <;> first | rfl | exact absurd rfl h2
 cases b <;> simp[behindInMarks,e1,e2]
theorem pK {op:CmpOp} {r:R2} (ho:OpR X (compareOp op) r) (ha:PE X a ta) (hb:PE X b tb) (hm:behindInMarks op b=false):PE X (.Compare a [op] [b] pos) (tOp r ta tb):=by
 intro pins s σ H Q I h;exact wpAny_Compare1 (u7 ha hb I h fun v u s2 x y H2 I2 rx ry q=>ho pins s2 σ H2 x y v u Q I2 rx ry q) hm
def aA9 (t:TE):TT:=fun σ H Q=>t σ H fun x H'=>∃ k,x=.bl k/\Q k H'
theorem aW {op:CmpOp} {r:R2} (ho:OpR X (compareOp op) r) (ha:PE X a ta) (hb:PE X b tb) (hm:behindInMarks op b=false):PT X (.Compare a [op] [b] pos) (aA9 (tOp r ta tb)):=by
 intro pins s σ H Q I h;refine wpAny_isTrue_Compare1 (thn (ha pins s σ H _ I h) fun v s1 ⟨x,H1,I1,r1,q1⟩=>thn (hb pins s1 σ H1 _ I1 q1) fun u s2 ⟨y,H2,I2,r2,q2⟩ =>
  thn (ho pins s2 σ H2 x y v u _ I2 r1 r2 q2) fun c s3 ⟨z,H3,I3,r3,k,e,q3⟩=>?_) hm
 subst e;cases r3;exact wpAny_truthy_bool ⟨H3,I3,q3⟩
def aAa (K:PySem.W.Frag) (x:V) (H:Hp) (k:Bool):Prop :=
 match x with
 | .non=>k=false
 | .bl b=>k=b
 | .int i=>k=(i != 0)
 | .str y=>y.length<=sizeLine/\k=((y.length:Int) != 0)
 | .byt y=>y.size<=sizeLine/\k=((y.size:Int) != 0)
 | .ref p=>(∃ xs,SqL K H p xs/\k=!xs.isEmpty)\/(∃ xs,SqT K H p xs/\k=!xs.isEmpty)\/∃ kvs,H p=some (.dK kvs)/\k=!kvs.isEmpty
 | _=>False
theorem yE {κ:Type} {kvs:List (κ×V)} {vs:List (κ×Value)} (r:KV kvs vs):(!vs.isEmpty)=!kvs.isEmpty:=by
 cases r <;> rfl
theorem qD {xs:List V} {its:List Value} (r:Vals xs its):(!its.toArray.isEmpty)=!xs.isEmpty:=by
 cases r <;> simp
theorem nZ:(sizeLine:Nat)<2 ^ 63:=by rw[sizeLine_eq];decide
theorem u8:aBH X (fun x H Q=>∃ k,aAa X.K x H k/\Q k H):=by
 intro pins s σ H x v Q I rx h;obtain⟨k,e,q⟩:=h;have hl:=nZ;have hs:sizeLine=16777216:=sizeLine_eq;cases x with
 | non =>
  cases rx;have e':k=false:=e;subst e';exact truthy_none ⟨H,I,q⟩
 | bl b =>
  cases rx;have e':k=b:=e;subst e';exact wpAny_truthy_bool ⟨H,I,q⟩
 | int i =>
  obtain⟨t,rfl⟩:=rx;have e':k=(i != 0):=e;subst e';exact PySem.P.truthy_int ⟨H,I,q⟩
 | str y =>
  obtain⟨t,rfl⟩:=rx;obtain⟨hy,e'⟩:y.length<=sizeLine/\k=((y.length:Int) != 0):=e;subst e';exact PySem.P.truthy_str (by omega) ⟨H,I.tok _,q⟩
 | byt y =>
  obtain⟨t,rfl⟩:=rx;obtain⟨hy,e'⟩:y.size<=sizeLine/\k=((y.size:Int) != 0):=e;subst e';exact PySem.W.truthy_bytes (by omega) ⟨H,I.tok _,q⟩
 | ref p =>
  cases rx;have e':(∃ xs,SqL X.K H p xs/\k=!xs.isEmpty)\/(∃ xs,SqT X.K H p xs/\k=!xs.isEmpty)\/∃ kvs,H p=some (.dK kvs)/\k=!kvs.isEmpty:=e;rcases e' with ⟨xs,hx,e'⟩ | ⟨xs,hx,e'⟩ | ⟨kvs,hx,e'⟩
  ·subst e';obtain⟨its,r,pl,hz⟩:=I.list hx;have hlen:=r.length;exact wpAny_truthy_list pl.isList (by simp only[aBc];omega) ⟨H,I.tok _,by rw[qD r];exact q⟩
  ·subst e';obtain⟨its,r,pl,hz⟩:=I.tuple hx;have hlen:=r.length;exact truthy_tuple pl (by simp only[aBc];omega) ⟨H,I.tok _,by rw[qD r];exact q⟩
  ·subst e';obtain⟨hz,hS,vs,r,m⟩:kvs.length<=sizeLine/\(p == sysModules)=false/\∃ vs,KV kvs vs/\s.heap.DictOf (bK X.prog X.w) p vs:=I.hok p _ hx;have hlen:kvs.length=vs.length:=Paired.length r;exact wpAny_truthy_dict hS m (by omega) ⟨H,I.tok _,by rw[yE r];exact q⟩
 | _=>exact(show False from e).elim
theorem hX (ha:PE X a ta) (he:∀ whole,isTrue a X.env whole=(do let v <- whole;standAt a.pos;holding [v] (truthy v))) :
 PT X a (fun σ H Q=>ta σ H fun x H'=>∃ k,aAa X.K x H' k/\Q k H'):=by
 intro pins s σ H Q I h;exact isTrue_plain (thn (ha pins s σ H _ I h) fun v s1 ⟨x,H1,I1,r1,q1⟩=>u8 pins s1 σ H1 x v Q I1 r1 q1) (he _)
theorem iU {x:V} {us:List Value} (r:Vals [x] us):∃ u,us=[u]/\RelV x u:=by
 cases r with
 | cons r1 r2=>cases r2;exact⟨_,rfl,r1⟩
theorem aAb {x y:V} {us:List Value} (r:Vals [x,y] us):∃ u w',us=[u,w']/\RelV x u/\RelV y w':=by
 cases r with
 | cons r1 r2 =>
  cases r2 with
  | cons r3 r4=>cases r4;exact⟨_,_,rfl,r1,r3⟩
theorem jK (hc:X.calm=true):fW X (.builtin "min") (fun xs H Q=>∃ i j,xs=[.int i,.int j]/\Q (.int (if j<i then j else i)) H):=by
 intro pins s σ H xs us Q I r h;obtain⟨i,j,rfl,q⟩:=h;obtain⟨u,w',rfl,⟨t,rfl⟩,⟨t',rfl⟩⟩:=aAb r;refine min_two_ints (I.ok.hd hc) fun h' tk k=>⟨_,H,I.kept k,?_,q⟩
 by_cases hj:j<i
 ·rw[if_pos hj,if_pos hj];exact⟨_,rfl⟩
 ·rw[if_neg hj,if_neg hj];exact⟨_,rfl⟩
end
structure ObjM (h:Heap) (x dx C:Addr) (mA:Str->Option Value):Prop where
 obj:h.get? x=some (PySem.W.instObj C dx)
 ns:h.Ns1 dx mA
 ne:dx≠x
theorem D5 {h:Heap} {dx:Addr} {mA:Str->Option Value} (n:h.Ns1 dx mA):∃ od,h.get? dx=some od/\∀ name,PySem.W.lookIn name od=some (mA name):=by
 obtain⟨o,es,ep,ho,hd,hk,_,hm⟩:=n;refine⟨o,ho,fun name=>?_⟩;have e:=hm name;unfold nsFind findBy at e;rw[<- Array.find?_toList]at e;unfold PySem.W.lookIn;rw[hd];dsimp only;split
 ·rename_i y q
  rw[q]at e;exact congrArg some e
 ·rename_i q
  rw[q]at e;have a:es.toList.any (·.refKey)=false:=by
   rw[List.any_eq_false];intro y hy;obtain⟨z,t,hkey⟩:=hk y (Array.mem_toList_iff.mp hy);simp[DictEntry.refKey,hkey]
  have a':¬ es.toList.any (·.refKey)=true:=by rw[a];exact aBh
  rw[if_neg a'];exact congrArg some e
theorem ObjM.look {h:Heap} {x dx C:Addr} {mA:Str->Option Value} (I:ObjM h x dx C mA):∃ od,PySem.W.InstAt h x (PySem.W.instObj C dx) C (some od)/\∀ name,PySem.W.lookIn name od=some (mA name) :=
 let ⟨od,ho,hl⟩:=D5 I.ns
 ⟨od,⟨I.obj,rfl,rfl,ho⟩,hl⟩
section
variable {prog:Program} {w:World} {A:Around} {E:Value->Shared->Prop} {s:Shared} {K:PySem.W.Frag} {x dx C f:Addr} {mA:Str->Option Value} {name:Str} {v:Value}
end
theorem RelO.some_of {v:V} {o:Option Value} (r:RelO (some v) o):∃ u,o=some u/\RelV v u:=by
 cases o with
 | none=>exact(show False from r).elim
 | some u=>exact⟨u,rfl,r⟩
section
variable {P:Program} {w:World} {H H':Hp} {h h':Heap} {a C dx:Addr} {fs fs':List (Str×V)}
theorem X8 (hok:HOk P w H h) (e:H a=some (.ins C dx fs)):∃ mA,ObjM h a dx C mA/\(∀ f,RelO (fs.lookup f) (mA f))/\PySem.Within mA (fs.map (·.1))/\fs.length<=1000/\H dx=some (.own a):=by
 obtain⟨d,z,ne,ob,mA,n,r,q⟩:=(show ObjOk P w H h a (.ins C dx fs) from hok a _ e);exact⟨mA,⟨ob,n,ne⟩,r,q,z,d⟩
end
structure Cls (K:PySem.W.Frag) (C:Addr):Prop where
 pg:PySem.W.plainGet K C Str.empty=true
 hd:PySem.W.hasDictIn K C=true
 po:PySem.W.plainOver K C=true
 sa:PySem.W.findIn K (.ref C) "__setattr__"=some (some (.builtin "object.__setattr__"))
theorem Cls.get {K:PySem.W.Frag} {C:Addr} (c:Cls K C) (f:Str):PySem.W.plainGet K C f=true:=c.pg
section
variable {X:Cx} {pins:List (Addr×Obj)} {σ:St} {H:Hp} {s:Shared} {a C dx:Addr} {fs:List (Str×V)} {f:Str} {v:V} {A:Around} {E:Value->Shared->Prop}
theorem Inv.made (I:Inv X pins σ H s):Inv X pins σ (upd (upd H s.heap.objs.size (.own (s.heap.objs.size+1))) (s.heap.objs.size+1) (.ins C s.heap.objs.size []))
 { s with heap:=(s.heap.push PySem.W.emptyDict).push (PySem.W.instObj C s.heap.objs.size) }:=by
 have e1:(s.heap.push PySem.W.emptyDict).get? s.heap.objs.size=some PySem.W.emptyDict:=aBb s.heap rfl;have e2:((s.heap.push PySem.W.emptyDict).push (PySem.W.instObj C s.heap.objs.size)).get? (s.heap.objs.size+1)=some (PySem.W.instObj C s.heap.objs.size):=by
  have:=aBb (s.heap.push PySem.W.emptyDict) (o:=PySem.W.instObj C s.heap.objs.size) rfl
  rwa [Heap.size_push]at this
 have e3:(s.heap.push PySem.W.emptyDict).Ns s.heap.objs.size (fun _=>none):=⟨PySem.W.emptyDict,#[],_,e1,rfl,(fun e he=>absurd he (by simp)),fun _=>rfl⟩;have I1:=I.laid (a:=s.heap.objs.size) (o:=.own (s.heap.objs.size+1)) (h':=s.heap.push PySem.W.emptyDict) (t':=s.toks) (fun b u q=>aB5 _ q) (Nat.le_refl _) ⟨_,e1⟩;refine I1.laid (a:=s.heap.objs.size+1) (o:=.ins C s.heap.objs.size []) (t':=s.toks) (fun b u q=>aB5 _ q) (Nat.le_of_eq (Heap.size_push _ _)) ?_;have ne:s.heap.objs.size≠s.heap.objs.size+1:=aBr (Nat.lt_succ_self _);refine⟨by rw[aG ne,aB],Nat.zero_le _,ne,e2,fun _=>none,(Heap.Ns1.of_empty e3).at fun o q=>aB5 _ q,fun _=>True.intro,fun y hy=>absurd rfl hy⟩
end
section
variable {X:Cx} {o e value:Expr} {f:Str} {pos pos' tpos:Pos} {ta tv:TE}
end
section
variable {X:Cx} {pins:List (Addr×Obj)} {σ:St} {H:Hp} {s:Shared} {A:Around} {E:Value->Shared->Prop} {Q:Value->Shared->Prop} {c:Value} {b:Bool}
inductive oA (K:PySem.W.Frag) (H:Hp):V->Value->Prop where
 | non:oA K H .non (.type "NoneType")
 | bl (x:Bool):oA K H (.bl x) (.type "bool")
 | int (i:Int):oA K H (.int i) (.type "int")
 | str (x:Str):oA K H (.str x) (.type "str")
 | flt (x:UInt64):oA K H (.flt x) (.type "float")
 | lst {a:Addr} {xs:List V} (e:H a=some (.lst xs)):oA K H (.ref a) (.type "list")
 | frz {a:Addr} {o:Obj} {xs:List V} (e:H a=some (.frz o (.lst xs))):oA K H (.ref a) (.type "list")
 | tup {a:Addr} {xs:List V} (e:H a=some (.tup xs)):oA K H (.ref a) (.type "tuple")
 | dK {a:Addr} {kvs:List (Key×V)} (e:H a=some (.dK kvs)):oA K H (.ref a) (.type "dict")
 | dT {a:Addr} {kvs:List (List Key×V)} (e:H a=some (.dT kvs)):oA K H (.ref a) (.type "dict")
 | ins {a C dx:Addr} {fs:List (Str×V)} (e:H a=some (.ins C dx fs)) (cl:Cls K C) (ha:PySem.W.findIn K (.ref C) "__class__"=some (some (.builtin "object.__class__")))
  (hn:PySem.W.specialIn K (.builtin "object.__class__") "__get__"=some (some (.builtin "getset_descriptor.__get__"))) (htk:PySem.W.takesIn K (.builtin "object.__class__")=some true)
  (hm:PySem.W.mroIn K C (.type "object")=some true):oA K H (.ref a) (.ref C)
theorem D7 {x:V} {u t:Value} (I:Inv X pins σ H s) (rx:RelV x u) (ty:oA X.K H x t) (e:PySem.W.kitOne X.K t c=some b) (h:∀ tk,Q (.bool b) { s with toks:=tk }) :
 wpAny (model X.prog X.w) A (call (.builtin "isinstance") [u,c]) Q E s:=by
 cases ty with
 | non=>cases (show u=Value.none from rx);exact PySem.W.kia_one PySem.W.kitx_none I.kIn True.intro e (fun z=>nomatch z) h
 | bl y=>cases (show u=Value.bool y from rx);exact PySem.W.kia_one PySem.W.kitx_bool I.kIn True.intro e (fun z=>nomatch z) h
 | int i=>obtain⟨t,q⟩:=(show ∃ t,u=Value.int i t from rx);cases q;exact PySem.W.kia_one PySem.W.kitx_int I.kIn True.intro e (fun z=>nomatch z) h
 | str y=>obtain⟨t,q⟩:=(show ∃ t,u=Value.str y t from rx);cases q;exact PySem.W.kia_one PySem.W.kitx_str I.kIn True.intro e (fun z=>nomatch z) h
 | flt y=>obtain⟨t,q⟩:=(show ∃ t,u=Value.float y t from rx);cases q;exact PySem.W.kia_one PySem.W.kitx_float I.kIn True.intro e (fun z=>nomatch z) h
 | @lst a xs ea =>
  cases (show u=Value.ref a from rx);obtain⟨_,_,n,_,h1⟩:=(show ObjOk X.prog X.w H s.heap a (.lst xs) from I.hok a _ ea);exact PySem.W.kia_one PySem.W.kitx_list I.kIn ⟨_,h1,rfl⟩ e (fun z=>nomatch z) h
 | @frz a ob xs ea =>
  cases (show u=Value.ref a from rx);obtain⟨_,_,_,n,_,h1⟩:=(show ObjOk X.prog X.w H s.heap a (.frz ob (.lst xs)) from I.hok a _ ea);exact PySem.W.kia_one PySem.W.kitx_list I.kIn ⟨_,h1,rfl⟩ e (fun z=>nomatch z) h
 | @tup a xs ea =>
  cases (show u=Value.ref a from rx);obtain⟨_,_,_,p⟩:=(show ObjOk X.prog X.w H s.heap a (.tup xs) from I.hok a _ ea);obtain⟨o,h1,h2,_⟩:=p;exact PySem.W.kia_one PySem.W.kitx_tuple I.kIn ⟨o,h1,h2⟩ e (fun z=>nomatch z) h
 | @dK a kvs ea =>
  cases (show u=Value.ref a from rx);obtain⟨_,_,vs,_,p⟩:=(show ObjOk X.prog X.w H s.heap a (.dK kvs) from I.hok a _ ea);obtain⟨o,es,ep,h1,h2,_⟩:=p;exact PySem.W.kia_one PySem.W.kitx_dict I.kIn ⟨o,h1,h2.1⟩ e (fun z=>nomatch z) h
 | @dT a kvs ea =>
  cases (show u=Value.ref a from rx);obtain⟨_,_,xs,_,o,es,ep,h1,h2,_⟩:=(show ObjOk X.prog X.w H s.heap a (.dT kvs) from I.hok a _ ea);exact PySem.W.kia_one PySem.W.kitx_dict I.kIn ⟨o,h1,h2.1⟩ e (fun z=>nomatch z) h
 | @ins a C dx fs ea cl ha hn htk hm =>
  cases (show u=Value.ref a from rx);obtain⟨mA,O,_⟩:=X8 I.hok ea;obtain⟨od,J,_⟩:=O.look;exact PySem.W.kia_one (PySem.W.kitx_own (cl.get _) cl.hd ha hn htk hm) I.kIn J e (fun z=>nomatch z) h
end
structure Room (k:Nat) (A:Around):Prop where
 hd:A.handled=none
 dp:A.depth+3 * k+5<recursionLimit
 un:A.units+16 * k+200<cLine
theorem Room.mono {j k:Nat} {A:Around} (r:Room k A) (h:j<=k):Room j A:=⟨r.hd,by have:=r.dp;omega,by have:=r.un;omega⟩
theorem Room.deeper {k:Nat} {A:Around} (r:Room (k+1) A) (env:Env):Room k (A.deeper env) :=
 ⟨r.hd,by have:=r.dp;show A.depth+1+3 * k+5<_;omega,by have:=r.un;show A.units+3+16 * k+200<_;omega⟩
theorem Room.depth {k:Nat} {A:Around} (r:Room k A):A.depth<recursionLimit:=by have:=r.dp;omega
theorem Room.units {k:Nat} {A:Around} (r:Room k A):A.units+64<cLine:=by have:=r.un;omega
def aAc:TA:=fun _ H Q=>Q [] H
def o5 (ta:TE) (tr:TA):TA:=fun σ H Q=>ta σ H fun x H1=>tr σ H1 fun xs H2=>Q (x :: xs) H2
section
variable {X:Cx} {e:Expr} {es:List Expr} {te:TE} {t:TA} {pos:Pos}
theorem aC:PA X [] aAc:=fun _ _ _ _ H Q I h=>Calls.spliced_nil ⟨[],H,I,.nil,h⟩
theorem aA (ha:PE X e te) (hr:PA X es t) (hs:starEach (e :: es) X.env=(false,eval e X.env) :: starEach es X.env:=by rfl):PA X (e :: es) (o5 te t):=by
 intro pos pins s σ H Q I h;rw[hs];show wpAny _ _ (spliced ((false,eval e X.env) :: backTo pos (starEach es X.env))) _ _ s;refine Calls.spliced_cons (thn (ha pins s σ H _ I h) fun u s1 ⟨x,H1,I1,r1,q1⟩=>?_);exact thn (hr pos pins s1 σ H1 _ I1 q1) fun us s2 ⟨xs,H2,I2,r2,q2⟩=>⟨x :: xs,H2,I2,.cons r1 r2,q2⟩
def aBK (t:TA):TE:=fun σ H Q=>t σ H fun xs H1=>xs.length<=sizeLine/\∀ p,H1 p=none->Q (.ref p) (upd H1 p (.tup xs))
def aBL (t:TA):TE:=fun σ H Q=>t σ H fun xs H1=>xs.length<=sizeLine/\∀ p,H1 p=none->Q (.ref p) (upd H1 p (.lst xs))
theorem cJ {x1} (h:PA X es t):PE X (.Tuple es x1 pos) (aBK t):=by
 intro pins s σ H Q I hq;refine wpAny_Tuple_spliced (thn (h pos pins s σ H _ I hq) fun us s1 ⟨xs,H1,I1,r,z,q⟩=>⟨by rw[<- r.length];exact z,?_⟩);have hf:H1 s1.heap.objs.size=none:=I1.hok.fresh (Nat.le_refl _);refine⟨.ref s1.heap.objs.size,upd H1 s1.heap.objs.size (.tup xs),I1.laid (t':=s1.toks) (fun b u e=>aB5 _ e) (Nat.le_refl _) ?_,rfl,q _ hf⟩;exact⟨z,us,r,⟨_,aBb _ rfl,rfl,_,rfl⟩⟩
theorem bL (h:PA X es t):PE X (.List es pos) (aBL t):=by
 intro pins s σ H Q I hq;refine wpAny_List_spliced (thn (h pos pins s σ H _ I hq) fun us s1 ⟨xs,H1,I1,r,z,q⟩=>⟨by rw[<- r.length];exact z,?_⟩);have hf:H1 s1.heap.objs.size=none:=I1.hok.fresh (Nat.le_refl _);refine⟨.ref s1.heap.objs.size,upd H1 s1.heap.objs.size (.lst xs),I1.laid (t':=s1.toks) (fun b u e=>aB5 _ e) (Nat.le_refl _) ?_,rfl,q _ hf⟩;exact⟨z,us,0,r,aBb _ rfl⟩
end
abbrev Sp:=List V->Hp->VK->XK->Prop
abbrev CXT:=List Env->Hp->Shared->XK->Value->Shared->Prop
structure X9 (P:Program) (w:World) (K:PySem.W.Frag) (mg:Str->Option Value) (base:Heap) (A:Around) (outer:List Env) (s:Shared) (H:Hp):Prop where
 frames:A.frames=some outer
 mod:Mod K mg base
 bs:∀ b o,base.get? b=some o->s.heap.get? b=some o/\H b=none
 bsz:base.objs.size<=s.heap.objs.size
 funs:s.heap.FunFrames base outer
 frf:∀ b∈frs outer,H b=none
 hok:HOk P w H s.heap
 bare:AllBare s.gens
def CE (outer:List Env) (P:Program) (w:World) (H:Hp) (s:Shared) (Q:VK) (u:Value) (s':Shared):Prop :=
 ∃ v H',s'.os=s.os/\AllBare s'.gens/\Un (frs outer) [] H H' s.heap s'.heap/\HOk P w H' s'.heap/\RelV v u/\Q v H'
def CR (CX:CXT) (outer:List Env) (P:Program) (w:World) (H:Hp) (s:Shared) (Q:VK) (E:XK) (r:Result) (s':Shared):Prop :=
 match r with
 | .ok (.ret u)=>CE outer P w H s Q u s'
 | .ok _=>False
 | .error e=>CX outer H s E e s'
structure FnOk (P:Program) (w:World) (K:PySem.W.Frag) (mg:Str->Option Value) (base:Heap) (CX:CXT) (k:Nat) (f:Addr) (fd:FuncData) (ps:List Str) (sp:Sp):Prop where
 len:∀ vs H Q E,sp vs H Q E->vs.length=ps.length
 run:∀ (A:Around) (outer:List Env) (s:Shared) (H:Hp) (args:Args) (us:List Value) (vs:List V) (Q:VK) (E:XK),Room k A->X9 P w K mg base A outer s H->BindsTo s fd args (ps.zip us)->Vals vs us->sp vs H Q E ->
  codeAny (model P w) A (.call (.ref f) args) (CR CX outer P w H s Q E) s
theorem FnOk.imp {P:Program} {w:World} {K:PySem.W.Frag} {mg:Str->Option Value} {base:Heap} {CX:CXT} {k:Nat} {f:Addr} {fd:FuncData} {ps:List Str} {sp sp':Sp} (F:FnOk P w K mg base CX k f fd ps sp)
 (h:∀ vs H Q E,sp' vs H Q E->sp vs H Q E):FnOk P w K mg base CX k f fd ps sp' :=
 ⟨fun vs H Q E q=>F.len vs H Q E (h _ _ _ _ q),fun A outer s H args us vs Q E hr he hb hv hs=>F.run A outer s H args us vs Q E hr he hb hv (h _ _ _ _ hs)⟩
section
variable {X:Cx} {pins:List (Addr×Obj)} {σ:St} {H:Hp} {s s':Shared}
theorem Inv.env0 (I:Inv X pins σ H s):X9 X.prog X.w X.K X.mg X.base X.A X.stack s H :=
 ⟨I.ok.frames,I.ok.mod,I.bs,Nat.le_trans I.ok.bsz I.sz,I.stack,I.stkFree,I.hok,I.bare⟩
theorem Inv.after {Q:VK} {u:Value} (I:Inv X pins σ H s) (h:CE X.stack X.prog X.w H s Q u s'):EP X pins σ Q u s':=by
 obtain⟨v,H',os,bare,un,hok,r,q⟩:=h;obtain⟨hh,g,d,t,os'⟩:=s';obtain rfl:os'=s.os:=os;exact⟨v,H',I.call (h':=hh) (g':=g) (d':=d) (t':=t) (ch:=[]) un hok bare (fun b z=>absurd z (by simp)),r,q⟩
end
def o6 (sp:Sp) (dvs:List V) (E:XK) (t:TA):TE:=fun σ H Q=>t σ H fun vs H1=>sp (vs++dvs) H1 Q E
def Binds (K:PySem.W.Frag) (fd:FuncData) (ps:List Str) (ds:List Value):Prop :=
 ∀ (s:Shared) (us:List Value),K.In s.heap->(us++ds).length=ps.length->BindsTo s fd ⟨us,[]⟩ (ps.zip (us++ds))
theorem Binds.all {K:PySem.W.Frag} {fd:FuncData} {ps:List Str} (h:∀ us:List Value,us.length=ps.length->bindArgs fd ⟨us,[]⟩=pure (ps.zip us)):Binds K fd ps []:=fun s us _ hl=>by
 rw[List.append_nil]at hl ⊢;exact .of_eq (h us hl)
def yF (CX:CXT) (X:Cx) (E:XK):Prop:=∀ (pins:List (Addr×Obj)) (σ:St) (H:Hp) (s:Shared) (e:Value) (s':Shared),Inv X pins σ H s->CX X.stack H s E e s'->X.xe e s'
section
variable {X:Cx} {CX:CXT} {k:Nat} {f C:Addr} {fd:FuncData} {ps:List Str} {sp:Sp} {dvs:List V} {ds:List Value} {E:XK} {x m:Str} {p pos apos:Pos} {e o:Expr} {es:List Expr} {ta:TE} {t:TA}
theorem v0 {pins:List (Addr×Obj)} {σ:St} {H:Hp} {s:Shared} {Q:VK} {us:List Value} {vs:List V} (F:FnOk X.prog X.w X.K X.mg X.base CX k f fd ps sp) (hr:Room k X.A) (hb:Binds X.K fd ps ds) (hd:Vals dvs ds) (hx:yF CX X E)
 (I:Inv X pins σ H s) (r:Vals vs us) (h:sp (vs++dvs) H Q E):wpAny (model X.prog X.w) X.A (call (.ref f) us) (EP X pins σ Q) X.xe s:=by
 have r2:Vals (vs++dvs) (us++ds):=r.append hd;have hl:(us++ds).length=ps.length:=by rw[<- r2.length];exact F.len _ _ _ _ h
 refine wpAny_call (codeAny_mono (F.run X.A X.stack s H ⟨us,[]⟩ (us++ds) (vs++dvs) Q E hr I.env0 (hb s us I.kIn hl) r2 h) fun r s' hq=>?_);cases r with
 | error e=>exact hx pins σ H s e s' I hq
 | ok fl =>
  cases fl with
  | ret u=>exact I.after hq
  | next=>exact False.elim hq
  | brk=>exact False.elim hq
  | cont=>exact False.elim hq
theorem Y0 (F:FnOk X.prog X.w X.K X.mg X.base CX k f fd ps sp) (hr:Room k X.A) (hg:Gl X x) (hm:X.mg x=some (.ref f)) (hk:PySem.W.keepIn X.K (.ref f)=true) (hb:Binds X.K fd ps ds) (hd:Vals dvs ds) (hx:yF CX X E)
 (ha:PA X (e :: es) t) (hdb:(x == ("__debug__":Str))=false:=by decide) (he:starEach (e :: es) X.env=(false,eval e X.env) :: starEach es X.env:=by rfl) (hpl:(backTo pos (starEach es X.env)).any (·.1)=false:=by rfl) :
 PE X (.Call (.Name x p) (e :: es) [] pos) (o6 sp dvs E t):=by
 intro pins s σ H Q I h;refine wpAny_Call_Name_kw (zR I hg hm ?_ hdb);refine PySem.W.callWith_K (h₀:=X.base) I.ok.mod.kin hk (thn (ha pos pins s σ H _ I h) fun us s1 ⟨vs,H1,I1,r,q⟩=>⟨I1.kIn,?_⟩) he hpl;exact v0 F hr hb hd hx I1 r q
end
def PK (X:Cx) (kws:List Keyword) (t:TA):Prop :=
 ∀ (pos:Pos) (pins:List (Addr×Obj)) (s:Shared) (σ:St) (H:Hp) (Q:List V->Hp->Prop),Inv X pins σ H s->t σ H Q->wpAny (model X.prog X.w) X.A (evalAll ((backToKw pos (keywordEach kws X.env)).map (·.2))) (AP X pins σ Q) X.xe s
section
variable {X:Cx} {CX:CXT} {k:Nat} {f C:Addr} {fd:FuncData} {ps ks:List Str} {sp:Sp} {E:XK} {x m:Str} {p pos apos kpos:Pos} {e o:Expr} {es:List Expr} {kws:List Keyword} {te ta:TE} {t tk:TA} {nm:Option Str}
theorem yG:PK X [] aAc:=fun _ _ _ _ H Q I h=>wpAny_evalAll_nil ⟨[],H,I,.nil,h⟩
theorem uE (ha:PE X e te) (hr:PK X kws t):PK X (⟨nm,e,kpos⟩ :: kws) (o5 te t):=by
 intro pos pins s σ H Q I h;show wpAny _ _ (evalAll ((do let v <- eval e X.env;standAt pos;pure v) :: (backToKw pos (keywordEach kws X.env)).map (·.2))) _ _ s;refine wpAny_evalAll_cons (aB2 (thn (ha pins s σ H _ I h) fun u s1 ⟨x,H1,I1,r1,q1⟩=>aB2 (wpAny_standAt (aB3 ?_))));exact thn (hr pos pins s1 σ H1 _ I1 q1) fun us s2 ⟨xs,H2,I2,r2,q2⟩=>⟨x :: xs,H2,I2,.cons r1 r2,q2⟩
variable {g:List Value->List Value->List Value} {gV:List V->List V->List V}
end
structure aQ (N P:List Str) (sc:Scope):Prop where
 kind:sc.kind=.function
 co:sc.isCoroutine=false
 gen:sc.isGenerator=false
 nd:N.Nodup
 pre:N.take P.length=P
 par:∀ x∈P,sc.names.lookup x=some .local\/sc.names.lookup x=some .cell
 nofree:∀ y∈sc.names,y.2≠.free
theorem sN {kindOf:Str->Option NameKind} {x:Str}:∀ {binds:List (Str×Value)} {m:Str->Option Value},(∀ v,(x,v)∉binds)->bindL kindOf binds m x=m x
 | [],_,_=>rfl
 | (n,v) :: r,m,h=>by
  unfold bindL;rw[sN fun w hw=>h w (aB7 _ hw)];split
  ·have:x≠n:=by rintro rfl;exact h v aB6
   simp[this]
  ·rfl
theorem sO {kindOf:Str->Option NameKind} {x:Str}:∀ {binds:List (Str×Value)} {m:Str->Option Value},(∀ v,(x,v)∉binds)->bindC kindOf binds m x=m x
 | [],_,_=>rfl
 | (n,v) :: r,m,h=>by
  unfold bindC;rw[sO fun w hw=>h w (aB7 _ hw)];split
  ·rfl
  ·have:x≠n:=by rintro rfl;exact h v aB6
   simp[this]
theorem sP {kindOf:Str->Option NameKind} {x:Str} {v:Value}:∀ {P:List Str} {vs:List Value} {i:Nat} {m:Str->Option Value},P.Nodup->P[i]?=some x->vs[i]?=some v->kindOf x=some .local ->
 bindL kindOf (P.zip vs) m x=some v
 | [],_,_,_,_,h,_,_=>by simp at h
 | _ :: _,[],_,_,_,_,h,_=>by simp at h
 | p :: P,w :: vs,0,m,nd,h1,h2,hk=>by
  simp at h1 h2;subst h1;subst h2;show bindL kindOf ((p,w) :: P.zip vs) m p=_;unfold bindL;rw[sN fun v hv=>(List.nodup_cons.mp nd).1 (List.of_mem_zip hv).1,if_pos hk];simp
 | p :: P,w :: vs,i+1,m,nd,h1,h2,hk=>by
  show bindL kindOf ((p,w) :: P.zip vs) m x=_;unfold bindL;exact sP (i:=i) (List.nodup_cons.mp nd).2 (by simpa using h1) (by simpa using h2) hk
theorem sQ {kindOf:Str->Option NameKind} {x:Str} {v:Value}:∀ {P:List Str} {vs:List Value} {i:Nat} {m:Str->Option Value},P.Nodup->P[i]?=some x->vs[i]?=some v->kindOf x≠some .local ->
 bindC kindOf (P.zip vs) m x=some v
 | [],_,_,_,_,h,_,_=>by simp at h
 | _ :: _,[],_,_,_,_,h,_=>by simp at h
 | p :: P,w :: vs,0,m,nd,h1,h2,hk=>by
  simp at h1 h2;subst h1;subst h2;show bindC kindOf ((p,w) :: P.zip vs) m p=_;unfold bindC;rw[sO fun v hv=>(List.nodup_cons.mp nd).1 (List.of_mem_zip hv).1,if_neg hk];simp
 | p :: P,w :: vs,i+1,m,nd,h1,h2,hk=>by
  show bindC kindOf ((p,w) :: P.zip vs) m x=_;unfold bindC;exact sQ (i:=i) (List.nodup_cons.mp nd).2 (by simpa using h1) (by simpa using h2) hk
def mE (N:List Str) (vs:List V):St:=vs.map some++List.replicate (N.length - vs.length) none
def wG (CX:CXT) (P:Program) (w:World) (K:PySem.W.Frag) (mg:Str->Option Value) (base:Heap) (N:List Str) (qual:Str) (scope:Scope) (f:Addr) (cd:Value) (A:Around) (outer:List Env) (s:Shared) (H:Hp) (E:XK):Cx where
 prog:=P
 w:=w
 K:=K
 mg:=mg
 base:=base
 A:=A.deeper (envOfC qual scope s.heap.objs.size f cd)
 N:=N
 s₀:=s
 H₀:=H
 env:=envOfC qual scope s.heap.objs.size f cd
 outer:=outer
 stack:=envOfC qual scope s.heap.objs.size f cd :: outer
 ex:=[]
 calm:=true
 fn:=fun _=>true
 pn:=[]
 xe:=fun e s'=>wpAny (model P w) (A.deeper (envOfC qual scope s.heap.objs.size f cd)) (leaving (envOfC qual scope s.heap.objs.size f cd) e) (fun _ s''=>CX outer H s E e s'') (fun e' s''=>CX outer H s E e' s'') s'
theorem mS {sc:Scope} {n:Nat} {x:Str} (h:sc.names.lookup x=some .cell):∃ c,(cellsFrom n sc.names []).lookup x=some c:=by
 have q:=PySem.W.cellsFrom_some sc.names n [] (.inl h);exact Option.isSome_iff_exists.mp q
theorem D8 {CX:CXT} {P:Program} {w:World} {K:PySem.W.Frag} {mg:Str->Option Value} {base:Heap} {N ps:List Str} {qual:Str} {scope:Scope} {f:Addr} {cd:Value} {A:Around} {outer:List Env} {s s1:Shared} {H:Hp} {E:XK} {us:List Value} {vs:List V}
 (S:aQ N ps scope) (hd:A.handled=none) (e0:X9 P w K mg base A outer s H) (hl:vs.length=ps.length) (r:Vals vs us)
 (x:InCallC s s.heap.objs.size (bindL (envOfC qual scope s.heap.objs.size f cd).kindOf (ps.zip us) fun _=>none) (cellsFrom (s.heap.objs.size+1) scope.names []) (bindC (envOfC qual scope s.heap.objs.size f cd).kindOf (ps.zip us) fun _=>none) s1) :
 Inv (wG CX P w K mg base N qual scope f cd A outer s H E) [] (mE N vs) H s1:=by
 have hpl:ps.length<=N.length:=by have:=congrArg List.length S.pre;rw[aBk]at this;omega
 obtain⟨h1,tk,rfl,hk⟩:=x.done;have noA:∀ b:Addr,b∉(wG CX P w K mg base N qual scope f cd A outer s H E).ex:=fun b z=>absurd (show b∈([]:List Addr) from z) (by simp);refine⟨⟨e0.mod,S.kind,rfl,rfl,Nat.le_refl _,fun y z c h1 h2=>?_,fun y hy=>?_,fun y c _ h=>?_,fun _=>hd,Around.frames_deeper e0.frames,.inr ⟨rfl,rfl⟩,fun b z=>absurd z (noA b),e0.bs,e0.bsz,fun b _ _=>noA b,fun b z=>absurd z (noA b),e0.funs,e0.frf⟩,
  rfl,e0.bare,Un.kept hk,⟨_,x.toInCall.ns,fun i y v h1 h2 h3=>?_⟩,fun y c h=>⟨_,x.cell y c h⟩,e0.hok.fresh (Nat.le_refl _),fun y c h=>?_,fun p hp=>absurd (show p∈([]:List (Addr×Obj)) from hp) (by simp),e0.hok.kept hk,?_⟩
 ·exact name_of_addr x.apart (PySem.mem_of_lookup h1) (PySem.mem_of_lookup h2)
 ·have hy:scope.names.lookup y=some .cell\/scope.names.lookup y=some .free:=hy;rcases hy with hy | hy
  ·exact mS hy
  ·exact absurd rfl (S.nofree _ (PySem.mem_of_lookup hy))
 ·exact Nat.le_of_lt (x.above y c (PySem.mem_of_lookup h))
 ·have hi:i<vs.length:=by
   unfold mE at h2
   by_cases hi:i<vs.length
   ·exact hi
   ·rw[List.getElem?_append_right (by simpa using hi)]at h2;rw[List.getElem?_replicate]at h2;split at h2 <;> cases h2
  have ha:vs[i]?=some v:=by
   unfold mE at h2;rw[List.getElem?_append_left (by simpa using hi),aBs]at h2;cases e:vs[i]? with
   | none=>rw[e]at h2;cases h2
   | some a=>rw[e]at h2;cases h2;rfl
  obtain⟨u,hu,rv⟩:=r.get ha;have hp:ps[i]?=some y:=by
   rw[<- S.pre,List.getElem?_take_of_lt (by omega)];exact h1
  have ndP:ps.Nodup:=by rw[<- S.pre];exact S.nd.sublist (List.take_sublist _ _)
  refine⟨u,rv,?_⟩;rcases S.par y (aBf hp)with k | k
  ·exact .inl ⟨k,sP ndP hp hu k⟩
  ·obtain⟨c,e⟩:=mS (n:=s.heap.objs.size+1) k;refine .inr ⟨.inl k,c,e,?_⟩;have q:=x.cell y c e;rw[sQ ndP hp hu (by show scope.names.lookup y≠_;rw[k];decide)]at q;exact q
 ·exact e0.hok.fresh (Nat.le_of_lt (x.above y c (PySem.mem_of_lookup h)))
 ·unfold mE;show _=N.length;rw[aBd,aB4,aBo];omega
theorem O3 {CX:CXT} {P:Program} {w:World} {K:PySem.W.Frag} {mg:Str->Option Value} {base:Heap} {k:Nat} {f:Addr} {name qual:Str} {params:Arguments} {body:List Stmt} {scope:Scope} {dV kV doc pm cdv ct oc:Value} {an od:Option Addr}
 {osl:Array (Option Value)} {N ps:List Str} {sp:Sp} (lk:K.lookup f=some ⟨oc,od,.func (PySem.W.fnOf name qual params body scope dV kV doc pm an cdv ct),osl⟩) (hcd:PySem.W.codeIn K cdv qual=true) (S:aQ N ps scope)
 (len:∀ vs H Q E,sp vs H Q E->vs.length=ps.length)
 (hbody:∀ (A:Around) (outer:List Env) (s:Shared) (H:Hp) (vs:List V) (Q:VK) (E:XK),Room k (A.deeper (envOfC qual scope s.heap.objs.size f cdv))->sp vs H Q E ->
  ∃ t,PSs (wG CX P w K mg base N qual scope f cdv A outer s H E) body t/\t { nx:=fun _ H'=>Q .non H',rt:=Q } (mE N vs) H) :
 FnOk P w K mg base CX (k+1) f (PySem.W.fnOf name qual params body scope dV kV doc pm an cdv ct) ps sp:=by
 refine⟨len,fun A outer s H args us vs Q E hr e0 hb r hsp=>?_⟩;have hl:=len _ _ _ _ hsp;have KX:K.In s.heap:=e0.mod.kin.keeps fun b o e=>(e0.bs b o e).1;have lim:s.heap.NoLimit:=e0.mod.nolimit.keeps fun b o e=>(e0.bs b o e).1;have hkind:∀ y∈ps.zip us,scope.names.lookup y.1=some .local\/(scope.names.lookup y.1=some .cell/\((cellsFrom (s.heap.objs.size+1) scope.names []).lookup y.1).isSome=true):=fun⟨n,v⟩ hy=>by
  rcases S.par n (List.of_mem_zip hy).1 with q | q
  ·exact .inl q
  ·exact .inr ⟨q,PySem.W.cellsFrom_some _ _ _ (.inl q)⟩
 refine codeAny_call_function hr.depth (KX _ _ lk) rfl S.co S.gen rfl (PySem.W.codeRec_of KX hcd) (hb _ _ _ _ ?_);refine wpAny_newFunctionEnv_cells S.kind hkind fun env he s1 x=>?_;subst he;refine⟨lim.keeps x.toInCall.keep,codeAny_func ?_⟩;obtain⟨t,ht,hq⟩:=hbody A outer s H vs Q E (hr.deeper _) hsp;have I:Inv (wG CX P w K mg base N qual scope f cdv A outer s H E) [] (mE N vs) H s1:=D8 S hr.hd e0 hl r x;refine wpAny_mono (ht [] s1 (mE N vs) H _ I hq) (fun fl s' hs=>?_) fun e s' hs=>hs;have fin:∀ {σ':St} {H':Hp} {v:V} {u:Value},Inv (wG CX P w K mg base N qual scope f cdv A outer s H E) [] σ' H' s'->RelV v u->Q v H'->CE outer P w H s Q u s' :=
  fun {σ' H' v u} J rv q=>⟨v,H',J.os,J.bare,J.base,J.hok,rv,q⟩
 cases fl with
 | ret u =>
  obtain⟨v,σ',H',J,rv,q⟩:=hs;exact fin J rv q
 | next =>
  obtain⟨σ',H',J,q⟩:=hs;exact fin (v:=V.non) (u:=Value.none) J rfl q
 | brk =>
  obtain⟨_,_,_,q⟩:=hs;exact False.elim q
 | cont =>
  obtain⟨_,_,_,q⟩:=hs;exact False.elim q
section
variable {X:Cx} {x:Str} {p pos:Pos} {e:Expr} {es:List Expr} {t:TA} {id T:String} {r:List V->Hp->VK->Prop}
def tCB (r:List V->Hp->VK->Prop) (t:TA):TE:=fun σ H Q=>t σ H fun vs H1=>r vs H1 Q
theorem aJ (hc:fW X (.builtin id) r) (hg:Gl X x) (hm:X.mg x=none) (hv:bootBuiltins x=some (.builtin id)) (ha:PA X (e :: es) t) (hn:x≠"__name__":=by decide) (hdb:(x == ("__debug__":Str))=false:=by decide)
 (he:starEach (e :: es) X.env=(false,eval e X.env) :: starEach es X.env:=by rfl) (hpl:(backTo pos (starEach es X.env)).any (·.1)=false:=by rfl):PE X (.Call (.Name x p) (e :: es) [] pos) (tCB r t):=by
 intro pins s σ H Q I h;refine wpAny_Call_Name_kw (jC I hg hm hv ?_ hn hdb);exact PyProof.Rows.callWith_builtin1 (thn (ha pos pins s σ H _ I h) fun us s1 ⟨vs,H1,I1,r1,q1⟩=>hc pins s1 σ H1 vs us Q I1 r1 q1) he hpl
theorem lN (hc:fW X (.type T) r) (hg:Gl X x) (hm:X.mg x=none) (hv:bootBuiltins x=some (.type T)) (ha:PA X (e :: es) t) (hn:x≠"__name__":=by decide) (hdb:(x == ("__debug__":Str))=false:=by decide)
 (he:starEach (e :: es) X.env=(false,eval e X.env) :: starEach es X.env:=by rfl) (hpl:(backTo pos (starEach es X.env)).any (·.1)=false:=by rfl):PE X (.Call (.Name x p) (e :: es) [] pos) (tCB r t):=by
 intro pins s σ H Q I h;refine wpAny_Call_Name_kw (jC I hg hm hv ?_ hn hdb);exact PyProof.Rows.callWith_type1 (thn (ha pos pins s σ H _ I h) fun us s1 ⟨vs,H1,I1,r1,q1⟩=>hc pins s1 σ H1 vs us Q I1 r1 q1) he hpl
end
end L2
namespace HT
open PySem PyProof.Rows
theorem eqAt_int (A:Around) (s:Shared) (a:Int) (t:Tok) (c:Int) (u:Tok):∃ e,SeqAt.EqAt A s (.int a t) (.int c u) e/\(e=true↔a=c) :=
 ⟨(a == c),SeqAt.EqAt.int_int a t c u,by simp⟩
section
open PySem.SeqAt
open PySem.AutoSeq1 (wpAny_loadPart')
open PySem.MeetsSeq PySem.MeetsSeq2 PySem.MeetsSeq3
end
section
variable {prog:Program} {w:World} {A:Around} {E:Value->Shared->Prop} {s:Shared}
def sIx (n d:Nat):Option Int->Nat
 | none=>d
 | some v=>if v<0 then (v+(n:Int)).toNat else min v.toNat n
theorem sIx_none (n d:Nat):sIx n d none=d:=rfl
theorem sIx_nat (n d k:Nat):sIx n d (some (k:Int))=min k n:=by
 show (if (k:Int)<0 then ((k:Int)+(n:Int)).toNat else min (k:Int).toNat n)=min k n;rw[if_neg (by omega),Int.toNat_natCast]
end
end HT
namespace L2
open PySem PySem.Spec PyProof.Rows
abbrev TO:=St->Hp->(Option Int->Hp->Prop)->Prop
def PO (X:Cx) (e:Option Expr) (t:TO):Prop :=
 ∀ (pins:List (Addr×Obj)) (s:Shared) (σ:St) (H:Hp) (Q:Option Int->Hp->Prop),Inv X pins σ H s->t σ H Q ->
  wpAny (model X.prog X.w) X.A (evalPart e X.env) (fun u s'=>∃ o H',Inv X pins σ H' s'/\IsPart u o/\Q o H') X.xe s
def Y1:TO:=fun _ H Q=>Q none H
def aAd (t:TE):TO:=fun σ H Q=>t σ H fun x H1=>∃ i,x=.int i/\Q (some i) H1
theorem qE {ns:List Int}:∀ {us:List Value},Vals (ns.map V.int) us->IntsAre us ns:=by
 induction ns with
 | nil=>intro us r;rw[List.map_nil]at r;cases r;exact .nil
 | cons n ns ih =>
  intro us r;rw[aBt]at r;cases r with
  | cons r1 r2 =>
   obtain⟨t,e⟩:=r1;subst e;exact .cons n t (ih r2)
section
variable {X:Cx} {e:Expr} {te:TE} {lo hi:Option Expr} {tl th:TO} {pos p2:Pos}
theorem gL:PO X none Y1:=by
 intro pins s σ H Q I h;rw[evalPart_none];exact aB3 ⟨none,H,I,.none,h⟩
theorem gM (h:PE X e te):PO X (some e) (aAd te):=by
 intro pins s σ H Q I hw;rw[evalPart_some];refine thn (h pins s σ H _ I hw) fun u s1 ⟨x,H1,I1,r1,q1⟩=>?_;obtain⟨i,rfl,q⟩:=q1;obtain⟨t,rfl⟩:=r1;exact⟨some i,H1,I1,.int i t,q⟩
def SlR (X:Cx) (r:V->Option Int->Option Int->Hp->VK->Prop):Prop :=
 ∀ (pins:List (Addr×Obj)) (s:Shared) (σ:St) (H:Hp) (x:V) (v vl vu:Value) (lo hi:Option Int) (sl:Addr) (Q:VK),Inv X pins σ H s->RelV x v->s.heap.IsSliceOf sl vl vu .none->IsPart vl lo->IsPart vu hi->r x lo hi H Q ->
  ∃ T id,typeLookup (.type T) "__getitem__"=pure (some (.builtin id))/\s.TypeIs v T/\wpAny (model X.prog X.w) X.A (getItem v (.ref sl)) (EP X pins σ Q) X.xe s
def tSl (r:V->Option Int->Option Int->Hp->VK->Prop) (te:TE) (tl th:TO):TE:=fun σ H Q=>te σ H fun x H1=>tl σ H1 fun l H2=>th σ H2 fun u H3=>r x l u H3 Q
theorem fA {r:V->Option Int->Option Int->Hp->VK->Prop} (hr:SlR X r) (he:PE X e te) (hl:PO X lo tl) (hu:PO X hi th):PE X (.Subscript e (.Slice lo hi none p2) pos) (tSl r te tl th):=by
 intro pins s σ H Q I h;refine Subscript_ (thn (he pins s σ H _ I h) fun v s1 ⟨x,H1,I1,r1,q1⟩=>?_);refine wpAny_Slice (thn (hl pins s1 σ H1 _ I1 q1) fun vl s2 ⟨l,H2,I2,pl,q2⟩=>thn (hu pins s2 σ H2 _ I2 q2) fun vu s3 ⟨u,H3,I3,pu,q3⟩=>?_);rw[evalPart_none];refine aB3 ?_;have I4:Inv X pins σ H3 { s3 with heap:=s3.heap.push { cls:=.type "slice",data:=.fields #[vl,vu,.none] } }:=I3.kept (t':=s3.toks) fun b ob q=>aB5 _ q;obtain⟨T,id,hT,ht,hg⟩:=hr pins { s3 with heap:=s3.heap.push { cls:=.type "slice",data:=.fields #[vl,vu,.none] } } σ H3 x v vl vu l u s3.heap.objs.size Q I4 r1 (Heap.IsSliceOf.new ..) pl pu q3;show wpAny (model X.prog X.w) X.A (subscriptTail e (.Slice lo hi none p2) v (.ref s3.heap.objs.size)) (EP X pins σ Q) X.xe { s3 with heap:=s3.heap.push { cls:=.type "slice",data:=.fields #[vl,vu,.none] } };exact tail_any (ops:=[.ref s3.heap.objs.size,v]) ht hT hg (by with_unfolding_all rfl)
def mC (xs:List V) (lo hi:Option Int):List V:=(xs.drop (HT.sIx xs.length 0 lo)).take (HT.sIx xs.length xs.length hi - HT.sIx xs.length 0 lo)
theorem wH (xs:List V) (lo hi:Option Int):(mC xs lo hi).length<=xs.length:=by
 unfold mC;rw[aBk,List.length_drop];omega
end
def ixN (n:Nat) (i:Int):Option Nat:=if 0<=i then (if i<n then some i.toNat else none)else if -(n:Int)<=i then some (i+n).toNat else none
def atI {α:Type} (xs:List α) (i:Int):Option α:=(ixN xs.length i).bind fun j=>xs[j]?
theorem zX {n:Nat} {i:Int} {j:Nat} (h:ixN n i=some j):seqIndex? i n=some j/\j<n/\-(n:Int)<=i/\i<n:=by
 unfold ixN at h
 by_cases h0:0<=i
 ·rw[if_pos h0]at h
  by_cases h1:i<n
  ·rw[if_pos h1]at h;have e:i.toNat=j:=Option.some.inj h;exact⟨by rw[seqIndex_of h0 h1,e],by omega,by omega,h1⟩
  ·rw[if_neg h1]at h;cases h
 ·rw[if_neg h0]at h
  by_cases h1:-(n:Int)<=i
  ·rw[if_pos h1]at h;have e:(i+n).toNat=j:=Option.some.inj h;exact⟨by rw[seqIndex_neg (by omega) h1,e],by omega,h1,by omega⟩
  ·rw[if_neg h1]at h;cases h
theorem uF {α:Type} {xs:List α} {i:Int} {v:α} (h:atI xs i=some v):∃ j,seqIndex? i xs.length=some j/\xs[j]?=some v/\j<xs.length/\-(xs.length:Int)<=i/\i<xs.length:=by
 unfold atI at h;cases e:ixN xs.length i with
 | none=>rw[e]at h;cases h
 | some j =>
  rw[e]at h;obtain⟨h1,h2,h3,h4⟩:=zX e;exact⟨j,h1,h,h2,h3,h4⟩
theorem iV {α:Type} {xs:List α} {j:Nat} {v:α} (h:xs[j]?=some v):atI xs (j:Int)=some v:=by
 have hj:j<xs.length:=(aCF.mp h).1;have e:ixN xs.length (j:Int)=some j:=by
  unfold ixN;rw[if_pos (by omega),if_pos (by omega)];simp
 unfold atI;rw[e];exact h
theorem hZ {α:Type} (xs:List α) (v:α):atI (xs++[v]) (-1)=some v:=by
 have hl:(xs++[v]).length=xs.length+1:=by simp
 have e:ixN (xs++[v]).length (-1)=some xs.length:=by
  unfold ixN;rw[hl,if_neg (by decide),if_pos (by omega)]
  congr 1
  omega
 unfold atI;rw[e];show (xs++[v])[xs.length]?=some v;simp
def Y2 (b:Expr):Prop:=∀ o i,subscripted b false o i=operate [o,i] (getItem o i)
def IxR (X:Cx) (r:R2):Prop :=
 ∀ (value slice:Expr) (pins:List (Addr×Obj)) (s:Shared) (σ:St) (H:Hp) (x y:V) (v u:Value) (Q:VK),Inv X pins σ H s->RelV x v->RelV y u->r x y H Q ->
  subscripted slice false v u=operate [v,u] (getItem v u)->wpAny (model X.prog X.w) X.A (subscriptTail value slice v u) (EP X pins σ Q) X.xe s
def MtR (X:Cx) (id:String) (r:V->List V->Hp->VK->Prop):Prop :=
 ∀ (pins:List (Addr×Obj)) (s:Shared) (σ:St) (H:Hp) (x:V) (xs:List V) (v:Value) (us:List Value) (Q:VK),Inv X pins σ H s->RelV x v->Vals xs us->r x xs H Q ->
  wpAny (model X.prog X.w) X.A (call (.builtin id) (v :: us)) (EP X pins σ Q) X.xe s
section
variable {X:Cx} {a b:Expr} {ta tb:TE} {pos:Pos}
theorem IxR.or {r r':R2} (h:IxR X r) (h':IxR X r'):IxR X (fun x y H Q=>r x y H Q\/r' x y H Q):=by
 intro value slice pins s σ H x y v u Q I rx ry q hs;rcases q with q | q
 ·exact h value slice pins s σ H x y v u Q I rx ry q hs
 ·exact h' value slice pins s σ H x y v u Q I rx ry q hs
theorem cY {r:R2} (hr:IxR X r) (ha:PE X a ta) (hb:PE X b tb) (hs:Y2 b):PE X (.Subscript a b pos) (tOp r ta tb):=by
 intro pins s σ H Q I h;exact Subscript_ (u7 ha hb I h fun v u s2 x y H2 I2 rx ry q=>hr a b pins s2 σ H2 x y v u Q I2 rx ry q (hs _ _))
def w4 (K:PySem.W.Frag):R2:=fun x y H Q=>∃ p xs i v,x=.ref p/\y=.int i/\SqL K H p xs/\atI xs i=some v/\Q v H
def aAe (K:PySem.W.Frag):R2:=fun x y H Q=>∃ p xs i v,x=.ref p/\y=.int i/\SqT K H p xs/\atI xs i=some v/\Q v H
def aAf:R2:=fun x y H Q=>∃ z i c,x=.str z/\y=.int i/\z.length<=sizeLine/\atI z.cps.toList i=some c/\Q (.str ⟨#[c]⟩) H
theorem cC:IxR X (w4 X.K):=by
 intro value slice pins s σ H x y v u Q I rx ry h hs;obtain⟨p,xs,i,z,rfl,rfl,hq,he,q⟩:=h;cases rx;obtain⟨t,rfl⟩:=ry;obtain⟨its,r,pl,hz⟩:=I.list hq;obtain⟨j,h1,h2,h3,h4,h5⟩:=uF he;obtain⟨w,ew,rw'⟩:=r.get h2;have hl:=r.length;have hn:=nZ;have fin:EP X pins σ Q w s:=⟨z,H,I,rw',q⟩
 by_cases h0:0<=i
 ·have hj:i.toNat=j:=by
   rw[seqIndex_of h0 h5]at h1;exact Option.some.inj h1
  exact item_listR pl.isList h0 (by omega) (by rw[hj];simpa using ew) fin hs
 ·have hj:(i+(its.toArray.size:Int)).toNat=j:=by
   rw[seqIndex_neg (by omega) h4]at h1;rw[aBc,<- hl];exact Option.some.inj h1
  exact subscriptTail_builtinR (x:=w) pl.isList.typeIs slot_list_getitem.lookup
   (wpAny_getItem_list_neg (Q:=fun r s'=>r=w/\EP X pins σ Q r s') pl.isList (by omega) (by rw[aBc] <;> omega) (by omega) (by rw[hj];simpa using ew) ⟨rfl,fin⟩) hs
theorem qF:IxR X (aAe X.K):=by
 intro value slice pins s σ H x y v u Q I rx ry h hs;obtain⟨p,xs,i,z,rfl,rfl,hq,he,q⟩:=h;cases rx;obtain⟨t,rfl⟩:=ry;obtain⟨its,r,pl,hz⟩:=I.tuple hq;obtain⟨j,h1,h2,h3,h4,h5⟩:=uF he;obtain⟨w,ew,rw'⟩:=r.get h2;have hl:=r.length;have hn:=nZ;have fin:EP X pins σ Q w s:=⟨z,H,I,rw',q⟩;exact subscriptTail_builtinR (x:=w) pl.typeIs slot_tuple_getitem.lookup
  (getItem_tuple (j:=j) (Q:=fun r s'=>r=w/\EP X pins σ Q r s') pl (by omega) (by omega) (by rw[aBc,<- hl];exact h1) (by simpa using ew) ⟨rfl,fin⟩) hs
theorem w6:IxR X aAf:=by
 intro value slice pins s σ H x y v u Q I rx ry h hs;obtain⟨z,i,c,rfl,rfl,hz,he,q⟩:=h;obtain⟨t,rfl⟩:=rx;obtain⟨t',rfl⟩:=ry;obtain⟨j,h1,h2,h3,h4,h5⟩:=uF he;have hl:z.cps.toList.length=z.length:=by simp[Str.length]
 rw[hl]at h1 h4 h5;have hn:=nZ;exact tail_any (typeIs_str s z t) slot_str_getitem.lookup (getItem_str (c:=c) (by
  have e1:decide (i < -(2 ^ 63:Int))=false:=aBp (by omega);have e2:decide (i≥2 ^ 63)=false:=aBp (by omega);rw[e1,e2,Bool.or_false]) (by rw[h1];simpa using h2) ⟨.str ⟨#[c]⟩,H,I.tok _,⟨_,rfl⟩,q⟩) hs
def rIx (K:PySem.W.Frag):R2:=fun x y H Q=>w4 K x y H Q\/aAe K x y H Q\/aAf x y H Q
theorem w8:IxR X (rIx X.K):=cC.or (qF.or w6)
theorem yH (its:List Value) (n j:Nat) (u:Value):Obj.mapSeq (·.setIfInBounds j u) { cls:=.type "list",data:=.seq its.toArray n }={ cls:=.type "list",data:=.seq (its.set j u).toArray n }:=by
 simp[Obj.mapSeq]
theorem Inv.lst {pins:List (Addr×Obj)} {σ:St} {H:Hp} {s:Shared} {p:Addr} {xs:List V} (I:Inv X pins σ H s) (h:H p=some (.lst xs)) :
 ∃ (its:List Value) (n:Nat),Vals xs its/\s.heap.get? p=some { cls:=.type "list",data:=.seq its.toArray n }/\xs.length<=sizeLine:=by
 obtain⟨z,its,n,r,e⟩:=I.hok p _ h;exact⟨its,n,r,e,z⟩
theorem Inv.lstUpd {pins:List (Addr×Obj)} {σ:St} {H:Hp} {s:Shared} {p:Addr} {xs ys:List V} {its its':List Value} {n n':Nat} {f:Obj->Obj} (I:Inv X pins σ H s) (h:H p=some (.lst xs))
 (ho:s.heap.get? p=some { cls:=.type "list",data:=.seq its.toArray n }) (hf:f { cls:=.type "list",data:=.seq its.toArray n }={ cls:=.type "list",data:=.seq its'.toArray n' }) (r:Vals ys its') (hz:ys.length<=sizeLine) (t:Nat) :
 Inv X pins σ (upd H p (.lst ys)) { s with heap:=s.heap.update p f,toks:=t }:=by
 have e:(s.heap.update p f).get? p=some { cls:=.type "list",data:=.seq its'.toArray n' }:=by
  rw[aBm f ho (by rw[hf] <;> rfl),hf]
 refine I.write (x:=p) (e:=p) (by rw[h];trivial) (.inl rfl) (fun b u hb q=>(aB9 _ _ (Ne.symm hb)).trans q) ⟨_,e⟩ ?_;exact⟨hz,its',n',r,e⟩
def aAg:V->V->V->Hp->(Hp->Prop)->Prop:=fun o i v H Q=>∃ p xs k j,o=.ref p/\i=.int k/\H p=some (.lst xs)/\ixN xs.length k=some j/\Q (upd H p (.lst (xs.set j v)))
theorem mT:aA1 X aAg:=by
 intro pins s σ H o i v ov iv u Q I ro ri rv h;obtain⟨p,xs,k,j,rfl,rfl,hp,hj,q⟩:=h;cases ro;obtain⟨t,rfl⟩:=ri;obtain⟨its,n,r,ho,hz⟩:=I.lst hp;obtain⟨h1,h2,h3,h4⟩:=zX hj;have hl:=r.length;have hn:=nZ;have I':Inv X pins σ (upd H p (.lst (xs.set j v))) { s with heap:=s.heap.update p (Obj.mapSeq (·.setIfInBounds j u)) } :=
  I.lstUpd hp ho (yH its n j u) (r.set rv j) (by rw[List.length_set];exact hz) s.toks
 by_cases h0:0<=k
 ·have hk:k.toNat=j:=by
   rw[seqIndex_of h0 h4]at h1;exact Option.some.inj h1
  exact PySem.W.ki_setAt ho h0 (by omega) (by rw[aBc,<- hl];exact h4) (by rw[hk];exact⟨_,I',q⟩)
 ·have hk:(k+(its.toArray.size:Int)).toNat=j:=by
   rw[seqIndex_neg (by omega) h3]at h1;rw[aBc,<- hl];exact Option.some.inj h1
  exact PySem.W.ki_setBack ho (by omega) (by rw[aBc,<- hl];exact h3) (by omega) (by rw[hk];exact⟨_,I',q⟩)
theorem uG (lo hi:Option Int) (n:Nat):(sliceBounds lo hi none n).1=((HT.sIx n 0 lo:Nat):Int)/\(sliceBounds lo hi none n).2.1=((HT.sIx n n hi:Nat):Int)/\(sliceBounds lo hi none n).2.2=1:=by
 refine⟨?_,?_,rfl⟩
 ·cases lo with
  | none=>simp[sliceBounds,HT.sIx]
  | some i =>
   simp only[sliceBounds,HT.sIx,Option.getD_none,show (1:Int) > 0 by decide,if_true]
   by_cases h:i<0
   ·simp only[h,if_true] <;> omega
   ·simp only[h,if_false] <;> omega
 ·cases hi with
  | none=>simp[sliceBounds,HT.sIx]
  | some i =>
   simp only[sliceBounds,HT.sIx,Option.getD_none,show (1:Int) > 0 by decide,if_true]
   by_cases h:i<0
   ·simp only[h,if_true] <;> omega
   ·simp only[h,if_false] <;> omega
theorem rV (its:List Value) (lo hi:Option Int):slicePick its.toArray lo hi none=((its.drop (HT.sIx its.length 0 lo)).take (HT.sIx its.length its.length hi - HT.sIx its.length 0 lo)).toArray:=by
 obtain⟨h1,h2,h3⟩:=uG lo hi its.toArray.size;unfold slicePick;rw[h1,h2,h3];simp only[sliceRange_one,pick_run,aBc] <;> rfl
def aBM (K:PySem.W.Frag):V->Option Int->Option Int->Hp->VK->Prop:=fun x lo hi H Q=>∃ a xs,x=.ref a/\SqL K H a xs/\∀ p,H p=none->Q (.ref p) (upd H p (.lst (mC xs lo hi)))
theorem gN:SlR X (aBM X.K):=by
 intro pins s σ H x v vl vu lo hi sl Q I rx hs pl pu h;obtain⟨a,xs,rfl,hx,q⟩:=h;cases rx;obtain⟨its,r,ht,hz⟩:=I.list hx;have hlen:=r.length;refine⟨"list",_,slot_list_getitem.lookup,ht.isList.typeIs,?_⟩;refine wpAny_getItem_list_slice ht.isList hs pl pu .none (by simp) ?_ (by rw[aBc] <;> omega);rw[rV,<- hlen];refine⟨.ref s.heap.objs.size,_,I.laid (t':=s.toks) (o:=.lst (mC xs lo hi)) (fun b ob q=>aB5 _ q) (Nat.le_refl _) ?_,rfl,q _ (I.hok.fresh (Nat.le_refl _))⟩;exact⟨Nat.le_trans (wH xs lo hi) hz,_,0,(r.drop (HT.sIx xs.length 0 lo)).take (HT.sIx xs.length xs.length hi - HT.sIx xs.length 0 lo),aBb _ rfl⟩
def mU:V->Bool
 | .non=>true
 | .bl _=>true
 | .int _=>true
 | .str _=>true
 | _=>false
def eqV:V->V->Bool
 | .non,.non=>true
 | .bl a,.bl b=>a == b
 | .bl a,.int b=>(if a then 1 else 0) == b
 | .int a,.bl b=>a == (if b then 1 else 0)
 | .int a,.int b=>a == b
 | .str a,.str b=>a == b
 | _,_=>false
theorem x8 {A:Around} {s:Shared} {y x:V} {u v:Value} (ry:RelV y u) (rx:RelV x v) (fy:mU y=true) (fx:mU x=true):SeqAt.EqAt A s u v (eqV y x):=by
 cases y with
 | non =>
  cases ry;cases x with
  | non=>cases rx;exact SeqAt.EqAt.same _
  | bl b=>cases rx;exact SeqAt.EqAt.none_bool b
  | int b=>obtain⟨t,rfl⟩:=rx;exact SeqAt.EqAt.none_int b t
  | str b=>obtain⟨t,rfl⟩:=rx;exact SeqAt.EqAt.none_str b t
  | _=>exact absurd (show false=true from fx) aBh
 | bl a =>
  cases ry;cases x with
  | non=>cases rx;exact SeqAt.EqAt.bool_none a
  | bl b=>cases rx;exact SeqAt.EqAt.bool_bool a b
  | int b=>obtain⟨t,rfl⟩:=rx;exact SeqAt.EqAt.bool_int a b t
  | str b=>obtain⟨t,rfl⟩:=rx;exact SeqAt.EqAt.bool_str a b t
  | _=>exact absurd (show false=true from fx) aBh
 | int a =>
  obtain⟨t',rfl⟩:=ry;cases x with
  | non=>cases rx;exact SeqAt.EqAt.int_none a t'
  | bl b=>cases rx;exact SeqAt.EqAt.int_bool a t' b
  | int b=>obtain⟨t,rfl⟩:=rx;exact SeqAt.EqAt.int_int a t' b t
  | str b=>obtain⟨t,rfl⟩:=rx;exact SeqAt.EqAt.int_str a t' b t
  | _=>exact absurd (show false=true from fx) aBh
 | str a =>
  obtain⟨t',rfl⟩:=ry;cases x with
  | non=>cases rx;exact SeqAt.EqAt.str_none a t'
  | bl b=>cases rx;exact SeqAt.EqAt.str_bool a t' b
  | int b=>obtain⟨t,rfl⟩:=rx;exact SeqAt.EqAt.str_int a t' b t
  | str b=>obtain⟨t,rfl⟩:=rx;exact SeqAt.EqAt.str_str a t' b t
  | _=>exact absurd (show false=true from fx) aBh
 | _=>exact absurd (show false=true from fy) aBh
def eqU (x:V) (u:Value):Bool:=match u with
 | .none=>eqV .non x
 | .bool b=>eqV (.bl b) x
 | .int i _=>eqV (.int i) x
 | .str z _=>eqV (.str z) x
 | _=>false
theorem O4 {x y:V} {u:Value} (r:RelV y u) (f:mU y=true):eqU x u=eqV y x:=by
 cases y with
 | non=>cases r;rfl
 | bl b=>cases r;rfl
 | int i=>obtain⟨t,rfl⟩:=r;rfl
 | str z=>obtain⟨t,rfl⟩:=r;rfl
 | _=>exact absurd (show false=true from f) aBh
theorem mV {x:V}:∀ {xs:List V} {us:List Value},Vals xs us->xs.all mU=true->us.any (eqU x)=xs.any fun y=>eqV y x
 | _,_,.nil,_=>rfl
 | y :: xs,u :: us,.cons r t,f=>by
  rw[List.all_cons,Bool.and_eq_true]at f;rw[List.any_cons,List.any_cons,O4 r f.1,mV t f.2]
theorem kI {A:Around} {s:Shared} {x:V} {v:Value} (rx:RelV x v) (fx:mU x=true):∀ {xs:List V} {us:List Value},Vals xs us->xs.all mU=true->∀ u∈us,SeqAt.EqAt A s u v (eqU x u)
 | _,_,.nil,_=>fun u hu=>by cases hu
 | y :: xs,u :: us,.cons r t,f=>fun u' hu=>by
  rw[List.all_cons,Bool.and_eq_true]at f;rcases aCG.mp hu with rfl | hu
  ·rw[O4 r f.1];exact x8 r rx f.1 fx
  ·exact kI rx fx t f.2 u' hu
def inV (x:V) (xs:List V):Bool:=xs.any fun y=>eqV y x
def rIn (K:PySem.W.Frag) (neg:Bool):R2:=fun x y H Q=>∃ p xs,y=.ref p/\(SqL K H p xs\/SqT K H p xs)/\mU x=true/\xs.all mU=true/\Q (.bl (if neg then !inV x xs else inV x xs)) H
theorem sR:OpR X (compareOp .In) (rIn X.K false):=by
 intro pins s σ H x y v u Q I rx ry h;obtain⟨p,xs,rfl,hq,fx,fs,q⟩:=h;cases ry;rcases hq with hq | hq
 ·obtain⟨its,r,pl,hz⟩:=I.list hq;refine SeqAt.in_listAt (eqU x) pl.isList (fun w hw=>kI rx fx r fs w (by simpa using hw)) ⟨.bl _,H,I,rfl,?_⟩;rw[show its.toArray.any (eqU x)=its.any (eqU x)by simp,mV r fs];exact q
 ·obtain⟨its,r,pl,hz⟩:=I.tuple hq;refine SeqAt.in_tupleAt (eqU x) pl (fun w hw=>kI rx fx r fs w (by simpa using hw)) ⟨.bl _,H,I,rfl,?_⟩;rw[show its.toArray.any (eqU x)=its.any (eqU x)by simp,mV r fs];exact q
theorem uH:OpR X (compareOp .NotIn) (rIn X.K true):=by
 intro pins s σ H x y v u Q I rx ry h;obtain⟨p,xs,rfl,hq,fx,fs,q⟩:=h;cases ry;rcases hq with hq | hq
 ·obtain⟨its,r,pl,hz⟩:=I.list hq;refine SeqAt.notIn_listAt (eqU x) pl.isList (fun w hw=>kI rx fx r fs w (by simpa using hw)) ⟨.bl _,H,I,rfl,?_⟩;rw[show its.toArray.any (eqU x)=its.any (eqU x)by simp,mV r fs];exact q
 ·obtain⟨its,r,pl,hz⟩:=I.tuple hq;refine SeqAt.notIn_tupleAt (eqU x) pl (fun w hw=>kI rx fx r fs w (by simpa using hw)) ⟨.bl _,H,I,rfl,?_⟩;rw[show its.toArray.any (eqU x)=its.any (eqU x)by simp,mV r fs];exact q
theorem bE:fW X (.builtin "len") (fun xs H Q=>∃ p ys,xs=[.ref p]/\(SqL X.K H p ys\/SqT X.K H p ys)/\Q (.int ys.length) H):=by
 intro pins s σ H xs us Q I r h;obtain⟨p,ys,rfl,hq,q⟩:=h;obtain⟨u,rfl,rx⟩:=iU r;cases rx;have hn:=nZ;rcases hq with hq | hq
 ·obtain⟨its,r',pl,hz⟩:=I.list hq;have hlen:=r'.length;exact Calls.call_len_list pl.isList (by simp only[aBc] <;> omega) ⟨.int ys.length,H,I.tok _,⟨s.toks+1,by rw[aBc,hlen]⟩,q⟩
 ·obtain⟨its,r',pl,hz⟩:=I.tuple hq;have hlen:=r'.length;exact len_tuple pl (by simp only[aBc] <;> omega) ⟨.int ys.length,H,I.tok _,⟨s.toks+1,by rw[aBc,hlen]⟩,q⟩
theorem gO:fW X (.type "list") (fun xs H Q=>∃ p ys,xs=[.ref p]/\(SqL X.K H p ys\/SqT X.K H p ys)/\∀ l,H l=none->Q (.ref l) (upd H l (.lst ys))):=by
 intro pins s σ H xs us Q I r h;obtain⟨p,ys,rfl,hq,q⟩:=h;obtain⟨u,rfl,rx⟩:=iU r;cases rx;have fin:∀ (its:List Value),Vals ys its->ys.length<=sizeLine->∀ (h':Heap) (c':Nat),(∀ b o',s.heap.get? b=some o'->h'.get? b=some o') ->
  h'.get? s.heap.objs.size=some { cls:=.type "list",dict:=none,data:=.seq its.toArray c',slots:=#[] }->EP X pins σ Q (.ref s.heap.objs.size) { s with heap:=h' }:=fun its r' hz h' c' kp e =>
  ⟨.ref s.heap.objs.size,_,I.laid (t':=s.toks) kp (Nat.le_refl _) (show ObjOk X.prog X.w _ h' _ (.lst ys) from ⟨hz,its,c',r',e⟩),rfl,q _ (I.hok.fresh (Nat.le_refl _))⟩
 rcases hq with hq | hq
 ·obtain⟨its,r',pl,hz⟩:=I.list hq;have hlen:=r'.length;obtain⟨o,ho,hc,n,hd⟩:=pl.isList;exact call_list_seq p (.inl rfl) ho hc hd (fun h' c' kp e=>fin its r' hz h' c' kp e) (by simp only[aBc] <;> omega)
 ·obtain⟨its,r',pl,hz⟩:=I.tuple hq;have hlen:=r'.length;obtain⟨o,ho,hc,n,hd⟩:=pl;exact call_list_seq p (.inr rfl) ho hc hd (fun h' c' kp e=>fin its r' hz h' c' kp e) (by simp only[aBc] <;> omega)
def tyV (K:PySem.W.Frag) (T:String) (x:V) (H:Hp):Prop:=match x with
 | .str _=>T="str"
 | .int _=>T="int"
 | .ref p=>(T="list"/\∃ xs,SqL K H p xs)\/(T="tuple"/\∃ o,K.lookup p=some o/\o.cls=.type "tuple"/\o.dict=none) \/
  (T="dict"/\((∃ kvs,H p=some (.dK kvs))\/∃ kvs,H p=some (.dT kvs)))\/(T="set"/\∃ S n,H p=some (.set S n))
 | _=>False
theorem O5 {pins:List (Addr×Obj)} {σ:St} {H:Hp} {s:Shared} {T:String} {x:V} {v:Value} (I:Inv X pins σ H s) (r:RelV x v) (ty:tyV X.K T x H) :
 s.TypeIs v T/\∀ a,v=.ref a->∃ ob,s.heap.get? a=some ob/\ob.dict=none:=by
 cases x with
 | str z =>
  obtain⟨t,rfl⟩:=r;cases (show T="str" from ty);exact⟨typeIs_str s z t,fun _ e=>nomatch e⟩
 | int i =>
  obtain⟨t,rfl⟩:=r;cases (show T="int" from ty);exact⟨typeIs_int s i t,fun _ e=>nomatch e⟩
 | ref p =>
  cases r;rcases ty with ⟨rfl,xs,hq⟩ | ⟨rfl,o,hk,hc,hd⟩ | ⟨rfl,hk⟩ | ⟨rfl,S,n,hk⟩
  ·obtain⟨its,_,pl,_⟩:=I.list hq;refine⟨pl.isList.typeIs,fun a e=>?_⟩;cases e;obtain⟨o,n,e,c,hd,_⟩:=pl;exact⟨o,e,hd⟩
  ·refine⟨⟨o,I.kIn p o hk,hc⟩,fun a e=>?_⟩;cases e;exact⟨o,I.kIn _ o hk,hd⟩
  ·have z:∃ o,s.heap.get? p=some o/\o.ExactDict:=by
    rcases hk with ⟨kvs,hk⟩ | ⟨kvs,hk⟩
    ·obtain⟨_,_,_,_,o,_,_,e,ex,_⟩:=I.hok p _ hk;exact⟨o,e,ex⟩
    ·obtain⟨_,_,_,_,o,_,_,e,ex,_⟩:=I.hok p _ hk;exact⟨o,e,ex⟩
   obtain⟨o,e,ex⟩:=z;refine⟨⟨o,e,ex.1⟩,fun a e2=>?_⟩;cases e2;exact⟨o,e,ex.2.1⟩
  ·obtain⟨o,_,_,_,e,ex,_⟩:=I.hok p _ hk;refine⟨⟨o,e,ex.1⟩,fun a e2=>?_⟩;cases e2;exact⟨o,e,ex.2.1⟩
 | _=>exact False.elim ty
def aBN (K:PySem.W.Frag) (T:String) (r:V->List V->Hp->VK->Prop) (to:TE):TE:=fun σ H Q=>to σ H fun x H1=>tyV K T x H1/\r x [] H1 Q
def tBM (K:PySem.W.Frag) (T:String) (r:V->List V->Hp->VK->Prop) (to:TE) (t:TA):TE:=fun σ H Q=>to σ H fun x H1=>tyV K T x H1/\t σ H1 fun xs H2=>r x xs H2 Q
variable {o e:Expr} {es:List Expr} {to:TE} {t:TA} {name:Str} {apos cpos:Pos} {T id:String} {r:V->List V->Hp->VK->Prop}
theorem uI (pa:PlainAttrs T) (slot:Slot T name id) (hty:typeOf (.builtin id)=pure (.type "method_descriptor")) (hm:MtR X id r) (ho:PE X o to)
 (hbase:attributeBase o name X.env (eval o X.env)=eval o X.env:=by rfl) (hline:(apos.endLine == cpos.line)=true:=by rfl):PE X (.Call (.Attribute o name apos) [] [] cpos) (aBN X.K T r to):=by
 intro pins s σ H Q I h;refine wpAny_Call_method0_late hbase hline (thn (ho pins s σ H _ I h) fun v s1 ⟨x,H1,I1,r1,ty,q1⟩=>?_);obtain⟨h1,h2⟩:=O5 I1 r1 ty;exact⟨T,id,pa,slot,hty,h1,h2,Calls.callWith_builtin rfl (PySem.evalArgs_none (hm pins s1 σ H1 x [] v [] Q I1 r1 .nil q1))⟩
theorem cT (pa:PlainAttrs T) (slot:Slot T name id) (hty:typeOf (.builtin id)=pure (.type "method_descriptor")) (hm:MtR X id r) (ho:PE X o to) (ha:PA X (e :: es) t)
 (hbase:attributeBase o name X.env (eval o X.env)=eval o X.env:=by rfl)
 (hfew:((backTo cpos (starEach (e :: es) X.env)).all (fun x=>!x.1) && (backToKw cpos (keywordEach [] X.env)).all (fun x=>x.1.isSome)
  && decide ((e :: es).length+([]:List Keyword).length+(if ([]:List Keyword).isEmpty then 0 else 1)<30))=true:=by rfl)
 (hline:(apos.endLine == cpos.line)=true:=by rfl) (hs:starEach (e :: es) X.env=(false,eval e X.env) :: starEach es X.env:=by rfl) (hplain:(backTo cpos (starEach es X.env)).any (·.1)=false:=by rfl) :
 PE X (.Call (.Attribute o name apos) (e :: es) [] cpos) (tBM X.K T r to t):=by
 intro pins s σ H Q I h;refine wpAny_Call_method_late hbase hfew hline rfl (thn (ho pins s σ H _ I h) fun v s1 ⟨x,H1,I1,r1,ty,q1⟩=>?_);obtain⟨h1,h2⟩:=O5 I1 r1 ty;refine⟨T,id,pa,slot,hty,h1,h2,?_⟩;have hA:=ha cpos pins s1 σ H1 _ I1 q1;rw[hs]at hA ⊢;refine Calls.callWith_builtin (by show (false || (backTo cpos (starEach es X.env)).any (·.1))=false;rw[hplain] <;> rfl) (Calls.evalArgs_plain ?_);exact thn hA fun us s2 ⟨vs,H2,I2,r2,q2⟩=>hm pins s2 σ H2 x vs v us Q I2 r1 r2 q2
/- xs.append(e),list.index on a module's tuple .. are MtR facts of 06m -/
end
def MtM (X:Cx) (id:String) (r:V->List V->Hp->VK->Prop):Prop :=
 ∀ (pins:List (Addr×Obj)) (s:Shared) (σ:St) (H:Hp) (x:V) (xs:List V) (v:Value) (us:List Value) (Q:VK),Inv X pins σ H s->RelV x v->Vals xs us->r x xs H Q ->
  wpAny (model X.prog X.w) X.A (call (.builtin id) (v :: us)) (EP X pins σ Q) X.xe s
theorem Vals.one:∀ {x:V} {us:List Value},Vals [x] us->∃ u,us=[u]/\RelV x u
 | _,_,.cons r .nil=>⟨_,rfl,r⟩
theorem Vals.two {x y:V} {us:List Value} (h:Vals [x,y] us):∃ u v,us=[u,v]/\RelV x u/\RelV y v:=by
 cases h with
 | cons r h =>
  obtain⟨u,e,q⟩:=Vals.one h;exact⟨_,u,by rw[e],r,q⟩
theorem Vals.zero:∀ {us:List Value},Vals [] us->us=[]
 | _,.nil=>rfl
theorem Vals.dropLast {xs:List V} {us:List Value} (h:Vals xs us):Vals xs.dropLast us.dropLast:=by
 induction h with
 | nil=>exact .nil
 | cons r t ih =>
  cases t with
  | nil=>exact .nil
  | cons q t'=>exact .cons r ih
theorem Vals.eraseIdx:∀ {xs:List V} {us:List Value} (i:Nat),Vals xs us->Vals (xs.eraseIdx i) (us.eraseIdx i)
 | _,_,_,.nil=>.nil
 | _,_,0,.cons _ t=>t
 | _,_,i+1,.cons r t=>.cons r (Vals.eraseIdx i t)
theorem Vals.reverse {xs:List V} {us:List Value} (h:Vals xs us):Vals xs.reverse us.reverse:=by
 induction h with
 | nil=>exact .nil
 | cons r t ih=>rw[List.reverse_cons,List.reverse_cons];exact Vals.append ih (.cons r .nil)
theorem Vals.rep {xs:List V} {us:List Value} (h:Vals xs us):∀ k:Nat,Vals (List.replicate k xs).flatten (List.replicate k us).flatten
 | 0=>.nil
 | k+1=>by
  rw[List.replicate_succ,List.replicate_succ,List.flatten_cons,List.flatten_cons];exact Vals.append h (Vals.rep h k)
theorem yI {α:Type} (l:List α):l.eraseIdx (l.length - 1)=l.dropLast:=by
 induction l with
 | nil=>rfl
 | cons a r ih =>
  cases r with
  | nil=>rfl
  | cons b r =>
   have e:(a :: b :: r).length - 1=((b :: r).length - 1)+1:=by
    have h1:(a :: b :: r).length=r.length+2:=rfl;have h2:(b :: r).length=r.length+1:=rfl;omega
   rw[e,List.eraseIdx_cons_succ,ih]
   all_goals rfl
theorem sS (its:List Value):∀ (k:Nat) (acc:List Value),
 List.foldl (fun x1 x2=>x1++x2) acc.toArray (List.replicate k its.toArray)=(acc++(List.replicate k its).flatten).toArray
 | 0,acc=>by simp
 | k+1,acc=>by
  have e:acc.toArray++its.toArray=(acc++its).toArray:=by simp
  have e2:(acc++its)++(List.replicate k its).flatten=acc++(List.replicate (k+1) its).flatten:=by
   rw[List.replicate_succ,List.flatten_cons,List.append_assoc]
  rw[<- e2,<- sS its k (acc++its),<- e,List.replicate_succ,aBv]
section
variable {X:Cx} {pins:List (Addr×Obj)} {σ:St} {H:Hp} {s:Shared} {l b:Addr} {xs ys zs:List V}
theorem Inv.lset {its its':List Value} {n:Nat} {f:Array Value->Array Value} {t':Nat} (I:Inv X pins σ H s) (hH:H l=some (.lst xs))
 (e:s.heap.get? l=some { cls:=.type "list",data:=.seq its.toArray n }) (hf:f its.toArray=its'.toArray) (hv:Vals ys its') (hz:ys.length<=sizeLine) :
 Inv X pins σ (upd H l (.lst ys)) { s with heap:=s.heap.update l (Obj.mapSeq f),toks:=t' }:=by
 have q:=PySem.IsL.update e f;rw[hf]at q;refine I.write (x:=l) (e:=l) (by rw[hH];exact trivial) (.inl rfl) (fun b' u hb hu=>(aB9 s.heap (Obj.mapSeq f) (Ne.symm hb)).trans hu) ⟨_,q⟩ ?_;exact⟨hz,its',_,hv,q⟩
theorem Inv.lnew {its:List Value} {t':Nat} (I:Inv X pins σ H s) (hv:Vals ys its) (hz:ys.length<=sizeLine) :
 Inv X pins σ (upd H s.heap.objs.size (.lst ys)) { s with heap:=s.heap.push { cls:=.type "list",data:=.seq its.toArray },toks:=t' } :=
 I.laid (fun _ _ q=>aB5 _ q) (Nat.le_refl _) ⟨hz,its,0,hv,aBb _ rfl⟩
theorem Inv.fresh (I:Inv X pins σ H s):H s.heap.objs.size=none:=I.hok.fresh (Nat.le_refl _)
theorem Inv.lstM (I:Inv X pins σ H s) (hH:H l=some (.lst xs)):xs.length<=sizeLine/\∃ (its:List Value) (n:Nat),Vals xs its/\xs.length=its.length/\s.heap.get? l=some { cls:=.type "list",data:=.seq its.toArray n }:=by
 obtain⟨z,its,n,r,e⟩:=I.hok l _ hH;exact⟨z,its,n,r,r.length,e⟩
theorem wI {n:Nat} (h:n<=sizeLine):Builtin.List.listTooLong n=false:=by
 unfold Builtin.List.listTooLong;exact aBp (by omega)
end
section
variable {X:Cx}
def Y3:V->List V->Hp->VK->Prop:=fun x vs H Q=>∃ l xs y,x=.ref l/\vs=[y]/\H l=some (.lst xs)/\xs.length<sizeLine/\Q .non (upd H l (.lst (xs++[y])))
theorem bC:MtM X "list.append" Y3:=by
 intro pins s σ H x vs v us Q I rx rv h;obtain⟨l,xs,y,rfl,rfl,hH,hz,q⟩:=h;cases rx;obtain⟨u,rfl,ru⟩:=rv.one;obtain⟨z,its,n,r,hl,e⟩:=I.lstM hH;refine call_meets F.slot_list_append ⟨_,e,rfl⟩ F.entry_list_append (F.args_list_append_2 _ _) (PySem.list_append l its.toArray n u (by rw[aBc];omega)) ⟨e,?_⟩;refine⟨.non,_,I.lset (its':=its++[u]) hH e (by simp) (r.append (.cons ru .nil)) ?_,rfl,q⟩;rw[aBd,List.length_singleton];omega
def Y4:V->List V->Hp->VK->Prop:=fun x vs H Q=>∃ l b xs zs,x=.ref l/\vs=[.ref b]/\H l=some (.lst xs)/\H b=some (.lst zs)/\xs.length+zs.length<=sizeLine/\Q .non (upd H l (.lst (xs++zs)))
theorem D9:MtM X "list.extend" Y4:=by
 intro pins s σ H x vs v us Q I rx rv h;obtain⟨l,b,xs,zs,rfl,rfl,hH,hB,hz,q⟩:=h;cases rx;obtain⟨u,rfl,ru⟩:=rv.one;cases ru;obtain⟨z,its,n,r,hl,e⟩:=I.lstM hH;obtain⟨z2,its2,n2,r2,hl2,e2⟩:=I.lstM hB;have hsz:its.toArray.size+its2.toArray.size<=sizeLine:=by rw[aBc,aBc];omega
 have hlong:¬ (!its.toArray.isEmpty && Builtin.List.listTooLong (its.toArray.size+its2.toArray.size))=true:=by
  rw[wI hsz,Bool.and_false];exact aBh
 refine call_meets F.slot_list_extend ⟨_,e,rfl⟩ F.entry_list_extend (F.args_list_extend_2 _ _)
  (AutoSeq1.list_extend_list_list_0 l its.toArray n b its2.toArray n2 hlong (by rw[aBc];omega) (by omega)) ⟨e,e2,?_⟩
 refine⟨.non,_,I.lset (its':=its++its2) hH e (by simp) (r.append r2) ?_,rfl,q⟩;rw[aBd];omega
def aBO:V->List V->Hp->VK->Prop:=fun x vs H Q=>∃ l xs y,x=.ref l/\vs=[]/\H l=some (.lst xs)/\xs[xs.length - 1]?=some y/\Q y (upd H l (.lst xs.dropLast))
theorem yJ:MtM X "list.pop" aBO:=by
 intro pins s σ H x vs v us Q I rx rv h;obtain⟨l,xs,y,rfl,rfl,hH,hy,q⟩:=h;cases rx;have hus:=rv.zero;subst hus;obtain⟨z,its,n,r,hl,e⟩:=I.lstM hH;obtain⟨u,hu,ru⟩:=r.get hy;have hy':its.toArray[its.toArray.size - 1]?=some u:=by
  show its.toArray[its.length - 1]?=some u;rw[<- Array.getElem?_toList,<- hl];exact hu
 refine call_meets F.slot_list_pop ⟨_,e,rfl⟩ F.entry_list_pop (F.args_list_pop_1 _) (MeetsSeq.list_pop_last l its.toArray n u hy' (by rw[aBc];omega)) ⟨e,?_⟩;refine⟨y,_,I.lset (its':=its.dropLast) hH e ?_ r.dropLast ?_,ru,q⟩
 ·show its.toArray.eraseIdxIfInBounds (its.toArray.size - 1)=its.dropLast.toArray;rw[aBc,List.eraseIdxIfInBounds_toArray,yI]
 ·rw[List.length_dropLast];omega
def O6:V->List V->Hp->VK->Prop:=fun x vs H Q=>∃ l xs,x=.ref l/\vs=[]/\H l=some (.lst xs)/\Q .non (upd H l (.lst xs.reverse))
theorem yK:MtM X "list.reverse" O6:=by
 intro pins s σ H x vs v us Q I rx rv h;obtain⟨l,xs,rfl,rfl,hH,q⟩:=h;cases rx;have hus:=rv.zero;subst hus;obtain⟨z,its,n,r,hl,e⟩:=I.lstM hH;refine call_meets F.slot_list_reverse ⟨_,e,rfl⟩ F.entry_list_reverse (F.args_list_reverse_1 _) (AutoSeq1.list_reverse_list_0 l its.toArray n (by rw[aBc];omega)) ⟨e,?_⟩;refine⟨.non,_,I.lset (its':=its.reverse) hH e (by simp) r.reverse ?_,rfl,q⟩;rw[List.length_reverse];omega
def aBP:R2:=fun x y H Q=>∃ l b xs zs,x=.ref l/\y=.ref b/\H l=some (.lst xs)/\H b=some (.lst zs)/\xs.length+zs.length<=sizeLine/\∀ p,H p=none->Q (.ref p) (upd H p (.lst (xs++zs)))
theorem kJ:OpR X (binaryOp .Add) aBP:=by
 intro pins s σ H x y v u Q I rx ry h;obtain⟨l,b,xs,zs,rfl,rfl,hH,hB,hz,q⟩:=h;cases rx;cases ry;obtain⟨z,its,n,r,hl,e⟩:=I.lstM hH;obtain⟨z2,its2,n2,r2,hl2,e2⟩:=I.lstM hB;refine PySem.P.add_list e e2 ?_ (by rw[aBc,aBc];omega);have ea:its.toArray++its2.toArray=(its++its2).toArray:=by simp
 rw[ea];exact⟨.ref _,_,I.lnew (t':=s.toks) (r.append r2) (by rw[aBd];omega),rfl,q _ I.fresh⟩
def aBQ:R2:=fun x y H Q=>∃ l k xs,x=.ref l/\y=.int k/\H l=some (.lst xs)/\-(2 ^ 63)<=k/\k<2 ^ 63/\xs.length * k.toNat<=sizeLine /\
 ∀ p,H p=none->Q (.ref p) (upd H p (.lst (List.replicate k.toNat xs).flatten))
theorem Y5 {α:Type} (xs:List α) (k:Nat):(List.replicate k xs).flatten.length=k * xs.length:=by
 induction k with
 | zero=>simp
 | succ k ih=>rw[List.replicate_succ,List.flatten_cons,aBd,ih,Nat.succ_mul,Nat.add_comm]
theorem x9:OpR X (binaryOp .Mult) aBQ:=by
 intro pins s σ H x y v u Q I rx ry h;obtain⟨l,k,xs,rfl,rfl,hH,h1,h2,hz,q⟩:=h;cases rx;obtain⟨t,rfl⟩:=ry;obtain⟨z,its,n,r,hl,e⟩:=I.lstM hH;have hlen:its.toArray.size * k.toNat<=sizeLine:=by rw[aBc,<- hl];exact hz
 have hcap:¬ its.toArray.size * k.toNat > (2 ^ 63 - 1) / 8:=by
  have:(sizeLine:Nat)<=(2 ^ 63 - 1) / 8:=by decide
  omega
 have hfit:¬ (!Builtin.List.listFitsIndex k)=true:=by
  rw[fitsIndex_both h1 h2];exact aBh
 have hlong:¬ Builtin.List.listTooLong (its.toArray.size * k.toNat)=true:=by
  rw[wI hlen];exact aBh
 have hnew:List.foldl (fun x1 x2=>x1++x2) #[] (List.replicate (if its.toArray.isEmpty=true then 0 else k.toNat) its.toArray)=(List.replicate k.toNat its).flatten.toArray:=by
  have f0:∀ m:Nat,List.foldl (fun x1 x2=>x1++x2) #[] (List.replicate m its.toArray)=(List.replicate m its).flatten.toArray:=fun m=>by
   have:=sS its m [];rw[List.nil_append]at this;exact this
  rw[f0];cases its with
  | nil=>simp
  | cons a r'=>rw[if_neg (by simp)]
 refine wpAny_binaryOp_repeat_ref (T:="list") (U:="int") (by decide) ⟨_,e,rfl⟩ (fun s'=>typeIs_int s' k t) noFill_list_mul F.fills_int_mul F.slot_int_rmul repeat_list F.slot_int_index.lookup
  (call_meets F.slot_int_rmul (typeIs_int s k t) F.entry_int_rmul (F.args_int_rmul_2 _ _) (int___rmul___int_list k t l its.toArray n)
   ⟨e,rfl,⟨_,e,rfl⟩,call_meets F.slot_list_mul ⟨_,e,rfl⟩ F.entry_list_mul (F.args_list_mul_2 _ _) (AutoListH.list___mul___list_int_3 l its.toArray n k t hfit hcap hlong) ⟨e,?_⟩⟩)
 rw[hnew];exact⟨.ref _,_,I.lnew (t':=s.toks) (r.rep k.toNat) (by rw[Y5,Nat.mul_comm];exact hz),rfl,q _ I.fresh⟩
end
section
variable {prog:Program} {w:World} {A:Around} {E:Value->Shared->Prop} {s:Shared}
end
section
variable {X:Cx}
end
end L2
namespace Att
open PySem PySem.W PySem.Calls PyProof.Rows
theorem pC {P:Params} {h:Heap}:∀ (ns:List Int) (vs:List Value),WellAll P h vs (ns.map WData.int)->IntsAre vs ns:=by
 intro ns
 induction ns with
 | nil =>
  intro vs w;rw[List.map_nil]at w;cases w;exact .nil
 | cons n ns ih =>
  intro vs w;rw[aBt]at w;cases w with
  | cons a b =>
   cases a;exact .cons _ _ (ih _ b)
theorem E1 {l:OpenLaw} {n:Nat} (hn:l.most=some n) {P:Params} {h:Heap} {args:List WData} {vals:List Value}
 (hpre:l.row.toRowW.claim.pre args=true) (hwl:WellAll P h vals args) :
 ∃ a vs ns,vals=[Value.ref a]/\args=[WData.list (ns.map WData.int)]/\h.get? a=some { cls:=.type "list",data:=.seq vs.toArray }/\IntsAre vs ns/\ns.length<=n:=by
 have hsh:WShape.hasAll [] args [.list .int]=true:=(pre_splitW hpre).1;have hc:l.pre.holds [] { args:=args }=true:=(pre_splitW hpre).2;obtain⟨d,r,rfl,h1,h2⟩:=hasAllW_cons hsh;obtain rfl:=hasAllW_nil h2;obtain⟨xs,rfl,h3⟩:=hasW_list h1;obtain⟨ns,rfl⟩:=items_int h3;have hlen:ns.length<=n:=by
  unfold OpenLaw.pre at hc;have h4:(WTm.not (.lt (.lit (.int (n:Int))) (.len (.arg 0)))).holds [] { args:=[.list (ns.map .int)] }=true:=by
   have h4:=(holds_andW hc).1;rw[hn]at h4;exact h4
  have h5:=condW_of h4 (w_not (w_lt w_lit (w_len_list (w_arg rfl))));rw[aB4]at h5;refine Nat.le_of_not_lt fun q=>?_;have q':(n:Int)<((ns.length:Nat):Int):=by omega
  first
   | (rw[aBq q']at h5;exact absurd h5 (by decide))
   | (simp at h5;omega)
 cases hwl with
 | cons w1 w2 =>
  cases w2;cases w1 with
  | list ho hall=>exact⟨_,_,ns,rfl,rfl,ho,pC ns _ hall,hlen⟩
theorem E2 (l:OpenLaw) (args:List WData):l.row.toRowW.claim.post args (.bool true) args=true :=
 postW_of (r:=l.row.toRowW) (X:=(true == true))
  (show WShape.has [] (.bool true) .bool=true by first | rfl | decide | simp[WShape.has,WShape.arms,WShape.armsAll])
  (show (WTm.eq .res (.lit (.bool true))).value [] { args:=args,res:=some (.bool true),after:=args }=some (.bool (true == true)) from w_eq_bool (w_res rfl) w_lit) rfl
theorem attach_call {l:OpenLaw} {n:Nat} {q:Program} {loose:List Str} {XP:(Str->Option Value)->Heap->Prop} {YP:World->Heap->Prop} {d:DefRec}
 (hn:l.most=some n) (hdf:d.params.defaults=[])
 (call:∀ (w:World) (s₀ s₁:Shared) (mg mb:Str->Option Value) (fa:Addr) (o:Obj) (pm cd doc:Value) (a:Addr) (vs:List Value) (ns:List Int),
  Ground q loose [] XP w s₀ mg mb s₁.heap->YP w s₁.heap ->
  s₁.heap.get? fa=some o->o.data=.func (docDef d.name d.params d.body d.scope pm cd doc)->s₁.heap.CodeRec cd d.name->mg d.name=some (.ref fa) ->
  s₁.heap.get? a=some { cls:=.type "list",data:=.seq vs.toArray }->IntsAre vs ns->ns.length<=n->s₁.gens=#[] ->
  codeAny (model l.prog w) callerA (.call (.ref fa) ⟨[.ref a],[]⟩) (fun r s'=>r=.ok (.ret (.bool true))/\OldK s₁.heap s'.heap/\s'.os=s₁.os/\AllBare s'.gens) s₁) :
 WalkO q loose XP YP l.row.toRowW d [] (fun f vs=>PySem.call f vs):=by
 intro w s₀ s₁ mg mb G Y fa o pm cd doc dV kV ho hd hcd hD hmg hg args vals as hpre hlay hrd hwl hlo;obtain rfl:dV=.none:=Dflts.none hD hdf;obtain rfl:kV=.none:=Dflts.noKw hD;obtain⟨a,vs,ns,rfl,rfl,hobj,hints,hlen⟩:=E1 hn hpre hwl;refine enter_call (codeAny_mono (call w s₀ s₁ mg mb fa o pm cd doc a vs ns G Y ho (fd_plain hd) hcd hmg hobj hints hlen hg) fun r s' hq=>?_);obtain⟨rfl,h2,h3,h4⟩:=hq;exact⟨.inl ⟨.bool true,.bool true,[],rfl,fun _=>rfl,.bool true,E2 l _,fun _=>⟨List.Pairwise.nil,fun _ hm=>(nomatch hm)⟩⟩,h2,h3,h4⟩
section
variable {prog:Program} {w:World} {A:Around} {E:Value->Shared->Prop} {s:Shared} {K:Frag}
end
end Att
namespace L2
open PySem PySem.Spec PyProof.Rows
theorem lO:∀ {vs:List Value} {ns:List Int},IntsAre vs ns->Vals (ns.map V.int) vs
 | _,_,.nil=>.nil
 | _,_,.cons n t h=>.cons ⟨t,rfl⟩ (lO h)
def y0 (H:Hp):Prop:=∀ b,H b=none\/∃ o xs,H b=some (.frz o (.lst xs))
theorem O7 {P:Program} {w:World} {K:PySem.W.Frag} {mg mb:Str->Option Value} {CX:CXT} {k:Nat} {fa a:Addr} {fd:FuncData} {x:Str} {sp:Sp} {s₁:Shared} {vs:List Value} {ns:List Int}
 (KX:K.In s₁.heap) (hns:s₁.heap.Ns mainGlobals mg) (hb:s₁.heap.Ns builtinsNs mb) (hbb:∀ x:Str,x≠"__name__"->mb x=bootBuiltins x) (hlim:s₁.heap.NoLimit) (hg:s₁.gens=#[])
 (ha:s₁.heap.get? a=some { cls:=.type "list",data:=.seq vs.toArray }) (hi:IntsAre vs ns) (hl:ns.length<=sizeLine) (hr:Room k callerA)
 (F:∀ base:Heap,K.In base->base.Ns mainGlobals mg->FnOk P w K mg base CX k fa fd [x] sp) (hbind:∀ (s:Shared) (u:Value),BindsTo s fd ⟨[u],[]⟩ [(x,u)])
 (hsp:∀ H:Hp,y0 H->SqL K H a (ns.map V.int)->sp [.ref a] H (fun v _=>v=.bl true) fun _ _ _=>False)
 (hCX:∀ H e s',CX [] H s₁ (fun _ _ _=>False) e s'->False) :
 codeAny (model P w) callerA (.call (.ref fa) ⟨[.ref a],[]⟩) (fun r s'=>r=.ok (.ret (.bool true))/\OldK s₁.heap s'.heap/\s'.os=s₁.os/\AllBare s'.gens) s₁:=by
 have rv:=lO hi;have lenV:=hi.length;have core:∀ H:Hp,y0 H->SqL K H a (ns.map V.int)->HOk P w H s₁.heap->(∀ b,H b≠none->b=a)->(H a≠none->K.lookup a=none) ->
  codeAny (model P w) callerA (.call (.ref fa) ⟨[.ref a],[]⟩) (fun r s'=>r=.ok (.ret (.bool true))/\OldK s₁.heap s'.heap/\s'.os=s₁.os/\AllBare s'.gens) s₁:=by
  intro H hO hS hok hA hK;have base_of:∀ {b:Addr} {o:Obj},s₁.heap.get? b=some o->H b=none->(uA s₁.heap H).get? b=some o:=fun e n=>M7 e n;have noA:∀ {b:Addr} {o:Obj} {es:Array DictEntry} {ep:Nat},s₁.heap.get? b=some o->o.data=.dict es ep->H b=none:=fun {b o es ep} e d=>by
   cases q:H b with
   | none=>rfl
   | some u =>
    have e':b=a:=hA b (by rw[q];simp);subst e';rw[ha]at e;cases e;have d':Data.seq vs.toArray _=Data.dict es ep:=d;cases d'
  have nsK:∀ {b:Addr} {m:Str->Option Value},s₁.heap.Ns b m->(uA s₁.heap H).Ns b m:=fun {b m} ⟨o,es,ep,e,d,r⟩=>⟨o,es,ep,base_of e (noA e d),d,r⟩;have hKb:K.In (uA s₁.heap H):=fun b o e=>base_of (KX b o e) (by
   cases q:H b with
   | none=>rfl
   | some u =>
    have e':b=a:=hA b (by rw[q];simp);subst e';rw[hK (by rw[q];simp)]at e;cases e)
  have hM:Mod K mg (uA s₁.heap H):=⟨hKb,nsK hns,⟨mb,nsK hb,hbb⟩,let ⟨mc,h1,h2⟩:=hlim;⟨mc,nsK h1,h2⟩⟩;have e0:X9 P w K mg (uA s₁.heap H) callerA [] s₁ H:=⟨rfl,hM,fun b o e=>X6 e,Nat.le_of_eq (D3 _ _),trivial,fun b hb=>absurd (show b∈([]:List Addr) from hb) (by simp),hok,.of_eq hg⟩;refine codeAny_mono ((F _ hKb (nsK hns)).run callerA [] s₁ H ⟨[.ref a],[]⟩ [.ref a] [.ref a] _ _ hr e0 (hbind s₁ (.ref a)) (.cons rfl .nil) (hsp H hO hS)) fun r s' h=>?_;cases r with
  | error e=>exact(hCX H e s' h).elim
  | ok fl =>
   cases fl with
   | next=>exact False.elim h
   | brk=>exact False.elim h
   | cont=>exact False.elim h
   | ret u =>
    obtain⟨v,H',os,bare,un,hok',r',q⟩:=h;have q':v=.bl true:=q;subst q';obtain rfl:u=Value.bool true:=r';refine⟨rfl,OldK.of_keep fun b o e=>?_,os,bare⟩;cases q:H b with
    | none=>exact un.keep b o e q (by intro z;exact absurd (show b∈([]:List Addr) from z) (by simp)) (by simp)
    | some u =>
     rcases hO b with z | ⟨ob,xs,z⟩
     ·rw[q]at z;cases z
     ·have z2:=un.frzs b ob _ z;obtain⟨e1,_⟩:=hok b _ z;obtain⟨e2,_⟩:=hok' b _ z2;rw[e]at e1;cases e1;exact e2
 cases hk:K.lookup a with
 | some o =>
  have e:=KX a o hk;rw[ha]at e;cases e;refine core (fun _=>none) (fun _=>.inl rfl) (.inr ⟨_,vs.toArray,_,hk,rfl,rfl,rfl,by rw[aBc,lenV];exact hl,by simpa using rv⟩) (fun b u z=>by have z':(none:Option HO)=some u:=z;cases z') (fun b z=>absurd rfl z) fun z=>absurd rfl z
 | none =>
  refine core (fun b=>if b=a then some (.frz { cls:=.type "list",data:=.seq vs.toArray } (.lst (ns.map V.int)))else none) (fun b=>?_) (.inl (.inr ⟨{ cls:=.type "list",data:=.seq vs.toArray },if_pos rfl⟩)) (fun b u z=>?_) (fun b z=>?_) fun _=>hk
  ·by_cases hb:b=a
   ·exact .inr ⟨_,_,if_pos hb⟩
   ·exact .inl (if_neg hb)
  ·by_cases hb:b=a
   ·have z':=(if_pos hb).symm.trans z;cases z';subst hb;exact⟨ha,by rw[aB4];exact hl,vs,_,rv,ha⟩
   ·have z':=(if_neg hb).symm.trans z;cases z'
  ·by_cases hb:b=a
   ·exact hb
   ·exact absurd (if_neg hb) z
theorem walk_of {l:PySem.W.OpenLaw} {n k:Nat} {q:Program} {loose:List Str} {XP:(Str->Option Value)->Heap->Prop} {YP:World->Heap->Prop} {d:DefRec} {K:Params->PySem.W.Frag} {CX:World->CXT} {sp:World->Sp} {x:Str}
 (hn:l.most=some n) (hn2:n<=sizeLine) (hdf:d.params.defaults=[]) (hr:Room k callerA)
 (hY:∀ (w:World) (h:Heap),YP w h->(K w.params).In h)
 (F:∀ (w:World) (mg:Str->Option Value) (fa:Addr) (h:Heap),(K w.params).In h->h.Ns mainGlobals mg->mg d.name=some (.ref fa) ->
  ∃ fd:FuncData,(∀ (s:Shared) (u:Value),BindsTo s fd ⟨[u],[]⟩ [(x,u)]) /\
   ∀ base:Heap,(K w.params).In base->base.Ns mainGlobals mg->FnOk l.prog w (K w.params) mg base (CX w) k fa fd [x] (sp w))
 (hsp:∀ (w:World) (H:Hp) (a:Addr) (ns:List Int),ns.length<=n->y0 H->SqL (K w.params) H a (ns.map V.int)->sp w [.ref a] H (fun v _=>v=.bl true) fun _ _ _=>False)
 (hCX:∀ (w:World) (H:Hp) (s:Shared) (e:Value) (s':Shared),CX w [] H s (fun _ _ _=>False) e s'->False) :
 PySem.W.WalkO q loose XP YP l.row.toRowW d [] (fun f vs=>PySem.call f vs):=by
 refine Att.attach_call hn hdf fun w s₀ s₁ mg mb fa o pm cd doc a vs ns G Y ho hd hcd hmg hobj hints hlen hg=>?_;have KX:=hY w _ Y;obtain⟨fd,hb,hF⟩:=F w mg fa _ KX G.T.g hmg;exact O7 KX G.T.g G.T.b G.T.builtins G.T.nolimit hg hobj hints (Nat.le_trans hlen hn2) hr hF hb (fun H hO hS=>hsp w H a ns hlen hO hS) fun H e s'=>hCX w H s₁ e s'
def aP (s:Stmt):Arguments:=match s with
 | .FunctionDef _ a _ _ _ _ _ _ _ _=>a
 | _=>{ posonlyargs:=[],args:=[],vararg:=none,kwonlyargs:=[],kw_defaults:=[],kwarg:=none,defaults:=[] }
def aN (s:Stmt):List Stmt:=match s with
 | .FunctionDef _ _ b _ _ _ _ _ _ _=>b
 | _=>[]
def aD (s:Stmt):Scope:=match s with
 | .FunctionDef _ _ _ _ _ _ sc _ _ _=>sc
 | _=>{ kind:=.function,names:=[],isGenerator:=false,isCoroutine:=false }
abbrev CX0:CXT:=fun _ _ _ _ _ _=>False
abbrev E0:XK:=fun _ _ _=>False
theorem aAh {X:Cx}:yF CX0 X E0:=fun _ _ _ _ _ _ _ h=>h.elim
structure Fun (K:PySem.W.Frag) (x qual:Str) (st:Stmt) (f:Addr) (fd:FuncData):Prop where
 ex:∃ (oc:Value) (od:Option Addr) (kV doc pm:Value) (an:Option Addr) (cdv ct:Value) (osl:Array (Option Value)),
  fd=PySem.W.fnOf x qual (aP st) (aN st) (aD st) .none kV doc pm an cdv ct/\K.lookup f=some ⟨oc,od,.func fd,osl⟩/\PySem.W.codeIn K cdv qual=true
 kp:PySem.W.keepIn K (.ref f)=true
section
variable {P:Program} {w:World} {K:PySem.W.Frag} {mg:Str->Option Value} {base:Heap}
theorem Fun.ok {x qual:Str} {st:Stmt} {f:Addr} {fd:FuncData} {N ps:List Str} {k:Nat} {sp:Sp} (F:Fun K x qual st f fd) (S:aQ N ps (aD st)) (len:∀ vs H Q E,sp vs H Q E->vs.length=ps.length)
 (hbody:∀ (cdv:Value) (A:Around) (outer:List Env) (s:Shared) (H:Hp) (vs:List V) (Q:VK) (E:XK),Room k (A.deeper (envOfC qual (aD st) s.heap.objs.size f cdv))->sp vs H Q E ->
  ∃ t,PSs (wG CX0 P w K mg base N qual (aD st) f cdv A outer s H E).nox (aN st) t/\t { nx:=fun _ H'=>Q .non H',rt:=Q } (mE N vs) H):FnOk P w K mg base CX0 (k+1) f fd ps sp:=by
 obtain⟨oc,od,kV,doc,pm,an,cdv,ct,osl,rfl,lk,hcd⟩:=F.ex;refine O3 lk hcd S len fun A outer s H vs Q E hr hsp=>?_;obtain⟨t,h,q⟩:=hbody cdv A outer s H vs Q E hr hsp;exact⟨t,h.nox,q⟩
theorem Fun.binds {x qual:Str} {st:Stmt} {f:Addr} {fd:FuncData} {ps:List Str} (F:Fun K x qual st f fd)
 (h:∀ (kV doc pm:Value) (an:Option Addr) (cdv ct:Value) (us:List Value),us.length=ps.length->bindArgs (PySem.W.fnOf x qual (aP st) (aN st) (aD st) .none kV doc pm an cdv ct) ⟨us,[]⟩=pure (ps.zip us)):Binds K fd ps []:=by
 obtain⟨oc,od,kV,doc,pm,an,cdv,ct,osl,rfl,lk,hcd⟩:=F.ex;exact .all (h kV doc pm an cdv ct)
theorem bD {x qual:Str} {st:Stmt} {f:Addr} {oc:Value} {od an:Option Addr} {osl:Array (Option Value)} {kV doc pm cdv ct:Value} (l:K.lookup f=some ⟨oc,od,.func (PySem.W.fnOf x qual (aP st) (aN st) (aD st) .none kV doc pm an cdv ct),osl⟩)
 (c:PySem.W.codeIn K cdv qual=true) (k:PySem.W.keepIn K (.ref f)=true):Fun K x qual st f (PySem.W.fnOf x qual (aP st) (aN st) (aD st) .none kV doc pm an cdv ct):=⟨⟨oc,od,kV,doc,pm,an,cdv,ct,osl,rfl,l,c⟩,k⟩
end
theorem qG {A:Around} {k:Nat} (hr:Room k A):A.units+1<cLine:=Nat.lt_of_le_of_lt (Nat.add_le_add_left (by decide:1<=64) _) hr.units
section
variable {X:Cx}
theorem pv (i:Nat) {x:Str} {pos:Pos} (hN:X.N[i]?=some x:=by rfl) (hv:Vis X.env.scope x:=by first | exact Or.inl rfl | exact Or.inr (Or.inl rfl) | exact Or.inr (Or.inr rfl)) (hd:(x == ("__debug__":Str))=false:=by decide)
 (hcd:(x == ("__classdict__":Str))=false:=by decide):PE X (.Name x pos) (aAW i):=r8 hN hv hd hcd
end
def Same (H H':Hp):Prop:=∀ b o,H b=some o->H' b=some o
theorem Same.refl (H:Hp):Same H H:=fun _ _ h=>h
theorem Same.trans {H H1 H2:Hp} (a:Same H H1) (b:Same H1 H2):Same H H2:=fun c o h=>b c o (a c o h)
theorem Same.free {H H':Hp} (e:Same H H') {l:Addr} (h:H' l=Option.none):H l=Option.none:=by
 cases q:H l with
 | none=>rfl
 | some o =>
  rw[e l o q]at h;cases h
theorem Same.seq {K:PySem.W.Frag} {H H':Hp} {a:Addr} {xs:List V} (e:Same H H') (h:SqL K H a xs):SqL K H' a xs:=by
 rcases h with (h | ⟨o,h⟩) | h
 ·exact .inl (.inl (e _ _ h))
 ·exact .inl (.inr ⟨o,e _ _ h⟩)
 ·exact .inr h
def fH (scope:Scope) (env:Env):List (Str×Addr) :=
 scope.names.foldl (fun acc y=>if y.2 == .free then (match env.cells.lookup y.1 with | some c=>(y.1,c) :: acc | none=>acc)else acc) []
theorem oM {env:Env}:∀ (names:List (Str×NameKind)) (acc:List (Str×Addr)),(∀ y∈names,y.2=.free->∃ c,env.cells.lookup y.1=some c) ->
 (forIn names acc fun(y:Str×NameKind) (r:List (Str×Addr))=>(match y with | (name,kind)=>if (kind == NameKind.free)=true then (do let a <- cellOf env name;pure (ForInStep.yield ((name,a) :: r)))else pure (ForInStep.yield r):Sem (ForInStep (List (Str×Addr))))) =
  pure (names.foldl (fun acc y=>if y.2 == .free then (match env.cells.lookup y.1 with | some c=>(y.1,c) :: acc | none=>acc)else acc) acc)
 | [],acc,_=>rfl
 | (n,k) :: r,acc,h=>by
  rw[List.forIn_cons,aBv];have ih:=fun acc=>oM (env:=env) r acc fun y hy=>h y (aB7 _ hy)
  by_cases hk:k=.free
  ·subst hk;obtain⟨c,e⟩:=h (n,.free) aB6 rfl;have e':env.cells.lookup n=some c:=e;simp only[cellOf,e',beq_self_eq_true,if_true];exact ih _
  ·have hb:(k == NameKind.free)=false:=by simpa using hk
   simp only[hb,Bool.false_eq_true,if_false];exact ih _
theorem pM {scope:Scope} {env:Env} (h:∀ y∈scope.names,y.2=.free->∃ c,env.cells.lookup y.1=some c):closureFor scope env=pure (fH scope env):=by
 have e:=oM (env:=env) scope.names [] h;unfold closureFor fH;rw[<- e]
 first | rfl | simp
theorem sT {env:Env} {x:Str} {c:Addr}:∀ (names:List (Str×NameKind)) (acc:List (Str×Addr)),(∀ z d,acc.lookup z=some d->env.cells.lookup z=some d) ->
 (names.foldl (fun acc y=>if y.2 == .free then (match env.cells.lookup y.1 with | some c=>(y.1,c) :: acc | none=>acc)else acc) acc).lookup x=some c->env.cells.lookup x=some c
 | [],acc,h,e=>h x c e
 | (n,k) :: r,acc,h,e=>by
  rw[aBv]at e;refine sT r _ ?_ e;intro z d q
  by_cases hk:(k == NameKind.free)=true
  ·simp only[hk,if_true]at q;cases el:env.cells.lookup n with
   | none=>simp only[el]at q;exact h z d q
   | some a =>
    simp only[el,List.lookup_cons]at q
    by_cases hz:(z == n)=true
    ·simp only[hz]at q;have:z=n:=by simpa using hz
     subst this;rw[el];exact q
    ·have hz':(z == n)=false:=by simpa using hz
     simp only[hz']at q;exact h z d q
  ·simp only[hk,if_false]at q;exact h z d q
theorem dU {scope:Scope} {env:Env} {x:Str} {c:Addr} (e:(fH scope env).lookup x=some c):env.cells.lookup x=some c:=sT _ _ (fun _ _ q=>by simp at q) e
theorem mF {env:Env} {x:Str}:∀ (names:List (Str×NameKind)) (acc:List (Str×Addr)),(∀ y∈names,y.2=.free->∃ c,env.cells.lookup y.1=some c)->((x,NameKind.free)∈names\/(acc.lookup x).isSome=true) ->
 ((names.foldl (fun acc y=>if y.2 == .free then (match env.cells.lookup y.1 with | some c=>(y.1,c) :: acc | none=>acc)else acc) acc).lookup x).isSome=true
 | [],acc,_,h=>by
  rcases h with h | h
  ·cases h
  ·exact h
 | (n,k) :: r,acc,hc,h=>by
  rw[aBv];refine mF r _ (fun y hy=>hc y (aB7 _ hy)) ?_;rcases h with h | h
  ·rcases aCG.mp h with h | h
   ·cases h;obtain⟨c,e⟩:=hc (x,.free) aB6 rfl;have e':env.cells.lookup x=some c:=e;right
    simp[e',List.lookup_cons]
   ·exact .inl h
  ·right
   by_cases hk:(k == NameKind.free)=true
   ·simp only[hk,if_true];cases el:env.cells.lookup n with
    | none=>exact h
    | some a =>
     simp only[List.lookup_cons]
     by_cases hz:(x == n)=true
     ·simp[hz]
     ·have hz':(x == n)=false:=by simpa using hz
      simp only[hz'];exact h
   ·simp only[hk];exact h
theorem lP {scope:Scope} {env:Env} {x:Str} (hc:∀ y∈scope.names,y.2=.free->∃ c,env.cells.lookup y.1=some c) (h:(x,NameKind.free)∈scope.names):∃ c,(fH scope env).lookup x=some c :=
 Option.isSome_iff_exists.mp (mF _ _ hc (.inl h))
def cA (sc inn:Scope) (N:List Str) (js:List Nat) (cs:List Str):Bool :=
 (inn.kind == .function) && inn.names.all (fun y=>y.2 != .cell && (y.2 != .local || inn.names.lookup y.1 == some .local) && (y.2 != .free || (sc.names.lookup y.1 == some .cell || sc.names.lookup y.1 == some .free))) &&
 (js.map fun j=>N[j]?) == cs.map some && cs.all (fun x=>inn.names.lookup x == some .free)
structure CompOk (sc inn:Scope) (N:List Str) (js:List Nat) (cs:List Str):Prop where
 kind:inn.kind=.function
 nocell:∀ y∈inn.names,y.2≠.cell
 names:∀ y∈inn.names,y.2=.local->inn.names.lookup y.1=some .local
 frees:∀ y∈inn.names,y.2=.free->sc.names.lookup y.1=some .cell\/sc.names.lookup y.1=some .free
 slots:(js.map fun j=>N[j]?)=cs.map some
 caps:∀ x∈cs,inn.names.lookup x=some .free
theorem CompOk.of {sc inn:Scope} {N:List Str} {js:List Nat} {cs:List Str} (h:cA sc inn N js cs=true):CompOk sc inn N js cs:=by
 unfold cA at h;simp only[Bool.and_eq_true]at h;obtain⟨⟨⟨h1,h2⟩,h3⟩,h4⟩:=h;rw[List.all_eq_true]at h2 h4;refine⟨by simpa using h1,fun y hy=>?_,fun y hy e=>?_,fun y hy e=>?_,by simpa using h3,fun x hx=>by simpa using h4 x hx⟩
 ·have:=h2 y hy;simp only[Bool.and_eq_true]at this;simpa using this.1.1
 ·have:=h2 y hy;simp only[Bool.and_eq_true,e]at this;simpa using this.1.2
 ·have:=h2 y hy;simp only[Bool.and_eq_true,e]at this;simpa using this.2
def sIn (nt:Nat) (js:List Nat) (σ:St):St:=List.replicate nt none++js.map fun j=>(σ[j]?).join
def fI (X:Cx) (inn:Scope) (N':List Str) (s₀:Shared) (H₀:Hp) (ex:List Addr):Cx where
 prog:=X.prog
 w:=X.w
 K:=X.K
 mg:=X.mg
 base:=X.base
 A:=X.A
 N:=N'
 s₀:=s₀
 H₀:=H₀
 env:=compEnvC inn (fH inn X.env) s₀.heap.objs.size X.env
 outer:=X.stack
 stack:=X.stack
 ex:=ex
 fn:=fun _=>false
 calm:=X.calm
 pn:=[]
 xe:=fun _ _=>False
def PIf (X:Cx) (ifs:List Expr) (t:TT):Prop :=
 ∀ (pins:List (Addr×Obj)) (s:Shared) (σ:St) (H:Hp) (Q:Bool->Hp->Prop),Inv X pins σ H s->t σ H Q ->
  wpAny (model X.prog X.w) X.A (forIn ifs true fun c r=>if r=true then do let ok <- isTrue c X.env (eval c X.env);pure (ForInStep.yield ok)else pure (ForInStep.yield r)) (TP X pins σ Q) X.xe s
def aBR:TT:=fun _ H Q=>Q true H
theorem cD {X:Cx}:PIf X [] aBR:=fun _ _ _ H _ I h=>wpAny_tests_nil ⟨H,I,h⟩
theorem jV {X:Cx} {c:Expr} {t:TT} (h:PT X c t):PIf X [c] t:=fun pins s σ H Q I hw=>wpAny_tests_one (h pins s σ H Q I hw)
def oN (J:It) (σ0:St) (g:TG) (tt:TT) (te:TE) (Q:VK) (H1:Hp):Prop:=∃ W:Nat->Nat->List V->Hp->Prop,(∃ m,W 0 m [] H1)/\∀ i m ys H,W i m ys H ->
 ys.length<sizeLine/\((J.stop i H/\∀ D,H D=none->Q (.ref D) (upd H D (.lst ys))) \/
  (J.go i H/\∃ N:List V->Hp->Prop,(∀ ys' H',N ys' H'->∃ m',m'<m/\W (i+1) m' ys' H')/\∀ x H',J.yld i H x H'->g x σ0 H' fun σ2 H2=>tt σ2 H2 fun b H3 =>
   if b=true then te σ2 H3 fun y H4=>N (ys++[y]) H4 else N ys H3))
def O8 (wi:TI) (nt:Nat) (js:List Nat) (g:TG) (tt:TT) (te:TE):TE:=fun σ H Q=>wi σ H fun J H1=>oN J (sIn nt js σ) g tt te Q H1
theorem eG {env:Env}:∀ {names:List (Str×NameKind)} {x:Str},names.lookup x=some .free ->
 (names.map fun(n,k)=>if (k == NameKind.free && env.scope.kind == .function && env.kindOf n == some .cell)then (n,NameKind.cell)else (n,k)).lookup x=some .cell \/
 (names.map fun(n,k)=>if (k == NameKind.free && env.scope.kind == .function && env.kindOf n == some .cell)then (n,NameKind.cell)else (n,k)).lookup x=some .free
 | [],_,h=>by simp at h
 | (n,k) :: r,x,h=>by
  have ih:=@eG env r x;show List.lookup x ((if (k == NameKind.free && env.scope.kind == .function && env.kindOf n == some .cell)=true then (n,NameKind.cell)else (n,k)) :: _)=_\/List.lookup x ((if (k == NameKind.free && env.scope.kind == .function && env.kindOf n == some .cell)=true then (n,NameKind.cell)else (n,k)) :: _)=_;cases hx:x == n with
  | true =>
   simp only[List.lookup_cons,hx]at h;cases h
   by_cases hc:(NameKind.free == NameKind.free && env.scope.kind == .function && env.kindOf n == some .cell)=true
   ·left;rw[if_pos hc];simp[List.lookup_cons,hx]
   ·right;rw[if_neg hc];simp[List.lookup_cons,hx]
  | false =>
   simp only[List.lookup_cons,hx]at h
   by_cases hc:(k == NameKind.free && env.scope.kind == .function && env.kindOf n == some .cell)=true
   ·rw[if_pos hc];simp only[List.lookup_cons,hx];exact ih h
   ·rw[if_neg hc];simp only[List.lookup_cons,hx];exact ih h
theorem kK {env:Env}:∀ {names:List (Str×NameKind)} {x:Str},(∀ y∈names,y.2≠NameKind.cell) ->
 ((names.map fun(n,k)=>if (k == NameKind.free && env.scope.kind == .function && env.kindOf n == some .cell)then (n,NameKind.cell)else (n,k)).lookup x=some .cell \/
 (names.map fun(n,k)=>if (k == NameKind.free && env.scope.kind == .function && env.kindOf n == some .cell)then (n,NameKind.cell)else (n,k)).lookup x=some .free)->(x,NameKind.free)∈names
 | [],_,_,h=>by simp at h
 | (n,k) :: r,x,hn,h=>by
  have ih:=@kK env r x (fun y hy=>hn y (aB7 _ hy));have hk:=hn (n,k) aB6;rw[aBt]at h;cases hx:x == n with
  | true =>
   have e:x=n:=by simpa using hx
   subst e
   by_cases hc:(k == NameKind.free && env.scope.kind == .function && env.kindOf x == some .cell)=true
   ·have:k=.free:=by simp only[Bool.and_eq_true]at hc;simpa using hc.1.1
    subst this;exact aB6
   ·simp only[if_neg hc,List.lookup_cons,hx]at h;rcases h with h | h
    ·cases h;exact absurd rfl hk
    ·cases h;exact aB6
  | false =>
   refine aB7 _ (ih ?_)
   by_cases hc:(k == NameKind.free && env.scope.kind == .function && env.kindOf n == some .cell)=true
   ·simp only[if_pos hc,List.lookup_cons,hx]at h;exact h
   ·simp only[if_neg hc,List.lookup_cons,hx]at h;exact h
section
variable {X:Cx} {pins:List (Addr×Obj)} {σ:St} {H H':Hp} {s:Shared} {inn:Scope} {js:List Nat} {cs ts:List Str} {nt:Nat}
theorem lQ {i:Nat} {v:V} (h:(sIn nt js σ)[i]?=some (some v)):nt<=i/\∃ j,js[i - nt]?=some j/\σ[j]?=some (some v):=by
 unfold sIn at h
 by_cases hi:i<nt
 ·rw[List.getElem?_append_left (by simpa using hi),List.getElem?_replicate]at h;split at h <;> cases h
 ·rw[List.getElem?_append_right (by simpa using hi),aBo,aBs]at h;refine⟨by omega,?_⟩;cases e:js[i - nt]? with
  | none=>rw[e]at h;cases h
  | some j =>
   rw[e]at h;have h':(σ[j]?).join=some v:=Option.some.inj h;refine⟨j,rfl,?_⟩;cases q:σ[j]? with
   | none=>rw[q]at h';cases h'
   | some o =>
    rw[q]at h';have h'':o=some v:=h';rw[h'']
theorem aAi {ex:List Addr} (I:Inv X pins σ H s) (O:CompOk X.env.scope inn X.N js cs) (hex:∀ b∈ex,b<s.heap.objs.size/\b≠X.env.locals/\b∉X.fs/\(∀ x c,X.env.cells.lookup x=some c->c≠b)/\∀ o,X.base.get? b≠some o) :
 (fI X inn (ts++cs) s H ex).Ok where
 mod:=I.ok.mod
 kind:=O.kind
 glob:=I.ok.glob
 blt:=I.ok.blt
 above:=Nat.le_refl _
 inj:=fun x y c h1 h2=>I.ok.inj x y c (dU h1) (dU h2)
 has:=fun x hx=>by
  have hm:(x,NameKind.free)∈inn.names:=kK O.nocell hx;exact lP (fun y hy e=>I.ok.has y.1 (O.frees y hy e)) hm
 cab:=fun _ _ h=>absurd h (by show ¬ (false=true);decide)
 hd:=I.ok.hd
 frames:=I.ok.frames
 stk:=.inl rfl
 exf:=fun b hb=>⟨aBr (hex b hb).1,fun x c e=>(hex b hb).2.2.2.1 x c (dU e)⟩
 bs:=I.bs
 bsz:=Nat.le_trans I.ok.bsz I.sz
 noex:=fun b o e hb=>(hex b hb).2.2.2.2 o e
 exfs:=fun b hb hs=>by
  rcases aCG.mp (I.stkSub b hs)with e | e
  ·exact(hex b hb).2.1 e
  ·exact(hex b hb).2.2.1 e
 funs:=I.stack
 frf:=I.stkFree
theorem O9 {ex:List Addr} {h':Heap} {tk:Nat} (hts:ts.length=nt) (I:Inv X pins σ H s) (O:CompOk X.env.scope inn X.N js cs) (hex:∀ b∈ex,b<s.heap.objs.size/\b≠X.env.locals/\b∉X.fs/\(∀ x c,X.env.cells.lookup x=some c->c≠b)/\∀ o,X.base.get? b≠some o)
 (hn:∃ m,h'.Ns s.heap.objs.size m) (hk:∀ b o,s.heap.get? b=some o->h'.get? b=some o) :
 Inv (fI X inn (ts++cs) s H ex) [] (sIn nt js σ) H { s with heap:=h',toks:=tk }:=by
 have ok:(fI X inn (ts++cs) s H ex).Ok:=aAi I O hex;obtain⟨m,hn⟩:=hn;have cellK:∀ c v,s.heap.IsCell c v->h'.IsCell c v:=fun c v ⟨o,ho,hd⟩=>⟨o,hk c o ho,hd⟩;have hlen:js.length=cs.length:=by have:=congrArg List.length O.slots;simpa using this
 refine⟨ok,rfl,I.bare,Un.kept hk,⟨m,hn,fun i x v e1 e2 e3=>?_⟩,fun x c e=>?_,I.hok.fresh (Nat.le_refl _),fun x c e=>I.freeC x c (dU e),fun p hp=>?_,I.hok.kept hk,?_⟩
 ·obtain⟨hi,j,hj,hv⟩:=lQ e2;have e1':(ts++cs)[i]?=some x:=e1;rw[List.getElem?_append_right (by omega),hts]at e1';have hN:X.N[j]?=some x:=by
   have q:(js.map fun j=>X.N[j]?)[i - nt]?=(cs.map some)[i - nt]?:=by rw[O.slots]
   rw[aBs,aBs,hj,e1']at q;exact Option.some.inj q
  have hcap:=O.caps x (aBf e1');have hmem:(x,NameKind.free)∈inn.names:=PySem.mem_of_lookup hcap;have hout:=O.frees _ hmem rfl;obtain⟨mo,hno,hl⟩:=I.loc;obtain⟨u,r,l⟩:=hl j x v hN hv (.inr hout);refine⟨u,r,.inr ?_⟩;rcases l with ⟨l1,_⟩ | ⟨k,c,ec,z⟩
  ·have l1':X.env.scope.names.lookup x=some .local:=l1;rcases hout with q | q <;> (rw[q]at l1';cases l1')
  ·refine⟨?_,?_⟩
   ·exact eG (env:=X.env) hcap
   ·obtain⟨c',ec'⟩:=lP (env:=X.env) (fun y hy e=>I.ok.has y.1 (O.frees y hy e)) hmem;have:=dU ec';rw[ec]at this;cases this;exact⟨c,ec',cellK _ _ z⟩
 ·obtain⟨v,z⟩:=I.cell x c (dU e);exact⟨v,cellK _ _ z⟩
 ·exact absurd (show p∈([]:List (Addr×Obj)) from hp) (by simp)
 ·show (sIn nt js σ).length=(ts++cs).length;unfold sIn;simp[hts,hlen]
theorem Inv.track {a:Addr} {o:HO} (I:Inv X pins σ H s) (hn:H a=none) (h0:X.s₀.heap.objs.size<=a) (hL:a≠X.env.locals) (hc:∀ x c,X.env.cells.lookup x=some c->c≠a) (hp:∀ p∈X.pn++pins,p.1≠a)
 (new:ObjOk X.prog X.w (upd H a o) s.heap a o):Inv X pins σ (upd H a o) s:=by
 have ne0:∀ b ob,X.s₀.heap.get? b=some ob->b≠a:=fun b ob e=>aBr (aBl (aBa e) h0);have neT:∀ b u,H b=some u->b≠a:=fun b u e=>aV e hn;refine⟨I.ok,I.os,I.bare,⟨I.base.keep,I.base.slot,fun b ob e n hx=>?_,I.base.there,fun b xs e=>?_,fun b ob u e=>?_,fun b ps e=>?_⟩,I.loc,I.cell,?_,fun x c e=>?_,fun p hp'=>?_,fun b u e=>?_,I.len⟩
 ·rw[aG (ne0 b ob e)];exact I.base.free b ob e n hx
 ·have q:=I.base.tups b xs e;rw[aG (neT b _ q)];exact q
 ·have q:=I.base.frzs b ob u e;rw[aG (neT b _ q)];exact q
 ·obtain⟨more,q⟩:=I.base.tbls b ps e;exact⟨more,by rw[aG (neT b _ q)];exact q⟩
 ·rw[aG (Ne.symm hL)];exact I.free
 ·rw[aG (hc x c e)];exact I.freeC x c e
 ·obtain⟨q1,q2,q3,q4,q5⟩:=I.pin p hp';exact⟨q1,by rw[aG (hp p hp')];exact q2,q3,q4,q5⟩
 ·by_cases hb:b=a
  ·subst hb;rw[aB]at e;cases e;exact new
  ·rw[aG hb]at e;exact(I.hok b u e).stay (fun _ _ _ q=>q) (fun c q=>by rw[aG (neT c _ q)];exact q) fun c xs q=>by rw[aG (neT c _ q)];exact q
end
def GK (nt:Nat) (g:TG):Prop:=∀ v σ H Q,g v σ H Q->g v σ H fun σ' H'=>((∀ i,nt<=i->σ'[i]?=σ[i]?)/\σ'.length=σ.length)/\Q σ' H'
def GKs (nt:Nat) (g:TGs):Prop:=∀ vs σ H Q,g vs σ H Q->g vs σ H fun σ' H'=>((∀ i,nt<=i->σ'[i]?=σ[i]?)/\σ'.length=σ.length)/\Q σ' H'
theorem fB {nt i:Nat} (h:i<nt):GK nt (sL i):=fun v σ H Q q=>⟨⟨fun j hj=>by rw[List.getElem?_set_ne (by omega)],by simp⟩,q⟩
theorem dC {nt:Nat}:GKs nt aA2:=fun vs σ H Q ⟨e,q⟩=>⟨e,⟨fun _ _=>rfl,rfl⟩,q⟩
theorem bA {nt i:Nat} {u:TGs} (h:i<nt) (hu:GKs nt u):GKs nt (o3 (sL i) u):=fun vs σ H Q q=>by
 obtain⟨v,r,e,q⟩:=q;refine⟨v,r,e,?_⟩;have q':u r (σ.set i (some v)) H Q:=q;have w:=hu r (σ.set i (some v)) H Q q';have e1:∀ j,nt<=j->(σ.set i (some v))[j]?=σ[j]?:=fun j hj=>by rw[List.getElem?_set_ne (by omega)]
 have:(fun(σ':St) (H':Hp)=>((∀ j,nt<=j->σ'[j]?=(σ.set i (some v))[j]?)/\σ'.length=(σ.set i (some v)).length)/\Q σ' H')=fun σ' H'=>((∀ j,nt<=j->σ'[j]?=σ[j]?)/\σ'.length=σ.length)/\Q σ' H':=by
  funext σ' H'
  apply propext
  constructor
  ·rintro ⟨⟨a,b⟩,c⟩;exact⟨⟨fun j hj=>(a j hj).trans (e1 j hj),by simpa using b⟩,c⟩
  ·rintro ⟨⟨a,b⟩,c⟩;exact⟨⟨fun j hj=>(a j hj).trans (e1 j hj).symm,by simpa using b⟩,c⟩
 rw[this]at w;exact w
theorem eN {K:PySem.W.Frag} {nt n:Nat} {t:TGs} (h:GKs nt t):GK nt (u3 K n t):=fun v σ H Q ⟨a,xs,e,hq,hl,q⟩=>⟨a,xs,e,hq,hl,h xs σ H Q q⟩
section
variable {X:Cx} {pins:List (Addr×Obj)} {σ:St} {inn:Scope} {js:List Nat} {cs ts:List Str} {nt:Nat} {elt tg iter:Expr} {ifs:List Expr} {pos:Pos} {g:TG} {tt:TT} {te:TE}
theorem sU {J:It} {fp:List Addr} {it:Addr} {tn:Nat->Heap->Prop} {H2:Hp} {s2:Shared} {E:Value->Shared->Prop} {Q:VK} {RR:Value->Addr->Result->Shared->Prop}
 (hcalm:X.calm=true) (O:CompOk X.env.scope inn X.N js cs) (hts:ts.length=nt)
 (hg:∀ s₀ H₀ ex,PG (fI X inn (ts++cs) s₀ H₀ ex) tg g) (hk:GK nt g) (ht:∀ s₀ H₀ ex,PIf (fI X inn (ts++cs) s₀ H₀ ex) ifs tt) (he:∀ s₀ H₀ ex,PE (fI X inn (ts++cs) s₀ H₀ ex) elt te)
 (I2:Inv X pins σ H2 s2) (T:pB X.prog X.w X.K tg J fp it tn) (st2:tn 0 s2.heap) (f2:∀ b∈fp,iT X pins H2 b)
 (R:oN J (sIn nt js σ) g tt te Q H2)
 (hRR:∀ D C s' H',Inv X pins σ H' s'->(∃ m,s'.heap.Ns C m)->H' C=none->C≠X.env.locals->X.s₀.heap.objs.size<=C->(∀ x c,X.env.cells.lookup x=some c->c≠C)->(∀ p∈X.pn++pins,p.1≠C)->Q (.ref D) H'->RR (.ref D) C (.ok .next) s') :
 wpAny (model X.prog X.w) X.A (newList []) (fun acc s₃=>wpAny (model X.prog X.w) X.A (newFunctionEnv inn X.env.globals (fH inn X.env) [] X.env.qual none .none (some X.env)) (fun cenv s₄ =>
  codeAny (model X.prog X.w) X.A (.compStart (.ListComp elt [⟨tg,iter,ifs,0⟩] inn pos) 0 (.ref it) acc { cenv with scope:=relabel inn X.env }) (RR acc cenv.locals) s₄) E s₃) E s2:=by
 refine wpAny_newObj_type (wpAny_newFunctionEnv O.nocell (by intro y hy;simp at hy) (fun h₁ hns₁ hsb₁=>?_) O.kind);dsimp only at hns₁ hsb₁ ⊢;generalize hD:s2.heap.objs.size=D;have I3:Inv X pins σ H2 { s2 with heap:=s2.heap.push { cls:=.type "list",dict:=none,data:=.seq ([]:List Value).toArray } }:=I2.kept (t':=s2.toks) fun b o e=>aB5 _ e;generalize hs3:({ s2 with heap:=s2.heap.push { cls:=.type "list",dict:=none,data:=.seq ([]:List Value).toArray } }:Shared)=s3 at I3;have e3:s3.heap=s2.heap.push { cls:=.type "list",dict:=none,data:=.seq ([]:List Value).toArray }:=by rw[<- hs3]
 have hD3:s3.heap.get? D=some { cls:=.type "list",dict:=none,data:=.seq ([]:List Value).toArray }:=by rw[e3,<- hD];exact aBb _ rfl
 have hsz3:s3.heap.objs.size=D+1:=by rw[e3,Heap.size_push,hD]
 have e3':(s2.heap.push { cls:=.type "list",dict:=none,data:=.seq ([]:List Value).toArray })=s3.heap:=e3.symm;rw[e3']at hns₁ hsb₁ ⊢;have fH2D:H2 D=none:=I2.hok.fresh (by rw[hD];exact Nat.le_refl _);have up:∀ b o,s3.heap.get? b=some o->h₁.get? b=some o:=fun b o e=>hsb₁.extBut b o (aBr (aBa e)) (aB5 _ e);have fpo:∀ b∈fp,b<s3.heap.objs.size/\b≠D:=fun b hb=>by
  obtain⟨o,eo,_⟩:=T.obj 0 _ st2 b hb;have h1:=aBa eo;rw[hD]at h1;exact⟨by rw[hsz3];exact Nat.lt_succ_of_lt h1,aBr h1⟩
 have nb:∀ b,X.s₀.heap.objs.size<=b->∀ o,X.base.get? b≠some o:=fun b hb o e=>absurd (aBl (aBa e) (Nat.le_trans I2.ok.bsz hb)) (Nat.lt_irrefl _);have dge:s2.heap.objs.size<=D:=by rw[hD];exact Nat.le_refl _
 have fD:iT X pins H2 D:=I2.fpOk dge fH2D;have hex:∀ b∈D :: fp,b<s3.heap.objs.size/\b≠X.env.locals/\b∉X.fs/\(∀ x c,X.env.cells.lookup x=some c->c≠b)/\∀ o,X.base.get? b≠some o:=fun b hb=>by
  rcases aCG.mp hb with rfl | hb
  ·exact⟨by rw[hsz3];exact Nat.lt_succ_self _,fD.2.1,fD.2.2.1,fD.2.2.2.2.1,nb _ (Nat.le_trans I2.sz dge)⟩
  ·obtain⟨f0,f1,f2',f3,f4,f5⟩:=f2 b hb;refine⟨(fpo b hb).1,f1,f2',f4,fun o e=>?_⟩;rcases f3 with z | z
   ·exact I2.ok.noex b o e z
   ·exact nb b z o e
 have hC:s3.heap.objs.size=s3.heap.objs.size:=rfl;generalize hXi:fI X inn (ts++cs) s3 H2 (D :: fp)=Xi;have I4:Inv Xi [] (sIn nt js σ) H2 { s3 with heap:=h₁,toks:=s3.toks }:=by
  rw[<- hXi];exact O9 hts I3 O hex ⟨_,hns₁⟩ up
 have xp:Xi.prog=X.prog:=by rw[<- hXi];rfl
 have xw:Xi.w=X.w:=by rw[<- hXi];rfl
 have xK:Xi.K=X.K:=by rw[<- hXi];rfl
 have xA:Xi.A=X.A:=by rw[<- hXi];rfl
 have xc:Xi.calm=true:=by rw[<- hXi];exact hcalm
 have xe:Xi.env=compEnvC inn (fH inn X.env) s3.heap.objs.size X.env:=by rw[<- hXi];rfl
 have xx:Xi.xe=fun _ _=>False:=by rw[<- hXi];rfl
 have xex:Xi.ex=D :: fp:=by rw[<- hXi];rfl
 have xpn:Xi.pn=[]:=by rw[<- hXi];rfl
 have xs0:Xi.s₀=s3:=by rw[<- hXi];rfl
 have xH0:Xi.H₀=H2:=by rw[<- hXi];rfl
 have xfs:Xi.fs=frs X.stack:=by rw[<- hXi];rfl
 have hgX:PG Xi tg g:=by rw[<- hXi];exact hg _ _ _
 have htX:PIf Xi ifs tt:=by rw[<- hXi];exact ht _ _ _
 have heX:PE Xi elt te:=by rw[<- hXi];exact he _ _ _
 have okX:=I4.ok;have xl:Xi.env.locals=s3.heap.objs.size:=by rw[xe];rfl
 have Dl:D≠Xi.env.locals:=by rw[xl,hsz3];exact aBr (Nat.lt_succ_self _)
 have stat:∀ {H':Hp} {pl:List (Addr×Obj)},(∀ b∈fp,H' b=none)->(∀ p∈pl,p.1=D)->∀ b∈fp,iT Xi pl H' b:=fun {H' pl} hn hpl b hb=>by
  have hbx:b∈Xi.ex:=by rw[xex];exact aB7 _ hb
  refine⟨hn b hb,(okX.exf b hbx).1,fun z=>okX.exfs b hbx z,.inl hbx,(okX.exf b hbx).2,fun p hp=>?_⟩;rw[xpn,List.nil_append]at hp;rw[hpl p hp];exact Ne.symm (fpo b hb).2
 have DX:D∈Xi.ex:=by rw[xex];exact aB6
 obtain⟨W,⟨m0,w0⟩,turn⟩:=R;have loop:codeAny (model X.prog X.w) X.A (.compLoop (.ListComp elt [⟨tg,iter,ifs,0⟩] inn pos) 0 (.ref it) (.ref D) Xi.env) (RR (.ref D) s3.heap.objs.size) { s3 with heap:=h₁,toks:=s3.toks }:=by
  refine codeAny_loop rfl (fun n s'=>∃ i ys H',Inv Xi [] (sIn nt js σ) H' s'/\tn i s'.heap/\(∀ b∈fp,H' b=none)/\H' D=none/\(∃ (its:List Value) (c:Nat),Vals ys its/\s'.heap.get? D=some { cls:=.type "list",data:=.seq its.toArray c })/\W i n ys H') ?_ m0
   ⟨0,[],H2,I4,?_,fun b hb=>(f2 b hb).1,fH2D,⟨[],0,.nil,up D _ hD3⟩,w0⟩
  ·rintro n s5 ⟨i,ys,H5,I5,st5,fr5,fD5,⟨its,c,rv,eD⟩,w5⟩;show wpAny _ X.A ((compTurn (.ListComp elt [⟨tg,iter,ifs,0⟩] inn pos) 0 (.ref it) (.ref D) Xi.env).onRaise (fun x=>do noteFrame x Xi.env;theTreesLotGoes x)) _ _ s5;refine wpAny_noted ?_;rw[compTurn_list];refine aB2 (wpAny_standAt (aB2 ?_));have pinD:Inv Xi (bU [D] s5.heap) (sIn nt js σ) H5 s5:=by
    have q:=I5.pinned (fp:=[D]) (fun b hb=>?_) (fun b hb=>?_)
    ·simpa using q
    ·have e:b=D:=by simpa using hb
     subst e;refine⟨fD5,Dl,fun z=>okX.exfs b DX z,.inl DX,(okX.exf b DX).2,fun p hp=>?_⟩;rw[xpn,List.nil_append]at hp;cases hp
    ·have e:b=D:=by simpa using hb
     subst e;exact⟨_,eD,fun v z=>by cases z⟩
   have plD:∀ p∈bU [D] s5.heap,p.1=D:=fun p hp=>by simpa using (gW hp).1
   have memD:(D,({ cls:=.type "list",data:=.seq its.toArray c }:Obj))∈bU [D] s5.heap:=bN (by simp) eD;obtain⟨hz,tn5⟩:=turn i n ys H5 w5;rcases tn5 with ⟨stop,fin⟩ | ⟨go,N,hN,step⟩
   ·have q:=T.done Xi xp xw xK xc i _ s5 _ H5 (notedBy (model X.prog X.w) X.A Xi.env fun e s'=>RR (.ref D) s3.heap.objs.size (.error e) s') pinD (stat fr5 plD) st5 stop;rw[xA]at q;refine wpAny_mono q (fun r s6 ⟨hr,I6⟩=>?_) fun _ _ z=>z;subst hr;refine aB3 ?_;have eD6:=(I6.pin (D,_) (aB8 _ memD)).1;have un:Un (frs X.stack) (D :: fp) H2 H5 s3.heap s6.heap:=by
     have z:=I6.base;rw[xfs,xex,xH0,xs0]at z;exact z
    have os6:s6.os=s3.os:=by have z:=I6.os;rw[xs0]at z;exact z
    have hok6:HOk X.prog X.w H5 s6.heap:=by have z:=I6.hok;rw[xp,xw]at z;exact z
    have I7:Inv X pins σ H5 s6:=I3.call' os6 un hok6 I6.bare fun b hb=>by
     rcases aCG.mp hb with e | hb
     ·rw[e];exact⟨.inr (Nat.le_trans I2.sz dge),fD.2.1,fD.2.2.2.2.1,fD.2.2.2.2.2⟩
     ·obtain⟨f0,f1,f2',f3,f4,f5⟩:=f2 b hb;exact⟨f3,f1,f4,f5⟩
    have I8:Inv X pins σ (upd H5 D (.lst ys)) s6:=I7.track fD5 (Nat.le_trans I2.sz dge) fD.2.1 fD.2.2.2.2.1 fD.2.2.2.2.2 ⟨Nat.le_of_lt hz,its,c,rv,eD6⟩;have Cge:s3.heap.objs.size<=s3.heap.objs.size:=Nat.le_refl _;have fC:iT X pins (upd H5 D (.lst ys)) s3.heap.objs.size:=I3.fpOk Cge (by
     rw[aG (by rw[<- xl];exact Ne.symm Dl)];have z:=I6.free;rw[xl]at z;exact z)
    obtain⟨mm,hmm,_⟩:=I6.loc;rw[xl]at hmm;exact hRR D _ s6 _ I8 ⟨mm,hmm⟩ fC.1 fC.2.1 (Nat.le_trans I3.sz Cge) fC.2.2.2.2.1 fC.2.2.2.2.2 (fin D fD5)
   ·have q:=T.item Xi xp xw xK xc i _ s5 _ H5 (notedBy (model X.prog X.w) X.A Xi.env fun e s'=>RR (.ref D) s3.heap.objs.size (.error e) s') pinD (stat fr5 plD) st5 go;rw[xA]at q;refine wpAny_mono q (fun r s6 ⟨u,hr,h6⟩=>?_) fun _ _ z=>z;subst hr;refine aB2 (wpAny_mono h6 (fun _ s7 ⟨x,H7,I7,r7,y7,st7,fr7⟩=>?_) fun _ _ z=>z);have I7':=I7.pinned (fp:=fp) (fun b hb=>stat fr7 plD b hb) (T.obj _ _ st7);have q8:=hgX _ s7 _ H7 x u _ I7' r7 (hk x _ H7 _ (step x H7 y7));rw[xp,xw,xA,xx]at q8;refine aB2 (wpAny_mono q8 (fun _ s8 ⟨σ8,H8,I8,⟨k8,l8⟩,q8⟩=>?_) fun _ _ z=>z.elim);have q9:=htX _ s8 σ8 H8 _ I8 q8;rw[xp,xw,xA,xx]at q9;refine aB2 (wpAny_mono q9 (fun ok s9 ⟨H9,I9,q9⟩=>?_) fun _ _ z=>z.elim);have keepσ:∀ (j:Nat) v,(sIn nt js σ)[j]?=some (some v)->σ8[j]?=some (some v):=fun j v e=>by
     have hj:=(lQ e).1;rw[k8 j hj];exact e
    have ends:∀ {H9:Hp} {s9:Shared} {ys':List V},Inv Xi (bU [D] s5.heap++bU fp s7.heap) σ8 H9 s9->∀ {h':Heap} {its':List Value} {c':Nat},(∀ b o,b≠D->s9.heap.get? b=some o->h'.get? b=some o)->Vals ys' its'->h'.get? D=some { cls:=.type "list",data:=.seq its'.toArray c' }->N ys' H9 ->
     ∀ tk,∃ m,m<n/\∃ i ys H',Inv Xi [] (sIn nt js σ) H' { s9 with heap:=h',toks:=tk }/\tn i h'/\(∀ b∈fp,H' b=none)/\H' D=none/\(∃ (its:List Value) (c:Nat),Vals ys its/\h'.get? D=some { cls:=.type "list",data:=.seq its.toArray c })/\W i m ys H':=fun {H9 s9 ys'} I9 {h' its' c'} kp rv' eD' n9 tk=>by
     obtain⟨m',hm,w9⟩:=hN ys' H9 n9;have fD9:H9 D=none:=(I9.pin (D,_) (aB8 _ (aBn _ memD))).2.1;have fr9:∀ b∈fp,H9 b=none:=fun b hb=>by
      obtain⟨o,e,d⟩:=T.obj _ _ st7 b hb;exact(I9.pin (b,o) (aB8 _ (aB8 _ (bN hb e)))).2.1
     have I10:Inv Xi [] σ8 H9 s9:=I9.pins_of fun p hp=>by cases hp
     have I11:Inv Xi [] σ8 H9 { s9 with heap:=h',toks:=tk }:=I10.turned (it:=D) kp fD9 Dl (.inl DX) (okX.exf D DX).2 (fun p hp=>by rw[xpn]at hp;cases hp);refine⟨m',hm,i+1,ys',H9,I11.weak l8.symm keepσ,T.keep _ _ _ st7 fun b hb o e=>kp b o (fpo b hb).2 (I9.pin (b,o) (aB8 _ (aB8 _ (bN hb e)))).1,fr9,fD9,⟨its',c',rv',eD'⟩,w9⟩
    cases ok with
    | false =>
     rw[if_neg aBh]at q9;have eD9:=(I9.pin (D,_) (aB8 _ (aBn _ memD))).1;exact aB3 ⟨rfl,ends I9 (h':=s9.heap) (fun _ _ _ e=>e) rv eD9 q9 s9.toks⟩
    | true =>
     rw[if_pos rfl]at q9;have q10:=heX _ s9 σ8 H9 _ I9 q9;rw[xp,xw,xA,xx]at q10;refine aB2 (aB2 (wpAny_mono q10 (fun v s10 ⟨y,H10,I10,r10,q10⟩=>?_) fun _ _ z=>z.elim));have eD10:=(I10.pin (D,_) (aB8 _ (aBn _ memD))).1;have hlen:=rv.length;refine aB2 (wpAny_list_append_plain (items:=its.toArray) ⟨c,eD10⟩ (fun h' hl hs=>aB3 (aB3 ⟨rfl,?_⟩)) (by rw[aBc];omega));obtain⟨c',e'⟩:=hl;have e'':h'.get? D=some { cls:=.type "list",data:=.seq (its++[v]).toArray c' }:=by rw[e'];simp
     exact ends I10 (h':=h') (fun b o hb e=>hs.extBut b o hb e) (rv.append (.cons r10 .nil)) e'' q10 s10.toks
  ·exact T.keep 0 _ _ st2 fun b hb o e=>up b o (by rw[e3];exact aB5 _ e)
 have e4:({ s2 with heap:=h₁,toks:=s2.toks+([]:List (Str×Value)).length }:Shared)={ s3 with heap:=h₁,toks:=s3.toks }:=by rw[<- hs3];rfl
 rw[e4];show codeAny _ _ (.compStart (.ListComp elt [⟨tg,iter,ifs,0⟩] inn pos) 0 (.ref it) (.ref D) (compEnvC inn (fH inn X.env) s3.heap.objs.size X.env)) (RR (.ref D) s3.heap.objs.size) _;rw[<- xe];refine codeAny_compStart_list loop ?_;refine T.self X.A 0 _ _ _ ?_ loop;exact T.keep 0 _ _ st2 fun b hb o e=>up b o (by rw[e3];exact aB5 _ e)
end
section
variable {X:Cx} {inn:Scope} {js:List Nat} {cs ts:List Str} {nt:Nat} {elt tg iter:Expr} {ifs:List Expr} {pos:Pos} {g:TG} {tt:TT} {te:TE} {wi:TI}
theorem bX (ts cs:List Str) (js:List Nat) (hcalm:X.calm=true) (O:CompOk X.env.scope inn X.N js cs) (hi:PI X tg iter wi)
 (hg:∀ s₀ H₀ ex,PG (fI X inn (ts++cs) s₀ H₀ ex) tg g) (hk:GK ts.length g) (ht:∀ s₀ H₀ ex,PIf (fI X inn (ts++cs) s₀ H₀ ex) ifs tt) (he:∀ s₀ H₀ ex,PE (fI X inn (ts++cs) s₀ H₀ ex) elt te)
 (hs:∀ x,foldedSetIterable iter X.env x=pure x:=by intro _;rfl):PE X (.ListComp elt [⟨tg,iter,ifs,0⟩] inn pos) (O8 wi ts.length js g tt te):=by
 intro pins s σ H Q I h;rw[eval_ListComp];refine wpAny_comprehension_free (use:=none) rfl hs (pM fun y hy e=>I.ok.has y.1 (O.frees y hy e)) O.kind O.names (thn (hi pins s σ H _ I h) fun xv s1 h1=>thn h1 fun itv s2 h2=>?_);obtain⟨it,fp,tn,J,H2,e,I2,T,st2,f2,R⟩:=h2;subst e;refine sU (Q:=Q) (RR:=fun acc C=>compPost (model X.prog X.w) X.A X.xe none (EP X pins σ Q) acc C) hcalm O rfl hg hk ht he I2 T st2 f2 R ?_;intro D C s' H' I' ⟨m,hm⟩ c1 c2 c3 c4 c5 q;refine⟨m,hm,fun h' hsb=>?_⟩;exact⟨.ref D,H',I'.turned (it:=C) (t':=s'.toks) (fun b o hb e=>hsb.extBut b o hb e) c1 c2 (.inr c3) c4 c5,rfl,q⟩
theorem uJ {i:Nat} {x:Str} {pos' spos:Pos} (ts cs:List Str) (js:List Nat) (hcalm:X.calm=true) (hN:X.N.Nodup) (hi':X.N[i]?=some x) (hx:X.env.scope.names.lookup x=some .local) (O:CompOk X.env.scope inn X.N js cs) (hi:PI X tg iter wi)
 (hg:∀ s₀ H₀ ex,PG (fI X inn (ts++cs) s₀ H₀ ex) tg g) (hk:GK ts.length g) (ht:∀ s₀ H₀ ex,PIf (fI X inn (ts++cs) s₀ H₀ ex) ifs tt) (he:∀ s₀ H₀ ex,PE (fI X inn (ts++cs) s₀ H₀ ex) elt te)
 (hsw:swapsWith (.ListComp elt [⟨tg,iter,ifs,0⟩] inn pos) (some (.Name x pos')) spos.line X.env=pure true) (hs:∀ x,foldedSetIterable iter X.env x=pure x:=by intro _;rfl) :
 PS X (.Assign [.Name x pos'] (.ListComp elt [⟨tg,iter,ifs,0⟩] inn pos) spos) (u4 (O8 wi ts.length js g tt te) (sL i)):=by
 intro pins s σ H D I h;rw[exec_Assign_Name_used _ _ _ _ hsw];refine aB2 (wpAny_standAt (aB2 ?_));show wpAny _ X.A (do let _ <- comprehension (.ListComp elt [⟨tg,iter,ifs,0⟩] inn pos) inn X.env _ (newList []) false (eval iter X.env) (some (assign (.Name x pos') X.env))) _ _ s;refine aB2 (wpAny_mono (wpAny_comprehension_free (use:=some (assign (.Name x pos') X.env)) (Q:=fun _ s'=>SP X pins D .next s') rfl hs (pM fun y hy e=>I.ok.has y.1 (O.frees y hy e)) O.kind O.names
  (thn (hi pins s σ H _ I h) fun xv s1 h1=>thn h1 fun itv s2 h2=>?_)) (fun _ s' hq=>aB3 (aB3 hq)) fun _ _ e=>e)
 obtain⟨it,fp,tn,J,H2,e,I2,T,st2,f2,R⟩:=h2;subst e;refine sU (Q:=fun v H'=>D.nx (σ.set i (some v)) H') (RR:=fun acc C=>compPost (model X.prog X.w) X.A X.xe (some (assign (.Name x pos') X.env)) (fun _ s'=>SP X pins D .next s') acc C) hcalm O rfl hg hk ht he I2 T st2 f2 R ?_;intro D' C s' H' I' ⟨m,hm⟩ c1 c2 c3 c4 c5 q;show wpAny _ X.A (assign (.Name x pos') X.env (.ref D')) _ _ _;refine wpAny_assign_Name (sK (v:=.ref D') I' hN hi' (.inl hx) rfl (fun s2 I2 ⟨a,hsb,ha⟩=>?_) (.inr hx));have hCa:C≠a:=by
  rcases ha with e | e
  ·rw[e];exact c2
  ·exact fun z=>c4 _ _ e z.symm
 refine⟨m,hm.sameBut hsb hCa,fun h' hsb'=>?_⟩;exact⟨_,H',I2.turned (it:=C) (t':=s2.toks) (fun b o hb e=>hsb'.extBut b o hb e) c1 c2 (.inr c3) c4 c5,q⟩
end
theorem bP {K:PySem.W.Frag} {a:Addr} {xs:List V} {σ0:St} {g:TG} {tt:TT} {te:TE} {H:Hp} {Q:VK} (Pv:Nat->List V->Hp->Prop) (h0:Pv 0 [] H) (hl:∀ i ys H,i<=xs.length->Pv i ys H->SqL K H a xs/\ys.length<sizeLine)
 (hs:∀ i x ys H,xs[i]?=some x->Pv i ys H->g x σ0 H fun σ2 H2=>tt σ2 H2 fun b H3=>if b=true then te σ2 H3 fun y H4=>Pv (i+1) (ys++[y]) H4 else Pv (i+1) ys H3) (hd:∀ ys H,Pv xs.length ys H->∀ D,H D=none->Q (.ref D) (upd H D (.lst ys))) :
 oN (Itl K a) σ0 g tt te Q H:=by
 refine⟨fun i m ys H=>m=xs.length - i/\i<=xs.length/\Pv i ys H,⟨xs.length,by simp,Nat.zero_le _,h0⟩,?_⟩;rintro i m ys H ⟨rfl,hi,p⟩;obtain⟨q,hz⟩:=hl i ys H hi p;refine⟨hz,?_⟩
 by_cases hlt:i<xs.length
 ·refine .inr ⟨⟨xs,xs[i],q,by simp[hlt]⟩,Pv (i+1),fun ys' H' p'=>⟨xs.length - (i+1),by omega,rfl,hlt,p'⟩,fun x H' y=>?_⟩;obtain⟨e,y⟩:=y;subst e;exact hs i x ys _ (y xs q) p
 ·have e:i=xs.length:=by omega
  subst e;exact .inl ⟨⟨xs,q,Nat.le_refl _⟩,hd ys H p⟩
theorem mJ {lo:Int} {n:Nat} {σ0:St} {g:TG} {tt:TT} {te:TE} {H:Hp} {Q:VK} (Pv:Nat->List V->Hp->Prop) (h0:Pv 0 [] H) (hl:∀ i ys H,i<=n->Pv i ys H->ys.length<sizeLine)
 (hs:∀ i ys H,i<n->Pv i ys H->g (.int (lo+i)) σ0 H fun σ2 H2=>tt σ2 H2 fun b H3=>if b=true then te σ2 H3 fun y H4=>Pv (i+1) (ys++[y]) H4 else Pv (i+1) ys H3) (hd:∀ ys H,Pv n ys H->∀ D,H D=none->Q (.ref D) (upd H D (.lst ys))) :
 oN (Itr lo n) σ0 g tt te Q H:=by
 refine⟨fun i m ys H=>m=n - i/\i<=n/\Pv i ys H,⟨n,by simp,Nat.zero_le _,h0⟩,?_⟩;rintro i m ys H ⟨rfl,hi,p⟩;refine⟨hl i ys H hi p,?_⟩
 by_cases hlt:i<n
 ·refine .inr ⟨hlt,Pv (i+1),fun ys' H' p'=>⟨n - (i+1),by omega,rfl,hlt,p'⟩,fun x H' y=>?_⟩;obtain⟨e,y⟩:=y;subst e y;exact hs i ys _ hlt p
 ·have e:i=n:=by omega
  subst e;exact .inl ⟨Nat.le_refl _,hd ys H p⟩
mutual
inductive Den (H:Hp):V->PyData->Prop
 | non:Den H .non .none
 | bl (b:Bool):Den H (.bl b) (.bool b)
 | int (i:Int):Den H (.int i) (.int i)
 | str (x:Str):Den H (.str x) (.str x)
 | lst {a:Addr} {vs:List V} {ds:List PyData}:H a=some (.lst vs)->Dens H vs ds->Den H (.ref a) (.list ds)
 | tup {a:Addr} {vs:List V} {ds:List PyData}:H a=some (.tup vs)->Dens H vs ds->Den H (.ref a) (.tuple ds)
inductive Dens (H:Hp):List V->List PyData->Prop
 | nil:Dens H [] []
 | cons {v:V} {d:PyData} {vs:List V} {ds:List PyData}:Den H v d->Dens H vs ds->Dens H (v :: vs) (d :: ds)
end
theorem Dens.length:∀ {H:Hp} {vs:List V} {ds:List PyData},Dens H vs ds->vs.length=ds.length
 | _,_,_,.nil=>rfl
 | _,_,_,.cons _ t=>congrArg Nat.succ (Dens.length t)
theorem Dens.get:∀ {H:Hp} {vs:List V} {ds:List PyData} {i:Nat} {d:PyData},Dens H vs ds->ds[i]?=some d->∃ v,vs[i]?=some v/\Den H v d
 | _,_,_,_,_,.nil,e=>by simp at e
 | _,_,_,0,_,.cons r _,e=>by simp at e;subst e;exact⟨_,rfl,r⟩
 | _,_,_,i+1,d,.cons _ t,e=>by
  obtain⟨v,h1,h2⟩:=Dens.get (i:=i) (d:=d) t (by simpa using e);exact⟨v,by simpa using h1,h2⟩
theorem Dens.append:∀ {H:Hp} {vs us:List V} {ds es:List PyData},Dens H vs ds->Dens H us es->Dens H (vs++us) (ds++es)
 | _,_,_,_,_,.nil,s=>s
 | _,_,_,_,_,.cons r t,s=>.cons r (Dens.append t s)
mutual
theorem Den.mono {H H':Hp} (e:Same H H'):∀ {v:V} {d:PyData},Den H v d->Den H' v d
 | _,_,.non=>.non
 | _,_,.bl b=>.bl b
 | _,_,.int i=>.int i
 | _,_,.str x=>.str x
 | _,_,.lst h t=>.lst (e _ _ h) (Dens.mono e t)
 | _,_,.tup h t=>.tup (e _ _ h) (Dens.mono e t)
theorem Dens.mono {H H':Hp} (e:Same H H'):∀ {vs:List V} {ds:List PyData},Dens H vs ds->Dens H' vs ds
 | _,_,.nil=>.nil
 | _,_,.cons r t=>.cons (Den.mono e r) (Dens.mono e t)
end
theorem Dens.ints {H:Hp}:∀ ns:List Int,Dens H (ns.map V.int) (ns.map PyData.int)
 | []=>.nil
 | n :: r=>.cons (.int n) (Dens.ints r)
theorem Den.ints {H:Hp} {a:Addr} {ns:List Int} (h:H a=some (.lst (ns.map V.int))):Den H (.ref a) (.list (ns.map PyData.int)):=.lst h (Dens.ints ns)
theorem Same.upd {H:Hp} {a:Addr} {o:HO} (h:H a=none):Same H (upd H a o):=fun b u e=>by rw[aG (aV e h)];exact e
theorem Same.upd' {H H0:Hp} {a:Addr} {o:HO} (h:H0 a=none) (s:Same H0 H):Same H0 (L2.upd H a o):=fun b u e=>by rw[aG (aV e h)];exact s b u e
section
variable {P:Program} {w:World} {H:Hp} {h:Heap}
mutual
theorem Den.reads (ok:HOk P w H h):∀ {v:V} {d:PyData} {u:Value},Den H v d->RelV v u->∃ as,Reads h u d as
 | _,_,_,.non,r=>by cases r;exact⟨_,.none⟩
 | _,_,_,.bl b,r=>by cases r;exact⟨_,.bool b⟩
 | _,_,_,.int i,r=>by obtain⟨t,rfl⟩:=r;exact⟨_,.int i t⟩
 | _,_,_,.str x,r=>by obtain⟨t,rfl⟩:=r;exact⟨_,.str x t⟩
 | _,_,_,.lst (a:=a) e t,r=>by
  cases r;obtain⟨_,its,n,rv,ho⟩:=ok a _ e;obtain⟨as,q⟩:=Dens.reads ok t rv;exact⟨_,.list ho rfl rfl (by simpa using q)⟩
 | _,_,_,.tup (a:=a) e t,r=>by
  cases r;obtain⟨_,its,rv,o,ho,hc,n,hd⟩:=ok a _ e;obtain⟨as,q⟩:=Dens.reads ok t rv;exact⟨_,.tuple ho hc hd (by simpa using q)⟩
theorem Dens.reads (ok:HOk P w H h):∀ {vs:List V} {ds:List PyData} {us:List Value},Dens H vs ds->Vals vs us->∃ as,ReadsAll h us ds as
 | _,_,_,.nil,.nil=>⟨_,.nil⟩
 | _,_,_,.cons r t,.cons q s=>by
  obtain⟨a,x⟩:=Den.reads ok r q;obtain⟨b,y⟩:=Dens.reads ok t s;exact⟨_,.cons x y⟩
end
end
def aBS:R2:=fun x y H Q=>∃ d e,Den H x d/\Den H y e/\SeqAt.shaped d=true/\SeqAt.shaped e=true/\Q (.bl (PyData.eqv d e)) H
def aBT:R2:=fun x y H Q=>∃ d e,Den H x d/\Den H y e/\SeqAt.shaped d=true/\SeqAt.shaped e=true/\Q (.bl (!PyData.eqv d e)) H
section
variable {X:Cx}
theorem y8 (hu:X.A.units+64<cLine):OpR X (compareOp .Eq) aBS:=by
 intro pins s σ H x y v u Q I rx ry h;obtain⟨d,e,hd,he,sd,se,q⟩:=h;obtain⟨as,r1⟩:=hd.reads I.hok rx;obtain⟨bs,r2⟩:=he.reads I.hok ry;exact eq_dataH r1 r2 sd se hu ⟨.bl _,H,I,rfl,q⟩
theorem uK (hu:X.A.units+64<cLine):OpR X (compareOp .NotEq) aBT:=by
 intro pins s σ H x y v u Q I rx ry h;obtain⟨d,e,hd,he,sd,se,q⟩:=h;obtain⟨as,r1⟩:=hd.reads I.hok rx;obtain⟨bs,r2⟩:=he.reads I.hok ry;exact ne_dataH r1 r2 sd se hu ⟨.bl _,H,I,rfl,q⟩
def tyD:PyData->String
 | .none=>"NoneType" | .bool _=>"bool" | .int _=>"int" | .str _=>"str" | .list _=>"list" | .tuple _=>"tuple" | .dict _=>"dict"
theorem Den.ty {K:PySem.W.Frag} {H:Hp} {v:V} {d:PyData} (h:Den H v d):oA K H v (.type (tyD d)):=by
 cases h with
 | non=>exact .non
 | bl b=>exact .bl b
 | int i=>exact .int i
 | str x=>exact .str x
 | lst e _=>exact .lst e
 | tup e _=>exact .tup e
theorem eI:fW X (.builtin "isinstance") (fun xs H Q=>∃ x T d b,xs=[x,.ty T]/\Den H x d/\PySem.W.kitOne X.K (.type (tyD d)) (.type T)=some b/\Q (.bl b) H):=by
 intro pins s σ H xs us Q I r h;obtain⟨x,T,d,b,rfl,hd,e,q⟩:=h;obtain⟨u,v,rfl,r1,r2⟩:=r.two;cases r2;exact D7 I r1 (hd.ty (K:=X.K)) e fun tk=>⟨.bl b,H,I.tok tk,rfl,q⟩
theorem y9 {P:Program} {w:World} {H:Hp} {s:Shared} {K:PySem.W.Frag} {x:V} {u:Value} {d:PyData} {A:Around} {E:Value->Shared->Prop} {tp:Addr} {its:List Value} {n:Nat} {b:Bool} {Q:Value->Shared->Prop} (ok:HOk P w H s.heap) (kin:K.In s.heap) (rx:RelV x u) (hd:Den H x d)
 (htp:∃ o,s.heap.get? tp=some o/\o.cls=.type "tuple"/\o.data=.seq its.toArray n) (e:PySem.W.kitAny K (.type (tyD d)) its=some b) (h:∀ tk,Q (.bool b) { s with toks:=tk }):wpAny (model P w) A (call (.builtin "isinstance") [u,.ref tp]) Q E s:=by
 obtain⟨⟨cls,dd,data,sl⟩,ho,hc,hda⟩:=htp;simp only at hc hda;subst hc hda;cases hd with
 | non=>cases rx;exact PySem.W.kia_tup PySem.W.kitx_none kin True.intro ho e (fun z=>nomatch z) h
 | bl y=>cases rx;exact PySem.W.kia_tup PySem.W.kitx_bool kin True.intro ho e (fun z=>nomatch z) h
 | int i=>obtain⟨t,rfl⟩:=rx;exact PySem.W.kia_tup PySem.W.kitx_int kin True.intro ho e (fun z=>nomatch z) h
 | str y=>obtain⟨t,rfl⟩:=rx;exact PySem.W.kia_tup PySem.W.kitx_str kin True.intro ho e (fun z=>nomatch z) h
 | @lst a vs ds ea _ =>
  cases rx;obtain⟨_,_,n,_,h1⟩:=(show ObjOk P w H s.heap a (.lst vs) from ok a _ ea);exact PySem.W.kia_tup PySem.W.kitx_list kin ⟨_,h1,rfl⟩ ho e (fun z=>nomatch z) h
 | @tup a vs ds ea _ =>
  cases rx;obtain⟨_,_,_,p⟩:=(show ObjOk P w H s.heap a (.tup vs) from ok a _ ea);obtain⟨o,h1,h2,_⟩:=p;exact PySem.W.kia_tup PySem.W.kitx_tuple kin ⟨o,h1,h2⟩ ho e (fun z=>nomatch z) h
theorem zY:∀ {Ts:List String} {us:List Value},Vals (Ts.map V.ty) us->us=Ts.map Value.type
 | [],_,.nil=>rfl
 | T :: r,_,.cons q t=>by
  have e:_=Value.type T:=q;rw[aBt,e,zY t]
theorem E3:fW X (.builtin "isinstance") (fun xs H Q=>∃ (x:V) (tp:Addr) (Ts:List String) (d:PyData) (b:Bool),xs=[x,.ref tp]/\H tp=some (.tup (Ts.map V.ty))/\Den H x d/\PySem.W.kitAny X.K (.type (tyD d)) (Ts.map Value.type)=some b/\Q (.bl b) H):=by
 intro pins s σ H xs us Q I r h;obtain⟨x,tp,Ts,d,b,rfl,ht,hd,e,q⟩:=h;obtain⟨u,v,rfl,r1,r2⟩:=r.two;cases r2;obtain⟨_,its,rv,o,ho,hc,n,hda⟩:=(show ObjOk X.prog X.w H s.heap tp (.tup (Ts.map V.ty)) from I.hok tp _ ht);have e2:=zY rv;subst e2;exact y9 I.hok I.kIn r1 hd ⟨o,ho,hc,hda⟩ e fun tk=>⟨.bl b,H,I.tok tk,rfl,q⟩
theorem P0 (hc:X.calm=true):fW X (.builtin "all") (fun xs H Q=>∃ (p:Addr) (bs:List Bool),xs=[.ref p]/\H p=some (.lst (bs.map V.bl))/\Q (.bl (bs.all id)) H):=by
 intro pins s σ H xs us Q I r h;obtain⟨p,bs,rfl,hp,q⟩:=h;obtain⟨u,rfl,rx⟩:=iU r;cases rx;obtain⟨its,rv,pl,hz⟩:=I.list (SqL.of hp);have hl:=pl.isList;have hlt:p<s.heap.objs.size:=by obtain⟨_,e,_⟩:=hl;exact aBa e
 have hlen:bs.length=its.length:=by have:=rv.length;simpa using this
 refine call_all_walk (wpAny_pyIter_list hl ?_);refine⟨s.heap.objs.size,[s.heap.objs.size,p],[s.heap.objs.size],its.toArray.size,_,_,fun i=>(bs[i]?).getD true,rfl,Walks.list (A:=X.A.in1) (I.ok.hd hc) _ p (aBr hlt) its.toArray,
  ⟨⟨_,aBb _ rfl,rfl,rfl⟩,hl.push _⟩,fun i v s' Q' E' hP hQ=>?_,fun h' tk hk=>?_⟩
 ·have hv:its[i]?=some v:=by simpa using hP
  have hi:i<its.length:=(aCF.mp hv).1;have hb:(bs.map V.bl)[i]?=some (V.bl (bs[i]'(by omega))):=by simp[hlen,hi]
  obtain⟨u,eu,ru⟩:=rv.get hb;rw[hv]at eu;cases eu;cases ru;have e:(bs[i]?).getD true=bs[i]'(by omega):=by simp[show i<bs.length by omega]
  have hQ':Q' ((bs[i]?).getD true) s':=hQ;rw[e]at hQ';exact wpAny_truthy_bool hQ'
 ·have e:((List.range its.toArray.size).all fun i=>(bs[i]?).getD true)=bs.all id:=by
   rw[aBc,<- hlen];exact LSm.range_all bs
  rw[e];have kp:∀ b x,s.heap.get? b=some x->h'.get? b=some x:=LSm.kept_iter hk;exact⟨.bl _,H,I.kept kp,rfl,q⟩
theorem zZ (l:List Value):∀ (k:Nat),k<=l.length->(List.range k).filterMap (fun i=>l[i]?)=l.take k
 | 0,_=>by simp
 | k+1,h=>by
  rw[List.range_succ,List.filterMap_append,zZ l k (by omega)];have e:l[k]?=some (l[k]'(by omega)):=by simp[show k<l.length by omega]
  rw[List.filterMap_cons,e,List.filterMap_nil,aBz,e];rfl
theorem P1 (n:Nat):((List.range n).map fun(k:Nat)=>((n:Int) - 1+-1 * (k:Int)).toNat)=(List.range n).reverse:=by
 apply List.ext_getElem
 ·simp
 ·intro i h1 h2;simp at h1;simp;omega
theorem rX (its:List Value):slicePick its.toArray none none (some (-1))=its.reverse.toArray:=by
 unfold slicePick;have e:sliceBounds none none (some (-1)) its.toArray.size=((its.length:Int) - 1,-1,-1):=by simp[sliceBounds]
 rw[e];have e2:sliceRange ((its.length:Int) - 1) (-1) (-1)=(List.range its.length).reverse:=by
  unfold sliceRange;rw[<- P1];have c:(if (-1:Int) > 0 then (if ((its.length:Int) - 1) < -1 then ((-1:Int) - ((its.length:Int) - 1)+-1 - 1) / -1 else 0)else if ((its.length:Int) - 1) > -1 then (((its.length:Int) - 1) - -1 - -1 - 1) / (- -1)else 0).toNat=its.length:=by
   rw[if_neg (by decide)]
   by_cases h:((its.length:Int) - 1) > -1
   ·rw[if_pos h];have:(((its.length:Int) - 1) - -1 - -1 - 1) / (- -1)=its.length:=by
     rw[show (- -1:Int)=1 from rfl,Int.ediv_one];omega
    rw[this];simp
   ·rw[if_neg h];omega
  simp only;rw[c]
 show ((sliceRange ((its.length:Int) - 1) (-1) (-1)).filterMap (its.toArray[·]?)).toArray=_;rw[e2,List.filterMap_reverse]
 congr 2
 have:=zZ its its.length (Nat.le_refl _);rw[aBi]at this;simpa using this
def aBU (K:PySem.W.Frag) (te:TE):TE:=fun σ H Q=>te σ H fun x H1=>∃ a xs,x=.ref a/\SqL K H1 a xs/\∀ p,H1 p=none->Q (.ref p) (upd H1 p (.lst xs.reverse))
theorem P2 {e:Expr} {te:TE} {pos p2 p3 p4:Pos} {j} (he:PE X e te):PE X (.Subscript e (.Slice none none (some (.UnaryOp .USub (.Constant (.int 1) j p4) p3)) p2) pos) (aBU X.K te):=by
 intro pins s σ H Q I h;refine Subscript_ (thn (he pins s σ H _ I h) fun v s1 ⟨x,H1,I1,r1,q1⟩=>?_);obtain⟨a,xs,rfl,hx,q⟩:=q1;cases r1;refine wpAny_Slice ?_;rw[evalPart_none];refine aB3 (aB3 ?_);rw[evalPart_some];refine thn ((gK eF aF) pins s1 σ H1 (fun y H2=>y=.int (-1)/\H2=H1) I1 ⟨_,rfl,rfl,rfl⟩) fun u s2 ⟨y,H2,I2,r2,e2,e3⟩=>?_;subst e2 e3;obtain⟨t,rfl⟩:=r2;have I3:Inv X pins σ H2 { s2 with heap:=s2.heap.push { cls:=.type "slice",data:=.fields #[.none,.none,.int (-1) t] } }:=I2.kept (t':=s2.toks) fun b ob q=>aB5 _ q;show wpAny (model X.prog X.w) X.A (subscriptTail e (.Slice none none (some (.UnaryOp .USub (.Constant (.int 1) j p4) p3)) p2) (.ref a) (.ref s2.heap.objs.size)) (EP X pins σ Q) X.xe { s2 with heap:=s2.heap.push { cls:=.type "slice",data:=.fields #[.none,.none,.int (-1) t] } };obtain⟨its,r,ht,hz⟩:=I3.list hx;have hlen:=r.length;refine tail_any (ops:=[.ref a,.ref s2.heap.objs.size]) ht.isList.typeIs slot_list_getitem.lookup ?_ (by with_unfolding_all rfl);refine wpAny_getItem_list_slice (lo:=none) (hi:=none) (st:=some (-1)) ht.isList (Heap.IsSliceOf.new ..) .none .none (.int (-1) t) (by simp) ?_ (by rw[aBc] <;> omega);rw[rX];refine⟨.ref _,_,I3.laid (t':=s2.toks) (o:=.lst xs.reverse) (fun b ob q=>aB5 _ q) (Nat.le_refl _) ?_,rfl,q _ (I3.hok.fresh (Nat.le_refl _))⟩;exact⟨by rw[List.length_reverse];exact hz,_,0,r.reverse,aBb _ rfl⟩
def Itv (K:PySem.W.Frag) (a:Addr) (n:Nat):It :=
 ⟨fun i H=>i<n/\∃ xs,SqL K H a xs/\xs.length=n,fun i H x H'=>H'=H/\∀ xs,SqL K H a xs->xs.length=n->xs[n - 1 - i]?=some x,fun i H=>n<=i⟩
theorem P3 {P:Program} {w:World} {K:PySem.W.Frag} {tg:Expr} (a it:Addr) (n:Nat):pB P w K tg (Itv K a n) [it] it (fun i h=>i<=n/\h.IsRevIter it a ((n:Int) - 1 - (i:Int))) where
 mem:=by simp
 obj:=fun i h st b hb=>by
  have e:b=it:=by simpa using hb
  subst e;obtain⟨_,o,e,c,d⟩:=st;exact⟨o,e,fun v z=>by rw[d]at z;cases z⟩
 keep:=fun i h h' st k=>⟨st.1,st.2.at fun o e=>k it (by simp) o e⟩
 item:=by
  intro X hP hw hK hc i pins s σ H E I hf st hg;subst hP hw hK;obtain⟨hi,xs,hq,hn⟩:=hg;obtain⟨its,rv,p,hz⟩:=I.list hq;have hlen:=rv.length;obtain⟨f0,f1,f2,f3,f4,f5⟩:=hf it (by simp);have hx:xs[n - 1 - i]?=some (xs[n - 1 - i]'(by omega)):=by simp[show n - 1 - i<xs.length by omega]
  obtain⟨u,hu,ru⟩:=rv.get hx;have e:(n:Int) - 1 - (i:Int)=((n - 1 - i:Nat):Int):=by omega
  have hit:=st.2;rw[e]at hit;refine wpAny_pyNext_rev_item hit p.isList (x:=u) (by simpa using hu) fun h' st' sb=>?_;have I1:Inv X pins σ H { s with heap:=h' }:=I.turned (t':=s.toks) (fun b o hb e=>(sb.2 b hb).trans e) f0 f1 f3 f4 f5;have e2:((n - 1 - i:Nat):Int) - 1=(n:Int) - 1 - ((i+1:Nat):Int):=by omega
  rw[e2]at st';obtain⟨o,eo,c,d⟩:=id st';exact⟨u,rfl,zS (s:={ s with heap:=h' }) eo c d (by decide) ⟨_,H,I1,ru,⟨rfl,fun ys hy _=>by rw[I.list_inj hy hq];exact hx⟩,⟨hi,st'⟩,fun b hb=>(hf b hb).1⟩⟩
 done:=by
  intro X hP hw hK hc i pins s σ H E I hf st hg;subst hP hw hK;obtain⟨f0,f1,f2,f3,f4,f5⟩:=hf it (by simp);have hit:=st.2;have hg':n<=i:=hg;have e:(n:Int) - 1 - (i:Int)=-1:=by have:=st.1;omega
  rw[e]at hit;exact wpAny_pyNext_rev_end (I.ok.hd hc) hit fun h' eb=>⟨rfl,I.turned (t':=s.toks) (fun b o hb e=>eb b o hb e) f0 f1 f3 f4 f5⟩
 self:=fun _ _ _ _ _ st h=>wpAny_pyIter_revIter st.2 h
def aBV (K:PySem.W.Frag) (ta:TA):TI:=fun σ H R=>ta σ H fun vs H1=>∃ a xs,vs=[.ref a]/\SqL K H1 a xs/\R (Itv K a xs.length) H1
theorem z5 {tg a:Expr} {ta:TA} {p pos:Pos} (hg:Gl X "reversed") (hm:X.mg "reversed"=none) (ha:PA X [a] ta) (hs:starEach [a] X.env=[(false,eval a X.env)]:=by rfl):PI X tg (.Call (.Name "reversed" p) [a] [] pos) (aBV X.K ta):=by
 intro pins s σ H R I h;refine Call_ (jC I hg hm PyProof.Rows.boot_reversed (PyProof.Rows.callWith_type1 (thn (ha pos pins s σ H _ I h) fun us s1 ⟨vs,H1,I1,r1,q1⟩=>?_) hs rfl));obtain⟨a,xs,e,hq,q⟩:=q1;subst e;obtain⟨u,rfl,rx⟩:=iU r1;cases rx;obtain⟨its,rv,pl,hz⟩:=I1.list hq;have hlen:=rv.length;refine call_reversed_list pl.isList ?_;have es:((its.toArray.size:Nat):Int) - 1=(xs.length:Int) - 1:=by rw[hlen];simp
 rw[es];have I2:Inv X pins σ H1 { s1 with heap:=s1.heap.push (revObj a ((xs.length:Int) - 1)) }:=I1.kept (t':=s1.toks) fun b o e=>aB5 _ e;have st:({ s1 with heap:=s1.heap.push (revObj a ((xs.length:Int) - 1)) }:Shared).heap.IsRevIter s1.heap.objs.size a ((xs.length:Int) - 1):=⟨_,aBb _ rfl,rfl,rfl⟩;refine wpAny_pyIter_revIter st ?_;refine⟨s1.heap.objs.size,[s1.heap.objs.size],_,_,H1,rfl,I2,P3 a _ xs.length,⟨Nat.zero_le _,by simpa using st⟩,fun b hb=>?_,q⟩;have e:b=s1.heap.objs.size:=by simpa using hb
 subst e;exact I1.fpOk (Nat.le_refl _) (I1.hok.fresh (Nat.le_refl _))
end
theorem P4 {K:PySem.W.Frag} {a:Addr} {xs:List V} {σ0:St} {g:TG} {tt:TT} {te:TE} {H:Hp} {Q:VK} (Pv:Nat->List V->Hp->Prop) (h0:Pv 0 [] H) (hl:∀ i ys H,i<=xs.length->Pv i ys H->SqL K H a xs/\ys.length<sizeLine)
 (hs:∀ i x ys H,xs.reverse[i]?=some x->Pv i ys H->g x σ0 H fun σ2 H2=>tt σ2 H2 fun b H3=>if b=true then te σ2 H3 fun y H4=>Pv (i+1) (ys++[y]) H4 else Pv (i+1) ys H3) (hd:∀ ys H,Pv xs.length ys H->∀ D,H D=none->Q (.ref D) (upd H D (.lst ys))) :
 oN (Itv K a xs.length) σ0 g tt te Q H:=by
 refine⟨fun i m ys H=>m=xs.length - i/\i<=xs.length/\Pv i ys H,⟨xs.length,by simp,Nat.zero_le _,h0⟩,?_⟩;rintro i m ys H ⟨rfl,hi,p⟩;obtain⟨q,hz⟩:=hl i ys H hi p;refine⟨hz,?_⟩
 by_cases hlt:i<xs.length
 ·refine .inr ⟨⟨hlt,xs,q,rfl⟩,Pv (i+1),fun ys' H' p'=>⟨xs.length - (i+1),by omega,rfl,hlt,p'⟩,fun x H' y=>?_⟩;obtain⟨e,y⟩:=y;subst e;refine hs i x ys _ ?_ p;rw[List.getElem?_reverse hlt];exact y xs q rfl
 ·have e:i=xs.length:=by omega
  subst e;exact .inl ⟨Nat.le_refl _,hd ys H p⟩
theorem fJ:bootBuiltins "list"=some (.type "list"):=by decide +kernel
theorem mK:bootBuiltins "tuple"=some (.type "tuple"):=by decide +kernel
theorem sV:bootBuiltins "bool"=some (.type "bool"):=by decide +kernel
theorem wJ:bootBuiltins "str"=some (.type "str"):=by decide +kernel
theorem wK:bootBuiltins "int"=some (.type "int"):=by decide +kernel
theorem bI:bootBuiltins "isinstance"=some (.builtin "isinstance"):=by decide +kernel
theorem P5:bootBuiltins "all"=some (.builtin "all"):=by decide +kernel
theorem cO:bootBuiltins "sorted"=some (.builtin "sorted"):=by decide +kernel
theorem qH:bootBuiltins "max"=some (.builtin "max"):=by decide +kernel
theorem iA:bootBuiltins "min"=some (.builtin "min"):=by decide +kernel
structure Bt (mg:Str->Option Value):Prop where
 len:mg "len"=none
 range:mg "range"=none
 list:mg "list"=none
 tuple:mg "tuple"=none
 bool:mg "bool"=none
 str:mg "str"=none
 int:mg "int"=none
 isinstance:mg "isinstance"=none
 all:mg "all"=none
 sorted:mg "sorted"=none
 max:mg "max"=none
 min:mg "min"=none
 set:mg "set"=none
 reversed:mg "reversed"=none
 sum:mg "sum"=none
 enumerate:mg "enumerate"=none
 zip:mg "zip"=none
 any:mg "any"=none
 abs:mg "abs"=none
def aX (P:Program) (w:World) (K:PySem.W.Frag) (mg:Str->Option Value) (base:Heap) (x:Str) (k:Nat) (ps:List Str) (sp:Sp):Prop :=
 ∃ f fd,FnOk P w K mg base CX0 k f fd ps sp/\mg x=some (.ref f)/\PySem.W.keepIn K (.ref f)=true/\Binds K fd ps []
section
variable {X:Cx} {x:Str} {j k:Nat} {ps:List Str} {sp:Sp} {t:TA} {e:Expr} {es:List Expr} {p pos:Pos}
theorem aU (F:aX X.prog X.w X.K X.mg X.base x j ps sp) (hr:Room k X.A) (hg:Gl X x) (ha:PA X (e :: es) t) (hj:j<=k:=by decide) (hdb:(x == ("__debug__":Str))=false:=by decide)
 (he:starEach (e :: es) X.env=(false,eval e X.env) :: starEach es X.env:=by rfl) (hpl:(backTo pos (starEach es X.env)).any (·.1)=false:=by rfl) :
 PE X (.Call (.Name x p) (e :: es) [] pos) (o6 sp [] E0 t):=by
 obtain⟨f,fd,G,hm,hk,hb⟩:=F;exact Y0 (hdb:=hdb) (he:=he) (hpl:=hpl) G (hr.mono hj) hg hm hk hb .nil aAh ha
theorem kL:OpR X (compareOp .Eq) (rI0 fun i j=>.bl (decide (i=j))):=O0 fun i j _ _ _ _ _ q=>eq_int (by
 have e:(i == j)=decide (i=j):=by rw[Bool.eq_iff_iff];simp
 rw[e];exact q)
theorem z6:OpR X (compareOp .NotEq) (rI0 fun i j=>.bl (!decide (i=j))):=O0 fun i j _ _ _ _ _ q=>ne_int (by
 have e:(i != j)=!decide (i=j):=by rw[bne];congr 1
 rw[e];exact q)
end
def aBW (t u:TS):TS:=fun D σ H=>∃ M:St->Hp->Prop,t { D with nx:=M } σ H/\∀ σ' H',M σ' H'->u D σ' H'
theorem pN {X:Cx} {st:Stmt} {rest:List Stmt} {t u:TS} (h1:PS X st t) (h2:PSs X rest u):PSs X (st :: rest) (aBW t u):=by
 intro pins s σ H D I h;obtain⟨M,h,hM⟩:=h;refine wpAny_execs_cons (thn (h1 pins s σ H { D with nx:=M } I h) fun f s1 q=>?_);cases f with
 | next =>
  obtain⟨σ',H',I',q⟩:=q;exact h2 pins s1 σ' H' D I' (hM σ' H' q)
 | ret v=>exact q
 | brk=>exact q
 | cont=>exact q
def aAj (t:TE):TE:=fun σ H Q=>∃ R:VK,t σ H R/\∀ v H',R v H'->Q v H'
theorem yL {X:Cx} {e:Expr} {t:TE} (h:PE X e t):PE X e (aAj t):=by
 intro pins s σ H Q I hw;obtain⟨R,hw,hR⟩:=hw;exact thn (h pins s σ H R I hw) fun u s1 ⟨v,H1,I1,r1,q1⟩=>⟨v,H1,I1,r1,hR v H1 q1⟩
theorem iB {c:Prop} [Decidable c] {A B:Prop} (h1:c->A) (h2:¬ c->B):if decide c=true then A else B:=by
 by_cases h:c
 ·rw[aBq h,if_pos rfl];exact h1 h
 ·rw[aBp h,if_neg aBh];exact h2 h
theorem sW {c:Prop} [Decidable c] {A B:Prop} (hc:c) (h1:A):if decide c=true then A else B:=by
 rw[aBq hc,if_pos rfl];exact h1
theorem iC {c:Prop} [Decidable c] {A B:Prop} (hc:¬ c) (h1:B):if decide c=true then A else B:=by
 rw[aBp hc,if_neg aBh];exact h1
section
variable {X:Cx} (K:PySem.W.Frag)
theorem wL (h:X.K=K):IxR X (w4 K):=h ▸ cC
theorem A0 (h:X.K=K):IxR X (rIx K):=h ▸ w8
theorem mG (h:X.K=K):OpR X (compareOp .NotIn) (rIn K true):=h ▸ uH
theorem jE (h:X.K=K):fW X (.builtin "len") (fun xs H Q=>∃ p ys,xs=[.ref p]/\(SqL K H p ys\/SqT K H p ys)/\Q (.int ys.length) H):=h ▸ bE
theorem dD {es:List Expr} {k:Nat} {t:TGs} {n:Nat} {pos:Pos} (h:X.K=K) (hc:X.calm=true) (hs:PGs X es t) (hn:(assignEach es X.env).length=n:=by rfl) (hst:(assignEach es X.env).findIdx? (·.1)=none:=by rfl):PG X (.Tuple es k pos) (u3 K n t):=h ▸ jU hc hs hn hst
end
end L2
namespace CW
def goM (c:Int):List Int->Nat->Int->List Int
 | [],h,n=>(List.range h).map (fun(k:Nat)=>n+(k:Int))
 | p :: r,h,n=>(List.range (min h (p - n).toNat)).map (fun(k:Nat)=>n+(k:Int)) ++
  (if ((h - min h (p - n).toNat:Nat):Int)<c then goM c r (h - min h (p - n).toNat+1) (p+1)else p :: goM c r (h - min h (p - n).toNat) (p+1))
def cK (row:List Int) (c:Int):List Int:=goM c row 0 0
theorem fE (k:Nat) (n:Int):(List.range (k+1)).map (fun(j:Nat)=>n+(j:Int))=n :: (List.range k).map (fun(j:Nat)=>(n+1)+(j:Int)):=by
 rw[List.range_succ_eq_map,aBt,aBy]
 congr 1
 ·simp
 ·apply List.map_congr_left
  intro j _;simp only[Function.comp];omega
theorem lR {c:Int} {p:Int} {r:List Int} {h:Nat} {n:Int} (hh:h=0\/p<=n):goM c (p :: r) h n=if (h:Int)<c then goM c r (h+1) (p+1)else p :: goM c r h (p+1):=by
 have e:min h (p - n).toNat=0:=by omega
 simp only[goM,e,List.range_zero,List.map_nil,List.nil_append,Nat.sub_zero]
theorem uL {c:Int} {p:Int} {r:List Int} {h:Nat} {n:Int} (hp:n<p):goM c (p :: r) (h+1) n=n :: goM c (p :: r) h (n+1):=by
 have e:min (h+1) (p - n).toNat=min h (p - (n+1)).toNat+1:=by omega
 have e2:h+1 - (min h (p - (n+1)).toNat+1)=h - min h (p - (n+1)).toNat:=by omega
 rw[goM,goM,e,e2,fE];simp
theorem mW (c:Int) (h:Nat) (n:Int):goM c [] (h+1) n=n :: goM c [] h (n+1):=by
 simp only[goM];exact fE h n
theorem uM (c:Int) (n:Int):goM c [] 0 n=[]:=rfl
theorem kM {c:Int} {row:List Int} {n m:Int}:goM c row 0 n=goM c row 0 m:=by
 cases row with
 | nil=>rfl
 | cons p r=>rw[lR (.inl rfl),lR (.inl rfl)]
theorem uN {c:Int}:∀ (row:List Int) (h:Nat) (n:Int),(goM c row h n).length=row.length+h
 | [],h,n=>by simp[goM]
 | p :: r,h,n=>by
  rw[goM];have hm:min h (p - n).toNat<=h:=Nat.min_le_left _ _;split
  ·rw[aBd,aB4,List.length_range,uN r,aBx];omega
  ·rw[aBd,aB4,List.length_range,aBx,uN r,aBx];omega
theorem gX (row:List Int) (c:Int):(cK row c).length=row.length:=by simp[cK,uN]
def pE (r:List Int):Prop:=r.Pairwise (·<·)
theorem P6 {c:Int}:∀ (row:List Int) (h:Nat) (n:Int),pE row->(∀ x∈row,n<=x\/h=0)->∀ y∈goM c row h n,(n<=y\/h=0)/\(h=0->∀ x,row.head?=some x->x<=y)
 | [],h,n,_,_=>fun y hy=>by
  simp only[goM,aCI,List.mem_range]at hy;obtain⟨k,hk,rfl⟩:=hy;exact⟨.inl (by omega),fun h0=>by omega⟩
 | p :: r,h,n,hr,hn=>fun y hy=>by
  have hp:n<=p\/h=0:=hn p aB6;have hrr:pE r:=(List.pairwise_cons.mp hr).2;have hlt:∀ x∈r,p+1<=x:=fun x hx=>by have:=(List.pairwise_cons.mp hr).1 x hx;omega
  rw[goM]at hy;have fst:y∈(List.range (min h (p - n).toNat)).map (fun(k:Nat)=>n+(k:Int))->n<=y/\h≠0:=fun q=>by
   simp only[aCI,List.mem_range]at q;obtain⟨k,hk,rfl⟩:=q;omega
  have snd:∀ h',y∈goM c r h' (p+1)->p<=y:=fun h' q=>by
   have z:=P6 r h' (p+1) hrr (fun x hx=>.inl (hlt x hx)) y q;rcases z.1 with z1 | z1
   ·omega
   ·cases r with
    | nil=>subst z1;simp[goM]at q
    | cons x r' =>
     have:=z.2 z1 x rfl;have:=hlt x aB6;omega
  rcases aCH.mp hy with q | q
  ·have:=fst q;exact⟨.inl this.1,fun h0=>absurd h0 this.2⟩
  ·have hy':p<=y:=by
    split at q
    ·exact snd _ q
    ·rcases aCG.mp q with q | q
     ·omega
     ·exact snd _ q
   refine⟨?_,fun _ x hx=>?_⟩
   ·rcases hp with z | z
    ·exact .inl (by omega)
    ·exact .inr z
   ·cases hx;exact hy'
theorem A1 {c:Int} (hc:1<=c):∀ (row:List Int) (h:Nat) (n:Int),pE row->(∀ x∈row,n<=x\/h=0)->pE (goM c row h n)
 | [],h,n,_,_=>by
  unfold pE;simp only[goM];rw[List.pairwise_map];exact(List.pairwise_lt_range).imp (fun {x y} q=>by omega)
 | p :: r,h,n,hr,hn=>by
  have hp:n<=p\/h=0:=hn p aB6;have hrr:pE r:=(List.pairwise_cons.mp hr).2;have hlt:∀ x∈r,p+1<=x:=fun x hx=>by have:=(List.pairwise_cons.mp hr).1 x hx;omega
  have ihr:∀ h',pE (goM c r h' (p+1)):=fun h'=>A1 hc r h' (p+1) hrr (fun x hx=>.inl (hlt x hx));have ge:∀ h' y,y∈goM c r h' (p+1)->p+1<=y:=fun h' y q=>by
   have z:=P6 r h' (p+1) hrr (fun x hx=>.inl (hlt x hx)) y q;rcases z.1 with z1 | z1
   ·exact z1
   ·cases r with
    | nil=>subst z1;simp[goM]at q
    | cons x r' =>
     have:=z.2 z1 x rfl;have:=hlt x aB6;omega
  rw[goM];unfold pE;rw[List.pairwise_append];refine⟨?_,?_,fun x hx y hy=>?_⟩
  ·rw[List.pairwise_map];exact(List.pairwise_lt_range).imp (fun {x y} q=>by omega)
  ·split
   ·exact ihr _
   ·rw[List.pairwise_cons];exact⟨fun y hy=>by have:=ge _ y hy;omega,ihr _⟩
  ·simp only[aCI,List.mem_range]at hx;obtain⟨k,hk,rfl⟩:=hx;have hy':p<=y:=by
    split at hy
    ·have:=ge _ y hy;omega
    ·rcases aCG.mp hy with q | q
     ·omega
     ·have:=ge _ y q;omega
   omega
def stp (c:Int) (l:Nat) (x:Bool):Nat×Bool :=
 if x then (if (l:Int)<c then (l+1,false)else (l,true))else (if 0<l then (l - 1,true)else (0,false))
def run (c:Int):Nat->List Bool->Nat×List Bool
 | l,[]=>(l,[])
 | l,x :: xs=>((run c (stp c l x).1 xs).1,(stp c l x).2 :: (run c (stp c l x).1 xs).2)
end CW
namespace CW
open PySem L2
theorem jF {ns:List Int} {i:Int} (h0:0<=i) (h1:i<ns.length):∃ n,n∈ns/\ns[i.toNat]?=some n/\atI (ns.map V.int) i=some (.int n):=by
 have hj:i.toNat<ns.length:=by omega
 refine⟨ns[i.toNat],List.getElem_mem hj,by simp[hj],?_⟩;have q:atI (ns.map V.int) ((i.toNat:Nat):Int)=some (.int ns[i.toNat]):=iV (by simp[hj]);rw[Int.toNat_of_nonneg h0]at q;exact q
theorem aL {n:Nat} (h:n<=10000):n<sizeLine:=Nat.lt_of_le_of_lt h (by decide)
theorem uO {n:Nat} (h:n<=10000):n<=sizeLine:=Nat.le_of_lt (aL h)
def E4 (ns:List Int):Prop:=∀ n∈ns,0<=n/\n<9967
theorem E5 (ns:List Int) (lo hi:Option Int):∃ ms:List Int,mC (ns.map V.int) lo hi=ms.map V.int/\ms.length<=ns.length/\∀ n∈ms,n∈ns:=by
 refine⟨(ns.drop (HT.sIx ns.length 0 lo)).take (HT.sIx ns.length ns.length hi - HT.sIx ns.length 0 lo),?_,?_,?_⟩
 ·unfold mC;simp only[aB4,List.map_take,List.map_drop]
 ·simp only[aBk,List.length_drop];omega
 ·intro n hn;exact List.mem_of_mem_drop (List.mem_of_mem_take hn)
theorem yM (ns:List Int) (k:Nat) (h:k<=ns.length):mC (ns.map V.int) none (some (k:Int))=(ns.take k).map V.int:=by
 unfold mC;rw[HT.sIx_none,HT.sIx_nat,aB4,List.drop_zero,Nat.sub_zero,Nat.min_eq_left h,List.map_take]
theorem mX (ns:List Int) (k:Nat) (h:k<=ns.length):mC (ns.map V.int) (some (k:Int)) none=(ns.drop k).map V.int:=by
 unfold mC;rw[HT.sIx_none,HT.sIx_nat,aB4,Nat.min_eq_left h,<- List.map_drop,<- List.map_take,List.take_of_length_le (by simp)]
def sd1 (seed z:Int):Int:=(seed * 40014+z % 999983+29) % 2147483563
def sd2 (seed:Int) (ys:List Int):Int:=(seed * seed+52774 * seed+13 * ((List.map V.int ys).length:Int)+7) % 2147483629
def rs1 (z:Int):Int:=z - 10 ^ (18:Int).toNat
inductive lS (K:PySem.W.Frag) (vs:List V) (H:Hp) (Q:VK) (E_:XK):Prop
 | mk (a:Addr) (script:List Int) (m:Nat) (h0_:vs=[.ref a,.int m]) (h1_:SqL K H a (script.map V.int)) (h2_:script.length<=63) (h3_:m<=1000) (h4_:∀ (l:Addr) (ns:List Int) (H':Hp),ns.length=m->E4 ns->H l=none->Same H H'->H' l=some (.lst (ns.map V.int))->Q (.ref l) H'):lS K vs H Q E_
def Row (r:List Int):Prop:=r.Pairwise (·<·)
theorem Row.lt {r:List Int} (h:Row r) {i j:Nat} {x y:Int} (hij:i<j) (hx:r[i]?=some x) (hy:r[j]?=some y):x<y:=by
 obtain⟨h1,rfl⟩:=aCF.mp hx;obtain⟨h2,rfl⟩:=aCF.mp hy;exact List.pairwise_iff_getElem.mp h i j h1 h2 hij
def mY (H:Hp) (Q:VK) (ns:List Int):Prop:=∀ (l:Addr) (H':Hp),H l=none->Same H H'->H' l=some (.lst (ns.map V.int))->Q (.ref l) H'
inductive kN (vs:List V) (H:Hp) (Q:VK) (E_:XK):Prop
 | mk (a:Addr) (row:List Int) (h0_:vs=[.ref a]) (h1_:H a=some (.lst (row.map V.int))) (h2_:Row row) (h3_:row.length<=60) (h4_:Q .non H):kN vs H Q E_
structure Cn (mg:Str->Option Value) (tC:Tok):Prop where
 MOST_STONES:mg "MOST_STONES"=some (.int 60 tC)
theorem qI {l:List Int} {i:Nat} {z:Int} (f:Int->Int) (h:l[i]?=some z):((l.take i).map f).map V.int++[V.int (f z)]=((l.take (i+1)).map f).map V.int:=by
 rw[aBz,h];simp
theorem eO {l:List Int} {i:Nat} {x:V} (h:(l.map V.int)[i]?=some x):∃ z,x=.int z/\l[i]?=some z:=by
 rw[aBs]at h;cases e:l[i]? with
 | none=>rw[e]at h;cases h
 | some z=>rw[e]at h;exact⟨z,(Option.some.inj h).symm,rfl⟩
theorem mZ {α:Type} (l:List α) (i:Nat) (h:i<=60) (f:α->Int):((((l.take i).map f).map V.int)).length<sizeLine:=by
 simp only[aB4,aBk];exact aL (by omega)
def mD (row:List Int):List Int:=row.reverse.map (fun z=>-z)
inductive iD (vs:List V) (H:Hp) (Q:VK) (E_:XK):Prop
 | mk (a:Addr) (row:List Int) (h0_:vs=[.ref a]) (h1_:H a=some (.lst (row.map V.int))) (h2_:Row row) (h3_:row.length<=60) (h4_:mY H Q (mD row)):iD vs H Q E_
inductive kO (vs:List V) (H:Hp) (Q:VK) (E_:XK):Prop
 | mk (a:Addr) (row:List Int) (h0_:vs=[.ref a]) (h1_:H a=some (.lst (row.map V.int))) (h2_:row.length<=60) (h3_:mY H Q (mD row)):kO vs H Q E_
def z7 (H:Hp) (v:V) (p:Int×Int):Prop:=∃ t,v=.ref t/\H t=some (.tup [.int p.1,.int p.2])
abbrev Prs (H:Hp):List V->List (Int×Int)->Prop:=Paired (z7 H)
def TupS (H H':Hp):Prop:=∀ t xs,H t=some (.tup xs)->H' t=some (.tup xs)
theorem Prs.mono {H H':Hp} (h:TupS H H') {vs:List V} {ps:List (Int×Int)} (r:Prs H vs ps):Prs H' vs ps:=Paired.mapP r fun _ _ ⟨t,e,q⟩=>⟨t,e,h _ _ q⟩
theorem TupS.new {H:Hp} {a:Addr} {o:HO} (h:H a=none):TupS H (upd H a o):=fun t xs e=>by rw[aG (aV e h)];exact e
theorem TupS.lst {H:Hp} {a:Addr} {xs ys:List V} (h:H a=some (.lst xs)):TupS H (upd H a (.lst ys)):=fun t zs e=>by rw[aG (fV e h (by intro z;cases z))];exact e
theorem TupS.same {H H':Hp} (h:Same H H'):TupS H H':=fun t xs e=>h _ _ e
theorem TupS.trans {H H1 H2:Hp} (a:TupS H H1) (b:TupS H1 H2):TupS H H2:=fun t xs e=>b _ _ (a _ _ e)
def pD (p:Int×Int):PyData:=.tuple [.int p.1,.int p.2]
theorem Prs.dens {H:Hp}:∀ {vs:List V} {ps:List (Int×Int)},Prs H vs ps->Dens H vs (ps.map pD)
 | _,_,.nil=>.nil
 | _,_,.cons ⟨t,e,q⟩ r=>by subst e;exact .cons (.tup q (.cons (.int _) (.cons (.int _) .nil))) (Prs.dens r)
theorem Paired.append' {α β:Type} {F:α->β->Prop}:∀ {l₁ m₁:List α} {l₂ m₂:List β},Paired F l₁ l₂->Paired F m₁ m₂->Paired F (l₁++m₁) (l₂++m₂)
 | _,_,_,_,.nil,s=>s
 | _,_,_,_,.cons r t,s=>.cons r (Paired.append' t s)
theorem Paired.split_last {α β:Type} {F:α->β->Prop} {l₁:List α} {l₂:List β} {b:β} (h:Paired F l₁ (l₂++[b])):∃ m a,l₁=m++[a]/\Paired F m l₂/\F a b:=by
 induction l₂ generalizing l₁ with
 | nil =>
  cases h with
  | cons r t=>cases t;exact⟨[],_,rfl,.nil,r⟩
 | cons c l ih =>
  cases h with
  | cons r t =>
   obtain⟨m,a,e,q,f⟩:=ih t;exact⟨_ :: m,a,by rw[e];rfl,.cons r q,f⟩
def iE (ps:List (Int×Int)) (x:Int):List (Int×Int) :=
 match ps.getLast? with
 | some p=>if p.2=x - 1 then ps.dropLast++[(p.1,x)]else ps++[(x,x)]
 | none=>[(x,x)]
def cZ (row:List Int):List (Int×Int):=row.foldl iE []
theorem sX (x:Int):iE [] x=[(x,x)]:=rfl
theorem fK (ps:List (Int×Int)) (p:Int×Int) (x:Int):iE (ps++[p]) x=if p.2=x - 1 then ps++[(p.1,x)]else (ps++[p])++[(x,x)]:=by
 unfold iE;rw[List.getLast?_concat,List.dropLast_concat]
theorem P8 (ps:List (Int×Int)) (x:Int):(iE ps x).length<=ps.length+1:=by
 rcases List.eq_nil_or_concat ps with rfl | ⟨l,p,rfl⟩
 ·exact Nat.le_refl _
 ·simp only[List.concat_eq_append];rw[fK];split <;> simp
theorem gY {row:List Int} {i:Nat} {z:Int} (h:row[i]?=some z):iE (cZ (row.take i)) z=cZ (row.take (i+1)):=by
 unfold cZ;rw[aBz,h];simp
def wM (H:Hp) (Q:VK) (ps:List (Int×Int)):Prop:=∀ (l:Addr) (vs:List V) (H':Hp),H l=none->Same H H'->H' l=some (.lst vs)->Prs H' vs ps->Q (.ref l) H'
inductive eT (vs:List V) (H:Hp) (Q:VK) (E_:XK):Prop
 | mk (a:Addr) (row:List Int) (h0_:vs=[.ref a]) (h1_:H a=some (.lst (row.map V.int))) (h2_:Row row) (h3_:row.length<=60) (h4_:wM H Q (cZ row)):eT vs H Q E_
inductive qJ (vs:List V) (H:Hp) (Q:VK) (E_:XK):Prop
 | mk (a:Addr) (row:List Int) (h0_:vs=[.ref a]) (h1_:H a=some (.lst (row.map V.int))) (h2_:row.length<=60) (h3_:wM H Q (cZ row)):qJ vs H Q E_
theorem pO (vs:List V) (v:V):ixN (vs++[v]).length (-1)=some vs.length:=by
 unfold ixN;rw[if_neg (by decide),if_pos (by simp;omega)]
 congr 1
 simp;omega
theorem nA {α:Type} (vs:List α) (v u:α):(vs++[v]).set vs.length u=vs++[u]:=by
 rw[List.set_append_right _ _ (Nat.le_refl _)];simp
theorem uP (ps:List (Int×Int)):PyData.canLayAll0 (ps.map pD)=true:=by
 induction ps with
 | nil=>rfl
 | cons p r ih=>simp[PyData.canLayAll0,pD,PyData.canLay0,ih]
theorem oO (ps:List (Int×Int)):PyData.depthAll (ps.map pD)<=1:=by
 induction ps with
 | nil=>simp[PyData.depthAll]
 | cons p r ih=>simp[PyData.depthAll,pD,PyData.depth];omega
theorem wN (ns:List Int):PyData.canLayAll0 (ns.map PyData.int)=true:=by
 induction ns with
 | nil=>rfl
 | cons p r ih=>simp[PyData.canLayAll0,PyData.canLay0,ih]
theorem qK (ns:List Int):PyData.depthAll (ns.map PyData.int)=0:=by
 induction ns with
 | nil=>simp[PyData.depthAll]
 | cons p r ih=>simp[PyData.depthAll,PyData.depth,ih]
theorem jW (ps:List (Int×Int)):SeqAt.shaped (.list (ps.map pD))=true:=by
 have:=oO ps;simp[SeqAt.shaped,PyData.canLay0,uP,PyData.depth];omega
theorem iW (ns:List Int):SeqAt.shaped (.list (ns.map PyData.int))=true:=by
 simp[SeqAt.shaped,PyData.canLay0,wN,PyData.depth,qK]
theorem qL {r:List Int} {x:Int} (h:Row r) (hx:∀ y∈r,y<x):Row (r++[x]):=by
 unfold Row;rw[List.pairwise_append];exact⟨h,List.pairwise_singleton _ _,fun a ha b hb=>by rw[aCA.mp hb];exact hx a ha⟩
mutual
def sml:PyData->Bool
 | .list xs=>decide (xs.length<=5000) && iG xs
 | .tuple xs=>decide (xs.length<=5000) && iG xs
 | .dict _=>false
 | .none=>true
 | .bool _=>true
 | .int _=>true
 | .str _=>true
def iG:List PyData->Bool
 | []=>true
 | x :: xs=>sml x && iG xs
end
theorem A3 {ds:List PyData} {d:PyData} (h:d∈ds) (hc:iG ds=true):sml d=true:=by
 induction ds with
 | nil=>cases h
 | cons x r ih =>
  simp only[iG,Bool.and_eq_true]at hc;rcases aCG.mp h with rfl | h
  ·exact hc.1
  ·exact ih h hc.2
theorem Q0 {ns:List Int} (h:ns.length<=5000):sml (.list (ns.map PyData.int))=true:=by
 have:∀ ns:List Int,iG (ns.map PyData.int)=true:=fun ns=>by
  induction ns with
  | nil=>rfl
  | cons p r ih=>simp[iG,sml,ih]
 simp[sml,this,h]
theorem E6 {ps:List (Int×Int)} (h:ps.length<=5000):sml (.list (ps.map pD))=true:=by
 have:∀ ps:List (Int×Int),iG (ps.map pD)=true:=fun ps=>by
  induction ps with
  | nil=>rfl
  | cons p r ih=>simp[iG,sml,pD,ih]
 simp[sml,this,h]
inductive oB (n:Nat) (vs:List V) (H:Hp) (Q:VK) (E_:XK):Prop
 | mk (x y:V) (d:PyData) (h0_:vs=[x,y]) (h1_:Den H x d) (h2_:Den H y d) (h3_:d.depth<=n) (h4_:SeqAt.shaped d=true) (h5_:sml d=true) (h6_:∀ H',Same H H'->Q (.bl true) H'):oB n vs H Q E_
theorem sY {ds:List PyData} {d:PyData} (h:d∈ds):d.depth<=PyData.depthAll ds:=by
 induction ds with
 | nil=>cases h
 | cons x r ih =>
  simp only[PyData.depthAll];rcases aCG.mp h with rfl | h
  ·omega
  ·have:=ih h;omega
theorem qM {ds:List PyData} {d:PyData} (h:d∈ds) (hc:PyData.canLayAll0 ds=true):d.canLay0=true:=by
 induction ds with
 | nil=>cases h
 | cons x r ih =>
  simp only[PyData.canLayAll0,Bool.and_eq_true]at hc;rcases aCG.mp h with rfl | h
  ·exact hc.1
  ·exact ih h hc.2
theorem nB {d:PyData} (h:SeqAt.shaped d=true):PyData.eqv d d=true:=SeqAt.eqv_refl d (SeqAt.canLay_of_shaped h)
theorem qN {row:List Int} (h:Row row):Row (mD row):=by
 unfold Row mD at *;rw[List.pairwise_map,List.pairwise_reverse];exact h.imp (fun {x y} q=>by omega)
theorem jL (row:List Int):(mD row).length=row.length:=by simp[mD]
theorem oC (row:List Int):(cZ row).length<=row.length:=by
 have:∀ (r:List Int) (ps:List (Int×Int)),(r.foldl iE ps).length<=ps.length+r.length:=fun r=>by
  induction r with
  | nil=>intro ps;simp
  | cons x r ih =>
   intro ps;rw[aBv];have h1:=ih (iE ps x);have h2:=P8 ps x;simp only[aBx];omega
 have:=this row [];simpa[cZ]using this
inductive wO (K:PySem.W.Frag) (vs:List V) (H:Hp) (Q:VK) (E_:XK):Prop
 | mk (a:Addr) (ns:List Int) (h0_:vs=[.ref a]) (h1_:SqL K H a (ns.map V.int)) (h2_:ns.length<=63) (h3_:∀ H',Q (.bl true) H'):wO K vs H Q E_
theorem E7 {row:List Int} {c:Int} (h:Row row) (hc:1<=c:=by omega):Row (cK row c):=A1 hc row 0 0 h (fun _ _=>.inr rfl)
inductive fX (vs:List V) (H:Hp) (Q:VK) (E_:XK):Prop
 | mk (c:Int) (h0_:vs=[.int c]) (h1_:1<=c) (h2_:Q .non H):fX vs H Q E_
inductive jM (vs:List V) (H:Hp) (Q:VK) (E_:XK):Prop
 | mk (a:Addr) (row:List Int) (c:Int) (h0_:vs=[.ref a,.int c]) (h1_:H a=some (.lst (row.map V.int))) (h2_:Row row) (h3_:row.length<=60) (h4_:1<=c) (h5_:mY H Q (cK row c)):jM vs H Q E_
def nC (row:List Int) (c:Int):List Int:=mD (cK (mD row) c)
inductive uQ (vs:List V) (H:Hp) (Q:VK) (E_:XK):Prop
 | mk (a:Addr) (row:List Int) (c:Int) (h0_:vs=[.ref a,.int c]) (h1_:H a=some (.lst (row.map V.int))) (h2_:Row row) (h3_:row.length<=60) (h4_:1<=c) (h5_:mY H Q (nC row c)):uQ vs H Q E_
theorem E8 (row:List Int) (c:Int):(nC row c).length=row.length:=by simp[nC,jL,gX]
end CW
namespace CW
end CW
namespace CW
open PySem L2
theorem paired_get {α β:Type} {F:α->β->Prop}:∀ {l₁:List α} {l₂:List β} {i:Nat} {x:α},Paired F l₁ l₂->l₁[i]?=some x->∃ y,l₂[i]?=some y/\F x y
 | _,_,_,_,.nil,e=>by simp at e
 | _,_,0,_,.cons r _,e=>by simp at e;subst e;exact⟨_,rfl,r⟩
 | _,_,i+1,x,.cons _ t,e=>by
  obtain⟨y,h1,h2⟩:=paired_get (i:=i) (x:=x) t (by simpa using e);exact⟨y,by simpa using h1,h2⟩
end CW
namespace L2
open PySem PySem.Spec PyProof.Rows
abbrev two (b:Int) (t:Tok) (c:Nat):Obj:={ cls:=.type "list",dict:=none,data:=.seq #[.int b t,.int b t] c,slots:=#[] }
theorem kP:∀ {its:List Value} {ns:List Int} {i:Nat} {n:Int},IntsAre its ns->ns[i]?=some n->∃ t,its[i]?=some (.int n t)
 | _,_,_,_,.nil,e=>by simp at e
 | _,_,0,_,.cons n t _,e=>by simp at e;subst e;exact⟨t,rfl⟩
 | _,_,i+1,n,.cons _ _ r,e=>by
  obtain⟨t,h⟩:=kP (i:=i) (n:=n) r (by simpa using e);exact⟨t,by simpa using h⟩
section
variable {prog:Program} {w:World} {A:Around} {R:Result->Shared->Prop} {l it S:Addr} {its:List Value} {ns:List Int} {d:Value}
theorem Y6 (hh:A.handled=none) (hI:IntsAre its ns) (hlt:l≠it) (hiS:it≠S) (hlS:l≠S) :
 ∀ (k i:Nat) (s:Shared) (b:Int) (t:Tok) (c:Nat),ns.length - i=k->i<=ns.length->s.heap.IsListIter it l i->s.heap.IsList l its.toArray->s.heap.get? S=some (two b t c) ->
  (∀ h' tk t',(∀ x o,x≠it->x≠S->s.heap.get? x=some o->h'.get? x=some o)->R (.ok (.ret (.int ((ns.drop i).foldl max b) t'))) { s with heap:=h',toks:=tk }) ->
  codeAny (model prog w) A (.builtin "max.loop" ⟨[.ref it,.none,.ref S],[(Str.ofString "default",d)]⟩) R s:=by
 have nm:(toString "max"++toString ".loop":String)="max.loop":=by decide
 intro k
 induction k with
 | zero =>
  intro i s b t c hk hi st hl hS hR;have e:i=ns.length:=by omega
  refine codeAny_builtin PySem.F.entry_max_loop (by
   rw[aBg PySem.F.plain_max_loop _];show wpAny _ A.in1 (seqItems? (Value.ref S) >>= _) _ _ s;refine aB2 (wpAny_seqItems hS rfl ?_);show wpAny _ A.in1 (tryCatch (pyNext (Value.ref it)) _ >>= _) _ _ s;refine aB2 (wpAny_tryCatch (wpAny_pyNext_list_end hh st hl (by have:=hI.length;simp;omega) fun h' eb=>?_));have hS':=eb S _ (Ne.symm hiS) hS;show wpAny _ A.in1 (updateSeq S (fun _=>#[]) >>= _) _ _ { s with heap:=h' };refine aB2 (wpAny_updateSeq hS' rfl (aB2 (wpAny_letGo (aB3 ?_))));have q:=hR (h'.update S (Obj.mapSeq fun _=>#[])) s.toks t (fun x o h1 h2 e=>(aB9 _ _ (Ne.symm h2)).trans (eb x o h1 e));rw[e,List.drop_length]at q;exact q)
 | succ k ih =>
  intro i s b t c hk hi st hl hS hR;have hi':i<ns.length:=by omega
  obtain⟨u,hu⟩:=kP (i:=i) (n:=ns[i]) hI (by simp[hi']);have hdr:ns.drop i=ns[i] :: ns.drop (i+1):=List.drop_eq_getElem_cons hi';refine codeAny_builtin PySem.F.entry_max_loop (by
   rw[aBg PySem.F.plain_max_loop _];show wpAny _ A.in1 (seqItems? (Value.ref S) >>= _) _ _ s;refine aB2 (wpAny_seqItems hS rfl ?_);show wpAny _ A.in1 (tryCatch (pyNext (Value.ref it)) _ >>= _) _ _ s;refine aB2 (wpAny_tryCatch (wpAny_pyNext_list_item st hl (x:=.int ns[i] u) (by simpa using hu) fun h' st' sb=>?_));have hS':=sb.extBut S _ (Ne.symm hiS) hS;have hl':=hl.extBut sb.extBut hlt;show wpAny _ A.in1 (tryCatch (holding [.int ns[i] u,.int ns[i] u] (richCompare .Gt (.int ns[i] u) (.int b t) >>= _)) _ >>= _) _ _ { s with heap:=h' };refine aB2 (wpAny_tryCatch (wpAny_holding (aB2 (gt_int (s:={ s with heap:=h' }) ?_))));refine aB2 (wpAny_holding (wpAny_truthy_bool (aB2 (wpAny_letGo (aB3 ?_)))))
   by_cases hb:b<ns[i]
   ·have hd:decide (b<ns[i])=true:=aBq hb;simp only[hd,if_true];refine aB2 (wpAny_updateSeq hS' rfl (aB2 (wpAny_letGo ?_)));rw[nm];obtain⟨c',e1⟩:∃ c',(h'.update S (Obj.mapSeq fun _=>#[Value.int ns[i] u,Value.int ns[i] u])).get? S=some (two ns[i] u c'):=⟨_,aBm _ hS' rfl⟩;refine aB3 ⟨plainId_quiet PySem.F.plain_max_loop _,ih (i+1) { s with heap:=h'.update S (Obj.mapSeq fun _=>#[Value.int ns[i] u,Value.int ns[i] u]) } ns[i] u _ (by omega) hi' (st'.at fun o e=>(aB9 _ _ (Ne.symm hiS)).trans e) (hl'.at fun o e=>(aB9 _ _ (Ne.symm hlS)).trans e) e1 fun h'' tk t' kp=>?_⟩;have q:=hR h'' tk t' (fun x o h1 h2 e=>kp x o h1 h2 ((aB9 _ _ (Ne.symm h2)).trans (sb.extBut x o h1 e)));rw[hdr,aBv,show max b ns[i]=ns[i]by omega]at q;exact q
   ·have hd:decide (b<ns[i])=false:=aBp hb;simp only[hd,Bool.false_eq_true,if_false];refine aB2 (wpAny_letGo ?_);rw[nm];refine aB3 ⟨plainId_quiet PySem.F.plain_max_loop _,ih (i+1) { s with heap:=h' } b t c (by omega) hi' st' hl' hS' fun h'' tk t' kp=>?_⟩;have q:=hR h'' tk t' (fun x o h1 h2 e=>kp x o h1 h2 (sb.extBut x o h1 e));rw[hdr,aBv,show max b ns[i]=b by omega]at q;exact q)
theorem Q3 (hh:A.handled=none) (hI:IntsAre its ns) (hlt:l≠it) (hiS:it≠S) (hlS:l≠S) {s:Shared} {c:Nat} (st:s.heap.IsListIter it l 0) (hl:s.heap.IsList l its.toArray)
 (hS:s.heap.get? S=some { cls:=.type "list",dict:=none,data:=.seq #[] c,slots:=#[] }) (x0:V) (rx:RelV x0 d)
 (hR:∀ h' tk v u,(∀ x o,x≠it->x≠S->s.heap.get? x=some o->h'.get? x=some o)->RelV v u->(v=match ns with | []=>x0 | n :: r=>.int (r.foldl max n))->R (.ok (.ret u)) { s with heap:=h',toks:=tk }) :
 codeAny (model prog w) A (.builtin "max.loop" ⟨[.ref it,.none,.ref S],[(Str.ofString "default",d)]⟩) R s:=by
 have nm:(toString "max"++toString ".loop":String)="max.loop":=by decide
 cases hI with
 | nil =>
  refine codeAny_builtin PySem.F.entry_max_loop (by
   rw[aBg PySem.F.plain_max_loop _];show wpAny _ A.in1 (seqItems? (Value.ref S) >>= _) _ _ s;refine aB2 (wpAny_seqItems hS rfl ?_);show wpAny _ A.in1 (tryCatch (pyNext (Value.ref it)) _ >>= _) _ _ s;refine aB2 (wpAny_tryCatch (wpAny_pyNext_list_end hh st hl (by simp) fun h' eb=>?_));refine aB2 (wpAny_rule (aB3 ?_));exact hR h' s.toks x0 d (fun x o h1 _ e=>eb x o h1 e) rx rfl)
 | @cons n t its' ns' r =>
  refine codeAny_builtin PySem.F.entry_max_loop (by
   rw[aBg PySem.F.plain_max_loop _];show wpAny _ A.in1 (seqItems? (Value.ref S) >>= _) _ _ s;refine aB2 (wpAny_seqItems hS rfl ?_);show wpAny _ A.in1 (tryCatch (pyNext (Value.ref it)) _ >>= _) _ _ s;refine aB2 (wpAny_tryCatch (wpAny_pyNext_list_item st hl (x:=.int n t) (by simp) fun h' st' sb=>?_));have hS':=sb.extBut S _ (Ne.symm hiS) hS;have hl':=hl.extBut sb.extBut hlt;show wpAny _ A.in1 (updateSeq S (fun _=>#[Value.int n t,Value.int n t]) >>= _) _ _ { s with heap:=h' };refine aB2 (wpAny_updateSeq hS' rfl ?_);rw[nm];obtain⟨c',e1⟩:∃ c',(h'.update S (Obj.mapSeq fun _=>#[Value.int n t,Value.int n t])).get? S=some (two n t c'):=⟨_,aBm _ hS' rfl⟩;refine aB3 ⟨plainId_quiet PySem.F.plain_max_loop _,Y6 hh (.cons n t r) hlt hiS hlS _ 1 { s with heap:=h'.update S (Obj.mapSeq fun _=>#[Value.int n t,Value.int n t]) } n t _ rfl (by simp) (st'.at fun o e=>(aB9 _ _ (Ne.symm hiS)).trans e) (hl'.at fun o e=>(aB9 _ _ (Ne.symm hlS)).trans e) e1 fun h'' tk t' kp=>?_⟩;exact hR h'' tk (.int (ns'.foldl max n)) _ (fun x o h1 h2 e=>kp x o h1 h2 ((aB9 _ _ (Ne.symm h2)).trans (sb.extBut x o h1 e))) ⟨t',rfl⟩ rfl)
def mxD (ns:List Int) (x0:V):V:=match ns with | []=>x0 | n :: r=>.int (r.foldl max n)
theorem E9 (a d:Value):argsOk "max" ⟨[a],[(Str.ofString "default",d)]⟩:=by unfold argsOk;kernel_rfl
theorem G0 {E:Value->Shared->Prop} {s:Shared} {x0:V} {Q:Value->Shared->Prop} (hh:A.handled=none) (hI:IntsAre its ns) (hl:s.heap.IsList l its.toArray) (rx:RelV x0 d)
 (h:∀ h' tk u,(∀ x o,s.heap.get? x=some o->h'.get? x=some o)->RelV (mxD ns x0) u->Q u { s with heap:=h',toks:=tk }):wpAny (model prog w) A (call (.builtin "max") [.ref l] [(Str.ofString "default",d)]) Q E s:=by
 have nm:(toString "max"++toString ".loop":String)="max.loop":=by decide
 refine kmk_tree PySem.F.kind_max PySem.F.plain_max PySem.F.entry_max (E9 _ _) (by
  show wpAny _ A.in1 (Builtin.Builtins.bindParams "max" ["key","default"] 0 ⟨[],[(Str.ofString "default",d)]⟩ >>= _) _ _ s;refine aB2 (wpAny_of_eq (show Builtin.Builtins.bindParams "max" ["key","default"] 0 ⟨[],[(Str.ofString "default",d)]⟩=pure [none,some d] from rfl) (aB2 (aB3 ?_)));refine aB2 (wpAny_pyIter_list hl ?_);refine aB2 (wpAny_newObj_type ?_);rw[nm];have hlt:l<s.heap.objs.size:=by obtain⟨_,e,_⟩:=hl;exact aBa e
  refine aB3 ⟨plainId_quiet PySem.F.plain_max_loop _,Q3 (l:=l) (it:=s.heap.objs.size) (its:=its) hh hI (aBr hlt) (by rw[Heap.size_push];exact aBr (Nat.lt_succ_self _)) (by rw[Heap.size_push];exact aBr (Nat.lt_succ_of_lt hlt)) ⟨_,aB5 _ (aBb _ rfl),rfl,rfl⟩ ((hl.push _).push _) (aBb _ rfl) x0 rx fun h' tk v u kp rv ev=>?_⟩;subst ev;refine h h' tk u (fun x o e=>?_) rv;have hx:=aBa e;exact kp x o (aBr hx) (by rw[Heap.size_push];exact aBr (Nat.lt_succ_of_lt hx)) (aB5 _ (aB5 _ e)))
theorem Y7 (hh:A.handled=none) (hI:IntsAre its ns) (hlt:l≠it) (hiS:it≠S) (hlS:l≠S) :
 ∀ (k i:Nat) (s:Shared) (b:Int) (t:Tok) (c:Nat),ns.length - i=k->i<=ns.length->s.heap.IsListIter it l i->s.heap.IsList l its.toArray->s.heap.get? S=some (two b t c) ->
  (∀ h' tk t',(∀ x o,x≠it->x≠S->s.heap.get? x=some o->h'.get? x=some o)->R (.ok (.ret (.int ((ns.drop i).foldl min b) t'))) { s with heap:=h',toks:=tk }) ->
  codeAny (model prog w) A (.builtin "min.loop" ⟨[.ref it,.none,.ref S],[(Str.ofString "default",d)]⟩) R s:=by
 have nm:(toString "min"++toString ".loop":String)="min.loop":=by decide
 intro k
 induction k with
 | zero =>
  intro i s b t c hk hi st hl hS hR;have e:i=ns.length:=by omega
  refine codeAny_builtin PySem.F.entry_min_loop (by
   rw[aBg PySem.F.plain_min_loop _];show wpAny _ A.in1 (seqItems? (Value.ref S) >>= _) _ _ s;refine aB2 (wpAny_seqItems hS rfl ?_);show wpAny _ A.in1 (tryCatch (pyNext (Value.ref it)) _ >>= _) _ _ s;refine aB2 (wpAny_tryCatch (wpAny_pyNext_list_end hh st hl (by have:=hI.length;simp;omega) fun h' eb=>?_));have hS':=eb S _ (Ne.symm hiS) hS;show wpAny _ A.in1 (updateSeq S (fun _=>#[]) >>= _) _ _ { s with heap:=h' };refine aB2 (wpAny_updateSeq hS' rfl (aB2 (wpAny_letGo (aB3 ?_))));have q:=hR (h'.update S (Obj.mapSeq fun _=>#[])) s.toks t (fun x o h1 h2 e=>(aB9 _ _ (Ne.symm h2)).trans (eb x o h1 e));rw[e,List.drop_length]at q;exact q)
 | succ k ih =>
  intro i s b t c hk hi st hl hS hR;have hi':i<ns.length:=by omega
  obtain⟨u,hu⟩:=kP (i:=i) (n:=ns[i]) hI (by simp[hi']);have hdr:ns.drop i=ns[i] :: ns.drop (i+1):=List.drop_eq_getElem_cons hi';refine codeAny_builtin PySem.F.entry_min_loop (by
   rw[aBg PySem.F.plain_min_loop _];show wpAny _ A.in1 (seqItems? (Value.ref S) >>= _) _ _ s;refine aB2 (wpAny_seqItems hS rfl ?_);show wpAny _ A.in1 (tryCatch (pyNext (Value.ref it)) _ >>= _) _ _ s;refine aB2 (wpAny_tryCatch (wpAny_pyNext_list_item st hl (x:=.int ns[i] u) (by simpa using hu) fun h' st' sb=>?_));have hS':=sb.extBut S _ (Ne.symm hiS) hS;have hl':=hl.extBut sb.extBut hlt;show wpAny _ A.in1 (tryCatch (holding [.int ns[i] u,.int ns[i] u] (richCompare .Lt (.int ns[i] u) (.int b t) >>= _)) _ >>= _) _ _ { s with heap:=h' };refine aB2 (wpAny_tryCatch (wpAny_holding (aB2 (lt_int (s:={ s with heap:=h' }) ?_))));refine aB2 (wpAny_holding (wpAny_truthy_bool (aB2 (wpAny_letGo (aB3 ?_)))))
   by_cases hb:ns[i]<b
   ·have hd:decide (ns[i]<b)=true:=aBq hb;simp only[hd,if_true];refine aB2 (wpAny_updateSeq hS' rfl (aB2 (wpAny_letGo ?_)));rw[nm];obtain⟨c',e1⟩:∃ c',(h'.update S (Obj.mapSeq fun _=>#[Value.int ns[i] u,Value.int ns[i] u])).get? S=some (two ns[i] u c'):=⟨_,aBm _ hS' rfl⟩;refine aB3 ⟨plainId_quiet PySem.F.plain_min_loop _,ih (i+1) { s with heap:=h'.update S (Obj.mapSeq fun _=>#[Value.int ns[i] u,Value.int ns[i] u]) } ns[i] u _ (by omega) hi' (st'.at fun o e=>(aB9 _ _ (Ne.symm hiS)).trans e) (hl'.at fun o e=>(aB9 _ _ (Ne.symm hlS)).trans e) e1 fun h'' tk t' kp=>?_⟩;have q:=hR h'' tk t' (fun x o h1 h2 e=>kp x o h1 h2 ((aB9 _ _ (Ne.symm h2)).trans (sb.extBut x o h1 e)));rw[hdr,aBv,show min b ns[i]=ns[i]by omega]at q;exact q
   ·have hd:decide (ns[i]<b)=false:=aBp hb;simp only[hd,Bool.false_eq_true,if_false];refine aB2 (wpAny_letGo ?_);rw[nm];refine aB3 ⟨plainId_quiet PySem.F.plain_min_loop _,ih (i+1) { s with heap:=h' } b t c (by omega) hi' st' hl' hS' fun h'' tk t' kp=>?_⟩;have q:=hR h'' tk t' (fun x o h1 h2 e=>kp x o h1 h2 (sb.extBut x o h1 e));rw[hdr,aBv,show min b ns[i]=b by omega]at q;exact q)
theorem Q4 (hh:A.handled=none) (hI:IntsAre its ns) (hlt:l≠it) (hiS:it≠S) (hlS:l≠S) {s:Shared} {c:Nat} (st:s.heap.IsListIter it l 0) (hl:s.heap.IsList l its.toArray)
 (hS:s.heap.get? S=some { cls:=.type "list",dict:=none,data:=.seq #[] c,slots:=#[] }) (x0:V) (rx:RelV x0 d)
 (hR:∀ h' tk v u,(∀ x o,x≠it->x≠S->s.heap.get? x=some o->h'.get? x=some o)->RelV v u->(v=match ns with | []=>x0 | n :: r=>.int (r.foldl min n))->R (.ok (.ret u)) { s with heap:=h',toks:=tk }) :
 codeAny (model prog w) A (.builtin "min.loop" ⟨[.ref it,.none,.ref S],[(Str.ofString "default",d)]⟩) R s:=by
 have nm:(toString "min"++toString ".loop":String)="min.loop":=by decide
 cases hI with
 | nil =>
  refine codeAny_builtin PySem.F.entry_min_loop (by
   rw[aBg PySem.F.plain_min_loop _];show wpAny _ A.in1 (seqItems? (Value.ref S) >>= _) _ _ s;refine aB2 (wpAny_seqItems hS rfl ?_);show wpAny _ A.in1 (tryCatch (pyNext (Value.ref it)) _ >>= _) _ _ s;refine aB2 (wpAny_tryCatch (wpAny_pyNext_list_end hh st hl (by simp) fun h' eb=>?_));refine aB2 (wpAny_rule (aB3 ?_));exact hR h' s.toks x0 d (fun x o h1 _ e=>eb x o h1 e) rx rfl)
 | @cons n t its' ns' r =>
  refine codeAny_builtin PySem.F.entry_min_loop (by
   rw[aBg PySem.F.plain_min_loop _];show wpAny _ A.in1 (seqItems? (Value.ref S) >>= _) _ _ s;refine aB2 (wpAny_seqItems hS rfl ?_);show wpAny _ A.in1 (tryCatch (pyNext (Value.ref it)) _ >>= _) _ _ s;refine aB2 (wpAny_tryCatch (wpAny_pyNext_list_item st hl (x:=.int n t) (by simp) fun h' st' sb=>?_));have hS':=sb.extBut S _ (Ne.symm hiS) hS;have hl':=hl.extBut sb.extBut hlt;show wpAny _ A.in1 (updateSeq S (fun _=>#[Value.int n t,Value.int n t]) >>= _) _ _ { s with heap:=h' };refine aB2 (wpAny_updateSeq hS' rfl ?_);rw[nm];obtain⟨c',e1⟩:∃ c',(h'.update S (Obj.mapSeq fun _=>#[Value.int n t,Value.int n t])).get? S=some (two n t c'):=⟨_,aBm _ hS' rfl⟩;refine aB3 ⟨plainId_quiet PySem.F.plain_min_loop _,Y7 hh (.cons n t r) hlt hiS hlS _ 1 { s with heap:=h'.update S (Obj.mapSeq fun _=>#[Value.int n t,Value.int n t]) } n t _ rfl (by simp) (st'.at fun o e=>(aB9 _ _ (Ne.symm hiS)).trans e) (hl'.at fun o e=>(aB9 _ _ (Ne.symm hlS)).trans e) e1 fun h'' tk t' kp=>?_⟩;exact hR h'' tk (.int (ns'.foldl min n)) _ (fun x o h1 h2 e=>kp x o h1 h2 ((aB9 _ _ (Ne.symm h2)).trans (sb.extBut x o h1 e))) ⟨t',rfl⟩ rfl)
def mnD (ns:List Int) (x0:V):V:=match ns with | []=>x0 | n :: r=>.int (r.foldl min n)
theorem G1 (a d:Value):argsOk "min" ⟨[a],[(Str.ofString "default",d)]⟩:=by unfold argsOk;kernel_rfl
theorem G2 {E:Value->Shared->Prop} {s:Shared} {x0:V} {Q:Value->Shared->Prop} (hh:A.handled=none) (hI:IntsAre its ns) (hl:s.heap.IsList l its.toArray) (rx:RelV x0 d)
 (h:∀ h' tk u,(∀ x o,s.heap.get? x=some o->h'.get? x=some o)->RelV (mnD ns x0) u->Q u { s with heap:=h',toks:=tk }):wpAny (model prog w) A (call (.builtin "min") [.ref l] [(Str.ofString "default",d)]) Q E s:=by
 have nm:(toString "min"++toString ".loop":String)="min.loop":=by decide
 refine kmk_tree PySem.F.kind_min PySem.F.plain_min PySem.F.entry_min (G1 _ _) (by
  show wpAny _ A.in1 (Builtin.Builtins.bindParams "min" ["key","default"] 0 ⟨[],[(Str.ofString "default",d)]⟩ >>= _) _ _ s;refine aB2 (wpAny_of_eq (show Builtin.Builtins.bindParams "min" ["key","default"] 0 ⟨[],[(Str.ofString "default",d)]⟩=pure [none,some d] from rfl) (aB2 (aB3 ?_)));refine aB2 (wpAny_pyIter_list hl ?_);refine aB2 (wpAny_newObj_type ?_);rw[nm];have hlt:l<s.heap.objs.size:=by obtain⟨_,e,_⟩:=hl;exact aBa e
  refine aB3 ⟨plainId_quiet PySem.F.plain_min_loop _,Q4 (l:=l) (it:=s.heap.objs.size) (its:=its) hh hI (aBr hlt) (by rw[Heap.size_push];exact aBr (Nat.lt_succ_self _)) (by rw[Heap.size_push];exact aBr (Nat.lt_succ_of_lt hlt)) ⟨_,aB5 _ (aBb _ rfl),rfl,rfl⟩ ((hl.push _).push _) (aBb _ rfl) x0 rx fun h' tk v u kp rv ev=>?_⟩;subst ev;refine h h' tk u (fun x o e=>?_) rv;have hx:=aBa e;exact kp x o (aBr hx) (by rw[Heap.size_push];exact aBr (Nat.lt_succ_of_lt hx)) (aB5 _ (aB5 _ e)))
end
section
variable {X:Cx} {e f:Expr} {te tf:TE} {p pos kp:Pos}
def aBX (K:PySem.W.Frag) (te tf:TE):TE:=fun σ H Q=>te σ H fun x H1=>tf σ H1 fun y H2=>∃ a ns,x=.ref a/\SqL K H2 a (ns.map V.int)/\Q (mxD ns y) H2
def aBY (K:PySem.W.Frag) (te tf:TE):TE:=fun σ H Q=>te σ H fun x H1=>tf σ H1 fun y H2=>∃ a ns,x=.ref a/\SqL K H2 a (ns.map V.int)/\Q (mnD ns y) H2
theorem oD (hc:X.calm=true) (hg:Gl X "max") (hm:X.mg "max"=none) (he:PE X e te) (hf:PE X f tf)
 (hs:starEach [e] X.env=(false,eval e X.env) :: starEach [] X.env:=by rfl) (he1:backTo pos (starEach [e] X.env)=(false,eval e X.env) :: backTo pos (starEach [] X.env):=by rfl) (hp1:(backTo pos (starEach [e] X.env)).any (·.1)=false:=by rfl)
 (ha1:(backToKw pos (keywordEach [⟨some "default",f,kp⟩] X.env)).all (·.1.isSome)=true:=by rfl) (hk1:(backToKw pos (keywordEach [⟨some "default",f,kp⟩] X.env)).any (·.1.isNone)=false:=by rfl) (hks:(backToKw pos (keywordEach [⟨some "default",f,kp⟩] X.env)).filterMap (·.1)=([Str.ofString "default"]:List Str):=by rfl) :
 PE X (.Call (.Name "max" p) [e] [⟨some "default",f,kp⟩] pos) (aBX X.K te tf):=by
 intro pins s σ H Q I h;refine wpAny_Call_Name_kw (jC I hg hm qH ?_);refine callWith_kw ?_ he1 hp1 ha1 hk1;refine thn ((aA he aC hs) pos pins s σ H (fun vs H1=>match vs with | [x]=>tf σ H1 fun y H2=>∃ a ns,x=.ref a/\SqL X.K H2 a (ns.map V.int)/\Q (mxD ns y) H2 | _=>False) I h) fun us s1 ⟨vs,H1,I1,r1,q1⟩=>?_;obtain⟨x,rfl⟩:∃ x,vs=[x]:=by
  rcases vs with _ | ⟨x,_ | ⟨_,_⟩⟩
  ·exact q1.elim
  ·exact⟨x,rfl⟩
  ·exact q1.elim
 refine thn ((uE hf yG) pos pins s1 σ H1 (fun ks H2=>match ks with | [y]=>∃ a ns,x=.ref a/\SqL X.K H2 a (ns.map V.int)/\Q (mxD ns y) H2 | _=>False) I1 q1) fun ws s2 ⟨zs,H2,I2,r2,q2⟩=>?_;obtain⟨y,rfl⟩:∃ y,zs=[y]:=by
  rcases zs with _ | ⟨x,_ | ⟨_,_⟩⟩
  ·exact q2.elim
  ·exact⟨x,rfl⟩
  ·exact q2.elim
 obtain⟨a,ns,rfl,hq,q2⟩:=q2;obtain⟨u,rfl,ru⟩:=r1.one;obtain⟨v,rfl,rv⟩:=r2.one;cases ru;rw[hks];obtain⟨its,rl,pl,hz⟩:=I2.list hq;exact G0 (I.ok.hd hc) (qE rl) pl.isList rv fun h' tk u kp ru=>⟨_,H2,I2.kept kp,ru,q2⟩
theorem G3 (hc:X.calm=true) (hg:Gl X "min") (hm:X.mg "min"=none) (he:PE X e te) (hf:PE X f tf)
 (hs:starEach [e] X.env=(false,eval e X.env) :: starEach [] X.env:=by rfl) (he1:backTo pos (starEach [e] X.env)=(false,eval e X.env) :: backTo pos (starEach [] X.env):=by rfl) (hp1:(backTo pos (starEach [e] X.env)).any (·.1)=false:=by rfl)
 (ha1:(backToKw pos (keywordEach [⟨some "default",f,kp⟩] X.env)).all (·.1.isSome)=true:=by rfl) (hk1:(backToKw pos (keywordEach [⟨some "default",f,kp⟩] X.env)).any (·.1.isNone)=false:=by rfl) (hks:(backToKw pos (keywordEach [⟨some "default",f,kp⟩] X.env)).filterMap (·.1)=([Str.ofString "default"]:List Str):=by rfl) :
 PE X (.Call (.Name "min" p) [e] [⟨some "default",f,kp⟩] pos) (aBY X.K te tf):=by
 intro pins s σ H Q I h;refine wpAny_Call_Name_kw (jC I hg hm iA ?_);refine callWith_kw ?_ he1 hp1 ha1 hk1;refine thn ((aA he aC hs) pos pins s σ H (fun vs H1=>match vs with | [x]=>tf σ H1 fun y H2=>∃ a ns,x=.ref a/\SqL X.K H2 a (ns.map V.int)/\Q (mnD ns y) H2 | _=>False) I h) fun us s1 ⟨vs,H1,I1,r1,q1⟩=>?_;obtain⟨x,rfl⟩:∃ x,vs=[x]:=by
  rcases vs with _ | ⟨x,_ | ⟨_,_⟩⟩
  ·exact q1.elim
  ·exact⟨x,rfl⟩
  ·exact q1.elim
 refine thn ((uE hf yG) pos pins s1 σ H1 (fun ks H2=>match ks with | [y]=>∃ a ns,x=.ref a/\SqL X.K H2 a (ns.map V.int)/\Q (mnD ns y) H2 | _=>False) I1 q1) fun ws s2 ⟨zs,H2,I2,r2,q2⟩=>?_;obtain⟨y,rfl⟩:∃ y,zs=[y]:=by
  rcases zs with _ | ⟨x,_ | ⟨_,_⟩⟩
  ·exact q2.elim
  ·exact⟨x,rfl⟩
  ·exact q2.elim
 obtain⟨a,ns,rfl,hq,q2⟩:=q2;obtain⟨u,rfl,ru⟩:=r1.one;obtain⟨v,rfl,rv⟩:=r2.one;cases ru;rw[hks];obtain⟨its,rl,pl,hz⟩:=I2.list hq;exact G2 (I.ok.hd hc) (qE rl) pl.isList rv fun h' tk u kp ru=>⟨_,H2,I2.kept kp,ru,q2⟩
end
section
variable {X:Cx}
end
end L2
namespace CW
open PySem L2
theorem jN (ns:List Int):(ns.map V.int).all mU=true:=by
 rw[List.all_eq_true];intro x hx;obtain⟨z,_,rfl⟩:=aCI.mp hx;rfl
theorem kQ (z:Int) (ns:List Int):inV (.int z) (ns.map V.int)=decide (z∈ns):=by
 unfold inV
 induction ns with
 | nil=>rfl
 | cons n r ih =>
  rw[aBt,List.any_cons,ih];have e:eqV (.int n) (.int z)=decide (n=z):=by
   show (n == z)=_;rw[Bool.eq_iff_iff];simp
  rw[e,Bool.eq_iff_iff];simp only[Bool.or_eq_true,decide_eq_true_eq,aCG]
  constructor
  ·rintro (h | h)
   ·exact .inl h.symm
   ·exact .inr h
  ·rintro (h | h)
   ·exact .inl h.symm
   ·exact .inr h
theorem wP:∀ (r:List Int) (n:Int),(r.foldl min n=n\/r.foldl min n∈r)/\r.foldl min n<=n/\∀ x∈r,r.foldl min n<=x
 | [],n=>⟨.inl rfl,Int.le_refl _,fun x h=>by cases h⟩
 | y :: r,n=>by
  obtain⟨h1,h2,h3⟩:=wP r (min n y);rw[aBv];refine⟨?_,by omega,fun x hx=>?_⟩
  ·rcases h1 with h1 | h1
   ·by_cases hn:n<=y
    ·exact .inl (by omega)
    ·exact .inr (by rw[h1,show min n y=y by omega];exact aB6)
   ·exact .inr (aB7 _ h1)
  ·rcases aCG.mp hx with rfl | hx
   ·omega
   ·exact h3 x hx
theorem wQ:∀ (r:List Int) (n:Int),(r.foldl max n=n\/r.foldl max n∈r)/\n<=r.foldl max n/\∀ x∈r,x<=r.foldl max n
 | [],n=>⟨.inl rfl,Int.le_refl _,fun x h=>by cases h⟩
 | y :: r,n=>by
  obtain⟨h1,h2,h3⟩:=wQ r (max n y);rw[aBv];refine⟨?_,by omega,fun x hx=>?_⟩
  ·rcases h1 with h1 | h1
   ·by_cases hn:y<=n
    ·exact .inl (by omega)
    ·exact .inr (by rw[h1,show max n y=y by omega];exact aB6)
   ·exact .inr (aB7 _ h1)
  ·rcases aCG.mp hx with rfl | hx
   ·omega
   ·exact h3 x hx
def loM (row:List Int):Int:=match row with | []=>0 | n :: r=>r.foldl min n
def hiM (row:List Int):Int:=match row with | []=>0 | n :: r=>r.foldl max n
theorem z8 (row:List Int):mnD row (.int 0)=.int (loM row):=by cases row <;> rfl
theorem z9 (row:List Int):mxD row (.int 0)=.int (hiM row):=by cases row <;> rfl
theorem aAk {row:List Int} {b:Int} (hb:∀ x∈row,-b<=x/\x<=b) (h0:0<=b):(∀ x∈row,loM row<=x/\x<=hiM row)/\-b<=loM row/\loM row<=b/\-b<=hiM row/\hiM row<=b:=by
 cases row with
 | nil=>exact⟨fun x h=>(by cases h),by simp only[loM];omega,by simp only[loM];omega,by simp only[hiM];omega,by simp only[hiM];omega⟩
 | cons n r =>
  obtain⟨a1,a2,a3⟩:=wP r n;obtain⟨b1,b2,b3⟩:=wQ r n;have hn:=hb n aB6;have hr:=fun x hx=>hb x (aB7 n hx);simp only[loM,hiM];refine⟨fun x hx=>?_,?_,?_,?_,?_⟩
  ·rcases aCG.mp hx with rfl | hx
   ·exact⟨a2,b2⟩
   ·exact⟨a3 x hx,b3 x hx⟩
  ·rcases a1 with h | h
   ·omega
   ·exact(hr _ h).1
  ·omega
  ·omega
  ·rcases b1 with h | h
   ·omega
   ·exact(hr _ h).2
structure Mid (row:List Int) (c:Int) (n:Int) (fs:List Int) (ld:Nat):Prop where
 ex:∃ dn r,row=dn++r/\(∀ x∈dn,x<n)/\(∀ x∈r,n<=x)/\fs++goM c r ld n=cK row c/\fs.length+ld=dn.length
theorem aAA {row:List Int} {c n:Int} {fs:List Int} {ld:Nat} (h:Mid row c n fs ld) (hr:Row row) (hn:n∈row) :
 if (ld:Int)<c then Mid row c (n+1) fs (ld+1)else Mid row c (n+1) (fs++[n]) ld:=by
 obtain⟨dn,r,rfl,h1,h2,h3,h4⟩:=h.ex;rcases aCH.mp hn with q | q
 ·have:=h1 n q;omega
 ·cases r with
  | nil=>cases q
  | cons p r =>
   have hr2:=(List.pairwise_append.mp hr).2.1;have hlt:∀ x∈r,p<x:=fun x hx=>(List.pairwise_cons.mp hr2).1 x hx;have hp:=h2 p aB6;have hpn:p=n:=by
    rcases aCG.mp q with e | e
    ·exact e.symm
    ·have:=hlt n e;omega
   subst hpn;rw[lR (.inr (Int.le_refl _))]at h3;have e:dn++p :: r=(dn++[p])++r:=by simp
   have d1:∀ x∈dn++[p],x<p+1:=fun x hx=>by
    rcases aCH.mp hx with z | z
    ·have:=h1 x z;omega
    ·rw[aCA.mp z];omega
   have d2:∀ x∈r,p+1<=x:=fun x hx=>by have:=hlt x hx;omega
   by_cases hc:(ld:Int)<c
   ·rw[if_pos hc]at h3 ⊢;exact⟨dn++[p],r,e,d1,d2,h3,by simp;omega⟩
   ·rw[if_neg hc]at h3 ⊢;exact⟨dn++[p],r,e,d1,d2,by rw[List.append_assoc];exact h3,by simp;omega⟩
theorem Y8 {row:List Int} {c n:Int} {fs:List Int} {ld:Nat} (h:Mid row c n fs ld) (hn:n∉row) :
 match ld with | 0=>Mid row c (n+1) fs 0 | ld'+1=>Mid row c (n+1) (fs++[n]) ld':=by
 obtain⟨dn,r,rfl,h1,h2,h3,h4⟩:=h.ex;have d1:∀ x∈dn,x<n+1:=fun x hx=>by have:=h1 x hx;omega
 have d2:∀ x∈r,n+1<=x:=fun x hx=>by
  have:=h2 x hx;have:x≠n:=fun e=>hn (by rw[<- e];exact aB8 _ hx);omega
 cases ld with
 | zero=>exact⟨dn,r,rfl,d1,d2,by rw[<- h3];congr 1;exact kM,h4⟩
 | succ ld =>
  refine⟨dn,r,rfl,d1,d2,?_,by simp;omega⟩;rw[<- h3,List.append_assoc]
  congr 1
  cases r with
  | nil=>rw[mW];rfl
  | cons p r=>rw[uL (by have:=d2 p aB6;omega)];rfl
theorem G4 (row:List Int) (c n:Int) (h:∀ x∈row,n<=x):Mid row c n [] 0:=⟨[],row,rfl,fun x hx=>(by cases hx),h,(by unfold cK;exact kM),rfl⟩
theorem Y9 {row:List Int} {c n:Int} {fs:List Int} (h:Mid row c n fs 0) (hx:∀ x∈row,x<n):fs=cK row c:=by
 obtain⟨dn,r,rfl,h1,h2,h3,h4⟩:=h.ex;cases r with
 | nil=>rw[uM,List.append_nil]at h3;exact h3
 | cons p r =>
  have a:=h2 p aB6;have b:=hx p (by simp);omega
theorem Q5 {row:List Int} {c n:Int} {fs:List Int} {ld:Nat} (h:Mid row c n fs ld):fs.length+ld<=row.length:=by
 obtain⟨dn,r,rfl,_,_,_,h4⟩:=h.ex;simp;omega
end CW
namespace L2
open PySem PySem.Spec PyProof.Rows
theorem fY:bootBuiltins "sum"=some (.builtin "sum"):=by decide +kernel
theorem kR:bootBuiltins "enumerate"=some (.type "enumerate"):=by decide +kernel
theorem kS:∀ {ns:List Int} {us:List Value},Vals (ns.map V.int) us->IntsAre us ns
 | [],_,.nil=>.nil
 | _ :: _,_,.cons ⟨_,e⟩ t=>by subst e;exact .cons _ _ (kS t)
section
variable {X:Cx}
theorem fZ (hc:X.calm=true):fW X (.builtin "sum") (fun xs H Q=>∃ (p:Addr) (ns:List Int),xs=[.ref p]/\H p=some (.lst (ns.map V.int))/\Q (.int ns.sum) H):=by
 intro pins s σ H xs us Q I r h;obtain⟨p,ns,rfl,hp,q⟩:=h;obtain⟨u,rfl,rx⟩:=iU r;cases rx;obtain⟨its,rv,pl,hz⟩:=I.list (SqL.of hp);have hl:=pl.isList;have hi:=kS rv;obtain⟨xs,hx⟩:=hi.allInts.items;have hl':s.heap.IsList p (intItems xs):=hx ▸ hl;refine sum_intListG (I.ok.hd hc) hl' fun h' tk t' hk=>?_;have e1:ns=xs.toList.map (·.1):=by
  rw[<- nums_intItems,<- hx];exact(show numsOf its.toArray.toList=ns from hi.numsOf).symm
 have e2:preSum (numAt xs) xs.size=ns.sum:=by
  rw[preSum_eq,List.take_of_length_le (by simp),e1]
 rw[e2];exact⟨.int _,H,I.kept hk,⟨_,rfl⟩,q⟩
theorem Inv.turnedF {h':Heap} {pins:List (Addr×Obj)} {σ:St} {H:Hp} {s:Shared} {t':Nat} {fp:List Addr} (I:Inv X pins σ H s) (k:∀ b o,b∉fp->s.heap.get? b=some o->h'.get? b=some o) (hf:∀ b∈fp,iT X pins H b):Inv X pins σ H { s with heap:=h',toks:=t' }:=by
 have nit:∀ b u,H b=some u->b∉fp:=fun b u e z=>by rw[(hf b z).1]at e;cases e
 refine I.step (g':=s.gens) (d':=s.drawn) (ch:=fp) (fun b hb=>?_) (fun b o _ _ hc e _=>k b o hc e) (fun b o _ _ hc e _=>⟨o.slots,k b o hc e⟩) (fun _ _ _ _ n=>n)
  (fun b o hc e=>⟨o,k b o hc e⟩) (fun _ _ e=>e) (fun _ _ _ e=>e) (fun b ps e=>⟨#[],by rw[e];simp⟩) (fun m hm=>?_) (fun b u e=>?_) I.bare
 ·obtain⟨_,h1,_,h3,h4,h5⟩:=hf b hb;exact⟨h3,h1,h4,h5⟩
 ·obtain⟨o,es,ep,ho,r⟩:=hm;exact⟨o,es,ep,k _ o (fun z=>(hf _ z).2.1 rfl) ho,r⟩
 ·refine(I.hok b u e).stay (fun c v hc q=>k c v ?_ q) (fun _ q=>q) fun _ _ q=>q;rcases hc with z | z
  ·rw[z];exact nit b u e
  ·exact nit c _ z
theorem Inv.turnLaid {h':Heap} {pins:List (Addr×Obj)} {σ:St} {H:Hp} {s:Shared} {t':Nat} {fp:List Addr} {a:Addr} {o:HO} (I:Inv X pins σ H s) (k:∀ b o,b∉fp->s.heap.get? b=some o->h'.get? b=some o) (hf:∀ b∈fp,iT X pins H b) (hp:s.heap.objs.size<=a) (new:ObjOk X.prog X.w (upd H a o) h' a o) :
 Inv X pins σ (upd H a o) { s with heap:=h',toks:=t' }:=by
 have hn:H a=none:=I.hok.fresh hp;have nit:∀ b u,H b=some u->b∉fp:=fun b u e z=>by rw[(hf b z).1]at e;cases e
 have ne:∀ b u,H b=some u->b≠a:=fun b u e=>aV e hn;refine I.step (g':=s.gens) (d':=s.drawn) (ch:=fp) (fun b hb=>?_) (fun b o _ _ hc e _=>k b o hc e) (fun b o _ _ hc e _=>⟨o.slots,k b o hc e⟩) (fun b ob _ e n=>?_)
  (fun b o hc e=>⟨o,k b o hc e⟩) (fun b _ e=>by rw[aG (ne b _ e)];exact e) (fun b _ _ e=>by rw[aG (ne b _ e)];exact e) (fun b ps e=>⟨#[],by rw[aG (ne b _ e),e];simp⟩) (fun m hm=>?_) (fun b u e=>?_) I.bare
 ·obtain⟨_,h1,_,h3,h4,h5⟩:=hf b hb;exact⟨h3,h1,h4,h5⟩
 ·have:b≠a:=aBr (aBl (aBa e) hp);rw[aG this];exact n
 ·obtain⟨o,es,ep,ho,r⟩:=hm;exact⟨o,es,ep,k _ o (fun z=>(hf _ z).2.1 rfl) ho,r⟩
 ·by_cases hb:b=a
  ·subst hb;rw[aB]at e;cases e;exact new
  ·rw[aG hb]at e;refine(I.hok b u e).stay (fun c v hc q=>k c v ?_ q) (fun c q=>by rw[aG (ne c _ q)];exact q) fun c _ q=>by rw[aG (ne c _ q)];exact q
   rcases hc with z | z
   ·rw[z];exact nit b u e
   ·exact nit c _ z
end
def Ite (K:PySem.W.Frag) (a:Addr):It :=
 ⟨fun i H=>∃ xs x,SqL K H a xs/\xs[i]?=some x,fun i H v H'=>∃ t x,v=.ref t/\H t=none/\(∀ xs,SqL K H a xs->xs[i]?=some x)/\H'=upd H t (.tup [.int i,x]),fun i H=>∃ xs,SqL K H a xs/\xs.length<=i⟩
theorem G5 {P:Program} {w:World} {K:PySem.W.Frag} {elts:List Expr} {x1} {pos:Pos} (a e it:Addr) (hne:e≠it):pB P w K (.Tuple elts x1 pos) (Ite K a) [e,it] e (fun i h=>(∃ old,IsEnum h e it (i:Nat) old)/\h.IsListIter it a i) where
 mem:=by simp
 obj:=fun i h st b hb=>by
  obtain⟨⟨old,he⟩,o,ho,c,d⟩:=st;rcases aCG.mp hb with z | z
  ·subst z;exact⟨_,he,fun v z=>by have z':Data.fields _=Data.cell v:=z;cases z'⟩
  ·have z:b=it:=by simpa using z
   subst z;exact⟨o,ho,fun v z=>by rw[d]at z;cases z⟩
 keep:=fun i h h' st k=>⟨let ⟨old,he⟩:=st.1;⟨old,k e (by simp) _ he⟩,st.2.at fun o e=>k it (by simp) o e⟩
 item:=by
  intro X hP hw hK hc i pins s σ H E I hf st hg;subst hP hw hK;obtain⟨xs,x,hq,hx⟩:=hg;obtain⟨its,rv,p,hz⟩:=I.list hq;obtain⟨u,hu,ru⟩:=rv.get hx;obtain⟨⟨old,he⟩,hit⟩:=st;have le:e<s.heap.objs.size:=aBa he;have li:it<s.heap.objs.size:=by obtain⟨_,z,_⟩:=hit;exact aBa z
  refine wpAny_pyNext_enum_item he hit p.isList (x:=u) (by simpa using hu) hne fun h' e1 e2 e3 e4 kp=>?_;refine⟨_,rfl,?_⟩;have hn:H s.heap.objs.size=none:=I.hok.fresh (Nat.le_refl _);have k1:∀ b o,b∉[e,it]->s.heap.get? b=some o->h'.get? b=some o:=fun b o hb q=>kp b o (fun z=>hb (by simp[z])) (fun z=>hb (by simp[z])) q;have tupOk:∀ h2:Heap,h2.get? s.heap.objs.size=some { cls:=.type "tuple",data:=.seq #[.int i s.toks,u] }->ObjOk X.prog X.w (upd H s.heap.objs.size (.tup [.int i,x])) h2 s.heap.objs.size (.tup [.int i,x]):=fun h2 q =>
   ⟨by show 2<=sizeLine;decide,[.int i s.toks,u],.cons ⟨_,rfl⟩ (.cons ru .nil),_,q,rfl,_,rfl⟩
  refine wpAny_letOwnedTupleGo_enum (i:=((i:Nat):Int)+1) e1 fun h2 f1 sb=>?_;have k2:∀ b o,b∉[e,it]->s.heap.get? b=some o->h2.get? b=some o:=fun b o hb q=>sb.extBut b o (fun z=>hb (by simp[z])) (k1 b o hb q);have n1:s.heap.objs.size≠e:=aBu le;refine⟨.ref s.heap.objs.size,_,I.turnLaid (t':=s.toks+1) (h':=h2) (o:=.tup [.int i,x]) k2 hf (Nat.le_refl _) (tupOk _ (sb.extBut _ _ n1 e3)),rfl,⟨_,x,rfl,hn,fun ys hy=>by rw[I.list_inj hy hq];exact hx,rfl⟩,⟨⟨u,?_⟩,?_⟩,fun b hb=>?_⟩
  ·have:(((i+1:Nat):Int))=(i:Int)+1:=by omega
   rw[this];exact f1
  ·exact e2.extBut sb.extBut (Ne.symm hne)
  ·have hb':b≠s.heap.objs.size:=by
    rcases aCG.mp hb with z | z
    ·subst z;exact aBr le
    ·have z:b=it:=by simpa using z
     subst z;exact aBr li
   rw[aG hb'];exact(hf b hb).1
 done:=by
  intro X hP hw hK hc i pins s σ H E I hf st hg;subst hP hw hK;obtain⟨xs,hq,hx⟩:=hg;obtain⟨its,rv,p,hz⟩:=I.list hq;have hl:=rv.length;obtain⟨⟨old,he⟩,hit⟩:=st;exact wpAny_pyNext_enum_end (I.ok.hd hc) he hit p.isList (by simp;omega) fun h' eb=>⟨rfl,I.turnedF (fp:=[e,it]) (t':=s.toks) (fun b o hb e=>eb b o (fun z=>hb (by simp[z])) e) hf⟩
 self:=fun _ _ _ _ _ st h=>let ⟨_,he⟩:=st.1;wpAny_pyIter_enum he h
def aAl (K:PySem.W.Frag) (ta:TA):TI:=fun σ H R=>ta σ H fun vs H1=>∃ a xs,vs=[.ref a]/\SqL K H1 a xs/\R (Ite K a) H1
theorem Z0 {X:Cx} {elts:List Expr} {x1} {tpos:Pos} {a:Expr} {ta:TA} {p pos:Pos} (hg:Gl X "enumerate") (hm:X.mg "enumerate"=none) (ha:PA X [a] ta) (hs:starEach [a] X.env=[(false,eval a X.env)]:=by rfl):PI X (.Tuple elts x1 tpos) (.Call (.Name "enumerate" p) [a] [] pos) (aAl X.K ta):=by
 intro pins s σ H R I h;refine Call_ (jC I hg hm kR (PyProof.Rows.callWith_type1 (thn (ha pos pins s σ H _ I h) fun us s1 ⟨vs,H1,I1,r1,q1⟩=>?_) hs rfl));obtain⟨a,xs,e,hq,q⟩:=q1;subst e;obtain⟨u,rfl,rx⟩:=iU r1;cases rx;obtain⟨its,rv,pl,hz⟩:=I1.list hq;refine call_enumerate_list pl.isList fun h' g1 g2 g3 kp=>?_;have I2:Inv X pins σ H1 { s1 with heap:=h' }:=I1.kept (t':=s1.toks) kp;refine wpAny_pyIter_enum g1 ?_;refine⟨s1.heap.objs.size+1,[s1.heap.objs.size+1,s1.heap.objs.size],_,_,H1,rfl,I2,G5 a _ _ (aBu (Nat.lt_succ_self _)),⟨⟨_,g1⟩,g2⟩,fun b hb=>?_,q⟩;have e:s1.heap.objs.size<=b:=by
  rcases aCG.mp hb with z | z
  ·rw[z];exact Nat.le_succ _
  ·have z:b=s1.heap.objs.size:=by simpa using z
   rw[z];exact Nat.le_refl _
 exact I1.fpOk e (I1.hok.fresh e)
theorem Q6 {K:PySem.W.Frag} {a:Addr} {xs:List V} {g:TG} {tb:TS} {D:pZ} {σ:St} {H:Hp} (Pv:Nat->St->Hp->Prop) (h0:Pv 0 σ H) (hl:∀ i σ H,i<=xs.length->Pv i σ H->SqL K H a xs)
 (hs:∀ i x σ H t,xs[i]?=some x->Pv i σ H->H t=none->g (.ref t) σ (upd H t (.tup [.int i,x])) fun σ2 H2=>tb { D with nx:=Pv (i+1),ct:=Pv (i+1),bk:=D.nx } σ2 H2) (hd:∀ σ H,Pv xs.length σ H->D.nx σ H) :
 ∃ W:Nat->Nat->St->Hp->Prop,(∃ m,W 0 m σ H)/\∀ i m σ H,W i m σ H ->
  ((Ite K a).stop i H/\D.nx σ H)\/((Ite K a).go i H/\∃ N:St->Hp->Prop,(∀ σ' H',N σ' H'->∃ m',m'<m/\W (i+1) m' σ' H')/\∀ x H',(Ite K a).yld i H x H'->g x σ H' fun σ2 H2=>tb { D with nx:=N,ct:=N,bk:=D.nx } σ2 H2):=by
 refine⟨fun i m σ H=>m=xs.length - i/\i<=xs.length/\Pv i σ H,⟨xs.length,by simp,Nat.zero_le _,h0⟩,?_⟩;rintro i m σ H ⟨rfl,hi,p⟩;have q:=hl i σ H hi p
 by_cases hlt:i<xs.length
 ·refine .inr ⟨⟨xs,xs[i],q,by simp[hlt]⟩,Pv (i+1),fun σ' H' p'=>⟨xs.length - (i+1),by omega,rfl,hlt,p'⟩,fun x H' y=>?_⟩;obtain⟨t,x,rfl,hn,y,rfl⟩:=y;exact hs i x σ _ t (y xs q) p hn
 ·have e:i=xs.length:=by omega
  subst e;exact .inl ⟨⟨xs,q,Nat.le_refl _⟩,hd σ H p⟩
end L2
namespace CW
open PySem L2
def LP (H:Hp) (a:Addr) (ps:List (Int×Int)):Prop:=∃ us,H a=some (.lst us)/\Prs H us ps
theorem LP.mono {H H':Hp} (h:Same H H') {a:Addr} {ps:List (Int×Int)} (r:LP H a ps):LP H' a ps:=let ⟨us,e,p⟩:=r;⟨us,h _ _ e,p.mono (TupS.same h)⟩
theorem Prs.len {H:Hp} {us:List V} {ps:List (Int×Int)} (h:Prs H us ps):us.length=ps.length:=Paired.length h
theorem LP.den {H:Hp} {a:Addr} {ps:List (Int×Int)} (h:LP H a ps):Den H (.ref a) (.list (ps.map pD)):=let ⟨_,e,p⟩:=h;.lst e p.dens
def szs (ps:List (Int×Int)):List Int:=ps.map (·.1)
def Z1 (j:Int) (p:Int×Int):Int:=if p.1<j then p.1 else j
def wR (ps:List (Int×Int)) (j:Int):Int:=(ps.map (Z1 j)).sum
structure Trn (ps:List (Int×Int)):Prop where
 pos:∀ p∈ps,1<=p.1
 few:(szs ps).sum<=60
theorem dL:∀ {ps:List (Int×Int)},(∀ p∈ps,1<=p.1)->(ps.length:Int)<=(szs ps).sum
 | [],_=>by simp[szs]
 | p :: r,h=>by
  have h1:=h p (aB6);have h2:=dL (ps:=r) fun q hq=>h q (aB7 _ hq);simp only[szs,aBt,aBw,aBx]at h2 ⊢;omega
theorem Trn.len {ps:List (Int×Int)} (h:Trn ps):ps.length<=60:=by
 have h1:=dL h.pos;have:=h.few;omega
inductive nD (vs:List V) (H:Hp) (Q:VK) (E_:XK):Prop
 | mk (a:Addr) (ps:List (Int×Int)) (h0_:vs=[.ref a]) (h1_:LP H a ps) (h2_:Trn ps) (h3_:∀ H',Same H H'->Q .non H'):nD vs H Q E_
inductive kT (vs:List V) (H:Hp) (Q:VK) (E_:XK):Prop
 | mk (a:Addr) (ps:List (Int×Int)) (j:Int) (h0_:vs=[.ref a,.int j]) (h1_:LP H a ps) (h2_:ps.length<=200) (h3_:∀ H',Same H H'->Q (.int (wR ps j)) H'):kT vs H Q E_
theorem bQ {H:Hp} {us:List V} {ps:List (Int×Int)} (h:Prs H us ps) {i:Nat} {x:V} (e:us[i]?=some x):∃ p t,ps[i]?=some p/\x=.ref t/\H t=some (.tup [.int p.1,.int p.2]):=by
 obtain⟨p,hp,t,e1,e2⟩:=paired_get h e;exact⟨p,t,hp,e1,e2⟩
theorem dM {ps:List (Int×Int)} {i:Nat} {p:Int×Int} (f:Int×Int->Int) (h:ps[i]?=some p):((ps.take i).map f).map V.int++[V.int (f p)]=((ps.take (i+1)).map f).map V.int:=by
 rw[aBz,h];simp
end CW
namespace L2
open PySem PySem.Spec PyProof.Rows
section
variable {X:Cx} {tg:Expr}
end
open PySem.W
section
variable {O:KeyOrd} {key:Nat->O.α} {n:Nat} {cmp:Nat->Nat->(Bool->Shared->Prop)->Shared->Prop} {s:Shared}
def Ans (O:KeyOrd) (key:Nat->O.α) (n:Nat) (cmp:Nat->Nat->(Bool->Shared->Prop)->Shared->Prop) (s:Shared):Prop:=∀ i j C,i<n->j<n->C (O.blt (key i) (key j)) s->cmp i j C s
def KP (O:KeyOrd) (key:Nat->O.α) (p:Array Nat) (i:Nat):O.α:=key (p.getD i 0)
structure InR (n:Nat) (p:Array Nat):Prop where
 pos:0<n
 size:p.size=n
 mem:∀ x∈p,x<n
theorem InR.at {p:Array Nat} (h:InR n p) (i:Nat):p.getD i 0<n:=by
 unfold Array.getD;split
 ·exact h.mem _ (Array.getElem_mem _)
 ·exact h.pos
theorem InR.perm {p q:Array Nat} (h:InR n p) (e:q.Perm p):InR n q:=⟨h.pos,e.size_eq.trans h.size,fun x hx=>h.mem x (e.mem_iff.mp hx)⟩
theorem nE {p q:Array Nat} {i j:Nat} (h:p[i]?=q[j]?):p.getD i 0=q.getD j 0:=by
 rw[Array.getD_eq_getD_getElem?,Array.getD_eq_getD_getElem?,h]
theorem yN {p:Array Nat} {i j:Nat} (hj:j<=p.size) (k:Nat):KP O key (kas_rev p i j) k=if i<=k/\k<j then KP O key p (i+j - 1 - k)else KP O key p k:=by
 have e:=getElem?_mirror_all (i:=i) hj k;unfold KP kas_rev
 by_cases h:i<=k/\k<j
 ·rw[if_pos h]at e ⊢;exact congrArg key (nE e)
 ·rw[if_neg h]at e ⊢;exact congrArg key (nE e)
theorem aAB {p:Array Nat} {k d:Nat} (hk:k<p.size) (hd:d<=k) (x:Nat):KP O key (bubble p k d) x=if x=k - d then KP O key p k else if k - d<x/\x<=k then KP O key p (x - 1)else KP O key p x:=by
 have e:=getElem?_bubble hk d hd x;unfold KP
 by_cases h1:x=k - d
 ·rw[if_pos h1]at e ⊢;exact congrArg key (nE e)
 ·rw[if_neg h1]at e ⊢
  by_cases h2:k - d<x/\x<=k
  ·rw[if_pos h2]at e ⊢;exact congrArg key (nE e)
  ·rw[if_neg h2]at e ⊢;exact congrArg key (nE e)
def Up (O:KeyOrd) (key:Nat->O.α) (p:Array Nat) (m:Nat):Prop:=∀ i j,i<=j->j<m->O.kle (KP O key p i) (KP O key p j)
def Dn (O:KeyOrd) (key:Nat->O.α) (p:Array Nat) (m:Nat):Prop:=∀ i j,i<=j->j<m->O.kle (KP O key p j) (KP O key p i)
theorem Up.more {p:Array Nat} {m:Nat} (h:Up O key p m) (hm:1<=m) (hl:O.kle (KP O key p (m - 1)) (KP O key p m)):Up O key p (m+1):=fun i j hij hj=>by
 by_cases q:j<m
 ·exact h i j hij q
 ·have:j=m:=by omega
  subst this
  by_cases r:i=j
  ·subst r;exact KeyOrd.kle_refl _
  ·exact KeyOrd.kle_trans (h i (j - 1) (by omega) (by omega)) hl
theorem Dn.more {p:Array Nat} {m:Nat} (h:Dn O key p m) (hm:1<=m) (hl:O.kle (KP O key p m) (KP O key p (m - 1))):Dn O key p (m+1):=fun i j hij hj=>by
 by_cases q:j<m
 ·exact h i j hij q
 ·have:j=m:=by omega
  subst this
  by_cases r:i=j
  ·subst r;exact KeyOrd.kle_refl _
  ·exact KeyOrd.kle_trans hl (h i (j - 1) (by omega) (by omega))
theorem yO (A:Ans O key n cmp s) {p:Array Nat} (hp:InR n p):∀ (f m:Nat) (Q:Nat->Shared->Prop),1<=m->Up O key p m ->
 (∀ m',m<=m'->m'<=m+f->Up O key p m'->(m'<m+f->O.klt (KP O key p m') (KP O key p (m' - 1)))->Q m' s)->(kas_asc p f m).kasWp cmp Q s
 | 0,m,Q,hm,hu,hQ=>hQ m (Nat.le_refl _) (Nat.le_refl _) hu fun z=>absurd z (Nat.lt_irrefl _)
 | f+1,m,Q,hm,hu,hQ=>by
  show cmp _ _ _ s;refine A _ _ _ (hp.at _) (hp.at _) ?_;cases hb:O.blt (key (p.getD m 0)) (key (p.getD (m - 1) 0))with
  | true =>
   show KasT.kasWp cmp (if true=true then _ else _) Q s;rw[if_pos rfl];exact hQ m (Nat.le_refl _) (Nat.le_add_right _ _) hu fun _=>hb
  | false =>
   show KasT.kasWp cmp (if false=true then _ else _) Q s;rw[if_neg aBh];exact yO A hp f (m+1) Q (by omega) (hu.more hm hb) fun m' h1 h2 h3 h4=>hQ m' (by omega) (by omega) h3 fun z=>h4 (by omega)
def Q7 (O:KeyOrd) (key:Nat->O.α) (p:Array Nat) (m q:Nat):Prop:=∀ k,m - (q+1)<=k->k<m->KP O key p k=KP O key p (m - 1)
theorem qO {p:Array Nat} {i j:Nat} (hj:j<=p.size) (h:∀ k,i<=k->k<j->KP O key p k=KP O key p (j - 1)) (k:Nat):KP O key (kas_rev p i j) k=KP O key p k:=by
 rw[yN hj]
 by_cases q:i<=k/\k<j
 ·rw[if_pos q,h _ (by omega) (by omega),h k q.1 q.2]
 ·rw[if_neg q]
theorem Dn.same {p q:Array Nat} {m:Nat} (h:Dn O key p m) (e:∀ k,KP O key q k=KP O key p k):Dn O key q m:=fun i j h1 h2=>by rw[e,e];exact h i j h1 h2
theorem gB (p:Array Nat) (i j:Nat):(kas_rev p i j).Perm p:=mirror_perm _ _ _ _
theorem pP (A:Ans O key n cmp s):∀ (f:Nat) (p:Array Nat) (m q:Nat) (Q:Array Nat×Nat×Nat->Shared->Prop),InR n p->m+f<=n->1<=m->q+1<=m->Dn O key p m->Q7 O key p m q ->
 (∀ p' m' q',p'.Perm p->m<=m'->m'<=n->q'+1<=m'->Dn O key p' m'->Q7 O key p' m' q'->Q (p',m',q') s)->(kas_desc f p m q).kasWp cmp Q s
 | 0,p,m,q,Q,hp,hf,hm,hq,hd,he,hQ=>hQ p m q (Array.Perm.refl _) (Nat.le_refl _) (by omega) hq hd he
 | f+1,p,m,q,Q,hp,hf,hm,hq,hd,he,hQ=>by
  show cmp _ _ _ s;refine A _ _ _ (hp.at _) (hp.at _) ?_;have one:∀ p:Array Nat,Q7 O key p (m+1) 0:=fun p k h1 h2=>by rw[show k=m+1 - 1 by omega]
  cases hb:O.blt (key (p.getD m 0)) (key (p.getD (m - 1) 0))with
  | true =>
   show KasT.kasWp cmp (if true=true then _ else _) Q s;rw[if_pos rfl];have hl:O.kle (KP O key p m) (KP O key p (m - 1)):=KeyOrd.kle_of_klt hb
   by_cases q0:q > 0
   ·rw[if_pos q0];have sm:=qO (O:=O) (key:=key) (p:=p) (i:=m - (q+1)) (j:=m) (by rw[hp.size];omega) he;refine pP A f _ (m+1) 0 Q (hp.perm (gB ..)) (by omega) (by omega) (by omega) (Dn.same (hd.more hm hl) sm) (one _) fun p' m' q' e h1 h2 h3 h4 h5=>hQ p' m' q' (e.trans (gB ..)) (by omega) h2 h3 h4 h5
   ·rw[if_neg q0];exact pP A f p (m+1) 0 Q hp (by omega) (by omega) (by omega) (hd.more hm hl) (one _) fun p' m' q' e h1 h2 h3 h4 h5=>hQ p' m' q' e (by omega) h2 h3 h4 h5
  | false =>
   show KasT.kasWp cmp (if false=true then _ else _) Q s;rw[if_neg aBh];show cmp _ _ _ s;refine A _ _ _ (hp.at _) (hp.at _) ?_;cases hc:O.blt (key (p.getD (m - 1) 0)) (key (p.getD m 0))with
   | true =>
    show KasT.kasWp cmp (if true=true then _ else _) Q s;rw[if_pos rfl];exact hQ p m q (Array.Perm.refl _) (Nat.le_refl _) (by omega) hq hd he
   | false =>
    show KasT.kasWp cmp (if false=true then _ else _) Q s;rw[if_neg aBh];have eq:KP O key p m=KP O key p (m - 1):=O.total _ _ hb hc;refine pP A f p (m+1) (q+1) Q hp (by omega) (by omega) (by omega) (hd.more hm hc) (fun k h1 h2=>?_) fun p' m' q' e h1 h2 h3 h4 h5=>hQ p' m' q' e (by omega) h2 h3 h4 h5;show KP O key p k=KP O key p m
    by_cases z:k=m
    ·rw[z]
    ·rw[eq];exact he k (by omega) (by omega)
theorem A4 (A:Ans O key n cmp s) {p:Array Nat} {m:Nat} {Q:Nat×Array Nat->Shared->Prop} (hp:InR n p) (hm:1<=m) (hn:m<=n) (hd:Dn O key p m)
 (hQ:∀ m' p',p'.Perm p->1<=m'->m'<=n->Up O key p' m'->Q (m',p') s):(kas_tail3 m n p).kasWp cmp Q s:=by
 unfold kas_tail3;rw[KasT.kasWp_bind];have up:Up O key (kas_rev p 0 m) m:=fun i j h1 h2=>by
  rw[yN (by rw[hp.size];exact hn),yN (by rw[hp.size];exact hn),if_pos (by omega),if_pos (by omega)];exact hd _ _ (by omega) (by omega)
 exact yO A (hp.perm (gB ..)) _ _ _ hm up fun m' h1 h2 h3 _=>hQ m' _ (gB ..) (by omega) (by omega) h3
theorem A5 (A:Ans O key n cmp s) {p:Array Nat} {m:Nat} {Q:Nat×Array Nat->Shared->Prop} (hp:InR n p) (hn:m+1<=n) (hd:Dn O key p (m+1))
 (hQ:∀ m' p',p'.Perm p->1<=m'->m'<=n->Up O key p' m'->Q (m',p') s):(kas_descPart m n p).kasWp cmp Q s:=by
 unfold kas_descPart;rw[KasT.kasWp_bind];refine pP A _ p (m+1) 0 _ hp (by omega) (by omega) (by omega) hd (fun k h1 h2=>by rw[show k=m+1 - 1 by omega]) fun p' m' q' e h1 h2 h3 h4 h5=>?_;show KasT.kasWp cmp (if q' > 0 then _ else _) Q s
 by_cases q0:q' > 0
 ·rw[if_pos q0];have hp':=hp.perm e;have sm:=qO (O:=O) (key:=key) (p:=p') (i:=m' - (q'+1)) (j:=m') (by rw[hp'.size];exact h2) h5;exact A4 A (hp'.perm (gB ..)) (show 1<=m' by omega) h2 (Dn.same h4 sm) fun m2 p2 e2 a b c=>hQ m2 p2 ((e2.trans (gB ..)).trans e) a b c
 ·rw[if_neg q0];exact A4 A (hp.perm e) (show 1<=m' by omega) h2 h4 fun m2 p2 e2 a b c=>hQ m2 p2 (e2.trans e) a b c
theorem Q8 (A:Ans O key n cmp s) {p:Array Nat} {Q:Nat×Array Nat->Shared->Prop} (hp:InR n p)
 (hQ:∀ m' p',p'.Perm p->1<=m'->m'<=n->Up O key p' m'->Q (m',p') s):(kas_count n p).kasWp cmp Q s:=by
 have h1n:=hp.pos;unfold kas_count;rw[KasT.kasWp_bind];refine yO A hp _ 1 _ (Nat.le_refl _) (fun i j h1 h2=>by rw[show i=j by omega];exact KeyOrd.kle_refl _) fun m h1 h2 hu hl=>?_;show KasT.kasWp cmp (if (m == n)=true then _ else _) Q s
 by_cases e:m=n
 ·rw[if_pos (by simpa using e)];exact hQ m p (Array.Perm.refl _) h1 (by omega) hu
 ·rw[if_neg (by simpa using e)];have hl:=hl (by omega)
  by_cases g:m > 1
  ·rw[if_pos g];show cmp _ _ _ s;refine A _ _ _ (hp.at _) (hp.at _) ?_;cases hb:O.blt (key (p.getD 0 0)) (key (p.getD (m - 1) 0))with
   | true =>
    show KasT.kasWp cmp (if true=true then _ else _) Q s;rw[if_pos rfl];exact hQ m p (Array.Perm.refl _) h1 (by omega) hu
   | false =>
    show KasT.kasWp cmp (if false=true then _ else _) Q s;rw[if_neg aBh];have all:∀ k,0<=k->k<m->KP O key p k=KP O key p (m - 1):=fun k _ hk =>
     KeyOrd.kle_antisymm (hu k (m - 1) (by omega) (by omega)) (KeyOrd.kle_trans (show O.kle (KP O key p (m - 1)) (KP O key p 0) from hb) (hu 0 k (by omega) hk))
    have sm:=qO (O:=O) (key:=key) (p:=p) (i:=0) (j:=m) (by rw[hp.size];omega) all;refine A5 A (hp.perm (gB ..)) (by omega) (Dn.same (Dn.more (fun i j h1 h2=>?_) h1 (KeyOrd.kle_of_klt hl)) sm) fun m2 p2 e2 a b c=>hQ m2 p2 (e2.trans (gB ..)) a b c;rw[all i (by omega) (by omega),all j (by omega) h2];exact KeyOrd.kle_refl _
  ·rw[if_neg g];refine A5 A hp (by omega) (Dn.more (fun i j h1 h2=>?_) h1 (KeyOrd.kle_of_klt hl)) hQ;rw[show i=j by omega];exact KeyOrd.kle_refl _
theorem qP (A:Ans O key n cmp s) {p:Array Nat} (hp:InR n p) {k:Nat}:∀ (f l r:Nat) (Q:Nat->Shared->Prop),Up O key p k->l<=r->r<=k->r - l<=f->(∀ i,i<l->O.kle (KP O key p i) (KP O key p k))->(∀ i,r<=i->i<k->O.kle (KP O key p k) (KP O key p i)) ->
 (∀ l',l'<=k->(∀ i,i<l'->O.kle (KP O key p i) (KP O key p k))->(∀ i,l'<=i->i<k->O.kle (KP O key p k) (KP O key p i))->Q l' s)->(kas_place p k f l r).kasWp cmp Q s
 | 0,l,r,Q,hu,h1,h2,h3,h4,h5,hQ=>hQ l (by omega) h4 fun i a b=>h5 i (by omega) b
 | f+1,l,r,Q,hu,h1,h2,h3,h4,h5,hQ=>by
  unfold kas_place
  by_cases e:l≥r
  ·rw[if_pos e];exact hQ l (by omega) h4 fun i a b=>h5 i (by omega) b
  ·rw[if_neg e];show cmp _ _ _ s;refine A _ _ _ (hp.at _) (hp.at _) ?_;have m1:l<=(l+r) / 2:=by omega
   have m2:(l+r) / 2<r:=by omega
   cases hb:O.blt (key (p.getD k 0)) (key (p.getD ((l+r) / 2) 0))with
   | true =>
    show KasT.kasWp cmp (if true=true then _ else _) Q s;rw[if_pos rfl];refine qP A hp f l ((l+r) / 2) Q hu m1 (by omega) (by omega) h4 (fun i a b=>?_) hQ;exact KeyOrd.kle_trans (KeyOrd.kle_of_klt (show O.klt (KP O key p k) (KP O key p ((l+r) / 2)) from hb)) (hu _ i a b)
   | false =>
    show KasT.kasWp cmp (if false=true then _ else _) Q s;rw[if_neg aBh];refine qP A hp f ((l+r) / 2+1) r Q hu (by omega) h2 (by omega) (fun i a=>?_) h5 hQ;exact KeyOrd.kle_trans (hu i ((l+r) / 2) (by omega) (by omega)) (show O.kle (KP O key p ((l+r) / 2)) (KP O key p k) from hb)
theorem Q9 (A:Ans O key n cmp s):∀ (f:Nat) (p:Array Nat) (k:Nat) (Q:Array Nat->Shared->Prop),InR n p->1<=k->k+f=n->Up O key p k->(∀ p',p'.Perm p->Up O key p' n->Q p' s)->(kas_bin f p k).kasWp cmp Q s
 | 0,p,k,Q,hp,hk,hf,hu,hQ=>hQ p (Array.Perm.refl _) (by rw[<- hf];exact hu)
 | f+1,p,k,Q,hp,hk,hf,hu,hQ=>by
  unfold kas_bin;rw[KasT.kasWp_bind];refine qP A hp k 0 k _ hu (Nat.zero_le _) (Nat.le_refl _) (by omega) (fun i a=>absurd a (Nat.not_lt_zero _)) (fun i a b=>by omega) fun l hl h1 h2=>?_;have bp:(bubble p k (k - l)).Perm p:=bubble_perm _ _ _;refine Q9 A f _ (k+1) Q (hp.perm bp) (by omega) (by omega) (fun i j hij hj=>?_) fun p' e u=>hQ p' (e.trans bp) u;have kb:=fun x=>aAB (O:=O) (key:=key) (p:=p) (k:=k) (d:=k - l) (by rw[hp.size];omega) (by omega) x;rw[kb i,kb j,show k - (k - l)=l by omega]
  by_cases i1:i=l
  ·rw[if_pos i1]
   by_cases j1:j=l
   ·rw[if_pos j1];exact KeyOrd.kle_refl _
   ·rw[if_neg j1,if_pos (by omega)];exact h2 (j - 1) (by omega) (by omega)
  ·rw[if_neg i1]
   by_cases i2:l<i/\i<=k
   ·rw[if_pos i2,if_neg (show ¬ j=l by omega),if_pos (by omega)];exact hu (i - 1) (j - 1) (by omega) (by omega)
   ·rw[if_neg i2]
    by_cases j1:j=l
    ·rw[if_pos j1];exact h1 i (by omega)
    ·rw[if_neg j1]
     by_cases j2:l<j/\j<=k
     ·rw[if_pos j2];exact hu i (j - 1) (by omega) (by omega)
     ·rw[if_neg j2];exact hu i j hij (by omega)
theorem Z2 (A:Ans O key n cmp s) (hn:0<n) {Q:Array Nat->Shared->Prop} (hQ:∀ p,p.Perm (List.range n).toArray->Up O key p n->Q p s):(kas_sort n).kasWp cmp Q s:=by
 unfold kas_sort;rw[KasT.kasWp_bind];have hp:InR n (List.range n).toArray:=⟨hn,by simp,fun x hx=>by simpa using hx⟩;refine Q8 A hp fun m p e h1 h2 hu=>?_;show KasT.kasWp cmp (if m<n then _ else _) Q s
 by_cases q:m<n
 ·rw[if_pos q];have em:max m 1=m:=by omega
  show KasT.kasWp cmp (kas_bin (n - max m 1) p (max m 1)) Q s;rw[em];exact Q9 A _ p m Q (hp.perm e) h1 (by omega) hu fun p' e' u=>hQ p' (e'.trans e) u
 ·rw[if_neg q];have:m=n:=by omega
  subst this;exact hQ p e hu
end
end L2
namespace CW
open PySem L2
def rkP (p q:Int×Int):Prop:=p.2 - p.1<=q.2 - q.1/\p.2 - p.1+1<=q.1 - p.2 - 1
def Rnk (ps:List (Int×Int)):Prop:=∀ (j:Nat) (p q:Int×Int),ps[j]?=some p->ps[j+1]?=some q->rkP p q
theorem Z3 (us:List V) (k:Nat):mC us none (some (k:Int))=us.take k:=by
 unfold mC;rw[HT.sIx_none,HT.sIx_nat,List.drop_zero,Nat.sub_zero]
 by_cases h:k<=us.length
 ·rw[Nat.min_eq_left h]
 ·rw[Nat.min_eq_right (by omega),List.take_of_length_le (by omega),List.take_of_length_le (by omega)]
theorem Rnk.nil:Rnk (cZ []):=fun j p q h=>by simp[cZ]at h
theorem Rnk.snoc {ps:List (Int×Int)} {q:Int×Int} (h:Rnk ps) (hl:∀ p,ps.getLast?=some p->rkP p q):Rnk (ps++[q]):=by
 intro j a b ha hb;have hj:j+1<(ps++[q]).length:=(aCF.mp hb).1;simp only[aBd,List.length_singleton]at hj
 by_cases hlt:j+1<ps.length
 ·rw[List.getElem?_append_left (by omega)]at ha;rw[List.getElem?_append_left hlt]at hb;exact h j a b ha hb
 ·have e:j+1=ps.length:=by omega
  rw[List.getElem?_append_left (by omega)]at ha;rw[List.getElem?_append_right (by omega),e,Nat.sub_self]at hb;have eb:q=b:=by simpa using hb
  subst eb;refine hl a ?_;rw[List.getLast?_eq_getElem?,show ps.length - 1=j by omega];exact ha
def RowAt (H:Hp) (u:V):Prop:=∃ l row,u=.ref l/\H l=some (.lst (row.map V.int))/\Row row/\row.length<=60
def RowsOk (H:Hp) (lr:Addr) (us:List V):Prop:=H lr=some (.lst us)/\(∃ x r,us=.ref x :: r)/\∀ u∈us,RowAt H u
theorem Z4 {row:List Int} {x:Addr} {r:List V}:HO.lst (row.map V.int)≠HO.lst (.ref x :: r):=by
 intro z;cases row with
 | nil=>cases z
 | cons a b=>cases z
theorem RowAt.set {H:Hp} {lr x:Addr} {r vs:List V} (h:H lr=some (.lst (.ref x :: r))) {u:V} (q:RowAt H u):RowAt (upd H lr (.lst vs)) u:=by
 obtain⟨l,row,e,q,z⟩:=q;exact⟨l,row,e,by rw[aG (fV q h Z4)];exact q,z⟩
theorem RowsOk.snoc {H:Hp} {lr:Addr} {us:List V} {u:V} (h:RowsOk H lr us) (hu:RowAt H u):RowsOk (upd H lr (.lst (us++[u]))) lr (us++[u]):=by
 obtain⟨e,⟨x,r,rfl⟩,q⟩:=h;refine⟨aB,⟨x,r++[u],rfl⟩,fun v hv=>?_⟩;rcases aCH.mp hv with z | z
 ·exact(q v z).set e
 ·rw[aCA.mp z];exact hu.set e
def cnt (l:List Int) (p:Int):Nat:=(l.filter fun x=>decide (x<=p)).length
theorem R0 {l:List Int} (h:Row l) (x:Int):cnt l x=cnt l (x - 1)+if x∈l then 1 else 0:=by
 induction l with
 | nil=>simp[cnt]
 | cons a r ih =>
  have hr:Row r:=(List.pairwise_cons.mp h).2;have ha:=(List.pairwise_cons.mp h).1;have ih:=ih hr;have e1:∀ p,cnt (a :: r) p=(if a<=p then 1 else 0)+cnt r p:=fun p=>by
   unfold cnt;rw[List.filter_cons]
   by_cases q:a<=p
   ·rw[if_pos (aBq q),if_pos q,aBx];omega
   ·rw[if_neg (by simpa using q),if_neg q];omega
  rw[e1,e1,ih]
  by_cases hx:x=a
  ·subst hx;have hn:x∉r:=fun q=>by have:=ha x q;omega
   rw[if_pos (Int.le_refl _),if_neg (show ¬ x<=x - 1 by omega),if_neg hn,if_pos aB6];omega
  ·have e2:(if x∈a :: r then 1 else 0)=(if x∈r then 1 else 0:Nat):=by
    by_cases q:x∈r
    ·rw[if_pos (aB7 _ q),if_pos q]
    ·rw[if_neg (fun z=>(aCG.mp z).elim hx q),if_neg q]
   rw[e2]
   by_cases q:a<=x
   ·rw[if_pos q,if_pos (show a<=x - 1 by omega)];omega
   ·rw[if_neg q,if_neg (show ¬ a<=x - 1 by omega)];omega
def uR (row:List Int) (c:Int):Nat:=((cK row c).filter fun x=>decide (x∉row)).length
inductive lT (vs:List V) (H:Hp) (Q:VK) (E_:XK):Prop
 | mk (a:Addr) (row:List Int) (c:Int) (h0_:vs=[.ref a,.int c]) (h1_:H a=some (.lst (row.map V.int))) (h2_:Row row) (h3_:row.length<=60) (h4_:1<=c) (h5_:∀ H',Same H H'->Q (.int (uR row c)) H'):lT vs H Q E_
theorem oP {l:List Int} {i:Nat} {z:Int} (p:Int->Bool) (h:l[i]?=some z):((l.take (i+1)).filter p).map V.int=((l.take i).filter p).map V.int++(if p z=true then [V.int z]else []):=by
 rw[aBz,h,List.filter_append];simp only[Option.toList_some,List.filter_cons,List.filter_nil]
 by_cases q:p z=true
 ·rw[if_pos q,if_pos q];simp
 ·rw[if_neg q,if_neg q];simp
end CW
namespace L2
open PySem PySem.W PySem.Spec PyProof.Rows
def plt (a b:Int×Int):Bool:=decide (a.1<b.1) || (decide (a.1=b.1) && decide (a.2<b.2))
theorem gP {a b:Int×Int}:plt a b=true↔a.1<b.1\/(a.1=b.1/\a.2<b.2):=by simp[plt]
theorem gQ {a b:Int×Int}:plt a b=false↔¬ (a.1<b.1\/(a.1=b.1/\a.2<b.2)):=by rw[<- gP];simp
def kU:KeyOrd where
 α:=Int×Int
 blt:=plt
 irrefl a:=by rw[gQ];omega
 trans a b c h1 h2:=by rw[gP]at *;omega
 negTrans a b c h:=by rw[gP]at *;rw[gP];omega
 total a b h1 h2:=by
  rw[gQ]at h1 h2;exact Prod.ext (by omega) (by omega)
def PairV (h:Heap) (v:Value) (p:Int×Int):Prop:=∃ t o n k1 k2,v=.ref t/\h.get? t=some o/\o.cls=.type "tuple"/\o.data=.seq #[.int p.1 k1,.int p.2 k2] n
theorem dN {α β:Type} {F:α->β->Prop} {x:α} {y:β}:∀ {l:List α} {m:List β} {i:Nat},Paired F l m->i<l.length->F (l.getD i x) (m.getD i y)
 | _,_,0,.cons r _,_=>r
 | _,_,i+1,.cons _ t,h=>by
  simp only[List.getD_cons_succ];exact dN t (by simpa using h)
 | _,_,_,.nil,h=>absurd h (Nat.not_lt_zero _)
section
variable {prog:Program} {w:World} {A:Around} {E:Value->Shared->Prop} {s:Shared}
theorem R4 {x y:Value} {p q:Int×Int} {Q:Bool->Shared->Prop} (hx:PairV s.heap x p) (hy:PairV s.heap y q) (h:Q (plt p q) s):wpAny (model prog w) A (keyLt' (tuples' true) x y) Q E s:=by
 obtain⟨t,o,n,k1,k2,rfl,e1,c1,d1⟩:=hx;obtain⟨t',o',n',k1',k2',rfl,e2,c2,d2⟩:=hy;refine kat_lt e1 d1 e2 d2 ?_;refine kat_cons (wpAny_eqBool_int ?_)
 by_cases g1:p.1=q.1
 ·rw[show (p.1 == q.1)=true by simpa using g1];refine kat_yes (kat_cons (wpAny_eqBool_int ?_))
  by_cases g2:p.2=q.2
  ·rw[show (p.2 == q.2)=true by simpa using g2];refine kat_yes (kat_nil ?_);have e:plt p q=false:=by rw[gQ];omega
   rw[e]at h;exact h
  ·rw[show (p.2 == q.2)=false by simpa using g2];refine kat_no (kat_one _ _ (lt_int ?_));have e:plt p q=decide (p.2<q.2):=by
    rw[Bool.eq_iff_iff,gP];simp;omega
   rw[e]at h;exact h
 ·rw[show (p.1 == q.1)=false by simpa using g1];refine kat_no (oneLt_int ?_);have e:plt p q=decide (p.1<q.1):=by
   rw[Bool.eq_iff_iff,gP];simp;omega
  rw[e]at h;exact h
theorem sZ {h:Heap}:∀ {vs:List Value} {ps:List (Int×Int)},Paired (PairV h) vs ps->∃ fs:List Value,KatTups h vs fs/\fs.length=vs.length/\∀ v∈fs,∃ i t,v=Value.int i t
 | _,_,.nil=>⟨[],.nil,rfl,fun v hv=>(by cases hv)⟩
 | _,_,.cons ⟨t,o,n,k1,k2,e,ho,hc,hd⟩ r=>by
  subst e;obtain⟨fs,a,b,c⟩:=sZ r;refine⟨.int _ k1 :: fs,.cons ho hc hd rfl a,by simp[b],fun v hv=>?_⟩;rcases aCG.mp hv with z | z
  ·exact⟨_,_,z⟩
  ·exact c v z
abbrev uS (vs:List Value) (p:Array Nat):List Value:=p.toList.map fun i=>vs.getD i Value.none
theorem G6 {vs:List Value} (hl:vs.length<2):uS vs (List.range vs.length).toArray=vs:=by
 cases vs with
 | nil=>rfl
 | cons v t =>
  cases t with
  | nil=>rfl
  | cons w r=>exact absurd hl (by show ¬ r.length+1+1<2;omega)
theorem yP {a:Addr} {vs:List Value} {ps:List (Int×Int)} {n:Nat} {P:Fin->Shared->Prop} (ho:s.heap.get? a=some (seqObj "list" vs.toArray n)) (hv:Paired (PairV s.heap) vs ps) (h64:vs.length<64)
 (h:∀ p:Array Nat,p.Perm (List.range vs.length).toArray->Up kU (fun i=>ps.getD i (0,0)) p vs.length->P (.done (.ret .none)) { s with heap:=sortedHeap s.heap a vs (uS vs p).toArray }) :
 wpAny (model prog w) A (Builtin.«list.sort» ⟨[.ref a],[]⟩) P E s:=by
 have ha:a<s.heap.objs.size:=aBa ho;have hbig:vs.length<=sizeLine:=Nat.le_trans (Nat.le_of_lt h64) (by decide);rw[list_sort_plain];refine aB2 (listItems_at ho rfl (aB2 (listUpdate_at ho rfl ?_ (by rw[aBc];omega) (Nat.zero_le _))));obtain⟨e1,ho1⟩:∃ e1,(s.heap.update a (Obj.mapSeq fun _=>(#[]:Array Value))).get? a=some (seqObj "list" #[] e1):=⟨_,get?_update_seq ho _⟩;refine aB2 (seqEpoch_at ho1 rfl (aB2 (wpAny_newTuple (aB2 (wpAny_newList (wpAny_holding ?_) (Nat.zero_le _))) (by show vs.length<=_;exact hbig))));have k6:∀ b o,b≠a->s.heap.get? b=some o->(((s.heap.update a (Obj.mapSeq fun _=>(#[]:Array Value))).push (seqObj "tuple" vs.toArray 0)).push (seqObj "list" #[] 0)).get? b=some o:=fun b o hb q =>
  aB5 _ (aB5 _ ((Heap.get?_update_ne _ _ _ _ hb).trans q))
 have ho6:(((s.heap.update a (Obj.mapSeq fun _=>(#[]:Array Value))).push (seqObj "tuple" vs.toArray 0)).push (seqObj "list" #[] 0)).get? a=some (seqObj "list" #[] e1):=aB5 _ (aB5 _ ho1);have hv6:Paired (PairV (((s.heap.update a (Obj.mapSeq fun _=>(#[]:Array Value))).push (seqObj "tuple" vs.toArray 0)).push (seqObj "list" #[] 0))) vs ps:=Paired.mapP hv fun v p ⟨t,o,n,k1,k2,e,q,c,d⟩ =>
  ⟨t,o,n,k1,k2,e,k6 t o (fun z=>by subst z;rw[ho]at q;cases q;exact absurd c (by simp[seqObj])) q,c,d⟩
 show wpAny (model prog w) A _ P E { s with heap:=((s.heap.update a (Obj.mapSeq fun _=>(#[]:Array Value))).push (seqObj "tuple" vs.toArray 0)).push (seqObj "list" #[] 0) };have fin:∀ p:Array Nat,p.Perm (List.range vs.length).toArray->Up kU (fun i=>ps.getD i (0,0)) p vs.length->P (.done (.ret .none)) { s with heap:=sortedHeap s.heap a vs (uS vs p).toArray }:=h;clear h;unfold sortedHeap at fin;generalize ((s.heap.update a (Obj.mapSeq fun _=>(#[]:Array Value))).push (seqObj "tuple" vs.toArray 0)).push (seqObj "list" #[] 0)=h6 at ho6 hv6 fin;dsimp only
 by_cases h2:vs.toArray.size<2
 ·rw[if_pos h2,if_pos h2];refine aB2 (aB3 ?_);rw[StateT.run_pure];refine aB2 (aB3 ?_);dsimp only;have eo:uS vs (List.range vs.length).toArray=vs:=G6 (by simpa using h2);have ea:(arrOf (SortSt.mk' general' (vs.toArray.zip vs.toArray) #[] 7 none)).map (·.2)=vs.toArray:=by
   show (vs.toArray.zip vs.toArray).map (·.2)=vs.toArray;apply Array.toList_inj.mp
   simp;exact List.map_snd_zip (Nat.le_refl _)
  rw[ea];refine aB2 (seqEpoch_at ho6 rfl (aB2 (listUpdate_at ho6 rfl ?_ (Nat.zero_le _) (by rw[aBc];omega))));simp only[bne_self_eq_false,Bool.false_eq_true,if_false];have f:=fin (List.range vs.length).toArray (Array.Perm.refl _) fun i j hij hj=>by
   have:i=j:=by simp at h2;omega
   subst this;exact KeyOrd.kle_refl _
  rw[eo]at f;exact aB3 f
 ·rw[if_neg h2,if_neg h2];have hl2:2<=vs.length:=by simp at h2;omega
  obtain⟨fs,t6,lf,hf⟩:=sZ hv6;refine aB2 (kat_kind (s:={ s with heap:=h6 }) (T:=.type "int") t6 (by omega) (fun v hv=>?_) rfl ?_)
  ·obtain⟨i,t,rfl⟩:=hf v hv;exact Looks.now
  have A2:Ans kU (fun i=>ps.getD i (0,0)) vs.length (kas_ask prog w A (tuples' true) vs) { s with heap:=h6 }:=fun i j C hi hj hC=>by
   unfold kas_ask;exact R4 (s:={ s with heap:=h6 }) (dN hv6 hi) (dN hv6 hj) hC
  refine aB2 (wpAny_mono (kat_run (s:={ s with heap:=h6 }) (κ:=tuples' true) (ks:=vs) (vs:=vs) (Q:=fun st' s'=>s'={ s with heap:=h6 }/\failedOf st'=none/\∃ p:Array Nat,p.Perm (List.range vs.length).toArray/\Up kU (fun i=>ps.getD i (0,0)) p vs.length/\(arrOf st').map (·.2)=(uS vs p).toArray)
   (G:=fun p s'=>s'={ s with heap:=h6 }/\p.Perm (List.range vs.length).toArray/\Up kU (fun i=>ps.getD i (0,0)) p vs.length) rfl hl2 h64 (fun p st' s' g1 g2 g3 ⟨g4,g5,g6⟩=>⟨g4,g3,p,g5,g6,kat_snds rfl g2⟩) (Z2 A2 (by omega) fun p e u=>⟨rfl,e,u⟩)) ?_ fun _ _ e=>e)
  rintro ⟨⟨⟩,st'⟩ s' ⟨rfl,hf',p,e,u,ea⟩;dsimp only;rw[ea,hf'];have hsz:(uS vs p).toArray.size<=sizeLine:=by
   have:=e.size_eq;simp only[aBc,List.length_range]at this;rw[aBc,aB4,Array.length_toList,this];exact hbig
  refine aB2 (seqEpoch_at ho6 rfl (aB2 (listUpdate_at ho6 rfl ?_ (Nat.zero_le _) (by omega))));simp only[bne_self_eq_false,Bool.false_eq_true,if_false];exact aB3 (fin p e u)
theorem Z5 {l:Addr} {vs:List Value} {ps:List (Int×Int)} {Q:Value->Shared->Prop} (hl:s.heap.IsList l vs.toArray) (hv:Paired (PairV s.heap) vs ps) (h64:vs.length<64)
 (h:∀ p:Array Nat,p.Perm (List.range vs.length).toArray->Up kU (fun i=>ps.getD i (0,0)) p vs.length->Q (.ref (s.heap.objs.size+1)) { s with heap:=sortedAll s.heap vs (uS vs p).toArray }) :
 wpAny (model prog w) A (call (.builtin "sorted") [.ref l]) Q E s:=by
 have hbig:vs.length<=sizeLine:=Nat.le_trans (Nat.le_of_lt h64) (by decide);refine Calls.call_function_entry kind_sorted plain_sorted entry_sorted (args_sorted1 _) ?_;unfold Builtin.«sorted»;refine aB2 (m:=checkCount "sorted" 1 1 _) (aB3 (aB2 (collect_list hl (aB2 (wpAny_newList ?_ hbig)) hbig)));unfold sortedAll at h;have z1:((s.heap.push (seqObj "list" #[] 0)).update s.heap.objs.size (Obj.mapSeq (·++vs.toArray))).objs.size=s.heap.objs.size+1:=by rw[Heap.size_update,size_push']
 have oL:(((s.heap.push (seqObj "list" #[] 0)).update s.heap.objs.size (Obj.mapSeq (·++vs.toArray))).push (seqObj "list" vs.toArray 0)).get? (s.heap.objs.size+1)=some (seqObj "list" vs.toArray 0):=z1 ▸ aBb _ rfl;have kp:∀ b o,s.heap.get? b=some o->(((s.heap.push (seqObj "list" #[] 0)).update s.heap.objs.size (Obj.mapSeq (·++vs.toArray))).push (seqObj "list" vs.toArray 0)).get? b=some o:=fun b o q =>
  aB5 _ ((Heap.get?_update_ne _ _ _ _ (aBr (aBa q))).trans (aB5 _ q))
 show wpAny _ _ _ _ _ { s with heap:=((s.heap.push (seqObj "list" #[] 0)).update s.heap.objs.size (Obj.mapSeq (·++vs.toArray))).push (seqObj "list" vs.toArray 0) };rw[z1];generalize ((s.heap.push (seqObj "list" #[] 0)).update s.heap.objs.size (Obj.mapSeq (·++vs.toArray))).push (seqObj "list" vs.toArray 0)=h2 at oL kp h;have hv2:Paired (PairV h2) vs ps:=Paired.mapP hv fun v p ⟨t,o,n,k1,k2,e,q,c,d⟩=>⟨t,o,n,k1,k2,e,kp t o q,c,d⟩;refine aB2 (wpAny_holding (wpAny_call_entry slot_list_sort ⟨_,oL,rfl⟩ entry_list_sort (yP (s:={ s with heap:=h2 }) oL hv2 h64 fun p e u=>⟨_,rfl,?_⟩) (args_list_sort _)));exact aB3 ⟨_,rfl,h p e u⟩
end
def ple (a b:Int×Int):Prop:=a.1<b.1\/(a.1=b.1/\a.2<=b.2)
theorem rY {α:Type} (d:α) (l:List α) {p:List Nat} (h:p.Perm (List.range l.length)):(p.map fun i=>l.getD i d).Perm l:=by
 have e:(List.range l.length).map (fun i=>l.getD i d)=l:=by
  apply List.ext_getElem
  ·simp
  ·intro i h1 h2;simp[h2]
 have:=h.map fun i=>l.getD i d
 rwa [e]at this
section
variable {X:Cx}
theorem dW:fW X (.builtin "sorted") (fun xs H Q=>∃ (a:Addr) (us:List V) (ps:List (Int×Int)),xs=[.ref a]/\H a=some (.lst us)/\CW.Prs H us ps/\ps.length<64 /\
 ∀ (l:Addr) (us':List V) (qs:List (Int×Int)),H l=none->CW.Prs H us' qs->qs.Perm ps->qs.Pairwise ple->Q (.ref l) (upd H l (.lst us'))):=by
 intro pins s σ H xs us Q I r h;obtain⟨a,us0,ps,rfl,ha,pr,h64,q⟩:=h;obtain⟨u,rfl,rx⟩:=iU r;cases rx;obtain⟨its,rv,pl,hz⟩:=I.list (SqL.of ha);have l1:us0.length=ps.length:=Paired.length pr;have l2:us0.length=its.length:=rv.length;have hv:Paired (PairV s.heap) its ps:=by
  have go:∀ (us0:List V) (its:List Value) (ps:List (Int×Int)),Vals us0 its->CW.Prs H us0 ps->Paired (PairV s.heap) its ps:=by
   intro us0
   induction us0 with
   | nil=>intro its ps r p;cases r;cases p;exact .nil
   | cons x xs ih =>
    intro its ps r p;cases r with
    | cons r1 r2 =>
     cases p with
     | cons p1 p2 =>
      refine .cons ?_ (ih _ _ r2 p2);obtain⟨t,e,et⟩:=p1;subst e;cases r1;obtain⟨_,its',rv',o,ho,hc,n,hd⟩:=(show ObjOk X.prog X.w H s.heap t (.tup [.int _,.int _]) from I.hok t _ et);obtain⟨u1,u2,rfl,⟨k1,rfl⟩,⟨k2,rfl⟩⟩:=rv'.two;exact⟨t,o,n,k1,k2,rfl,ho,hc,hd⟩
  exact go us0 its ps rv pr
 refine Z5 pl.isList hv (by omega) fun p e u=>?_;have pl':p.toList.Perm (List.range its.length):=by
  have:=e.toList;simpa using this
 have pmem:∀ i∈p.toList,i<its.length:=fun i hi=>by
  have:=pl'.mem_iff.mp hi;simpa using this
 have psz:p.toList.length=its.length:=by rw[pl'.length_eq,List.length_range]
 have key:∀ (q:List Nat),(∀ i∈q,i<its.length)->Vals (q.map fun i=>us0.getD i V.non) (q.map fun i=>its.getD i Value.none)/\CW.Prs H (q.map fun i=>us0.getD i V.non) (q.map fun i=>ps.getD i (0,0)):=by
  intro q
  induction q with
  | nil=>intro _;exact⟨.nil,.nil⟩
  | cons i q ih =>
   intro hq;have hi:=hq i aB6;obtain⟨a1,a2⟩:=ih fun j hj=>hq j (aB7 _ hj);exact⟨.cons (dN rv (by omega)) a1,.cons (dN pr (by omega)) a2⟩
 obtain⟨k1,k2⟩:=key p.toList pmem;obtain⟨e0,at0⟩:=sortedAll_at s.heap its (uS its p).toArray;have hn:H (s.heap.objs.size+1)=none:=I.hok.fresh (Nat.le_succ _);refine⟨.ref (s.heap.objs.size+1),_,I.laid (t':=s.toks) (o:=.lst (p.toList.map fun i=>us0.getD i V.non)) (fun b o e=>sortedAll_old e) (Nat.le_succ _) ⟨?_,uS its p,e0,k1,at0⟩,rfl,q _ _ (p.toList.map fun i=>ps.getD i (0,0)) hn k2 ?_ ?_⟩
 ·rw[aB4,psz];exact Nat.le_trans (show its.length<=64 by omega) (by decide)
 ·exact rY (0,0) ps (by rw[<- l1,l2];exact pl')
 ·rw[List.pairwise_iff_getElem];intro i j hi hj hij;simp only[aB4]at hi hj;have z:=u i j (Nat.le_of_lt hij) (by omega);have gd:∀ (k:Nat) (hk:k<p.toList.length),(p.toList.map fun i=>ps.getD i (0,0))[k]'(by simpa using hk)=KP kU (fun i=>ps.getD i (0,0)) p k:=fun k hk=>by
   unfold KP;rw[List.getElem_map]
   congr 1
   rw[Array.getElem_toList,Array.getD,dif_pos (by simpa using hk)];rfl
  rw[gd i hi,gd j hj];have z':plt (KP kU (fun i=>ps.getD i (0,0)) p j) (KP kU (fun i=>ps.getD i (0,0)) p i)=false:=z;generalize KP kU (fun i=>ps.getD i (0,0)) p j=x at z';generalize KP kU (fun i=>ps.getD i (0,0)) p i=y at z';have z2:=gQ.mp z';show (y:Int×Int).1<(x:Int×Int).1\/((y:Int×Int).1=(x:Int×Int).1/\(y:Int×Int).2<=(x:Int×Int).2);have z3:¬ ((x:Int×Int).1<(y:Int×Int).1\/((x:Int×Int).1=(y:Int×Int).1/\(x:Int×Int).2<(y:Int×Int).2)):=z2;omega
theorem uT:fW X (.builtin "sorted") (fun xs H Q=>∃ (a:Addr) (ns:List Int),xs=[.ref a]/\H a=some (.lst (ns.map V.int))/\ns.length<64 /\
 ∀ (l:Addr) (ms:List Int),H l=none->ms.Perm ns->ms.Pairwise (·<=·)->Q (.ref l) (upd H l (.lst (ms.map V.int)))):=by
 intro pins s σ H xs us Q I r h;obtain⟨a,ns,rfl,ha,h64,q⟩:=h;obtain⟨u,rfl,rx⟩:=iU r;cases rx;obtain⟨its,rv,pl,hz⟩:=I.list (SqL.of ha);have hl:=rv.length;rw[aB4]at hl;refine sorted_ints pl.isList (kS rv) (by omega) fun out ns' hI hp hs=>?_;obtain⟨e0,at0⟩:=sortedAll_at s.heap its out;have hn:H (s.heap.objs.size+1)=none:=I.hok.fresh (Nat.le_succ _);refine⟨.ref (s.heap.objs.size+1),_,I.laid (t':=s.toks) (o:=.lst (ns'.map V.int)) (fun b o e=>sortedAll_old e) (Nat.le_succ _) ⟨?_,out.toList,e0,lO hI,at0⟩,rfl,q _ ns' hn hp hs⟩;rw[aB4,hp.length_eq];exact Nat.le_trans (show ns.length<=64 by omega) (by decide)
end
end L2
namespace L2
open PySem PySem.Spec PyProof.Rows
section
variable {κ:Type} [DecidableEq κ]
def cU (kvs:List (κ×V)) (k:κ):Option V:=(kvs.find? fun kv=>decide (kv.1=k)).map (·.2)
def gR (kvs:List (κ×V)) (k:κ) (v:V):List (κ×V) :=
 if (kvs.any fun kv=>decide (kv.1=k))=true then kvs.map (fun kv=>if kv.1=k then (kv.1,v)else kv)else kvs++[(k,v)]
def oQ (kvs:List (κ×V)) (k:κ):List (κ×V):=kvs.filter fun kv=>decide (kv.1≠k)
theorem cV {p:κ×V} {r:List (κ×V)} {k:κ} (e:p.1=k):cU (p :: r) k=some p.2:=by simp[cU,List.find?_cons,e]
theorem cW {p:κ×V} {r:List (κ×V)} {k:κ} (e:¬ p.1=k):cU (p :: r) k=cU r k:=by simp[cU,List.find?_cons,e]
theorem kW (k:κ):∀ kvs:List (κ×V),(kvs.any fun kv=>decide (kv.1=k))=(cU kvs k).isSome
 | []=>rfl
 | p :: r=>by
  rw[List.any_cons]
  by_cases e:p.1=k
  ·simp only[cV e,aBq e,Bool.true_or,Option.isSome_some]
  ·rw[cW e,aBp e,Bool.false_or];exact kW k r
theorem wS (k j:κ) (y:V):∀ kvs:List (κ×V),cU (kvs.map fun kv=>if kv.1=k then (kv.1,y)else kv) j=(cU kvs j).map fun x=>if j=k then y else x
 | []=>rfl
 | p :: r=>by
  have ih:=wS k j y r;rw[aBt]
  by_cases h:p.1=k
  ·rw[if_pos h]
   by_cases e:p.1=j
   ·rw[cV (p:=(p.1,y)) e,cV e,Option.map_some,if_pos (e.symm.trans h)]
   ·rw[cW (p:=(p.1,y)) e,cW e,ih]
  ·rw[if_neg h]
   by_cases e:p.1=j
   ·rw[cV (p:=p) e,cV e,Option.map_some,if_neg (fun z=>h (e.trans z))]
   ·rw[cW (p:=p) e,cW e,ih]
theorem tB (k j:κ) (y:V):∀ kvs:List (κ×V),cU kvs k=none->cU (kvs++[(k,y)]) j=if j=k then some y else cU kvs j
 | [],_=>by
  by_cases e:k=j
  ·rw[if_pos e.symm];exact cV (p:=(k,y)) e
  ·rw[if_neg (fun z=>e z.symm)];exact cW (p:=(k,y)) e
 | p :: r,hn=>by
  rw[List.cons_append];have hk:¬ p.1=k:=fun z=>by rw[cV z]at hn;cases hn
  rw[cW hk]at hn;have ih:=tB k j y r hn
  by_cases e:p.1=j
  ·rw[cV e,cV e,if_neg (fun z=>hk (e.trans z))]
  ·rw[cW e,cW e,ih]
theorem valV_put (kvs:List (κ×V)) (k j:κ) (y:V):cU (gR kvs k y) j=if j=k then some y else cU kvs j:=by
 unfold gR
 by_cases a:(kvs.any fun kv=>decide (kv.1=k))=true
 ·rw[if_pos a,wS];rw[kW]at a
  by_cases e:j=k
  ·obtain⟨x,hx⟩:=Option.isSome_iff_exists.mp a;rw[if_pos e,e,hx,Option.map_some,if_pos rfl]
  ·rw[if_neg e];cases cU kvs j with
   | none=>rfl
   | some x=>rw[Option.map_some,if_neg e]
 ·rw[if_neg a];refine tB k j y kvs ?_;rw[kW]at a;cases q:cU kvs k with
  | none=>rfl
  | some x=>rw[q]at a;exact(a rfl).elim
theorem gC (kvs:List (κ×V)) (k:κ) (v:V):(gR kvs k v).length<=kvs.length+1:=by
 unfold gR;split
 ·rw[aB4];omega
 ·rw[aBd,aBx,List.length_nil];omega
theorem wT {kvs:List (κ×V)} {k:κ} (v:V) (h:cU kvs k=none):gR kvs k v=kvs++[(k,v)]:=by
 unfold gR;rw[kW,h];exact if_neg (by decide)
theorem RelO.isSome_eq {o:Option V} {u:Option Value} (r:RelO o u):o.isSome=u.isSome:=by
 cases o with
 | none=>cases u with
  | none=>rfl
  | some _=>exact(show False from r).elim
 | some _=>cases u with
  | none=>exact(show False from r).elim
  | some _=>rfl
theorem RelO.getD {o:Option V} {u:Option Value} {d:V} {d':Value} (r:RelO o u) (rd:RelV d d'):RelV (o.getD d) (u.getD d'):=by
 cases o with
 | none=>cases u with
  | none=>exact rd
  | some _=>exact(show False from r).elim
 | some _=>cases u with
  | none=>exact(show False from r).elim
  | some _=>exact r
theorem KV.val {kvs:List (κ×V)} {vs:List (κ×Value)} (r:KV kvs vs) (k:κ):RelO (cU kvs k) (valueAt vs k):=by
 unfold KV at r
 induction r with
 | nil=>exact True.intro
 | @cons p q ps qs h t ih =>
  obtain⟨h1,h2⟩:=h
  by_cases e:p.1=k
  ·have e':q.1=k:=h1.symm.trans e;have b:valueAt (q :: qs) k=some q.2:=by simp[valueAt,List.find?_cons,e']
   rw[cV e,b];exact h2
  ·have e':¬ q.1=k:=fun z=>e (h1.trans z);have b:valueAt (q :: qs) k=valueAt qs k:=by simp[valueAt,List.find?_cons,e']
   rw[cW e,b];exact ih
theorem KV.any {kvs:List (κ×V)} {vs:List (κ×Value)} (r:KV kvs vs) (k:κ):(kvs.any fun kv=>decide (kv.1=k))=vs.any fun kv=>decide (kv.1=k):=by
 unfold KV at r
 induction r with
 | nil=>rfl
 | cons h t ih=>rw[List.any_cons,List.any_cons,ih,h.1]
theorem KV.repl {kvs:List (κ×V)} {vs:List (κ×Value)} (r:KV kvs vs) (k:κ) {y:V} {u:Value} (ry:RelV y u) :
 KV (kvs.map fun kv=>if kv.1=k then (kv.1,y)else kv) (vs.map fun kv=>if kv.1=k then (kv.1,u)else kv):=by
 unfold KV at r ⊢
 induction r with
 | nil=>exact .nil
 | @cons p q ps qs h t ih =>
  rw[aBt,aBt];refine .cons ?_ ih;obtain⟨h1,h2⟩:=h
  by_cases e:p.1=k
  ·rw[if_pos e,if_pos (h1.symm.trans e)];exact⟨h1,ry⟩
  ·rw[if_neg e,if_neg (fun z=>e (h1.trans z))];exact⟨h1,h2⟩
theorem KV.put {kvs:List (κ×V)} {vs:List (κ×Value)} (r:KV kvs vs) (k:κ) {y:V} {u:Value} (ry:RelV y u):KV (gR kvs k y) (stored vs k u):=by
 unfold gR stored;rw[r.any k]
 by_cases e:(vs.any fun kv=>decide (kv.1=k))=true
 ·rw[if_pos e,if_pos e];exact r.repl k ry
 ·rw[if_neg e,if_neg e];exact Paired.snoc r ⟨rfl,ry⟩
theorem KV.drop {kvs:List (κ×V)} {vs:List (κ×Value)} (r:KV kvs vs) (k:κ):KV (oQ kvs k) (without vs k):=by
 unfold KV at r ⊢;unfold oQ without
 induction r with
 | nil=>exact .nil
 | @cons p q ps qs h t ih =>
  obtain⟨h1,h2⟩:=h;rw[List.filter_cons,List.filter_cons]
  by_cases e:p.1=k
  ·have a:¬ decide (p.1≠k)=true:=by simp[e]
   have b:¬ decide (q.1≠k)=true:=by simp[h1.symm.trans e]
   rw[if_neg a,if_neg b];exact ih
  ·have e':¬ q.1=k:=fun z=>e (h1.trans z);have a:decide (p.1≠k)=true:=by simp[e]
   have b:decide (q.1≠k)=true:=by simp[e']
   rw[if_pos a,if_pos b];exact .cons ⟨h1,h2⟩ ih
theorem KV.length {kvs:List (κ×V)} {vs:List (κ×Value)} (r:KV kvs vs):kvs.length=vs.length:=Paired.length r
theorem R5 (kvs:List (κ×V)) (k:κ):(oQ kvs k).length<=kvs.length:=List.length_filter_le _ _
end
theorem tD {P:Program} {w:World} {k:Key} {u:Value} (r:RelV (kV k) u):(bK P w).is k u=true:=by
 cases k with
 | inl i=>obtain⟨t,e⟩:=(show ∃ t,u=Value.int i t from r);subst e;exact wB P w i t
 | inr x=>obtain⟨t,e⟩:=(show ∃ t,u=Value.str x t from r);subst e;exact wC P w x t
theorem tE {P:Program} {w:World}:∀ {ks:List Key} {us:List Value},Vals (ks.map kV) us->ItemsAre (bK P w) ks us
 | [],_,r=>by rw[List.map_nil]at r;cases r;exact .nil
 | k :: ks,_,r=>by
  rw[aBt]at r;cases r with
  | cons h t=>exact .cons (tD h) (tE t)
abbrev KT (H:Hp):List (List Key×V)->List (List Key×Addr×Value)->Prop:=Paired fun p q=>p.1=q.1/\H q.2.1=some (.tup (p.1.map kV))/\RelV p.2 q.2.2
theorem KT.val {H:Hp} {kvs:List (List Key×V)} {xs:List (List Key×Addr×Value)} (r:KT H kvs xs) (k:List Key):RelO (cU kvs k) ((atKey xs k).map (·.2)):=by
 induction r with
 | nil=>exact True.intro
 | @cons p q ps qs h t ih =>
  obtain⟨h1,_,h2⟩:=h
  by_cases e:p.1=k
  ·have e':q.1=k:=h1.symm.trans e;have b:atKey (q :: qs) k=some q.2:=by simp[atKey,List.find?_cons,e']
   rw[cV e,b];exact h2
  ·have e':¬ q.1=k:=fun z=>e (h1.trans z);have b:atKey (q :: qs) k=atKey qs k:=by simp[atKey,List.find?_cons,e']
   rw[cW e,b];exact ih
theorem KT.repl {H:Hp} {kvs:List (List Key×V)} {xs:List (List Key×Addr×Value)} (r:KT H kvs xs) (k:List Key) {y:V} {u:Value} (ry:RelV y u) :
 KT H (kvs.map fun kv=>if kv.1=k then (kv.1,y)else kv) (xs.map (putAt k u)):=by
 induction r with
 | nil=>exact .nil
 | @cons p q ps qs h t ih =>
  rw[aBt,aBt];refine .cons ?_ ih;obtain⟨h1,h2,h3⟩:=h;unfold putAt
  by_cases e:p.1=k
  ·rw[if_pos e,if_pos (h1.symm.trans e)];exact⟨h1,h2,ry⟩
  ·rw[if_neg e,if_neg (fun z=>e (h1.trans z))];exact⟨h1,h2,h3⟩
theorem KT.put {H:Hp} {kvs:List (List Key×V)} {xs:List (List Key×Addr×Value)} (r:KT H kvs xs) (k:List Key) {b:Addr} {y:V} {u:Value} (hb:H b=some (.tup (k.map kV))) (ry:RelV y u) :
 KT H (gR kvs k y) (storedH xs k b u):=by
 have e:(kvs.any fun kv=>decide (kv.1=k))=(atKey xs k).isSome:=by
  rw[kW,(r.val k).isSome_eq,Option.isSome_map]
 unfold gR storedH;rw[e]
 by_cases q:(atKey xs k).isSome=true
 ·rw[if_pos q,if_pos q];exact r.repl k ry
 ·rw[if_neg q,if_neg q];exact Paired.snoc r ⟨rfl,hb,ry⟩
theorem KT.keeps {H H':Hp} {kvs:List (List Key×V)} {xs:List (List Key×Addr×Value)} (r:KT H kvs xs) (ht:∀ b ys,H b=some (.tup ys)->H' b=some (.tup ys)):KT H' kvs xs :=
 Paired.mapP r fun _ _ z=>⟨z.1,ht _ _ z.2.1,z.2.2⟩
section
variable {P:Program} {w:World} {H:Hp} {h:Heap} {a:Addr}
theorem o7 {u:HO} (ok:HOk P w H h) (e:Rd H a u):ObjOk P w H h a u:=e.ok ok
theorem tF {kvs:List (Key×V)} (ok:HOk P w H h) (e:Rd H a (.dK kvs)):kvs.length<=sizeLine/\(a == sysModules)=false/\∃ vs,KV kvs vs/\h.DictOf (bK P w) a vs :=
 show ObjOk P w H h a (.dK kvs) from o7 ok e
theorem qQ {kvs:List (Key×V)} (ok:HOk P w H h) (e:H a=some (.dK kvs)):kvs.length<=sizeLine/\(a == sysModules)=false/\∃ vs,KV kvs vs/\h.DictOf (bK P w) a vs:=tF ok (.inl e)
theorem uU {ks:List Key} (ok:HOk P w H h) (e:H a=some (.tup (ks.map kV))):(tupleKind (bK P w)).is h ks a:=by
 obtain⟨_,its,r,o,h1,h2,n,h3⟩:=(show ObjOk P w H h a (.tup (ks.map kV)) from ok a _ e);exact⟨o,its.toArray,n,h1,h2,h3,by simpa using tE r⟩
theorem wU {kvs:List (List Key×V)} (ok:HOk P w H h) (e:Rd H a (.dT kvs)):kvs.length<=sizeLine/\(a == sysModules)=false /\
 ∃ xs,KT H kvs xs/\h.DictOfH (tupleKind (bK P w)) a xs:=by
 obtain⟨z,y,xs,r,o,es,ep,h1,h2,h3,h4,h5⟩:=(show ObjOk P w H h a (.dT kvs) from o7 ok e);refine⟨z,y,xs,r,o,es,ep,h1,h2,h3,h4,fun x hx=>?_,h5⟩;have all:∀ {l:List (List Key×V)} {m:List (List Key×Addr×Value)},KT H l m->∀ x∈m,(tupleKind (bK P w)).is h x.1 x.2.1:=by
  intro l m q
  induction q with
  | nil=>intro x hx;exact nomatch hx
  | @cons p q ps qs hq t ih =>
   intro x hx;rcases aCG.mp hx with e | hx
   ·subst e;exact uU ok (by rw[<- hq.1];exact hq.2.1)
   ·exact ih x hx
 exact all r x hx
theorem aAm {kvs:List (List Key×V)} (ok:HOk P w H h) (e:H a=some (.dT kvs)):kvs.length<=sizeLine/\(a == sysModules)=false /\
 ∃ xs,KT H kvs xs/\h.DictOfH (tupleKind (bK P w)) a xs:=wU ok (.inl e)
end
def DGet (H:Hp) (a:Addr) (y:V) (r:Option V):Prop :=
 (∃ kvs k,Rd H a (.dK kvs)/\y=kV k/\r=cU kvs k)\/∃ kvs k b,Rd H a (.dT kvs)/\y=.ref b/\H b=some (.tup (k.map kV))/\r=cU kvs k
def DPut (H:Hp) (a:Addr) (y v:V) (H':Hp):Prop :=
 (∃ kvs k,H a=some (.dK kvs)/\y=kV k/\kvs.length<sizeLine/\H'=upd H a (.dK (gR kvs k v))) \/
 ∃ kvs k b,H a=some (.dT kvs)/\y=.ref b/\H b=some (.tup (k.map kV))/\kvs.length<sizeLine/\H'=upd H a (.dT (gR kvs k v))
theorem DGet.k {H:Hp} {a:Addr} {kvs:List (Key×V)} {k:Key} (e:H a=some (.dK kvs)):DGet H a (kV k) (cU kvs k):=.inl ⟨kvs,k,.inl e,rfl,rfl⟩
theorem DPut.k {H:Hp} {a:Addr} {kvs:List (Key×V)} {k:Key} {v:V} (e:H a=some (.dK kvs)) (hl:kvs.length<sizeLine):DPut H a (kV k) v (upd H a (.dK (gR kvs k v))):=.inl ⟨kvs,k,e,rfl,hl,rfl⟩
section
variable {X:Cx} {pins:List (Addr×Obj)} {σ:St} {H:Hp} {s:Shared} {a:Addr} {y v:V} {u r:Value} {o:Option V} {A:Around} {E:Value->Shared->Prop}
theorem Inv.big (I:Inv X pins σ H s):sysModules<s.heap.objs.size:=by
 have h:mainGlobals<s.heap.objs.size:=(I.mod.glob.keeps I.bk).lt;exact Nat.lt_trans (by decide) h
theorem G7 {Q:Value->Shared->Prop} (hu:A.units+1<cLine) (I:Inv X pins σ H s) (g:DGet H a y (some v)) (ry:RelV y u) (h:∀ w' s',Inv X pins σ H s'->RelV v w'->Q w' s') :
 wpAny (model X.prog X.w) A (getItem (.ref a) u) Q E s:=by
 rcases g with ⟨kvs,k,e,ey,l⟩ | ⟨kvs,k,b,e,ey,eb,l⟩
 ·subst ey;obtain⟨z,hd,vs,rel,dd⟩:=tF I.hok e;obtain⟨w',hw,rw'⟩:=RelO.some_of (v:=v) (o:=valueAt vs k) (by rw[l];exact rel.val k);exact wpAny_getItem_of (tD ry) dd.mapOf hw (h w' _ (I.tok _) rw')
 ·subst ey;cases (show u=Value.ref b from ry);obtain⟨z,hd,xs,rel,dd⟩:=wU I.hok e;obtain⟨w',hw,rw'⟩:=RelO.some_of (v:=v) (o:=(atKey xs k).map (·.2)) (by rw[l];exact rel.val k);obtain⟨p,hp,hp2⟩:=aCE.mp hw;refine wpAny_getItem_heap (tupleKind_room_in1 hu) (uU I.hok eb) dd hp ?_;rw[hp2];exact h w' _ (I.tok _) rw'
theorem pQ {h':Heap} {t':Nat} {ob:HO} (I:Inv X pins σ H s) (mu:Mut (H a)) (hs:Heap.SameBut a s.heap h') (he:∃ q,h'.get? a=some q) (new:ObjOk X.prog X.w (upd H a ob) h' a ob) :
 Inv X pins σ (upd H a ob) { s with heap:=h',toks:=t' } :=
 I.write (x:=a) (e:=a) mu (.inl rfl) (fun b q hb z=>(hs.2 b hb).trans z) he new
theorem yQ {P:Program} {w:World} {H':Hp} {h':Heap} {kvs:List (Key×V)} {vs:List (Key×Value)} (z:kvs.length<=sizeLine) (hd:(a == sysModules)=false) (rel:KV kvs vs) (dd:h'.DictOf (bK P w) a vs) :
 ObjOk P w H' h' a (.dK kvs):=⟨z,hd,vs,rel,dd⟩
theorem G8 {H':Hp} {Q:Unit->Shared->Prop} (hu:A.units+1<cLine) (I:Inv X pins σ H s) (g:DPut H a y v H') (ry:RelV y u) (rv:RelV v r) (h:∀ s',Inv X pins σ H' s'->Q () s') :
 wpAny (model X.prog X.w) A (setItem (.ref a) u r) Q E s:=by
 rcases g with ⟨kvs,k,e,ey,l,eH⟩ | ⟨kvs,k,b,e,ey,eb,l,eH⟩
 ·subst ey eH;obtain⟨z,hd,vs,rel,dd⟩:=qQ I.hok e;have hz:vs.length<=sizeLine:=by rw[<- rel.length];exact z
  have hl:(gR kvs k v).length<=sizeLine:=by have:=gC kvs k v;omega
  refine wpAny_setItem_pairs (hsz:=hz) (tD ry) dd fun h' dd' hs=>h _ ?_;have he:∃ q,h'.get? a=some q:=let ⟨q,_,_,hq,_⟩:=dd';⟨q,hq⟩;exact pQ I (by rw[e];exact True.intro) hs he (yQ hl hd (rel.put k rv) dd')
 ·subst ey eH;cases (show u=Value.ref b from ry);obtain⟨z,hd,xs,rel,dd⟩:=aAm I.hok e;have hz:xs.length<=sizeLine:=by rw[<- Paired.length rel];exact z
  have hl:(gR kvs k v).length<=sizeLine:=by have:=gC kvs k v;omega
  refine wpAny_setItem_heap (hsz:=hz) (tupleKind_room_in1 hu) (uU I.hok eb) dd fun h' dd' hs=>h _ ?_;obtain⟨q,es,ep,hq,h2,h3,h4,_,h5⟩:=dd';refine pQ I (by rw[e];exact True.intro) hs ⟨q,hq⟩ ⟨hl,hd,_,(rel.put k eb rv).keeps fun c ys ec=>?_,q,es,ep,hq,h2,h3,h4,h5⟩;rw[aG (fV ec e (fun z=>nomatch z))];exact ec
end
section
variable {X:Cx} {pins:List (Addr×Obj)} {σ:St} {H:Hp} {s:Shared} {a:Addr} {kvs:List (Key×V)} {k:Key} {u:Value} {A:Around} {E:Value->Shared->Prop}
theorem G9 {Q:Unit->Shared->Prop} (I:Inv X pins σ H s) (e:H a=some (.dK kvs)) (ry:RelV (kV k) u) (l:(cU kvs k).isSome=true) (h:∀ s',Inv X pins σ (upd H a (.dK (oQ kvs k))) s'->Q () s') :
 wpAny (model X.prog X.w) A (delItem (.ref a) u) Q E s:=by
 obtain⟨z,hd,vs,rel,dd⟩:=qQ I.hok e;refine wpAny_delItem_slot dd.typeIs (by decide) PySem.F.slot_dict_delitem
  (call_meetsIn PySem.F.slot_dict_delitem dd.typeIs PySem.F.entry_dict_delitem (PySem.F.args_dict_delitem_2 _ _) (meets_dict_delitem_pairs (bK X.prog X.w) a (tD ry)) ⟨vs,dd,by rw[<- rel.length];exact z,by rw[<- (rel.val k).isSome_eq];exact l,fun h' dd' hs=>h _ ?_⟩)
 have he:∃ q,h'.get? a=some q:=let ⟨q,_,_,hq,_⟩:=dd';⟨q,hq⟩;exact pQ I (by rw[e];exact True.intro) hs he (yQ (Nat.le_trans (R5 kvs k) z) hd (rel.drop k) dd')
theorem Z6 {Q:Bool->Shared->Prop} (I:Inv X pins σ H s) (e:Rd H a (.dK kvs)) (h:∀ s',Inv X pins σ H s'->Q (!kvs.isEmpty) s'):wpAny (model X.prog X.w) A (truthy (.ref a)) Q E s:=by
 obtain⟨z,hd,vs,rel,dd⟩:=tF I.hok e;refine wpAny_truthy_dict hd dd (by rw[<- rel.length];rw[sizeLine_eq]at z;omega) ?_;have q:kvs.isEmpty=vs.isEmpty:=by cases rel <;> rfl
 rw[<- q];exact h _ (I.tok _)
end
def aAn (i:Expr):Prop:=∀ ov iv,subscripted i false ov iv=operate [ov,iv] (getItem ov iv)
theorem Z7 {prog:Program} {w:World} {A:Around} {E:Value->Shared->Prop} {s:Shared} {env:Env} {value slice:Expr} {pos:Pos} {T id:String} {Q:Value->Shared->Prop}
 (hl:typeLookup (.type T) "__getitem__"=pure (some (.builtin id))) (hs:aAn slice)
 (h:wpAny (model prog w) A (eval value env) (fun o s₁=>wpAny (model prog w) A (eval slice env) (fun i s₂=>s₂.TypeIs o T/\wpAny (model prog w) A (getItem o i) Q E s₂) E s₁) E s) :
 wpAny (model prog w) A (eval (.Subscript value slice pos) env) Q E s:=by
 refine Subscript_ (wpAny_mono h (fun o s₁ h₁=>wpAny_mono h₁ (fun i s₂ h₂=>?_) fun _ _ x=>x) fun _ _ x=>x);obtain⟨hT,h₂⟩:=h₂;unfold subscriptTail;refine aB2 ?_;rw[getitemInPython_of_ne hT.not_modules];refine aB2 (wpAny_specialOf hT hl ?_);have fin:wpAny (model prog w) A (subscripted slice false o i) (fun r s₃=>wpAny (model prog w) A (letTemporaryGo value o r >>= fun _=>pure r) Q E s₃) E s₂:=by
  rw[hs o i];exact wpAny_operating (wpAny_mono h₂ (fun r s₃ h₃=>aB2 (wpAny_letTemporaryGo (aB3 h₃))) fun _ _ x=>x)
 first
  | exact aB3 (aB2 fin)
  | exact aB2 (aB3 (aB2 fin))
  | exact aB2 fin
theorem wV {X:Cx} {pins:List (Addr×Obj)} {σ:St} {H:Hp} {s:Shared} {a:Addr} {y:V} {o:Option V} (I:Inv X pins σ H s) (g:DGet H a y o):s.TypeIs (.ref a) "dict":=by
 rcases g with ⟨kvs,k,e,_,_⟩ | ⟨kvs,k,b,e,_,_,_⟩
 ·obtain⟨_,_,vs,_,dd⟩:=tF I.hok e;exact dd.typeIs
 ·obtain⟨_,_,xs,_,dd⟩:=wU I.hok e;exact dd.typeIs
def aAo (td ty:TE):TE:=fun σ H Q=>td σ H fun x H1=>ty σ H1 fun y H2=>∃ a v,x=.ref a/\DGet H2 a y (some v)/\Q v H2
def aAp (td ty tv:TE):TS:=fun D σ H=>tv σ H fun v H1=>td σ H1 fun x H2=>ty σ H2 fun y H3=>∃ a H4,x=.ref a/\DPut H3 a y v H4/\D.nx σ H4
def aAq (td ty:TE):TS:=fun D σ H=>td σ H fun x H1=>ty σ H1 fun y H2=>∃ a kvs k,x=.ref a/\H2 a=some (.dK kvs)/\y=kV k/\(cU kvs k).isSome=true/\D.nx σ (upd H2 a (.dK (oQ kvs k)))
section
variable {X:Cx} {o i e value:Expr} {pos pos' tpos:Pos} {td ty tv:TE}
theorem lU (hu:X.A.units+1<cLine) (ho:PE X o td) (hi:PE X i ty) (hs:aAn i):PE X (.Subscript o i pos) (aAo td ty):=by
 intro pins s σ H Q I h;refine Z7 PySem.F.slot_dict_getitem.lookup hs (thn (ho pins s σ H _ I h) fun u s1 ⟨x,H1,I1,rx,q1⟩=>thn (hi pins s1 σ H1 _ I1 q1) fun iv s2 ⟨y,H2,I2,ry,a,v,ex,g,q2⟩=>?_);subst ex;obtain rfl:u=Value.ref a:=rx;exact⟨wV I2 g,G7 hu I2 g ry fun w' s3 I3 rw'=>⟨v,H2,I3,rw',q2⟩⟩
theorem uV (hu:X.A.units+1<cLine) (ho:PE X o td) (hi:PE X i ty) (hv:PE X value tv) (hs:swapsWith value (some (.Subscript o i pos')) pos.line X.env=pure false) :
 PS X (.Assign [.Subscript o i pos'] value pos) (aAp td ty tv):=by
 intro pins s σ H D I h;refine wpAny_Assign_Subscript (thn (hv pins s σ H _ I h) fun r s1 ⟨v,H1,I1,rv,q1⟩=>thn (ho pins s1 σ H1 _ I1 q1) fun u s2 ⟨x,H2,I2,rx,q2⟩=>thn (hi pins s2 σ H2 _ I2 q2) fun iv s3 ⟨y,H3,I3,ry,a,H4,ex,g,q3⟩=>?_) hs;subst ex;obtain rfl:u=Value.ref a:=rx;exact G8 hu I3 g ry rv fun s4 I4=>⟨σ,H4,I4,q3⟩
theorem Z8 (ho:PE X o td) (hi:PE X i ty):PS X (.Delete [.Subscript o i tpos] pos) (aAq td ty):=by
 intro pins s σ H D I h;refine wpAny_Delete (wpAny_deleteEach_cons (wpAny_delete_Subscript (thn (ho pins s σ H _ I h) fun u s1 ⟨x,H1,I1,rx,q1⟩=>thn (hi pins s1 σ H1 _ I1 q1) fun iv s2 ⟨y,H2,I2,ry,a,kvs,k,ex,e,ey,l,q2⟩=>?_)));subst ex ey;obtain rfl:u=Value.ref a:=rx;exact G9 I2 e ry l fun s3 I3=>wpAny_deleteEach_nil ⟨σ,_,I3,q2⟩
end
theorem R6 {P:Program} {w:World} {H:Hp} (h:Heap) (hb:sysModules<h.objs.size):ObjOk P w H (h.push { cls:=.type "dict",data:=.dict #[] }) h.objs.size (.dK []) :=
 ⟨Nat.zero_le _,beq_eq_false_iff_ne.mpr (Ne.symm (aBr hb)),[],.nil,Heap.DictOf.new h⟩
def aAC:TE:=fun _ H Q=>∀ p,H p=none->Q (.ref p) (upd H p (.dK []))
section
variable {X:Cx} {pos:Pos}
theorem kX:PE X (.Dict [] [] pos) aAC:=fun pins s σ H Q I h =>
 wpAny_Dict_empty ⟨.ref s.heap.objs.size,_,I.laid (a:=s.heap.objs.size) (o:=.dK []) (t':=s.toks) (fun _ _ q=>aB5 _ q) (Nat.le_refl _) (R6 s.heap I.big),rfl,h _ (I.hok.fresh (Nat.le_refl _))⟩
end
structure M1 (X:Cx) (o:Expr) (m:Str) (apos:Pos) (e:Expr) (cpos:Pos):Prop where
 base:attributeBase o m X.env (eval o X.env)=eval o X.env
 few:((backTo cpos (starEach [e] X.env)).all (fun x=>!x.1) && (backToKw cpos (keywordEach [] X.env)).all (fun x=>x.1.isSome)
  && decide (([e]:List Expr).length+([]:List Keyword).length+(if ([]:List Keyword).isEmpty then 0 else 1)<30))=true
 line:(apos.endLine == cpos.line)=true
 trees:backTo cpos (starEach [e] X.env)=[(false,eval e X.env)]
structure M2 (X:Cx) (o:Expr) (m:Str) (apos:Pos) (e f:Expr) (cpos:Pos):Prop where
 base:attributeBase o m X.env (eval o X.env)=eval o X.env
 few:((backTo cpos (starEach [e,f] X.env)).all (fun x=>!x.1) && (backToKw cpos (keywordEach [] X.env)).all (fun x=>x.1.isSome)
  && decide (([e,f]:List Expr).length+([]:List Keyword).length+(if ([]:List Keyword).isEmpty then 0 else 1)<30))=true
 line:(apos.endLine == cpos.line)=true
 trees:backTo cpos (starEach [e,f] X.env)=[(false,eval e X.env),(false,eval f X.env)]
def IsD (H:Hp) (a:Addr):Prop:=(∃ kvs,Rd H a (.dK kvs))\/∃ kvs,Rd H a (.dT kvs)
theorem uW {X:Cx} {pins:List (Addr×Obj)} {σ:St} {H:Hp} {s:Shared} {a:Addr} (I:Inv X pins σ H s) (d:IsD H a) :
 s.TypeIs (.ref a) "dict"/\(∀ b,Value.ref a=.ref b->∃ ob,s.heap.get? b=some ob/\ob.dict=none)/\(a == sysModules)=false:=by
 rcases d with ⟨kvs,e⟩ | ⟨kvs,e⟩
 ·obtain⟨_,hd,vs,_,dd⟩:=tF I.hok e;refine⟨dd.typeIs,fun b q=>?_,hd⟩;cases q;obtain⟨ob,_,_,h1,h2,_⟩:=dd;exact⟨ob,h1,h2.2.1⟩
 ·obtain⟨_,hd,xs,_,dd⟩:=wU I.hok e;refine⟨dd.typeIs,fun b q=>?_,hd⟩;cases q;obtain⟨ob,_,_,h1,h2,_⟩:=dd;exact⟨ob,h1,h2.2.1⟩
section
variable {X:Cx} {pins:List (Addr×Obj)} {σ:St} {H:Hp} {s:Shared} {a:Addr} {y d:V} {u r:Value} {o:Option V} {A:Around} {E:Value->Shared->Prop}
theorem aAD {Q:Value->Shared->Prop} (hu:A.units+1<cLine) (I:Inv X pins σ H s) (g:DGet H a y o) (ry:RelV y u) (rd:RelV d r) (h:∀ w' s',Inv X pins σ H s'->RelV (o.getD d) w'->Q w' s') :
 wpAny (model X.prog X.w) A (call (.builtin "dict.get") [.ref a,u,r]) Q E s:=by
 rcases g with ⟨kvs,k,e,ey,l⟩ | ⟨kvs,k,b,e,ey,eb,l⟩
 ·subst ey;obtain⟨z,hd,vs,rel,dd⟩:=tF I.hok e;refine call_meetsIn PySem.F.slot_dict_get dd.typeIs PySem.F.entry_dict_get (PySem.F.args_dict_get_3 _ _ _) (meets_dict_get_default (bK X.prog X.w) a (tD ry) hd r) ⟨_,dd.mapOf,h _ _ (I.tok _) ?_⟩;rw[l];exact(rel.val k).getD rd
 ·subst ey;cases (show u=Value.ref b from ry);obtain⟨z,hd,xs,rel,dd⟩:=wU I.hok e;refine call_meetsIn PySem.F.slot_dict_get dd.typeIs PySem.F.entry_dict_get (PySem.F.args_dict_get_3 _ _ _) (meetsH_dict_get_default (tupleKind (bK X.prog X.w)) a b hd r) ⟨tupleKind_room_in1 hu,k,xs,uU I.hok eb,dd,h _ _ (I.tok _) ?_⟩;rw[l];exact(rel.val k).getD rd
end
def aAE (td ty tx:TE):TE:=fun σ H Q=>td σ H fun x H1=>∃ a,x=.ref a/\IsD H1 a/\ty σ H1 fun y H2=>tx σ H2 fun z H3=>∃ o,DGet H3 a y o/\Q (o.getD z) H3
section
variable {X:Cx} {o e f:Expr} {apos cpos:Pos} {td ty tx:TE}
theorem wW (hu:X.A.units+1<cLine) (ho:PE X o td) (he:PE X e ty) (hf:PE X f tx) (m:M2 X o "get" apos e f cpos):PE X (.Call (.Attribute o "get" apos) [e,f] [] cpos) (aAE td ty tx):=by
 intro pins s σ H Q I h;refine wpAny_Call_method m.base m.few m.line PySem.F.plainAttrs_dict PySem.F.slot_dict_get PySem.F.type_dict_get (thn (ho pins s σ H _ I h) fun u s1 ⟨x,H1,I1,rx,a,ex,d,q1⟩=>?_);subst ex;obtain rfl:u=Value.ref a:=rx;obtain⟨t1,t2,_⟩:=uW I1 d;refine⟨t1,t2,?_⟩;rw[m.trees];refine Calls.callWith_builtin rfl (Calls.evalArgs_plain (Calls.spliced_cons (thn (he pins s1 σ H1 _ I1 q1) fun iv s2 ⟨y,H2,I2,ry,q2⟩ =>
  Calls.spliced_cons (thn (hf pins s2 σ H2 _ I2 q2) fun fv s3 ⟨z,H3,I3,rz,ov,g,q3⟩=>Calls.spliced_nil ?_))))
 exact aAD hu I3 g ry rz fun w' s4 I4 rw'=>⟨_,H3,I4,rw',q3⟩
end
section
variable {X:Cx} {pins:List (Addr×Obj)} {σ:St} {H:Hp} {s:Shared} {a:Addr} {kvs:List (Key×V)} {A:Around} {E:Value->Shared->Prop}
end
section
variable {X:Cx} {pins:List (Addr×Obj)} {σ:St} {H:Hp} {s:Shared} {a:Addr} {y:V} {u:Value} {A:Around} {E:Value->Shared->Prop}
end
section
variable {X:Cx} {pins:List (Addr×Obj)} {σ:St} {H:Hp} {s:Shared} {d:Addr} {kvs:List (Key×V)}
theorem Inv.freezeD (I:Inv X pins σ H s) (e:H d=some (.dK kvs)):∃ od,s.heap.get? d=some od/\Inv X pins σ (upd H d (.frz od (.dK kvs))) s:=by
 obtain⟨z,hd,vs,rel,dd⟩:=qQ I.hok e;obtain⟨ep,hat⟩:=dd.dictAt;obtain⟨od,es,ho,_⟩:=id hat;refine⟨od,ho,?_⟩;have ne:∀ b u,H b=some u->(∀ ks,u≠.dK ks)->b≠d:=fun b u q n z=>by rw[z,e]at q;cases q;exact n _ rfl
 have nb:∀ b,H b=none->b≠d:=fun b q z=>by rw[z,e]at q;cases q
 have up:∀ b u,H b=some u->(∀ ks,u≠.dK ks)->upd H d (.frz od (.dK kvs)) b=some u:=fun b u q n=>by rw[aG (ne b u q n)];exact q
 have un:Un X.fs [] H (upd H d (.frz od (.dK kvs))) s.heap s.heap:=⟨fun _ _ q _ _ _=>q,fun _ o q _ _ _=>⟨o.slots,q⟩,fun b _ _ n _=>by rw[aG (nb b n)];exact n,fun _ o q _=>⟨o,q⟩,
  fun b xs q=>up b _ q (fun _ z=>by cases z),fun b o u q=>up b _ q (fun _ z=>by cases z),fun b ps q=>⟨#[],by rw[up b _ q (fun _ z=>by cases z)];simp⟩⟩
 exact I.un (t':=s.toks) un fun b u q=>by
  by_cases hb:b=d
  ·subst hb;rw[aB]at q;cases q;exact⟨ho,z,hd,vs,rel,dd⟩
  ·rw[aG hb]at q;exact(I.hok b u q).stay (fun _ _ _ z=>z) (fun c z=>up c _ z fun _ z=>by cases z) fun c xs z=>up c _ z fun _ z=>by cases z
end
def Itd (d:Addr) (od:Obj) (kvs:List (Key×V)):It :=
 ⟨fun i H=>H d=some (.frz od (.dK kvs))/\i<kvs.length,fun i H v H'=>∃ t k x,v=.ref t/\H t=none/\kvs[i]?=some (k,x)/\H'=upd H t (.tup [kV k,x]),fun i H=>H d=some (.frz od (.dK kvs))/\kvs.length<=i⟩
theorem R7 {kvs:List (Key×V)} {vs:List (Key×Value)} (r:KV kvs vs) {i:Nat} {k:Key} {x:V} (e:kvs[i]?=some (k,x)):∃ u,vs[i]?=some (k,u)/\RelV x u:=by
 induction r generalizing i with
 | nil=>simp at e
 | cons h _ ih =>
  cases i with
  | zero =>
   rename_i p q _ _ _
   obtain⟨p1,p2⟩:=p;obtain⟨q1,q2⟩:=q;simp only[List.getElem?_cons_zero,Option.some.injEq,Prod.mk.injEq]at e;obtain⟨rfl,rfl⟩:=e;obtain⟨h1,h2⟩:=h;simp only at h1 h2;subst h1;exact⟨_,rfl,h2⟩
  | succ i=>exact ih e
theorem aAF {P:Program} {w:World} {k:Key} {u:Value} (h:(bK P w).is k u=true):RelV (kV k) u:=by
 rw[pX]at h;rcases bZ h with ⟨i,t,rfl,rfl⟩ | ⟨x,t,rfl,rfl⟩
 ·exact⟨_,rfl⟩
 ·exact⟨_,rfl⟩
theorem yR {P:Program} {w:World} {K:PySem.W.Frag} {elts:List Expr} {x1} {pos:Pos} (d it:Addr) (od:Obj) (kvs:List (Key×V)) (vs:List (Key×Value)) (ep:Nat) (rel:KV kvs vs) (hat:∀ h:Heap,h.get? d=some od->h.DictAt (bK P w) d vs ep) (hne:d≠it) :
 pB P w K (.Tuple elts x1 pos) (Itd d od kvs) [it] it (fun i h=>∃ ok ov,IsItemIter h it d i vs.length ep ok ov) where
 mem:=by simp
 obj:=fun i h st b hb=>by
  obtain⟨ok,ov,he⟩:=st;have z:b=it:=by simpa using hb
  subst z;exact⟨_,he,fun v z=>by have z':Data.fields _=Data.cell v:=z;cases z'⟩
 keep:=fun i h h' st k=>let ⟨ok,ov,he⟩:=st;⟨ok,ov,k it (by simp) _ he⟩
 item:=by
  intro X hP hw hK hc i pins s σ H E I hf st hg;subst hP hw hK;obtain⟨hd,hi⟩:=hg;obtain⟨⟨k,x⟩,hx⟩:∃ p,kvs[i]?=some p:=⟨kvs[i],by simp[hi]⟩;obtain⟨u,hu,ru⟩:=R7 rel hx;obtain⟨ok,ov,he⟩:=st;have hod:s.heap.get? d=some od:=(I.hok d _ hd).1;have li:it<s.heap.objs.size:=aBa he;refine wpAny_pyNext_items_item he (hat _ hod) hu fun key h' hkey ho hT hsz kp=>?_;refine⟨_,rfl,?_⟩;have hn:H s.heap.objs.size=none:=I.hok.fresh (Nat.le_refl _);have tupOk:∀ h2:Heap,h2.get? s.heap.objs.size=some { cls:=.type "tuple",data:=.seq #[key,u] }->ObjOk X.prog X.w (upd H s.heap.objs.size (.tup [kV k,x])) h2 s.heap.objs.size (.tup [kV k,x]):=fun h2 q =>
   ⟨by show 2<=sizeLine;decide,[key,u],.cons (aAF hkey) (.cons ru .nil),_,q,rfl,_,rfl⟩
  refine wpAny_letOwnedTupleGo_items ho fun h2 f1 sb=>?_;have k2:∀ b o,b∉[it]->s.heap.get? b=some o->h2.get? b=some o:=fun b o hb q=>sb.extBut b o (fun z=>hb (by simp[z])) (kp b o (fun z=>hb (by simp[z])) q);have n1:s.heap.objs.size≠it:=aBu li;refine⟨.ref s.heap.objs.size,_,I.turnLaid (t':=s.toks) (h':=h2) (o:=.tup [kV k,x]) k2 hf (Nat.le_refl _) (tupOk _ (sb.extBut _ _ n1 hT)),rfl,⟨_,k,x,rfl,hn,hx,rfl⟩,⟨_,_,f1⟩,fun b hb=>?_⟩;have hb':b≠s.heap.objs.size:=by
   have z:b=it:=by simpa using hb
   subst z;exact aBr li
  rw[aG hb'];exact(hf b hb).1
 done:=by
  intro X hP hw hK hc i pins s σ H E I hf st hg;subst hP hw hK;obtain⟨hd,hi⟩:=hg;obtain⟨ok,ov,he⟩:=st;have hod:s.heap.get? d=some od:=(I.hok d _ hd).1;have hl:=rel.length;exact wpAny_pyNext_items_end (I.ok.hd hc) he (hat _ hod) (by simp;omega) fun h' eb=>⟨rfl,I.turnedF (fp:=[it]) (t':=s.toks) (fun b o hb e=>eb b o (fun z=>hb (by simp[z])) e) hf⟩
 self:=fun _ _ _ _ _ st h=>let ⟨_,_,he⟩:=st;PySem.W.kcp_self he h
def aAG (td:TE):TI:=fun σ H R=>td σ H fun x H1=>∃ d kvs,x=.ref d/\H1 d=some (.dK kvs)/\∀ od,R (Itd d od kvs) (upd H1 d (.frz od (.dK kvs)))
theorem nF {X:Cx} {elts:List Expr} {x1} {tpos:Pos} {o:Expr} {td:TE} {apos pos:Pos} (ho:PE X o td) (hbase:attributeBase o "items" X.env (eval o X.env)=eval o X.env:=by rfl) (hline:(apos.endLine == pos.line)=true:=by rfl) :
 PI X (.Tuple elts x1 tpos) (.Call (.Attribute o "items" apos) [] [] pos) (aAG td):=by
 intro pins s σ H R I h;refine wpAny_Call_method0_late hbase hline (thn (ho pins s σ H _ I h) fun u s1 ⟨x,H1,I1,rx,d,kvs,ex,hd,q⟩=>?_);subst ex;obtain rfl:u=Value.ref d:=rx;obtain⟨z,hsys,vs,rel,dd⟩:=qQ I1.hok hd;obtain⟨ep,hat⟩:=id dd.dictAt;obtain⟨od,hod,I2⟩:=I1.freezeD hd;obtain⟨t1,t2,_⟩:=uW I1 (.inl ⟨kvs,.inl hd⟩);refine⟨"dict","dict.items",PySem.F.plainAttrs_dict,PySem.F.slot_dict_items,PySem.F.type_dict_items,t1,t2,Calls.callWith_builtin rfl (PySem.evalArgs_none ?_)⟩;refine call_meetsIn PySem.F.slot_dict_items dd.typeIs PySem.F.entry_dict_items (PySem.F.args_dict_items_1 _) (meets_dict_items (bK X.prog X.w) d hsys) ⟨⟨vs,dd⟩,?_⟩;have hv:(s1.heap.push { cls:=.type "dict_items",data:=.fields #[.ref d] }).IsItemsView s1.heap.objs.size d:=⟨_,aBb _ rfl,rfl,rfl⟩;have h1:(s1.heap.push { cls:=.type "dict_items",data:=.fields #[.ref d] }).get? d=some od:=aB5 _ hod;have hat':∀ h:Heap,h.get? d=some od->h.DictAt (bK X.prog X.w) d vs ep:=fun h e=>hat.at fun o q=>by rw[hod]at q;cases q;exact e
 refine wpAny_pyIter_items hv (hat' _ h1) ?_;generalize hob:({ cls:=.type "dict_itemiterator",data:=.fields #[.none,.bool false,.ref d,.int 0 0,.int vs.length 0,.int ep 0,.none,.none] }:Obj)=ob;have kp:∀ b o,s1.heap.get? b=some o->((s1.heap.push { cls:=.type "dict_items",data:=.fields #[.ref d] }).push ob).get? b=some o:=fun b o e=>aB5 _ (aB5 _ e);have hsz:(s1.heap.push { cls:=.type "dict_items",data:=.fields #[.ref d] }).objs.size=s1.heap.objs.size+1:=Heap.size_push ..;have I3:=I2.kept (t':=s1.toks) kp;have hge:s1.heap.objs.size<=(s1.heap.push { cls:=.type "dict_items",data:=.fields #[.ref d] }).objs.size:=by rw[hsz];exact Nat.le_succ _
 have hne:d≠(s1.heap.push { cls:=.type "dict_items",data:=.fields #[.ref d] }).objs.size:=fun z=>by
  have:=aBa hod;rw[z]at this;exact absurd this (Nat.not_lt.mpr hge)
 refine⟨_,[_],_,_,_,rfl,I3,yR d _ od kvs vs ep rel hat' hne,⟨.none,.none,?_⟩,fun b hb=>?_,q od⟩
 ·rw[<- hob];exact aBb _ rfl
 ·have z:b=(s1.heap.push { cls:=.type "dict_items",data:=.fields #[.ref d] }).objs.size:=by simpa using hb
  rw[z];exact I2.fpOk hge (I2.hok.fresh hge)
theorem jX {d:Addr} {od:Obj} {kvs:List (Key×V)} {σ0:St} {g:TG} {tt:TT} {te:TE} {H:Hp} {Q:VK} (Pv:Nat->List V->Hp->Prop) (h0:Pv 0 [] H) (hl:∀ i ys H,i<=kvs.length->Pv i ys H->H d=some (.frz od (.dK kvs))/\ys.length<sizeLine)
 (hs:∀ i k x ys H t,kvs[i]?=some (k,x)->Pv i ys H->H t=none->g (.ref t) σ0 (upd H t (.tup [kV k,x])) fun σ2 H2=>tt σ2 H2 fun b H3=>if b=true then te σ2 H3 fun y H4=>Pv (i+1) (ys++[y]) H4 else Pv (i+1) ys H3) (hd:∀ ys H,Pv kvs.length ys H->∀ D,H D=none->Q (.ref D) (upd H D (.lst ys))) :
 oN (Itd d od kvs) σ0 g tt te Q H:=by
 refine⟨fun i m ys H=>m=kvs.length - i/\i<=kvs.length/\Pv i ys H,⟨kvs.length,by simp,Nat.zero_le _,h0⟩,?_⟩;rintro i m ys H ⟨rfl,hi,p⟩;obtain⟨q,hz⟩:=hl i ys H hi p;refine⟨hz,?_⟩
 by_cases hlt:i<kvs.length
 ·refine .inr ⟨⟨q,hlt⟩,Pv (i+1),fun ys' H' p'=>⟨kvs.length - (i+1),by omega,rfl,hlt,p'⟩,fun x H' y=>?_⟩;obtain⟨t,k,v,rfl,hn,hx,rfl⟩:=y;exact hs i k v ys _ t hx p hn
 ·have e:i=kvs.length:=by omega
  subst e;exact .inl ⟨⟨q,Nat.le_refl _⟩,hd ys H p⟩
def aAr (td ty tx:TE):TE:=fun σ H Q=>td σ H fun x H1=>∃ a,x=.ref a/\IsD H1 a/\ty σ H1 fun y H2=>tx σ H2 fun z H3=>∃ kvs k,H3 a=some (.dK kvs)/\y=kV k/\kvs.length<sizeLine /\
 (∀ v,cU kvs k=some v->Q v H3)/\(cU kvs k=none->Q z (upd H3 a (.dK (gR kvs k z))))
section
variable {X:Cx} {o e f:Expr} {apos cpos:Pos} {td ty tx:TE}
theorem A6 (ho:PE X o td) (he:PE X e ty) (hf:PE X f tx) (m:M2 X o "setdefault" apos e f cpos):PE X (.Call (.Attribute o "setdefault" apos) [e,f] [] cpos) (aAr td ty tx):=by
 intro pins s σ H Q I h;refine wpAny_Call_method m.base m.few m.line PySem.F.plainAttrs_dict PySem.F.slot_dict_setdefault PySem.F.type_dict_setdefault (thn (ho pins s σ H _ I h) fun u s1 ⟨x,H1,I1,rx,a,ex,d,q1⟩=>?_);subst ex;obtain rfl:u=Value.ref a:=rx;obtain⟨t1,t2,_⟩:=uW I1 d;refine⟨t1,t2,?_⟩;rw[m.trees];refine Calls.callWith_builtin rfl (Calls.evalArgs_plain (Calls.spliced_cons (thn (he pins s1 σ H1 _ I1 q1) fun iv s2 ⟨y,H2,I2,ry,q2⟩ =>
  Calls.spliced_cons (thn (hf pins s2 σ H2 _ I2 q2) fun fv s3 ⟨z,H3,I3,rz,kvs,k,ea,ey,hl,q3,q4⟩=>Calls.spliced_nil ?_))))
 subst ey;obtain⟨hz,hsys,vs,rel,dd⟩:=qQ I3.hok ea;refine call_meetsIn PySem.F.slot_dict_setdefault dd.typeIs PySem.F.entry_dict_setdefault (PySem.F.args_dict_setdefault_3 _ _ _) (kt_meets_setdefault (bK X.prog X.w) a (tD ry) hsys fv) ⟨vs,dd,by rw[<- rel.length];exact hz,fun v hv=>?_,fun hn h' hd' hs=>?_⟩
 ·have r:=rel.val k;rw[hv]at r;cases hq:cU kvs k with
  | none=>rw[hq]at r;exact r.elim
  | some v'=>rw[hq]at r;exact⟨v',H3,I3.tok _,r,q3 v' hq⟩
 ·have r:=rel.val k;rw[hn]at r;have hq:cU kvs k=none:=by
   cases hq:cU kvs k with
   | none=>rfl
   | some v'=>rw[hq]at r;exact r.elim
  refine⟨z,_,pQ (t':=_) I3 (by rw[ea];exact True.intro) hs ?_ (yQ ?_ hsys (rel.put k rz) hd'),rz,q4 hq⟩
  ·obtain⟨_,hat⟩:=hd'.dictAt;obtain⟨o,es,ho,_⟩:=id hat;exact⟨o,ho⟩
  ·have:=gC kvs k z;omega
end
end L2
namespace CW
open PySem L2
theorem cG {α β:Type} {f:α->β}:∀ {l:List α},(l.map f).Nodup->∀ {x y:α},x∈l->y∈l->f x=f y->x=y
 | [],_,_,_,hx,_,_=>by cases hx
 | z :: r,h,x,y,hx,hy,e=>by
  rw[aBt,List.nodup_cons]at h;rcases aCG.mp hx with ex | hx'
  ·rcases aCG.mp hy with ey | hy'
   ·rw[ex,ey]
   ·exact absurd (aCI.mpr ⟨y,hy',by rw[<- e,ex]⟩) h.1
  ·rcases aCG.mp hy with ey | hy'
   ·exact absurd (aCI.mpr ⟨x,hx',by rw[e,ey]⟩) h.1
   ·exact cG h.2 hx' hy' e
abbrev Grp:=Int×Addr×List Int
def kvG (gs:List Grp):List (Key×V):=gs.map fun g=>((Sum.inl g.1:Key),V.ref g.2.1)
structure DG (H:Hp) (d:Addr) (gs:List Grp):Prop where
 at_:H d=some (.dK (kvG gs))
 lst:∀ g∈gs,H g.2.1=some (.lst (g.2.2.map V.int))
 adr:(gs.map (·.2.1)).Nodup
 key:(gs.map (·.1)).Nodup
def SameD (d:Addr) (H H':Hp):Prop:=∀ b o,b≠d->H b=some o->H' b=some o
theorem SameD.trans {d:Addr} {H H1 H2:Hp} (a:SameD d H H1) (b:SameD d H1 H2):SameD d H H2:=fun c o n h=>b c o n (a c o n h)
def wgt (f:Int->Int) (gs:List Grp):Int:=(gs.map fun g=>f g.1 * (g.2.2.length:Int)).sum
def tot (f:Int->Int) (ps:List (Int×Int)):Int:=(ps.map fun p=>f p.1).sum
theorem fF (k:Int):∀ gs:List Grp,cU (kvG gs) (Sum.inl k:Key)=(gs.find? fun g=>decide (g.1=k)).map fun g=>V.ref g.2.1
 | []=>rfl
 | g :: r=>by
  by_cases h:g.1=k
  ·have:cU (kvG (g :: r)) (Sum.inl k:Key)=some (V.ref g.2.1):=cV (p:=((Sum.inl g.1:Key),V.ref g.2.1)) (by rw[h]);rw[this,List.find?_cons,aBq h];rfl
  ·have:cU (kvG (g :: r)) (Sum.inl k:Key)=cU (kvG r) (Sum.inl k:Key):=cW (p:=((Sum.inl g.1:Key),V.ref g.2.1)) (fun z=>h (Sum.inl.inj z));rw[this,List.find?_cons,aBp h];exact fF k r
def eY (k o:Int) (gs:List Grp):List Grp:=gs.map fun g=>if g.1=k then (g.1,g.2.1,g.2.2++[o])else g
theorem wX (k o:Int) (gs:List Grp):kvG (eY k o gs)=kvG gs:=by
 unfold kvG eY;rw[aBy];refine List.map_congr_left fun g _=>?_;simp only[Function.comp];split <;> rfl
theorem wY (k o:Int) (gs:List Grp):(eY k o gs).map (·.2.1)=gs.map (·.2.1):=by
 unfold eY;rw[aBy];refine List.map_congr_left fun g _=>?_;simp only[Function.comp];split <;> rfl
theorem wZ (k o:Int) (gs:List Grp):(eY k o gs).map (·.1)=gs.map (·.1):=by
 unfold eY;rw[aBy];refine List.map_congr_left fun g _=>?_;simp only[Function.comp];split <;> rfl
theorem R8 (k o:Int) (gs:List Grp):(eY k o gs).length=gs.length:=by simp[eY]
theorem oE {k o:Int}:∀ {gs:List Grp},(∀ g∈gs,g.1≠k)->eY k o gs=gs
 | [],_=>rfl
 | g :: r,h=>by
  have h1:=h g aB6;unfold eY;rw[aBt,if_neg h1]
  congr 1
  exact oE fun x hx=>h x (aB7 _ hx)
theorem xB (f:Int->Int) {k o:Int}:∀ {gs:List Grp},(gs.map (·.1)).Nodup->(∃ g∈gs,g.1=k)->wgt f (eY k o gs)=wgt f gs+f k
 | [],_,⟨g,h,_⟩=>by cases h
 | g :: r,hn,hex=>by
  have hn':=List.nodup_cons.mp hn
  by_cases h:g.1=k
  ·have hr:eY k o r=r:=oE fun x hx e=>hn'.1 (aCI.mpr ⟨x,hx,e.trans h.symm⟩);have:eY k o (g :: r)=(g.1,g.2.1,g.2.2++[o]) :: r:=by
    show (if g.1=k then (g.1,g.2.1,g.2.2++[o])else g) :: eY k o r=_;rw[if_pos h,hr]
   rw[this];simp only[wgt,aBt,aBw,aBd,List.length_singleton];rw[<- h];have:f g.1 * ((g.2.2.length+1:Nat):Int)=f g.1 * (g.2.2.length:Int)+f g.1:=by
    rw[show ((g.2.2.length+1:Nat):Int)=(g.2.2.length:Int)+1 by omega,Int.mul_add,Int.mul_one]
   rw[this];omega
  ·have hex':∃ g∈r,g.1=k:=by
    obtain⟨x,hx,e⟩:=hex;rcases aCG.mp hx with rfl | hx
    ·exact absurd e h
    ·exact⟨x,hx,e⟩
   have ih:=xB f (o:=o) hn'.2 hex';have:eY k o (g :: r)=g :: eY k o r:=by
    show (if g.1=k then (g.1,g.2.1,g.2.2++[o])else g) :: eY k o r=_;rw[if_neg h]
   rw[this];simp only[wgt,aBt,aBw]at ih ⊢;omega
def gS (j k:Int):Int:=if k<j then k else j
section
variable {P:Program} {w:World} {K:PySem.W.Frag} {mg:Str->Option Value} {base:Heap}
end
end CW
namespace L2
open PySem PySem.Spec PyProof.Rows
theorem Inv.thaw {X:Cx} {pins:List (Addr×Obj)} {σ:St} {H:Hp} {s:Shared} {d:Addr} {od:Obj} {kvs:List (Key×V)} (I:Inv X pins σ H s) (e:H d=some (.frz od (.dK kvs))) (h0:∀ o u,X.H₀ d≠some (.frz o u)):Inv X pins σ (upd H d (.dK kvs)) s:=by
 obtain⟨ho,hok⟩:=I.hok d _ e;have ne:∀ b u,H b=some u->(∀ o v,u≠.frz o v)->b≠d:=fun b u q n z=>by rw[z,e]at q;cases q;exact n _ _ rfl
 have nb:∀ b,H b=none->b≠d:=fun b q z=>by rw[z,e]at q;cases q
 have up:∀ b u,H b=some u->(∀ o v,u≠.frz o v)->upd H d (.dK kvs) b=some u:=fun b u q n=>by rw[aG (ne b u q n)];exact q
 refine⟨I.ok,I.os,I.bare,⟨I.base.keep,I.base.slot,fun b o q n x=>?_,I.base.there,fun b xs q=>up b _ (I.base.tups b xs q) (fun _ _ z=>by cases z),fun b o u q=>?_,fun b ps q=>?_⟩,I.loc,I.cell,?_,fun x c q=>?_,fun p q=>?_,fun b u q=>?_,I.len⟩
 ·rw[aG (nb b (I.base.free b o q n x))];exact I.base.free b o q n x
 ·have hb:b≠d:=fun z=>by rw[z]at q;exact h0 _ _ q
  rw[aG hb];exact I.base.frzs b o u q
 ·obtain⟨more,e'⟩:=I.base.tbls b ps q;exact⟨more,up b _ e' (fun _ _ z=>by cases z)⟩
 ·rw[aG (nb _ I.free)];exact I.free
 ·rw[aG (nb _ (I.freeC x c q))];exact I.freeC x c q
 ·obtain⟨e',n,ne',nf,dd⟩:=I.pin p q;exact⟨e',by rw[aG (nb _ n)];exact n,ne',nf,dd⟩
 ·by_cases hb:b=d
  ·subst hb;rw[aB]at q;cases q;exact hok
  ·rw[aG hb]at q;exact(I.hok b u q).stay (fun _ _ _ z=>z) (fun c z=>up c _ z fun _ _ z=>by cases z) fun c xs z=>up c _ z fun _ _ z=>by cases z
def aAs (t:TE):TE:=fun σ H Q=>∃ d kvs,H d=some (.dK kvs)/\t σ H fun v H'=>∃ od,H' d=some (.frz od (.dK kvs))/\Q v (upd H' d (.dK kvs))
theorem uX {X:Cx} {e:Expr} {t:TE} (h:PE X e t):PE X e (aAs t):=by
 intro pins s σ H Q I q;obtain⟨d,kvs,hd,q⟩:=q;have h0:∀ o u,X.H₀ d≠some (.frz o u):=fun o u z=>by
  have:=I.base.frzs d o u z;rw[hd]at this;cases this
 exact thn (h pins s σ H _ I q) fun u s1 ⟨v,H1,I1,rv,od,hf,q1⟩=>⟨v,_,I1.thaw hf h0,rv,q1⟩
open PySem.W
theorem uY {P:Program} {w:World} {ks:List Int} {vs:List Value} (hl:vs.length=ks.length) (h:∀ (j:Nat) (v:Value),vs[j]?=some v->∃ k,ks[j]?=some k/\(bK P w).is (Sum.inl k) v=true):IntsAre vs ks:=by
 induction vs generalizing ks with
 | nil=>cases ks with
  | nil=>exact .nil
  | cons _ _=>cases hl
 | cons v r ih=>cases ks with
  | nil=>cases hl
  | cons k ks =>
   obtain⟨k',h1,h2⟩:=h 0 v rfl;cases h1;rw[pX]at h2;rcases bZ h2 with ⟨i,t,e1,e2⟩ | ⟨x,t,e1,e2⟩
   ·cases e1;subst e2;exact .cons _ _ (ih (by simpa using hl) fun j v e=>h (j+1) v e)
   ·cases e1
def xC (kvs:List (Key×V)) (ks:List Int):Prop:=kvs.map Prod.fst=ks.map Sum.inl
section
variable {X:Cx}
theorem nG (hc:X.calm=true):fW X (.builtin "sorted") (fun xs H Q=>∃ (a:Addr) (kvs:List (Key×V)) (ks:List Int),xs=[.ref a]/\H a=some (.dK kvs)/\xC kvs ks/\ks.length<64 /\
 ∀ (l:Addr) (ms:List Int),H l=none->ms.Perm ks->ms.Pairwise (·<=·)->Q (.ref l) (upd H l (.lst (ms.map V.int)))):=by
 intro pins s σ H xs us Q I r h;obtain⟨a,kvs,ks,rfl,ha,hk,h64,q⟩:=h;obtain⟨u,rfl,rx⟩:=iU r;cases rx;obtain⟨z,hsys,vs,rel,dd⟩:=qQ I.hok ha;obtain⟨ep,hat⟩:=id dd.dictAt;have hlen:vs.length=ks.length:=by
  have e1:=rel.length;have e2:=congrArg List.length hk;simp at e2;omega
 have hbig:vs.length<=sizeLine:=Nat.le_trans (show vs.length<=64 by omega) (by decide);refine Calls.call_function_entry kind_sorted plain_sorted entry_sorted (args_sorted1 _) ?_;unfold Builtin.«sorted»;refine aB2 (m:=checkCount "sorted" 1 1 _) (aB3 ?_);refine aB2 (kdu_collect (A:=X.A.in1) (kdl_dict (knd:=bK X.prog X.w) (kvs:=vs) (ep:=ep) hsys) (I.ok.hd hc) hat hbig fun h' tk acc hk' hacc=>?_);have hl:acc.toList.length=vs.length:=by rw[Array.length_toList];exact hacc.1
 have hI:IntsAre acc.toList ks:=uY (P:=X.prog) (w:=X.w) (by omega) fun j v e=>by
  obtain⟨k,x,h1,h2⟩:=hacc.2 j v (by rw[<- Array.getElem?_toList];exact e);have hj:j<vs.length:=(aCF.mp h1).1;have h3:(kvs.map Prod.fst)[j]?=some k:=by
   have hj':j<kvs.length:=by rw[rel.length];exact hj
   obtain⟨u,e1,e2⟩:=R7 rel (i:=j) (k:=(kvs[j]).1) (x:=(kvs[j]).2) (aBe hj');rw[h1]at e1;cases e1;simp[hj']
  rw[hk,aBs]at h3;obtain⟨n,h4,h5⟩:=aCE.mp h3;subst h5;exact⟨n,h4,h2⟩
 refine aB2 (wpAny_newList ?_ (by omega));have e0:(h'.push (seqObj "list" acc.toList.toArray 0)).get? h'.objs.size=some (seqObj "list" acc.toList.toArray 0):=aBb _ rfl;have kp:∀ b o,h'.get? b=some o->(h'.push (seqObj "list" acc.toList.toArray 0)).get? b=some o:=fun b o e=>aB5 _ e;have I':=I.kept (t':=tk) hk';have hlt2:h'.objs.size<(h'.push (seqObj "list" acc.toList.toArray 0)).objs.size:=by rw[size_push'];exact Nat.lt_succ_self _
 have hsz2:(h'.push (seqObj "list" acc.toList.toArray 0)).objs.size=h'.objs.size+1:=size_push' ..;show wpAny _ _ _ _ _ { s with heap:=h'.push (seqObj "list" acc.toList.toArray 0),toks:=tk };generalize h'.push (seqObj "list" acc.toList.toArray 0)=h2 at e0 kp hlt2 hsz2;refine aB2 (wpAny_holding (wpAny_call_entry slot_list_sort ⟨_,e0,rfl⟩ entry_list_sort (list_sort_tree (s:={ s with heap:=h2,toks:=tk }) e0 hI (by omega) fun out ns' hI' hp hs=>⟨_,rfl,?_⟩) (args_list_sort _)));obtain⟨n0,at0⟩:=sortedHeap_at (out:=out) e0;have hn:H h'.objs.size=none:=I'.hok.fresh (Nat.le_refl _);refine aB3 ⟨_,rfl,.ref h'.objs.size,_,I'.laid (t':=tk) (o:=.lst (ns'.map V.int)) (fun b o e=>?_) (Nat.le_refl _) ⟨?_,out.toList,n0,lO hI',at0⟩,rfl,q _ ns' hn hp hs⟩
 ·have hb:=aBa e;have hb':b<h'.objs.size:=hb;exact(sortedHeap_old (aBr hb') (by show b<h2.objs.size;rw[hsz2];exact Nat.lt_succ_of_lt hb')).trans (kp b o e)
 ·rw[aB4,hp.length_eq];exact Nat.le_trans (show ks.length<=64 by omega) (by decide)
end
end L2
namespace L2
open PySem PySem.Spec PyProof.Rows
def Itw (d:Addr) (od:Obj) (kvs:List (Key×V)):It :=
 ⟨fun i H=>H d=some (.frz od (.dK kvs))/\i<kvs.length,fun i H v H'=>H'=H/\∃ k,kvs[i]?=some (k,v),fun i H=>H d=some (.frz od (.dK kvs))/\kvs.length<=i⟩
theorem xD {P:Program} {w:World} {K:PySem.W.Frag} {tg:Expr} (d it:Addr) (od:Obj) (kvs:List (Key×V)) (vs:List (Key×Value)) (ep:Nat) (rel:KV kvs vs) (hat:∀ h:Heap,h.get? d=some od->h.DictAt (bK P w) d vs ep) (hne:d≠it) :
 pB P w K tg (Itw d od kvs) [it] it (fun i h=>h.IsValIter it d i vs.length ep) where
 mem:=by simp
 obj:=fun i h st b hb=>by
  obtain⟨o,he,hc,hd⟩:=st;have z:b=it:=by simpa using hb
  subst z;exact⟨o,he,fun v z=>by rw[hd]at z;cases z⟩
 keep:=fun i h h' st k=>let ⟨o,he,r⟩:=st;⟨o,k it (by simp) _ he,r⟩
 item:=by
  intro X hP hw hK hc i pins s σ H E I hf st hg;subst hP hw hK;obtain⟨hd,hi⟩:=hg;obtain⟨⟨k,x⟩,hx⟩:∃ p,kvs[i]?=some p:=⟨kvs[i],by simp[hi]⟩;obtain⟨u,hu,ru⟩:=R7 rel hx;have hod:s.heap.get? d=some od:=(I.hok d _ hd).1;refine wpAny_pyNext_values_item st (hat _ hod) hu fun h' st' sb=>?_;obtain⟨o,e,c,dd⟩:=id st';exact⟨u,rfl,zS (s:={ s with heap:=h' }) e c dd (by decide) ⟨x,H,I.turnedF (fp:=[it]) (t':=s.toks) (fun b o hb e=>sb.extBut b o (fun z=>hb (by simp[z])) e) hf,ru,⟨rfl,k,hx⟩,st',fun b hb=>(hf b hb).1⟩⟩
 done:=by
  intro X hP hw hK hc i pins s σ H E I hf st hg;subst hP hw hK;obtain⟨hd,hi⟩:=hg;have hod:s.heap.get? d=some od:=(I.hok d _ hd).1;have hl:=rel.length;exact wpAny_pyNext_values_end (I.ok.hd hc) st (hat _ hod) (by simp;omega) fun h' eb=>⟨rfl,I.turnedF (fp:=[it]) (t':=s.toks) (fun b o hb e=>eb b o (fun z=>hb (by simp[z])) e) hf⟩
 self:=fun _ _ _ _ _ st h=>wpAny_pyIter_valiter st h
def Z9 (td:TE):TI:=fun σ H R=>td σ H fun x H1=>∃ d kvs,x=.ref d/\H1 d=some (.dK kvs)/\∀ od,R (Itw d od kvs) (upd H1 d (.frz od (.dK kvs)))
theorem I0 {X:Cx} {tg:Expr} {o:Expr} {td:TE} {apos pos:Pos} (ho:PE X o td) (hbase:attributeBase o "values" X.env (eval o X.env)=eval o X.env:=by rfl) (hline:(apos.endLine == pos.line)=true:=by rfl) :
 PI X tg (.Call (.Attribute o "values" apos) [] [] pos) (Z9 td):=by
 intro pins s σ H R I h;refine wpAny_Call_method0_late hbase hline (thn (ho pins s σ H _ I h) fun u s1 ⟨x,H1,I1,rx,d,kvs,ex,hd,q⟩=>?_);subst ex;obtain rfl:u=Value.ref d:=rx;obtain⟨z,hsys,vs,rel,dd⟩:=qQ I1.hok hd;obtain⟨ep,hat⟩:=id dd.dictAt;obtain⟨od,hod,I2⟩:=I1.freezeD hd;obtain⟨t1,t2,_⟩:=uW I1 (.inl ⟨kvs,.inl hd⟩);refine⟨"dict","dict.values",PySem.F.plainAttrs_dict,PySem.F.slot_dict_values,PySem.F.type_dict_values,t1,t2,Calls.callWith_builtin rfl (PySem.evalArgs_none ?_)⟩;refine call_meetsIn PySem.F.slot_dict_values dd.typeIs PySem.F.entry_dict_values (PySem.F.args_dict_values_1 _) (meets_dict_values (bK X.prog X.w) d hsys) ⟨⟨vs,dd⟩,?_⟩;have hv:(s1.heap.push { cls:=.type "dict_values",data:=.fields #[.ref d] }).IsValuesView s1.heap.objs.size d:=⟨_,aBb _ rfl,rfl,rfl⟩;have h1:(s1.heap.push { cls:=.type "dict_values",data:=.fields #[.ref d] }).get? d=some od:=aB5 _ hod;have hat':∀ h:Heap,h.get? d=some od->h.DictAt (bK X.prog X.w) d vs ep:=fun h e=>hat.at fun o q=>by rw[hod]at q;cases q;exact e
 refine wpAny_pyIter_values hv (hat' _ h1) ?_;generalize hob:({ cls:=.type "dict_valueiterator",data:=.fields #[.ref d,.int 0 0,.int vs.length 0,.int ep 0] }:Obj)=ob;have kp:∀ b o,s1.heap.get? b=some o->((s1.heap.push { cls:=.type "dict_values",data:=.fields #[.ref d] }).push ob).get? b=some o:=fun b o e=>aB5 _ (aB5 _ e);have hsz:(s1.heap.push { cls:=.type "dict_values",data:=.fields #[.ref d] }).objs.size=s1.heap.objs.size+1:=Heap.size_push ..;have I3:=I2.kept (t':=s1.toks) kp;have hge:s1.heap.objs.size<=(s1.heap.push { cls:=.type "dict_values",data:=.fields #[.ref d] }).objs.size:=by rw[hsz];exact Nat.le_succ _
 have hne:d≠(s1.heap.push { cls:=.type "dict_values",data:=.fields #[.ref d] }).objs.size:=fun z=>by
  have:=aBa hod;rw[z]at this;exact absurd this (Nat.not_lt.mpr hge)
 refine⟨_,[_],_,_,_,rfl,I3,xD d _ od kvs vs ep rel hat' hne,?_,fun b hb=>?_,q od⟩
 ·rw[<- hob];exact⟨_,aBb _ rfl,rfl,rfl⟩
 ·have z:b=(s1.heap.push { cls:=.type "dict_values",data:=.fields #[.ref d] }).objs.size:=by simpa using hb
  rw[z];exact I2.fpOk hge (I2.hok.fresh hge)
theorem xE {d:Addr} {od:Obj} {kvs:List (Key×V)} {σ0:St} {g:TG} {tt:TT} {te:TE} {H:Hp} {Q:VK} (Pv:Nat->List V->Hp->Prop) (h0:Pv 0 [] H) (hl:∀ i ys H,i<=kvs.length->Pv i ys H->H d=some (.frz od (.dK kvs))/\ys.length<sizeLine)
 (hs:∀ i k x ys H,kvs[i]?=some (k,x)->Pv i ys H->g x σ0 H fun σ2 H2=>tt σ2 H2 fun b H3=>if b=true then te σ2 H3 fun y H4=>Pv (i+1) (ys++[y]) H4 else Pv (i+1) ys H3) (hd:∀ ys H,Pv kvs.length ys H->∀ D,H D=none->Q (.ref D) (upd H D (.lst ys))) :
 oN (Itw d od kvs) σ0 g tt te Q H:=by
 refine⟨fun i m ys H=>m=kvs.length - i/\i<=kvs.length/\Pv i ys H,⟨kvs.length,by simp,Nat.zero_le _,h0⟩,?_⟩;rintro i m ys H ⟨rfl,hi,p⟩;obtain⟨q,hz⟩:=hl i ys H hi p;refine⟨hz,?_⟩
 by_cases hlt:i<kvs.length
 ·refine .inr ⟨⟨q,hlt⟩,Pv (i+1),fun ys' H' p'=>⟨kvs.length - (i+1),by omega,rfl,hlt,p'⟩,fun x H' y=>?_⟩;obtain⟨rfl,k,hx⟩:=y;exact hs i k x ys _ hx p
 ·have e:i=kvs.length:=by omega
  subst e;exact .inl ⟨⟨q,Nat.le_refl _⟩,hd ys H p⟩
theorem xF (A:Around) (s:Shared) (a:Int) (t:Tok) (c:Int) (u:Tok) (prog:Program) (w:World) (E:Value->Shared->Prop) (Q:Value->Shared->Prop) (h:Q (.bool (decide (c<a))) s) :
 wpAny (model prog w) A (richCompare .Gt (.int a t) (.int c u)) Q E s :=
 (PyProof.Rows.gt_int h:wpAny (model prog w) A (compareOp .Gt (.int a t) (.int c u)) Q E s)
section
open PySem.SeqAt
open PySem.AutoSeq1 (wpAny_loadPart')
open PySem.MeetsSeq PySem.MeetsSeq2 PySem.MeetsSeq3
theorem d3 (l b:Addr) (p q:Int×Int) (k1 k2 m1 m2:Tok) (n n2:Nat) (dd dd2:Option Addr) (sl sl2:Array (Option Value)) :
 Meets (Builtin.«tuple.__gt__» ⟨[.ref l,.ref b],[]⟩)
  (fun _ R s=>s.heap.get? l=some { cls:=.type "tuple",dict:=dd,data:=.seq #[.int p.1 k1,.int p.2 k2] n,slots:=sl }/\s.heap.get? b=some { cls:=.type "tuple",dict:=dd2,data:=.seq #[.int q.1 m1,.int q.2 m2] n2,slots:=sl2 } /\
   R (.ok (.ret (.bool (plt q p)))) s) :=
 .of_wp fun prog w A R s h=>by
  obtain⟨hp,g,d,tk,os⟩:=s;obtain⟨hl,hb,h⟩:=h;have f2:=AutoSeq1.sub_tuple_tuple
  wp_walk using wpAny_loadPart' hl,wpAny_loadPart' hb,wpAny_forIn_list _ (fun rest b s'=>b.1=none/\s'=⟨hp,g,d,tk,os⟩/\(rest=[(Value.int p.1 k1,Value.int q.1 m1),(Value.int p.2 k2,Value.int q.2 m2)] \/
   (p.1=q.1/\rest=[(Value.int p.2 k2,Value.int q.2 m2)])\/(p.1=q.1/\p.2=q.2/\rest=[]))) _
  case turn =>
   rintro ⟨y,x⟩ rest b s' ⟨hb',rfl,hc⟩;rcases hc with hz | ⟨e1,hz⟩ | ⟨_,_,hz⟩
   ·injection hz with hyx hrest
    injection hyx with hy hx
    subst hy hx;obtain⟨e,he,hiff⟩:=HT.eqAt_int A.in1 ⟨hp,g,d,tk,os⟩ p.1 k1 q.1 m1;refine aB2 (he prog w _ _ ?_);cases e with
    | true =>
     wp_walk
     exact⟨rfl,rfl,.inr (.inl ⟨hiff.mp rfl,hrest⟩)⟩
    | false =>
     have hne:p.1≠q.1:=fun z=>absurd (hiff.mpr z) aBh;have hri:=xF A.in1 ⟨hp,g,d,tk,os⟩ p.1 k1 q.1 m1 prog w;have ev:plt q p=decide (q.1<p.1):=by rw[Bool.eq_iff_iff,gP];simp;omega
     rw[ev]at h
     wp_walk using hri
     exact⟨_,rfl,by simpa using h⟩
   ·injection hz with hyx hrest
    injection hyx with hy hx
    subst hy hx;obtain⟨e,he,hiff⟩:=HT.eqAt_int A.in1 ⟨hp,g,d,tk,os⟩ p.2 k2 q.2 m2;refine aB2 (he prog w _ _ ?_);cases e with
    | true =>
     wp_walk
     exact⟨rfl,rfl,.inr (.inr ⟨e1,hiff.mp rfl,hrest⟩)⟩
    | false =>
     have hne:p.2≠q.2:=fun z=>absurd (hiff.mpr z) aBh;have hri:=xF A.in1 ⟨hp,g,d,tk,os⟩ p.2 k2 q.2 m2 prog w;have ev:plt q p=decide (q.2<p.2):=by rw[Bool.eq_iff_iff,gP];simp;omega
     rw[ev]at h
     wp_walk using hri
     exact⟨_,rfl,by simpa using h⟩
   ·cases hz
  case fin =>
   rintro ⟨b1,b2⟩ s' ⟨hb',rfl,hc⟩;simp only at hb';subst hb';rcases hc with hz | ⟨_,hz⟩ | ⟨e1,e2,_⟩
   ·cases hz
   ·cases hz
   have ev:plt q p=false:=by rw[gQ];omega
   rw[ev]at h
   wp_walk
   exact⟨_,rfl,by simpa[Builtin.Tuple.tupleCompareSizes]using h⟩
  case h=>exact⟨rfl,rfl,.inl rfl⟩
end
section
variable {prog:Program} {w:World} {A:Around} {E:Value->Shared->Prop} {s:Shared}
theorem R9 {x y:Value} {p q:Int×Int} {Q:Value->Shared->Prop} (hx:PairV s.heap x p) (hy:PairV s.heap y q) (hu:A.units<cLine) (h:Q (.bool (plt q p)) s):wpAny (model prog w) A (richCompare .Gt x y) Q E s:=by
 obtain⟨t,⟨cls,dd,data,sl⟩,n,k1,k2,rfl,ho,hc,hd⟩:=hx;obtain⟨t',⟨cls2,dd2,data2,sl2⟩,n2,m1,m2,rfl,ho2,hc2,hd2⟩:=hy;simp only at hc hd hc2 hd2;subst hc hd hc2 hd2;exact richCompare_meets_room (op:=.Gt) ⟨_,ho,rfl⟩ ⟨_,ho2,rfl⟩ PySem.F.slot_tuple_gt PySem.F.entry_tuple_gt (PySem.F.args_tuple_gt_2 _ _) (d3 t t' p q k1 k2 m1 m2 n n2 dd dd2 sl sl2)
  ⟨ho,ho2,show Value.bool (plt q p)≠Value.notImplemented/\Q (.bool (plt q p)) s from ⟨(fun x=>nomatch x),h⟩⟩ hu
end
def Top (ps:List (Int×Int)) (i:Nat) (j:Nat):Prop:=j<i/\∀ k,k<i->plt (ps.getD j (0,0)) (ps.getD k (0,0))=false
theorem Top.keep {ps:List (Int×Int)} {i j:Nat} (h:Top ps i j) (g:plt (ps.getD j (0,0)) (ps.getD i (0,0))=false):Top ps (i+1) j:=⟨Nat.lt_succ_of_lt h.1,fun k hk=>by
 by_cases e:k=i
 ·rw[e];exact g
 ·exact h.2 k (by omega)⟩
theorem Top.take {ps:List (Int×Int)} {i j:Nat} (h:Top ps i j) (g:plt (ps.getD j (0,0)) (ps.getD i (0,0))=true):Top ps (i+1) i:=⟨Nat.lt_succ_self i,fun k hk=>by
 by_cases e:k=i
 ·rw[e,gQ];omega
 ·have h1:=h.2 k (by omega);rw[gQ]at h1 ⊢;rw[gP]at g;omega⟩
abbrev aAH (v:Value) (c:Nat):Obj:={ cls:=.type "list",dict:=none,data:=.seq #[v,v] c,slots:=#[] }
section
variable {prog:Program} {w:World} {A:Around} {R:Result->Shared->Prop} {l it S:Addr} {its:List Value} {ps:List (Int×Int)}
theorem PairV.at {h h':Heap} {v:Value} {p:Int×Int} (x:PairV h v p) (k:∀ t o,v=.ref t->h.get? t=some o->o.cls=.type "tuple"->h'.get? t=some o):PairV h' v p:=by
 obtain⟨t,o,n,k1,k2,e,ho,hc,hd⟩:=x;exact⟨t,o,n,k1,k2,e,k t o e ho hc,hc,hd⟩
theorem d4 (hh:A.handled=none) (hu:A.in1.units<cLine) (hlt:l≠it) (hiS:it≠S) (hlS:l≠S) :
 ∀ (k i:Nat) (s:Shared) (j:Nat) (c:Nat),its.length - i=k->i<=its.length->Top ps i j->s.heap.IsListIter it l i->s.heap.IsList l its.toArray->s.heap.get? S=some (aAH (its.getD j .none) c)->Paired (PairV s.heap) its ps ->
  (∀ h' tk j',(∀ x o,x≠it->x≠S->s.heap.get? x=some o->h'.get? x=some o)->Top ps its.length j'->R (.ok (.ret (its.getD j' .none))) { s with heap:=h',toks:=tk }) ->
  codeAny (model prog w) A (.builtin "max.loop" ⟨[.ref it,.none,.ref S],[]⟩) R s:=by
 have nm:(toString "max"++toString ".loop":String)="max.loop":=by decide
 intro k
 induction k with
 | zero =>
  intro i s j c hk hi ht st hl hS hP hR;have e:i=its.length:=by omega
  refine codeAny_builtin PySem.F.entry_max_loop (by
   rw[aBg PySem.F.plain_max_loop _];show wpAny _ A.in1 (seqItems? (Value.ref S) >>= _) _ _ s;refine aB2 (wpAny_seqItems hS rfl ?_);show wpAny _ A.in1 (tryCatch (pyNext (Value.ref it)) _ >>= _) _ _ s;refine aB2 (wpAny_tryCatch (wpAny_pyNext_list_end hh st hl (by simp;omega) fun h' eb=>?_));have hS':=eb S _ (Ne.symm hiS) hS;show wpAny _ A.in1 (updateSeq S (fun _=>#[]) >>= _) _ _ { s with heap:=h' };refine aB2 (wpAny_updateSeq hS' rfl (aB2 (wpAny_letGo (aB3 ?_))));exact hR (h'.update S (Obj.mapSeq fun _=>#[])) s.toks j (fun x o h1 h2 e=>(aB9 _ _ (Ne.symm h2)).trans (eb x o h1 e)) (e ▸ ht))
 | succ k ih =>
  intro i s j c hk hi ht st hl hS hP hR;have hi':i<its.length:=by omega
  have hj':j<its.length:=Nat.lt_trans ht.1 hi';have hx:its[i]?=some (its.getD i .none):=by simp[List.getD_eq_getElem?_getD,hi']
  refine codeAny_builtin PySem.F.entry_max_loop (by
   rw[aBg PySem.F.plain_max_loop _];show wpAny _ A.in1 (seqItems? (Value.ref S) >>= _) _ _ s;refine aB2 (wpAny_seqItems hS rfl ?_);show wpAny _ A.in1 (tryCatch (pyNext (Value.ref it)) _ >>= _) _ _ s;refine aB2 (wpAny_tryCatch (wpAny_pyNext_list_item st hl (x:=its.getD i .none) (by simpa using hx) fun h' st' sb=>?_));have hS':=sb.extBut S _ (Ne.symm hiS) hS;have hl':=hl.extBut sb.extBut hlt;have hit:∀ t o,s.heap.get? t=some o->o.cls=.type "tuple"->t≠it:=fun t o e c z=>by
    obtain⟨o',e',c',_⟩:=st;rw[z,e']at e;cases e;rw[c']at c;exact absurd c (by simp)
   have hnS:∀ t o,s.heap.get? t=some o->o.cls=.type "tuple"->t≠S:=fun t o e c z=>by
    rw[z,hS]at e;cases e;exact absurd c (by simp)
   have hP':Paired (PairV h') its ps:=Paired.mapP hP fun v p x=>x.at fun t o _ e c=>sb.extBut t o (hit t o e c) e;have pi:PairV h' (its.getD i .none) (ps.getD i (0,0)):=dN hP' hi';have pj:PairV h' (its.getD j .none) (ps.getD j (0,0)):=dN hP' hj';show wpAny _ A.in1 (tryCatch (holding [its.getD i .none,its.getD i .none] (richCompare .Gt (its.getD i .none) (its.getD j .none) >>= _)) _ >>= _) _ _ { s with heap:=h' };refine aB2 (wpAny_tryCatch (wpAny_holding (aB2 (R9 (s:={ s with heap:=h' }) pi pj hu ?_))));refine aB2 (wpAny_holding (wpAny_truthy_bool (aB2 (wpAny_letGo (aB3 ?_)))));cases hb:plt (ps.getD j (0,0)) (ps.getD i (0,0))with
   | true =>
    simp only[if_true];refine aB2 (wpAny_updateSeq hS' rfl (aB2 (wpAny_letGo ?_)));rw[nm];obtain⟨c',e1⟩:∃ c',(h'.update S (Obj.mapSeq fun _=>#[its.getD i .none,its.getD i .none])).get? S=some (aAH (its.getD i .none) c'):=⟨_,aBm _ hS' rfl⟩;refine aB3 ⟨plainId_quiet PySem.F.plain_max_loop _,ih (i+1) { s with heap:=h'.update S (Obj.mapSeq fun _=>#[its.getD i .none,its.getD i .none]) } i _ (by omega) hi' (ht.take hb) (st'.at fun o e=>(aB9 _ _ (Ne.symm hiS)).trans e) (hl'.at fun o e=>(aB9 _ _ (Ne.symm hlS)).trans e) e1 (Paired.mapP hP fun v p x=>x.at fun t o _ e c=>(aB9 _ _ (Ne.symm (hnS t o e c))).trans (sb.extBut t o (hit t o e c) e)) fun h'' tk t' kp=>?_⟩;exact hR h'' tk t' (fun x o h1 h2 e=>kp x o h1 h2 ((aB9 _ _ (Ne.symm h2)).trans (sb.extBut x o h1 e)))
   | false =>
    simp only[Bool.false_eq_true,if_false];refine aB2 (wpAny_letGo ?_);rw[nm];refine aB3 ⟨plainId_quiet PySem.F.plain_max_loop _,ih (i+1) { s with heap:=h' } j c (by omega) hi' (ht.keep hb) st' hl' hS' hP' fun h'' tk t' kp=>?_⟩;exact hR h'' tk t' (fun x o h1 h2 e=>kp x o h1 h2 (sb.extBut x o h1 e)))
theorem S0 (hh:A.handled=none) (hu:A.in1.units<cLine) (hlt:l≠it) (hiS:it≠S) (hlS:l≠S) {s:Shared} {c:Nat} (h0:0<its.length) (st:s.heap.IsListIter it l 0) (hl:s.heap.IsList l its.toArray)
 (hS:s.heap.get? S=some { cls:=.type "list",dict:=none,data:=.seq #[] c,slots:=#[] }) (hP:Paired (PairV s.heap) its ps)
 (hR:∀ h' tk j',(∀ x o,x≠it->x≠S->s.heap.get? x=some o->h'.get? x=some o)->Top ps its.length j'->R (.ok (.ret (its.getD j' .none))) { s with heap:=h',toks:=tk }) :
 codeAny (model prog w) A (.builtin "max.loop" ⟨[.ref it,.none,.ref S],[]⟩) R s:=by
 have nm:(toString "max"++toString ".loop":String)="max.loop":=by decide
 have hx:its[0]?=some (its.getD 0 .none):=by simp[List.getD_eq_getElem?_getD,h0]
 refine codeAny_builtin PySem.F.entry_max_loop (by
  rw[aBg PySem.F.plain_max_loop _];show wpAny _ A.in1 (seqItems? (Value.ref S) >>= _) _ _ s;refine aB2 (wpAny_seqItems hS rfl ?_);show wpAny _ A.in1 (tryCatch (pyNext (Value.ref it)) _ >>= _) _ _ s;refine aB2 (wpAny_tryCatch (wpAny_pyNext_list_item st hl (x:=its.getD 0 .none) (by simpa using hx) fun h' st' sb=>?_));have hS':=sb.extBut S _ (Ne.symm hiS) hS;have hl':=hl.extBut sb.extBut hlt;have hit:∀ t o,s.heap.get? t=some o->o.cls=.type "tuple"->t≠it:=fun t o e c z=>by
   obtain⟨o',e',c',_⟩:=st;rw[z,e']at e;cases e;rw[c']at c;exact absurd c (by simp)
  have hnS:∀ t o,s.heap.get? t=some o->o.cls=.type "tuple"->t≠S:=fun t o e c z=>by
   rw[z,hS]at e;cases e;exact absurd c (by simp)
  show wpAny _ A.in1 (updateSeq S (fun _=>#[its.getD 0 .none,its.getD 0 .none]) >>= _) _ _ { s with heap:=h' };refine aB2 (wpAny_updateSeq hS' rfl ?_);rw[nm];obtain⟨c',e1⟩:∃ c',(h'.update S (Obj.mapSeq fun _=>#[its.getD 0 .none,its.getD 0 .none])).get? S=some (aAH (its.getD 0 .none) c'):=⟨_,aBm _ hS' rfl⟩;have t1:Top ps 1 0:=⟨by decide,fun k hk=>by
   have e:k=0:=by omega
   rw[e,gQ];omega⟩
  refine aB3 ⟨plainId_quiet PySem.F.plain_max_loop _,d4 (ps:=ps) (its:=its) hh hu hlt hiS hlS _ 1 { s with heap:=h'.update S (Obj.mapSeq fun _=>#[its.getD 0 .none,its.getD 0 .none]) } 0 _ rfl h0 t1 (st'.at fun o e=>(aB9 _ _ (Ne.symm hiS)).trans e) (hl'.at fun o e=>(aB9 _ _ (Ne.symm hlS)).trans e) e1 (Paired.mapP hP fun v p x=>x.at fun t o _ e c=>(aB9 _ _ (Ne.symm (hnS t o e c))).trans (sb.extBut t o (hit t o e c) e)) fun h'' tk t' kp=>?_⟩;exact hR h'' tk t' (fun x o h1 h2 e=>kp x o h1 h2 ((aB9 _ _ (Ne.symm h2)).trans (sb.extBut x o h1 e))))
theorem tG (a:Value):argsOk "max" ⟨[a],[]⟩:=by unfold argsOk;kernel_rfl
theorem yS {E:Value->Shared->Prop} {s:Shared} {Q:Value->Shared->Prop} (hh:A.handled=none) (hu:A.in1.in1.units<cLine) (hl:s.heap.IsList l its.toArray) (h0:0<its.length) (hP:Paired (PairV s.heap) its ps)
 (h:∀ h' tk j,(∀ x o,s.heap.get? x=some o->h'.get? x=some o)->Top ps its.length j->Q (its.getD j .none) { s with heap:=h',toks:=tk }):wpAny (model prog w) A (call (.builtin "max") [.ref l]) Q E s:=by
 have nm:(toString "max"++toString ".loop":String)="max.loop":=by decide
 refine kmk_tree PySem.F.kind_max PySem.F.plain_max PySem.F.entry_max (tG _) (by
  show wpAny _ A.in1 (Builtin.Builtins.bindParams "max" ["key","default"] 0 ⟨[],[]⟩ >>= _) _ _ s;refine aB2 (wpAny_of_eq (show Builtin.Builtins.bindParams "max" ["key","default"] 0 ⟨[],[]⟩=pure [none,none] from rfl) (aB2 (aB3 ?_)));refine aB2 (wpAny_pyIter_list hl ?_);refine aB2 (wpAny_newObj_type ?_);rw[nm];have hlt:l<s.heap.objs.size:=by obtain⟨_,e,_⟩:=hl;exact aBa e
  refine aB3 ⟨plainId_quiet PySem.F.plain_max_loop _,S0 (l:=l) (it:=s.heap.objs.size) (its:=its) (ps:=ps) hh (by first | exact hu | (simp at hu ⊢;omega)) (aBr hlt) (by rw[Heap.size_push];exact aBr (Nat.lt_succ_self _)) (by rw[Heap.size_push];exact aBr (Nat.lt_succ_of_lt hlt)) h0 ⟨_,aB5 _ (aBb _ rfl),rfl,rfl⟩ ((hl.push _).push _) (aBb _ rfl) (Paired.mapP hP fun v p x=>x.at fun t o _ e _=>aB5 _ (aB5 _ e)) fun h' tk j kp ht=>?_⟩;refine h h' tk j (fun x o e=>?_) ht;have hx:=aBa e;exact kp x o (aBr hx) (by rw[Heap.size_push];exact aBr (Nat.lt_succ_of_lt hx)) (aB5 _ (aB5 _ e)))
end
section
variable {X:Cx} {pins:List (Addr×Obj)} {σ:St} {H:Hp} {s:Shared}
theorem qR (I:Inv X pins σ H s):∀ {us0:List V} {its:List Value} {ps:List (Int×Int)},Vals us0 its->CW.Prs H us0 ps->Paired (PairV s.heap) its ps:=by
 intro us0
 induction us0 with
 | nil=>intro its ps r p;cases r;cases p;exact .nil
 | cons x xs ih =>
  intro its ps r p;cases r with
  | cons r1 r2 =>
   cases p with
   | cons p1 p2 =>
    refine .cons ?_ (ih r2 p2);obtain⟨t,e,et⟩:=p1;subst e;cases r1;obtain⟨_,its',rv',o,ho,hc,n,hd⟩:=(show ObjOk X.prog X.w H s.heap t (.tup [.int _,.int _]) from I.hok t _ et);obtain⟨u1,u2,rfl,⟨k1,rfl⟩,⟨k2,rfl⟩⟩:=rv'.two;exact⟨t,o,n,k1,k2,rfl,ho,hc,hd⟩
theorem J0 (hc:X.calm=true) (hu:X.A.units+64<cLine):fW X (.builtin "max") (fun xs H Q=>∃ (a:Addr) (us:List V) (ps:List (Int×Int)),xs=[.ref a]/\H a=some (.lst us)/\CW.Prs H us ps/\us≠[] /\
 ∀ j x,Top ps ps.length j->us[j]?=some x->Q x H):=by
 intro pins s σ H xs us Q I r h;obtain⟨a,us0,ps,rfl,ha,pr,hne,q⟩:=h;obtain⟨u,rfl,rx⟩:=iU r;cases rx;obtain⟨its,rv,pl,hz⟩:=I.list (SqL.of ha);have l1:us0.length=ps.length:=Paired.length pr;have l2:us0.length=its.length:=rv.length;have h0:0<its.length:=by rw[<- l2];exact List.length_pos_iff.mpr hne
 refine yS (I.ok.hd hc) (by simp only[Around.in1_units];omega) pl.isList h0 (qR I rv pr) fun h' tk j kp ht=>?_;have hj:j<us0.length:=by rw[l2];exact ht.1
 have hx:us0[j]?=some us0[j]:=aBe hj;obtain⟨v,hv,rv'⟩:=rv.get hx;refine⟨us0[j],H,I.kept kp,?_,q j us0[j] (by rw[<- l1,l2];exact ht) hx⟩;rw[List.getD_eq_getElem?_getD,hv];exact rv'
end
theorem J1 {X:Cx} {a:Expr} {ta:TE} (ha:PE X a ta) (he:∀ whole,isTrue a X.env whole=(do let v <- whole;standAt a.pos;holding [v] (truthy v))) :
 PT X a (fun σ H Q=>ta σ H fun x H'=>∃ d kvs,x=.ref d/\H' d=some (.dK kvs)/\Q (!kvs.isEmpty) H'):=by
 intro pins s σ H Q I h;refine isTrue_plain (thn (ha pins s σ H _ I h) fun v s1 ⟨x,H1,I1,r1,d,kvs,ex,hd,q1⟩=>?_) (he _);subst ex;obtain rfl:v=Value.ref d:=r1;exact Z6 I1 (.inl hd) fun s' I'=>⟨H1,I',q1⟩
end L2
namespace CW
open PySem L2
def StayG (d:Addr) (gs:List Grp) (H H':Hp):Prop:=∀ b o,b≠d->(∀ g∈gs,b≠g.2.1)->H b=some o->H' b=some o
def pops (k:Int) (gs:List Grp):List Grp:=gs.map fun g=>if g.1=k then (g.1,g.2.1,g.2.2.dropLast)else g
def outs (k:Int) (gs:List Grp):List Grp:=gs.filter fun g=>decide (g.1≠k)
theorem S1 (k:Int) (gs:List Grp):kvG (pops k gs)=kvG gs:=by
 unfold kvG pops;rw[aBy];refine List.map_congr_left fun g _=>?_;simp only[Function.comp];split <;> rfl
theorem S2 (k:Int) (gs:List Grp):(pops k gs).map (·.2.1)=gs.map (·.2.1):=by
 unfold pops;rw[aBy];refine List.map_congr_left fun g _=>?_;simp only[Function.comp];split <;> rfl
theorem kY (k:Int) (gs:List Grp):(pops k gs).map (·.1)=gs.map (·.1):=by
 unfold pops;rw[aBy];refine List.map_congr_left fun g _=>?_;simp only[Function.comp];split <;> rfl
theorem nH {k:Int} {gs:List Grp} {g':Grp} (h:g'∈pops k gs):∃ g∈gs,g'.2.1=g.2.1/\g'.1=g.1/\g'.2.2=if g.1=k then g.2.2.dropLast else g.2.2:=by
 obtain⟨g,hg,rfl⟩:=aCI.mp h;refine⟨g,hg,?_⟩
 by_cases hk:g.1=k
 ·rw[if_pos hk,if_pos hk];exact⟨rfl,rfl,rfl⟩
 ·rw[if_neg hk,if_neg hk];exact⟨rfl,rfl,rfl⟩
theorem DG.pops {H:Hp} {d:Addr} {gs:List Grp} (dg:DG H d gs) {g:Grp} (hg:g∈gs):DG (upd H g.2.1 (.lst (g.2.2.dropLast.map V.int))) d (pops g.1 gs):=by
 have hnd:d≠g.2.1:=fV dg.at_ (dg.lst g hg) (by intro z;cases z);refine⟨by rw[S1,aG hnd];exact dg.at_,fun g' hg'=>?_,by rw[S2];exact dg.adr,by rw[kY];exact dg.key⟩;obtain⟨g0,h0,e1,e2,e3⟩:=nH hg';rw[e1,e3]
 by_cases ha:g0.2.1=g.2.1
 ·have:g0=g:=cG (f:=fun g:Grp=>g.2.1) dg.adr h0 hg ha;subst this;rw[aB,if_pos rfl]
 ·have hk:g0.1≠g.1:=fun e=>ha (by rw[cG (f:=fun g:Grp=>g.1) dg.key h0 hg e]);rw[aG ha,if_neg hk];exact dg.lst g0 h0
theorem S3 (k:Int):∀ gs:List Grp,oQ (kvG gs) (Sum.inl k:Key)=kvG (outs k gs):=by
 intro gs;unfold oQ kvG outs;rw[List.filter_map]
 congr 1
 refine List.filter_congr fun g _=>?_;simp only[Function.comp,ne_eq,Sum.inl.injEq]
theorem DG.outs {H:Hp} {d:Addr} {gs:List Grp} (dg:DG H d gs) (k:Int):DG (upd H d (.dK (oQ (kvG gs) (Sum.inl k:Key)))) d (outs k gs):=by
 refine⟨by rw[aB,S3],fun g hg=>?_,?_,?_⟩
 ·have hm:=(aCJ.mp hg).1;rw[aG (fV (dg.lst g hm) dg.at_ (by intro z;cases z))];exact dg.lst g hm
 ·exact dg.adr.sublist (List.filter_sublist.map _)
 ·exact dg.key.sublist (List.filter_sublist.map _)
theorem nI {gs:List Grp} {g:Grp} (hk:(gs.map (·.1)).Nodup) (hg:g∈gs):gs.find? (fun x=>decide (x.1=g.1))=some g:=by
 cases h:gs.find? (fun x=>decide (x.1=g.1))with
 | none=>exact absurd (List.find?_eq_none.mp h g hg) (by simp)
 | some x =>
  have h1:=List.mem_of_find?_eq_some h;have h2:x.1=g.1:=by simpa using List.find?_some h
  rw[cG (f:=fun g:Grp=>g.1) hk h1 hg h2]
theorem DG.get {H:Hp} {d:Addr} {gs:List Grp} (dg:DG H d gs) {g:Grp} (hg:g∈gs):DGet H d (.int g.1) (some (.ref g.2.1)):=by
 have h:=DGet.k (k:=(Sum.inl g.1:Key)) dg.at_;rw[fF,nI dg.key hg]at h;exact h
def shr (k:Int) (gs:List Grp):List Grp:=if (pops k gs).any (fun g=>decide (g.1=k) && g.2.2.isEmpty)then outs k (pops k gs)else pops k gs
section
variable {P:Program} {w:World} {K:PySem.W.Frag} {mg:Str->Option Value} {base:Heap}
inductive nJ (vs:List V) (H:Hp) (Q:VK) (E_:XK):Prop
 | mk (d:Addr) (gs:List Grp) (j:Int) (h0_:vs=[.ref d,.int j]) (h1_:DG H d gs) (h2_:gs.length<=60) (h3_:(∀ g∈gs,g.2.2.length<=60)) (h4_:∀ H',Same H H'->Q (.int (2 * wgt (gS j) gs)) H'):nJ vs H Q E_
inductive iH (vs:List V) (H:Hp) (Q:VK) (E_:XK):Prop
 | mk (d:Addr) (gs:List Grp) (g:Grp) (h0_:vs=[.ref d,.int g.1]) (h1_:DG H d gs) (h2_:g∈gs) (h3_:g.2.2≠[]) (h4_:∀ H',StayG d gs H H'->DG H' d (shr g.1 gs)->Q .non H'):iH vs H Q E_
end
def GoodG (gs:List Grp):Prop:=∀ g∈gs,1<=g.1/\g.2.2≠[]
def sto (gs:List Grp):Int:=wgt (fun k=>k) gs
theorem cF (f:Int->Int) (g:Grp) (r:List Grp):wgt f (g :: r)=f g.1 * (g.2.2.length:Int)+wgt f r:=by simp[wgt]
theorem GoodG.tail {g:Grp} {r:List Grp} (h:GoodG (g :: r)):GoodG r:=fun x hx=>h x (aB7 _ hx)
theorem GoodG.one {g:Grp} {r:List Grp} (h:GoodG (g :: r)):(g.2.2.length:Int)<=g.1 * (g.2.2.length:Int)/\1<=(g.2.2.length:Int):=by
 obtain⟨h1,h2⟩:=h g aB6;have h3:0<g.2.2.length:=List.length_pos_iff.mpr h2;refine⟨?_,by omega⟩;have:=Int.mul_le_mul_of_nonneg_right h1 (show (0:Int)<=(g.2.2.length:Int)by omega);omega
theorem GoodG.bound:∀ {gs:List Grp},GoodG gs->(gs.length:Int)<=sto gs/\∀ g∈gs,(g.2.2.length:Int)<=sto gs
 | [],_=>⟨Int.le_refl _,fun g hg=>(nomatch hg)⟩
 | g :: r,h=>by
  obtain⟨a,b⟩:=GoodG.bound h.tail;obtain⟨c,d⟩:=h.one;unfold sto at a b ⊢;rw[cF];refine⟨by simp only[aBx];omega,fun x hx=>?_⟩;rcases aCG.mp hx with e | hx
  ·rw[e];omega
  ·have:=b x hx;omega
theorem oF {k:Int}:∀ {gs:List Grp},(∀ g∈gs,g.1≠k)->pops k gs=gs
 | [],_=>rfl
 | g :: r,h=>by
  have h1:=h g aB6;show (if g.1=k then (g.1,g.2.1,g.2.2.dropLast)else g) :: pops k r=g :: r;rw[if_neg h1,oF fun x hx=>h x (aB7 _ hx)]
theorem qS (f:Int->Int):∀ {gs:List Grp},(gs.map (·.1)).Nodup->∀ {g:Grp},g∈gs->g.2.2≠[]->wgt f (pops g.1 gs)=wgt f gs - f g.1
 | [],_,g,hg,_=>by cases hg
 | x :: r,hn,g,hg,hne=>by
  have hn':=List.nodup_cons.mp hn;have e0:pops g.1 (x :: r)=(if x.1=g.1 then (x.1,x.2.1,x.2.2.dropLast)else x) :: pops g.1 r:=rfl;rw[e0]
  by_cases h:x.1=g.1
  ·have hx:x=g:=cG (f:=fun g:Grp=>g.1) hn aB6 hg h;subst hx;rw[if_pos rfl,oF fun y hy e=>hn'.1 (aCI.mpr ⟨y,hy,e⟩),cF,cF];have h3:0<x.2.2.length:=List.length_pos_iff.mpr hne;have h4:((x.2.2.dropLast.length:Nat):Int)=(x.2.2.length:Int) - 1:=by rw[List.length_dropLast];omega
   simp only[h4,Int.mul_sub,Int.mul_one];omega
  ·have hg':g∈r:=by
    rcases aCG.mp hg with e | e
    ·exact absurd (by rw[e]) h
    ·exact e
   rw[if_neg h,cF,cF,qS f hn'.2 hg' hne];omega
theorem xG (f:Int->Int) {k:Int}:∀ {gs:List Grp},(∀ g∈gs,g.1=k->g.2.2=[])->wgt f (outs k gs)=wgt f gs
 | [],_=>rfl
 | g :: r,h=>by
  have ih:=xG f (k:=k) (gs:=r) fun x hx=>h x (aB7 _ hx);unfold outs at ih ⊢;rw[List.filter_cons,cF]
  by_cases e:g.1=k
  ·have:=h g aB6 e;rw[if_neg (by simp[e]),ih,this];simp
  ·rw[if_pos (by simp[e]),cF,ih]
theorem A7 (f:Int->Int) {gs:List Grp} (hn:(gs.map (·.1)).Nodup) {g:Grp} (hg:g∈gs) (hne:g.2.2≠[]):wgt f (shr g.1 gs)=wgt f gs - f g.1:=by
 unfold shr;split
 ·next h =>
  obtain⟨x,hx,hp⟩:=List.any_eq_true.mp h;simp only[Bool.and_eq_true,decide_eq_true_eq,List.isEmpty_iff]at hp;rw[xG f fun y hy e=>?_,qS f hn hg hne];have:y=x:=cG (f:=fun g:Grp=>g.1) (by rw[kY];exact hn) hy hx (e.trans hp.1.symm);rw[this];exact hp.2
 ·exact qS f hn hg hne
theorem GoodG.shr {gs:List Grp} (h:GoodG gs) (k:Int):GoodG (shr k gs):=by
 have hp:∀ x∈pops k gs,1<=x.1/\(x.1≠k->x.2.2≠[]):=fun x hx=>by
  obtain⟨g,hg,e1,e2,e3⟩:=nH hx;obtain⟨h1,h2⟩:=h g hg;refine⟨by rw[e2];exact h1,fun n=>?_⟩;rw[e3,if_neg (by rw[<- e2];exact n)];exact h2
 intro x hx;unfold CW.shr at hx;split at hx
 ·obtain⟨h1,h2⟩:=aCJ.mp hx;exact⟨(hp x h1).1,(hp x h1).2 (by simpa using h2)⟩
 ·next hn =>
  refine⟨(hp x hx).1,fun e=>?_⟩
  by_cases hk:x.1=k
  ·exact hn (List.any_eq_true.mpr ⟨x,hx,by simp[hk,e]⟩)
  ·exact(hp x hx).2 hk e
theorem A8 {gs:List Grp} {k:Int} {x:Grp} (hx:x∈shr k gs):∃ g∈gs,x.2.1=g.2.1:=by
 unfold shr at hx;have hp:x∈pops k gs:=by
  split at hx
  ·exact(aCJ.mp hx).1
  ·exact hx
 obtain⟨g,hg,e1,_⟩:=nH hp;exact⟨g,hg,e1⟩
def qT (H:Hp) (k o:Int) (gs gs':List Grp):Prop:=(∃ g∈gs,g.1=k)/\gs'=eY k o gs\/(∀ g∈gs,g.1≠k)/\∃ z,H z=none/\gs'=gs++[(k,z,[o])]
theorem S4 (f:Int->Int) {H:Hp} {k o:Int} {gs gs':List Grp} (hn:(gs.map (·.1)).Nodup) (h:qT H k o gs gs'):wgt f gs'=wgt f gs+f k:=by
 rcases h with ⟨hg,rfl⟩ | ⟨_,z,_,rfl⟩
 ·exact xB f hn hg
 ·simp[wgt]
theorem GoodG.puts {H:Hp} {k o:Int} {gs gs':List Grp} (g:GoodG gs) (hk:1<=k) (h:qT H k o gs gs'):GoodG gs':=by
 rcases h with ⟨hg,rfl⟩ | ⟨_,z,_,rfl⟩
 ·intro x hx;obtain⟨g0,h0,rfl⟩:=aCI.mp hx;obtain⟨h1,h2⟩:=g g0 h0
  by_cases e:g0.1=k
  ·rw[if_pos e];exact⟨h1,by simp⟩
  ·rw[if_neg e];exact⟨h1,h2⟩
 ·intro x hx;rcases aCH.mp hx with hx | hx
  ·exact g x hx
  ·rw[aCA.mp hx];exact⟨hk,by simp⟩
theorem xH {H:Hp} {k o:Int} {gs gs':List Grp} (h:qT H k o gs gs') {x:Grp} (hx:x∈gs'):(∃ g∈gs,x.2.1=g.2.1)\/H x.2.1=none:=by
 rcases h with ⟨hg,rfl⟩ | ⟨_,z,hz,rfl⟩
 ·obtain⟨g0,h0,rfl⟩:=aCI.mp hx;refine .inl ⟨g0,h0,?_⟩;split <;> rfl
 ·rcases aCH.mp hx with hx | hx
  ·exact .inl ⟨x,hx,rfl⟩
  ·rw[aCA.mp hx];exact .inr hz
section
variable {P:Program} {w:World} {K:PySem.W.Frag} {mg:Str->Option Value} {base:Heap}
end
theorem StayG.same {H H1 H2:Hp} {d r:Addr} {gs:List Grp} (st:StayG d gs H1 H2) (sm:Same H H1) (hd:H d=none) (hfr:∀ g∈gs,H g.2.1=none/\g.2.1≠r):Same H H2:=fun b o e =>
 st b o (fun z=>by rw[z,hd]at e;cases e) (fun g hg z=>by rw[z,(hfr g hg).1]at e;cases e) (sm b o e)
end CW
namespace CW
abbrev Trs:=List (Int×Int)
def les (ps:Trs) (j:Int):Int:=(ps.map fun q=>min j q.1).sum
theorem A9 (j:Int):les [] j=0:=rfl
theorem aZ (q:Int×Int) (ps:Trs) (j:Int):les (q :: ps) j=min j q.1+les ps j:=by simp[les]
theorem qU (ps qs:Trs) (j:Int):les (ps++qs) j=les ps j+les qs j:=by simp[les]
theorem aS {ps qs:Trs} (h:ps.Perm qs) (j:Int):les ps j=les qs j:=by
 unfold les
 induction h with
 | nil=>rfl
 | cons x _ ih=>simp only[aBt,aBw];omega
 | swap x y l=>simp only[aBt,aBw];omega
 | trans _ _ h1 h2=>exact h1.trans h2
def Bd (ps:Trs) (n:Int):Prop:=∀ q∈ps,1<=q.1/\q.2+2 * les ps q.1<=n
theorem Bd.perm {ps qs:Trs} {n:Int} (h:Bd ps n) (e:ps.Perm qs):Bd qs n:=fun q hq=>by
 have:=h q (e.mem_iff.mpr hq);rw[aS e]at this;exact this
theorem Bd.mono {ps:Trs} {n m:Int} (h:Bd ps n) (e:n<=m):Bd ps m:=fun q hq=>⟨(h q hq).1,Int.le_trans (h q hq).2 e⟩
def Add (ps:Trs) (p:Int) (qs:Trs):Prop:=∃ (s:Int) (rest:Trs),0<=s/\(s=0/\ps.Perm rest\/1<=s/\ps.Perm ((s,p - 1 - 2 * les ps s) :: rest))/\(∀ q∈ps,s<q.1->q.2+2 * les ps q.1≠p - 1)/\qs.Perm ((s+1,p - 2 * les rest (s+1) - 2 * (s+1)) :: rest)
theorem Add.perm {ps ps' qs qs':Trs} {p:Int} (h:Add ps p qs) (e:ps.Perm ps') (f:qs.Perm qs'):Add ps' p qs':=by
 obtain⟨s,rest,h0,h1,h2,h3⟩:=h;refine⟨s,rest,h0,?_,fun q hq hs=>?_,f.symm.trans h3⟩
 ·rcases h1 with ⟨a,b⟩ | ⟨a,b⟩
  ·exact .inl ⟨a,e.symm.trans b⟩
  ·refine .inr ⟨a,?_⟩;rw[<- aS e];exact e.symm.trans b
 ·rw[<- aS e];exact h2 q (e.mem_iff.mpr hq) hs
theorem Add.uniq {ps qs qs':Trs} {p:Int} (h:Add ps p qs) (h':Add ps p qs'):qs.Perm qs':=by
 obtain⟨s,rest,h0,h1,h2,h3⟩:=h;obtain⟨s',rest',h0',h1',h2',h3'⟩:=h';have hs:s=s':=by
  rcases h1 with ⟨a,b⟩ | ⟨a,b⟩ <;> rcases h1' with ⟨a',b'⟩ | ⟨a',b'⟩
  ·omega
  ·exact absurd (show (p - 1 - 2 * les ps s')+2 * les ps s'=p - 1 by omega) (h2 _ (b'.mem_iff.mpr aB6) (show s<s' by omega))
  ·exact absurd (show (p - 1 - 2 * les ps s)+2 * les ps s=p - 1 by omega) (h2' _ (b.mem_iff.mpr aB6) (show s'<s by omega))
  ·rcases Int.lt_trichotomy s s' with l | l | l
   ·exact absurd (show (p - 1 - 2 * les ps s')+2 * les ps s'=p - 1 by omega) (h2 _ (b'.mem_iff.mpr aB6) l)
   ·exact l
   ·exact absurd (show (p - 1 - 2 * les ps s)+2 * les ps s=p - 1 by omega) (h2' _ (b.mem_iff.mpr aB6) l)
 subst hs;have hr:rest.Perm rest':=by
  rcases h1 with ⟨a,b⟩ | ⟨a,b⟩ <;> rcases h1' with ⟨a',b'⟩ | ⟨a',b'⟩
  ·exact b.symm.trans b'
  ·omega
  ·omega
  ·exact List.Perm.cons_inv (b.symm.trans b')
 refine h3.trans (List.Perm.trans ?_ h3'.symm);rw[aS hr];exact hr.cons _
theorem Add.bd {ps qs:Trs} {p:Int} (h:Add ps p qs) (b:Bd ps (p - 1)):Bd qs p:=by
 obtain⟨s,rest,h0,h1,h2,h3⟩:=h;have hl:∀ j,1<=j->les qs j=les ps j+if s<j then 1 else 0:=fun j hj=>by
  rw[aS h3,aZ];rcases h1 with ⟨a,b⟩ | ⟨a,b⟩
  ·rw[aS b];simp only;split <;> omega
  ·rw[aS b,aZ];simp only;split <;> omega
 intro q hq;rcases aCG.mp (h3.mem_iff.mp hq)with rfl | hq
 ·refine⟨show 1<=s+1 by omega,?_⟩;have:les qs (s+1)=s+1+les rest (s+1):=by
   rw[aS h3,aZ];simp only;omega
  show (p - 2 * les rest (s+1) - 2 * (s+1))+2 * les qs (s+1)<=p;omega
 ·have hm:q∈ps:=by
   rcases h1 with ⟨_,e⟩ | ⟨_,e⟩
   ·exact e.mem_iff.mpr hq
   ·exact e.mem_iff.mpr (aB7 _ hq)
  obtain⟨b1,b2⟩:=b q hm;refine⟨b1,?_⟩;have:=h2 q hm;rw[hl q.1 b1];split <;> omega
def Tak (ps:Trs) (p:Int) (qs:Trs):Prop:=∃ (s:Int) (rest:Trs),1<=s/\ps.Perm ((s,p - 2 * les ps s) :: rest)/\(∀ q∈ps,q.2+2 * les ps q.1<=p)/\(∀ q∈ps,q.1<s->q.2+2 * les ps q.1<p) /\
 (s=1/\qs.Perm rest\/2<=s/\qs.Perm ((s - 1,p - 1 - 2 * les rest (s - 1) - 2 * (s - 1)) :: rest))
theorem Tak.add {ps qs:Trs} {p:Int} (h:Tak ps p qs) (hp:∀ q∈ps,1<=q.1):Bd qs (p - 1)/\Add qs p ps:=by
 obtain⟨s,rest,h0,h1,h2,h3,h4⟩:=h;have hl:∀ j,0<=j->les ps j=les qs j+if s<=j then 1 else 0:=fun j hj=>by
  rw[aS h1,aZ];rcases h4 with ⟨a,b⟩ | ⟨a,b⟩
  ·rw[aS b];simp only;split <;> omega
  ·rw[aS b,aZ];simp only;split <;> omega
 have hold:∀ q∈rest,1<=q.1/\q.2+2 * les qs q.1<=p - 1/\(s<=q.1->q.2+2 * les qs q.1<=p - 2):=fun q hq=>by
  have hm:q∈ps:=h1.mem_iff.mpr (aB7 _ hq);have a1:=hp q hm;have a2:=h2 q hm;have a3:=h3 q hm;have a4:=hl q.1 (by omega);refine⟨a1,?_,fun hs=>?_⟩
  ·by_cases hs:s<=q.1
   ·rw[if_pos hs]at a4;omega
   ·rw[if_neg hs]at a4;have:=a3 (by omega);omega
  ·rw[if_pos hs]at a4;omega
 have hnew:2<=s->les qs (s - 1)=(s - 1)+les rest (s - 1):=fun h=>by
  rcases h4 with ⟨a,b⟩ | ⟨a,b⟩
  ·omega
  ·rw[aS b,aZ];simp only;omega
 refine⟨fun q hq=>?_,s - 1,rest,by omega,?_,fun q hq hs=>?_,?_⟩
 ·rcases h4 with ⟨a,b⟩ | ⟨a,b⟩
  ·have:=hold q (b.mem_iff.mp hq);exact⟨this.1,this.2.1⟩
  ·rcases aCG.mp (b.mem_iff.mp hq)with rfl | hq
   ·refine⟨show 1<=s - 1 by omega,?_⟩;have:=hnew a;show (p - 1 - 2 * les rest (s - 1) - 2 * (s - 1))+2 * les qs (s - 1)<=p - 1;omega
   ·have:=hold q hq;exact⟨this.1,this.2.1⟩
 ·rcases h4 with ⟨a,b⟩ | ⟨a,b⟩
  ·exact .inl ⟨by omega,b⟩
  ·refine .inr ⟨by omega,?_⟩;have e:p - 1 - 2 * les qs (s - 1)=p - 1 - 2 * les rest (s - 1) - 2 * (s - 1):=by have:=hnew a;omega
   rw[e];exact b
 ·have hq':q∈rest:=by
   rcases h4 with ⟨a,b⟩ | ⟨a,b⟩
   ·exact b.mem_iff.mp hq
   ·rcases aCG.mp (b.mem_iff.mp hq)with rfl | hq
    ·exact absurd hs (by show ¬ (s - 1<s - 1);omega)
    ·exact hq
  have:=(hold q hq').2.2 (by omega);omega
 ·have e:s - 1+1=s:=by omega
  rw[e];have e2:p - 2 * les rest s - 2 * s=p - 2 * les ps s:=by rw[aS h1,aZ];simp only;omega
  rw[e2];exact h1
theorem Add.tak {ps qs:Trs} {p:Int} (h:Add ps p qs) (b:Bd ps (p - 1)):Tak qs p ps:=by
 have hb:=h.bd b;obtain⟨s,rest,h0,h1,h2,h3⟩:=h;have hl:∀ j,0<=j->les qs j=les ps j+if s<j then 1 else 0:=fun j hj=>by
  rw[aS h3,aZ];rcases h1 with ⟨a,b⟩ | ⟨a,b⟩
  ·rw[aS b];simp only;split <;> omega
  ·rw[aS b,aZ];simp only;split <;> omega
 have e2:p - 2 * les qs (s+1)=p - 2 * les rest (s+1) - 2 * (s+1):=by rw[aS h3,aZ];simp only;omega
 refine⟨s+1,rest,by omega,by rw[e2];exact h3,fun q hq=>(hb q hq).2,fun q hq hs=>?_,?_⟩
 ·rcases aCG.mp (h3.mem_iff.mp hq)with rfl | hq
  ·exact absurd hs (by show ¬ (s+1<s+1);omega)
  ·have hm:q∈ps:=by
    rcases h1 with ⟨_,e⟩ | ⟨_,e⟩
    ·exact e.mem_iff.mpr hq
    ·exact e.mem_iff.mpr (aB7 _ hq)
   obtain⟨b1,b2⟩:=b q hm;have:=hl q.1 (by omega);rw[if_neg (by omega)]at this;omega
 ·rcases h1 with ⟨a,e⟩ | ⟨a,e⟩
  ·exact .inl ⟨by omega,e⟩
  ·refine .inr ⟨by omega,?_⟩;have e3:s+1 - 1=s:=by omega
   rw[e3];have e4:p - 1 - 2 * les rest s - 2 * s=p - 1 - 2 * les ps s:=by rw[aS e,aZ];simp only;omega
   rw[e4];exact e
theorem Tak.uniq {ps ps' qs qs':Trs} {p p':Int} (h:Tak ps p qs) (h':Tak ps' p' qs') (e:ps.Perm ps'):p=p'/\qs.Perm qs':=by
 obtain⟨s,rest,h0,h1,h2,h3,h4⟩:=h;obtain⟨s',rest',h0',h1',h2',h3',h4'⟩:=h';have m1:(s,p - 2 * les ps s)∈ps:=h1.mem_iff.mpr aB6;have m2:(s',p' - 2 * les ps' s')∈ps':=h1'.mem_iff.mpr aB6;have a1:=h2' _ (e.mem_iff.mp m1);have a2:=h2 _ (e.mem_iff.mpr m2);have l1:=aS e s;have l2:=aS e s';simp only at a1 a2;have hp:p=p':=by omega
 subst hp;have b1:=h3' _ (e.mem_iff.mp m1);have b2:=h3 _ (e.mem_iff.mpr m2);simp only at b1 b2;have hs:s=s':=by
  rcases Int.lt_trichotomy s s' with l | l | l
  ·have:=b1 l;omega
  ·exact l
  ·have:=b2 l;omega
 subst hs;rw[<- l1]at h1';have hr:rest.Perm rest':=List.Perm.cons_inv ((h1.symm.trans e).trans h1');refine⟨rfl,?_⟩;rcases h4 with ⟨a,b⟩ | ⟨a,b⟩ <;> rcases h4' with ⟨a',b'⟩ | ⟨a',b'⟩
 ·exact b.trans (hr.trans b'.symm)
 ·omega
 ·omega
 ·refine b.trans (List.Perm.trans ?_ b'.symm);rw[aS hr];exact hr.cons _
inductive Lst:List Int->Trs->Prop
 | nil:Lst [] []
 | snoc {r:List Int} {ps:Trs} {p:Int} {qs:Trs}:Lst r ps->(∀ x∈r,x<p)->Add ps p qs->Lst (r++[p]) qs
theorem Add.ne {ps qs:Trs} {p:Int} (h:Add ps p qs):qs≠[]:=by
 obtain⟨s,rest,_,_,_,h3⟩:=h;intro e;rw[e]at h3;exact absurd h3.symm.eq_nil (by simp)
theorem Lst.perm {r:List Int} {ps qs:Trs} (h:Lst r ps) (e:ps.Perm qs):Lst r qs:=by
 cases h with
 | nil=>rw[e.symm.eq_nil];exact .nil
 | snoc a b c=>exact .snoc a b (c.perm (.refl _) e)
theorem Lst.inv {r:List Int} {p:Int} {qs:Trs} (h:Lst (r++[p]) qs):∃ ps,Lst r ps/\(∀ x∈r,x<p)/\Add ps p qs:=by
 generalize e:r++[p]=t at h;cases h with
 | nil=>simp at e
 | snoc a b c =>
  obtain⟨rfl,e2⟩:=List.append_inj' e rfl;obtain rfl:p=_:=by simpa using e2
  exact⟨_,a,b,c⟩
theorem Lst.nilr {qs:Trs} (h:Lst [] qs):qs=[]:=by
 generalize e:([]:List Int)=t at h;cases h with
 | nil=>rfl
 | snoc a b c=>simp at e
theorem Lst.bd {r:List Int} {ps:Trs} (h:Lst r ps) {n:Int}:(∀ x∈r,x<=n)->Bd ps n:=by
 induction h generalizing n with
 | nil=>intro _ q hq;cases hq
 | snoc a b c ih =>
  intro hn
  rename_i r ps p qs
  have hp:p<=n:=hn p (by simp);have:=ih (n:=p - 1) fun x hx=>by have:=b x hx;omega
  exact(c.bd this).mono hp
theorem Lst.uniq {r:List Int} {ps qs:Trs} (h:Lst r ps) (h':Lst r qs):ps.Perm qs:=by
 induction h generalizing qs with
 | nil=>rw[h'.nilr]
 | snoc a b c ih =>
  obtain⟨ps',a',b',c'⟩:=h'.inv;exact(c.perm (ih a') (.refl _)).uniq c'
theorem Lst.row {r:List Int} {ps:Trs} (h:Lst r ps) {r':List Int} {qs:Trs} (h':Lst r' qs) (e:ps.Perm qs):r=r':=by
 induction h generalizing r' qs with
 | nil =>
  cases h' with
  | nil=>rfl
  | snoc a b c=>exact absurd e.symm.eq_nil c.ne
 | snoc a b c ih =>
  cases h' with
  | nil=>exact absurd e.eq_nil c.ne
  | snoc a' b' c' =>
   rename_i r ps p qs r' ps' p'
   have bd:=a.bd (n:=p - 1) fun x hx=>by have:=b x hx;omega
   have bd':=a'.bd (n:=p' - 1) fun x hx=>by have:=b' x hx;omega
   obtain⟨rfl,e2⟩:=(c.tak bd).uniq (c'.tak bd') e;rw[ih a' e2]
def siz (ps:Trs):Int:=(ps.map (·.1)).sum
theorem kZ {ps qs:Trs} (h:ps.Perm qs):siz ps=siz qs:=by
 unfold siz
 induction h with
 | nil=>rfl
 | cons x _ ih=>simp only[aBt,aBw];omega
 | swap x y l=>simp only[aBt,aBw];omega
 | trans _ _ h1 h2=>exact h1.trans h2
theorem xI (q:Int×Int) (ps:Trs):siz (q :: ps)=q.1+siz ps:=by simp[siz]
theorem Add.sizx {ps qs:Trs} {p:Int} (h:Add ps p qs):siz qs=siz ps+1:=by
 obtain⟨s,rest,h0,h1,h2,h3⟩:=h;rw[kZ h3,xI];rcases h1 with ⟨a,b⟩ | ⟨a,b⟩
 ·rw[kZ b];simp only;omega
 ·rw[kZ b,xI];simp only;omega
theorem Lst.sizx {r:List Int} {ps:Trs} (h:Lst r ps):siz ps=(r.length:Int):=by
 induction h with
 | nil=>rfl
 | snoc a b c ih=>rw[c.sizx,ih];simp
theorem Lst.pos {r:List Int} {ps:Trs} (h:Lst r ps):∀ q∈ps,1<=q.1:=by
 obtain⟨n,hn⟩:∃ n:Int,∀ x∈r,x<=n:=by
  clear h
  induction r with
  | nil=>exact⟨0,fun x hx=>(nomatch hx)⟩
  | cons a r ih =>
   obtain⟨n,hn⟩:=ih;refine⟨max a n,fun x hx=>?_⟩;rcases aCG.mp hx with rfl | hx
   ·omega
   ·have:=hn x hx;omega
 exact fun q hq=>(h.bd hn q hq).1
end CW
namespace CW
open PySem L2
def bJ (gs:List Grp):Trs:=gs.flatMap fun g=>g.2.2.map fun o=>(g.1,o)
theorem cM (g:Grp) (r:List Grp):bJ (g :: r)=g.2.2.map (fun o=>(g.1,o))++bJ r:=rfl
theorem xJ (a b:List Grp):bJ (a++b)=bJ a++bJ b:=by simp[bJ]
theorem gE {gs:List Grp} {q:Int×Int}:q∈bJ gs↔∃ g∈gs,g.1=q.1/\q.2∈g.2.2:=by
 unfold bJ;rw[List.mem_flatMap]
 constructor
 ·rintro ⟨g,hg,h⟩;obtain⟨o,ho,rfl⟩:=aCI.mp h;exact⟨g,hg,rfl,ho⟩
 ·rintro ⟨g,hg,h1,h2⟩;exact⟨g,hg,aCI.mpr ⟨q.2,h2,by rw[h1]⟩⟩
theorem yT (f:Int->Int) (a b:Trs):tot f (a++b)=tot f a+tot f b:=by simp[tot]
theorem qV (f:Int->Int):∀ gs:List Grp,wgt f gs=tot f (bJ gs)
 | []=>rfl
 | g :: r=>by
  rw[cF,cM,yT,qV f r]
  congr 1
  generalize g.2.2=l
  induction l with
  | nil=>simp[tot]
  | cons x l ih =>
   have:tot f ((x :: l).map fun o=>(g.1,o))=f g.1+tot f (l.map fun o=>(g.1,o)):=by simp[tot]
   rw[this,<- ih,aBx,show ((l.length+1:Nat):Int)=(l.length:Int)+1 by omega,Int.mul_add,Int.mul_one];omega
theorem nK (j k:Int):gS j k=min j k:=by unfold gS;split <;> omega
theorem xL (ps:Trs) (j:Int):tot (gS j) ps=les ps j:=by
 unfold tot les
 congr 1
 exact List.map_congr_left fun q _=>nK j q.1
theorem iI (ps:Trs) (j:Int):wR ps j=les ps j:=xL ps j
theorem uZ (gs:List Grp) (j:Int):wgt (gS j) gs=les (bJ gs) j:=by rw[qV,xL]
theorem pR (gs:List Grp):sto gs=siz (bJ gs):=qV _ gs
theorem tH {k o:Int}:∀ {gs:List Grp},(gs.map (·.1)).Nodup->(∃ g∈gs,g.1=k)->(bJ (eY k o gs)).Perm ((k,o) :: bJ gs)
 | [],_,⟨g,h,_⟩=>by cases h
 | g :: r,hn,hex=>by
  have hn':=List.nodup_cons.mp hn
  by_cases h:g.1=k
  ·have hr:eY k o r=r:=oE fun x hx e=>hn'.1 (aCI.mpr ⟨x,hx,e.trans h.symm⟩);have:eY k o (g :: r)=(g.1,g.2.1,g.2.2++[o]) :: r:=by
    show (if g.1=k then (g.1,g.2.1,g.2.2++[o])else g) :: eY k o r=_;rw[if_pos h,hr]
   rw[this,cM,cM];simp only[aBj,aBt,List.map_nil,List.append_assoc,h];exact List.perm_middle
  ·have hex':∃ g∈r,g.1=k:=by
    obtain⟨x,hx,e⟩:=hex;rcases aCG.mp hx with rfl | hx
    ·exact absurd e h
    ·exact⟨x,hx,e⟩
   have ih:=tH (o:=o) hn'.2 hex';have:eY k o (g :: r)=g :: eY k o r:=by
    show (if g.1=k then (g.1,g.2.1,g.2.2++[o])else g) :: eY k o r=_;rw[if_neg h]
   rw[this,cM,cM];exact(ih.append_left _).trans List.perm_middle
theorem gZ {H:Hp} {k o:Int} {gs gs':List Grp} (hn:(gs.map (·.1)).Nodup) (h:qT H k o gs gs'):(bJ gs').Perm ((k,o) :: bJ gs):=by
 rcases h with ⟨hg,rfl⟩ | ⟨_,z,_,rfl⟩
 ·exact tH hn hg
 ·rw[xJ];exact List.perm_append_comm
theorem oG:∀ {gs:List Grp},(gs.map (·.1)).Nodup->∀ {g:Grp} (_:g∈gs) (hne:g.2.2≠[]),(bJ gs).Perm ((g.1,g.2.2.getLast hne) :: bJ (pops g.1 gs))
 | [],_,g,hg,_=>by cases hg
 | x :: r,hn,g,hg,hne=>by
  have hn':=List.nodup_cons.mp hn;have e0:pops g.1 (x :: r)=(if x.1=g.1 then (x.1,x.2.1,x.2.2.dropLast)else x) :: pops g.1 r:=rfl;rw[e0]
  by_cases h:x.1=g.1
  ·have hx:x=g:=cG (f:=fun g:Grp=>g.1) hn aB6 hg h;subst hx;rw[if_pos rfl,oF fun y hy e=>hn'.1 (aCI.mpr ⟨y,hy,e⟩),cM,cM];have e1:x.2.2.map (fun o=>(x.1,o))=x.2.2.dropLast.map (fun o=>(x.1,o))++[(x.1,x.2.2.getLast hne)]:=by
    conv=>lhs;rw[<- List.dropLast_concat_getLast hne]
    rw[aBj];rfl
   rw[e1,List.append_assoc];exact List.perm_middle
  ·have hg':g∈r:=by
    rcases aCG.mp hg with e | e
    ·exact absurd (by rw[e]) h
    ·exact e
   rw[if_neg h,cM,cM];exact((oG hn'.2 hg' hne).append_left _).trans List.perm_middle
theorem tI {k:Int}:∀ {gs:List Grp},(∀ g∈gs,g.1=k->g.2.2=[])->bJ (outs k gs)=bJ gs
 | [],_=>rfl
 | g :: r,h=>by
  have ih:=tI (k:=k) (gs:=r) fun x hx=>h x (aB7 _ hx);unfold outs at ih ⊢;rw[List.filter_cons,cM]
  by_cases e:g.1=k
  ·have:=h g aB6 e;rw[if_neg (by simp[e]),ih,this];rfl
  ·rw[if_pos (by simp[e]),cM,ih]
theorem xM {gs:List Grp} (hn:(gs.map (·.1)).Nodup) {g:Grp} (hg:g∈gs) (hne:g.2.2≠[]):(bJ gs).Perm ((g.1,g.2.2.getLast hne) :: bJ (shr g.1 gs)):=by
 unfold shr;split
 ·next h =>
  obtain⟨x,hx,hp⟩:=List.any_eq_true.mp h;simp only[Bool.and_eq_true,decide_eq_true_eq,List.isEmpty_iff]at hp;rw[tI fun y hy e=>?_]
  ·exact oG hn hg hne
  have:y=x:=cG (f:=fun g:Grp=>g.1) (by rw[kY];exact hn) hy hx (e.trans hp.1.symm);rw[this];exact hp.2
 ·exact oG hn hg hne
def Asc (gs:List Grp):Prop:=∀ g∈gs,g.2.2.Pairwise (·<=·)
theorem Asc.last {gs:List Grp} (h:Asc gs) {g:Grp} (hg:g∈gs) (hne:g.2.2≠[]) {o:Int} (ho:o∈g.2.2):o<=g.2.2.getLast hne:=by
 have hp:=h g hg;rw[<- List.dropLast_concat_getLast hne]at ho hp;rcases aCH.mp ho with h1 | h1
 ·exact(List.pairwise_append.mp hp).2.2 o h1 _ (by simp)
 ·rw[aCA.mp h1];exact Int.le_refl _
theorem Asc.shr {gs:List Grp} (h:Asc gs) (k:Int):Asc (shr k gs):=by
 have hp:Asc (pops k gs):=fun x hx=>by
  obtain⟨g,hg,e1,e2,e3⟩:=nH hx;rw[e3];split
  ·exact(h g hg).sublist (List.dropLast_sublist _)
  ·exact h g hg
 intro x hx;unfold CW.shr at hx;split at hx
 ·exact hp x (aCJ.mp hx).1
 ·exact hp x hx
theorem Asc.puts {H:Hp} {k o:Int} {gs gs':List Grp} (h:Asc gs) (hp:qT H k o gs gs') (hle:∀ q∈bJ gs,q.1=k->q.2<=o):Asc gs':=by
 rcases hp with ⟨hg,rfl⟩ | ⟨_,z,_,rfl⟩
 ·intro x hx;obtain⟨g0,h0,rfl⟩:=aCI.mp hx
  by_cases e:g0.1=k
  ·rw[if_pos e];refine List.pairwise_append.mpr ⟨h g0 h0,by simp,fun a ha b hb=>?_⟩;rw[aCA.mp hb];exact hle (g0.1,a) (gE.mpr ⟨g0,h0,rfl,ha⟩) e
  ·rw[if_neg e];exact h g0 h0
 ·intro x hx;rcases aCH.mp hx with hx | hx
  ·exact h x hx
  ·rw[aCA.mp hx];simp
theorem vA {gs:List Grp} (k:Int) (h:(gs.map (·.1)).Nodup):((shr k gs).map (·.1)).Nodup:=by
 unfold shr;split
 ·exact(show ((pops k gs).map (·.1)).Nodup by rw[kY];exact h).sublist (List.filter_sublist.map _)
 ·rw[kY];exact h
theorem yU {H:Hp} {gs gs':List Grp} {p s:Int} (hn:(gs.map (·.1)).Nodup) (gd:GoodG gs) (ac:Asc gs) (bd:Bd (bJ gs) (p - 1)) {gs1:List Grp}
 (hs:s=0/\gs1=gs\/1<=s/\∃ g∈gs,∃ hne:g.2.2≠[],g.1=s/\g.2.2.getLast hne=p - 1 - 2 * les (bJ gs) s/\gs1=shr s gs)
 (htop:∀ g∈gs,∀ hne:g.2.2≠[],s<g.1->g.2.2.getLast hne≠p - 1 - 2 * les (bJ gs) g.1)
 (hp:qT H (s+1) (p - 2 * les (bJ gs1) (s+1) - 2 * (s+1)) gs1 gs'):Add (bJ gs) p (bJ gs')/\Asc gs'/\GoodG gs':=by
 have ha:Add (bJ gs) p (bJ gs'):=by
  refine⟨s,bJ gs1,?_,?_,fun q hq hlt e=>?_,?_⟩
  ·rcases hs with h | h <;> omega
  ·rcases hs with ⟨h,rfl⟩ | ⟨h,g,hg,hne,e1,e2,rfl⟩
   ·exact .inl ⟨h,.refl _⟩
   ·refine .inr ⟨h,?_⟩;have:=xM hn hg hne;rw[e1,e2]at this;exact this
  ·obtain⟨g,hg,e1,e2⟩:=gE.mp hq;have hne:=(gd g hg).2;have h1:=ac.last hg hne e2;have h2:=(bd (g.1,g.2.2.getLast hne) (gE.mpr ⟨g,hg,rfl,List.getLast_mem hne⟩)).2;simp only at h2;rw[<- e1]at e hlt;exact htop g hg hne hlt (by omega)
  ·have hn1:(gs1.map (·.1)).Nodup:=by
    rcases hs with ⟨h,rfl⟩ | ⟨h,g,hg,hne,e1,e2,rfl⟩
    ·exact hn
    ·exact vA s hn
   exact gZ hn1 hp
 have hb:=ha.bd bd;have hn1:(gs1.map (·.1)).Nodup/\Asc gs1/\GoodG gs1:=by
  rcases hs with ⟨h,rfl⟩ | ⟨h,g,hg,hne,e1,e2,rfl⟩
  ·exact⟨hn,ac,gd⟩
  ·exact⟨vA s hn,ac.shr s,gd.shr s⟩
 have hfp:=gZ hn1.1 hp;refine⟨ha,hn1.2.1.puts hp fun q hq e=>?_,hn1.2.2.puts (by rcases hs with h | h <;> omega) hp⟩;have h1:=(hb q (hfp.mem_iff.mpr (aB7 _ hq))).2;rw[aS hfp,aZ,e]at h1;simp only at h1;omega
theorem qW {H:Hp} {gs gs':List Grp} {p:Int} (hn:(gs.map (·.1)).Nodup) (gd:GoodG gs) (ac:Asc gs) {g:Grp} (hg:g∈gs) (hne:g.2.2≠[]) (hp:g.2.2.getLast hne+2 * les (bJ gs) g.1=p)
 (htop:∀ x∈gs,∀ hx:x.2.2≠[],x.2.2.getLast hx+2 * les (bJ gs) x.1<=p/\(x.1<g.1->x.2.2.getLast hx+2 * les (bJ gs) x.1<p))
 (hq:g.1=1/\gs'=shr g.1 gs\/2<=g.1/\qT H (g.1 - 1) (p - 1 - 2 * les (bJ (shr g.1 gs)) (g.1 - 1) - 2 * (g.1 - 1)) (shr g.1 gs) gs'):Tak (bJ gs) p (bJ gs')/\Asc gs'/\GoodG gs':=by
 have hn1:=vA g.1 hn;have hfs:=xM hn hg hne;have hpos:∀ q∈bJ gs,1<=q.1:=fun q hq=>by
  obtain⟨x,hx,e1,_⟩:=gE.mp hq;rw[<- e1];exact(gd x hx).1
 have hlast:g.2.2.getLast hne=p - 2 * les (bJ gs) g.1:=by omega
 have ht:Tak (bJ gs) p (bJ gs'):=by
  refine⟨g.1,bJ (shr g.1 gs),(gd g hg).1,by rw[<- hlast];exact hfs,fun q hq=>?_,fun q hq hl=>?_,?_⟩
  ·obtain⟨x,hx,e1,e2⟩:=gE.mp hq;have h1:=ac.last hx (gd x hx).2 e2;have h2:=(htop x hx (gd x hx).2).1;rw[<- e1];omega
  ·obtain⟨x,hx,e1,e2⟩:=gE.mp hq;have h1:=ac.last hx (gd x hx).2 e2;have h2:=(htop x hx (gd x hx).2).2 (by rw[e1];exact hl);rw[<- e1];omega
  ·rcases hq with ⟨h,rfl⟩ | ⟨h,h2⟩
   ·exact .inl ⟨h,.refl _⟩
   ·exact .inr ⟨h,gZ hn1 h2⟩
 refine⟨ht,?_⟩;obtain⟨hb,_⟩:=ht.add hpos;rcases hq with ⟨h,rfl⟩ | ⟨h,h2⟩
 ·exact⟨ac.shr _,gd.shr _⟩
 ·have hfp:=gZ hn1 h2;refine⟨(ac.shr _).puts h2 fun q hq e=>?_,(gd.shr _).puts (by omega) h2⟩;have h1:=(hb q (hfp.mem_iff.mpr (aB7 _ hq))).2;rw[aS hfp,aZ,e]at h1;simp only at h1;omega
def lng (b:Int) (gs:List Grp):Int:=wgt (fun k=>if b<k then 1 else 0) gs
theorem vB (f h:Int->Int):∀ gs:List Grp,wgt (fun k=>f k+h k) gs=wgt f gs+wgt h gs
 | []=>rfl
 | g :: r=>by
  rw[cF,cF,cF,vB f h r];have:(f g.1+h g.1) * (g.2.2.length:Int)=f g.1 * (g.2.2.length:Int)+h g.1 * (g.2.2.length:Int):=Int.add_mul ..;omega
theorem B0 (c:Int) (f:Int->Int):∀ gs:List Grp,wgt (fun k=>c * f k) gs=c * wgt f gs
 | []=>by simp[wgt]
 | g :: r=>by rw[cF,cF,B0 c f r,Int.mul_add,Int.mul_assoc]
theorem lV {f h:Int->Int} {gs:List Grp} (e:∀ g∈gs,f g.1=h g.1):wgt f gs=wgt h gs:=by
 unfold wgt
 congr 1
 exact List.map_congr_left fun g hg=>by rw[e g hg]
theorem qX:∀ gs:List Grp,wgt (fun _=>0) gs=0
 | []=>rfl
 | g :: r=>by rw[cF,qX r];simp
theorem yV {gs:List Grp} {b m:Int} (hbm:b<=m) (h:∀ g∈gs,b<g.1->m<=g.1):wgt (gS m) gs=wgt (gS b) gs+(m - b) * lng b gs:=by
 unfold lng;rw[<- B0,<- vB];refine lV fun g hg=>?_;rw[nK,nK];have:=h g hg;split
 ·have:=this (by assumption);omega
 ·omega
theorem S5 {gs:List Grp} {b m:Int} (hbm:b<m) (h:∀ g∈gs,b<g.1->m<=g.1) (hn:(gs.map (·.1)).Nodup) {g:Grp} (hg:g∈gs) (hm:g.1=m):lng m gs=lng b gs - (g.2.2.length:Int):=by
 have h1:lng b gs=lng m gs+wgt (fun k=>if k=m then 1 else 0) gs:=by
  unfold lng;rw[<- vB];refine lV fun x hx=>?_;have:=h x hx
  by_cases c:b<x.1
  ·have:=this c;rw[if_pos c]
   by_cases d:x.1=m
   ·rw[if_neg (by omega),if_pos d];omega
   ·rw[if_pos (by omega),if_neg d];omega
  ·rw[if_neg c,if_neg (by omega),if_neg (by omega)];omega
 have h2:wgt (fun k=>if k=m then 1 else 0) gs=(g.2.2.length:Int):=by
  clear h1 h
  induction gs with
  | nil=>cases hg
  | cons x r ih =>
   have hn':=List.nodup_cons.mp hn;rw[cF];rcases aCG.mp hg with e | e
   ·subst e;have:wgt (fun k=>if k=m then 1 else 0) r=0:=by
     have:wgt (fun k=>if k=m then 1 else 0) r=wgt (fun _=>0) r:=lV fun y hy=>if_neg fun z=>hn'.1 (aCI.mpr ⟨y,hy,by show y.1=g.1;omega⟩);rw[this];exact qX r
    rw[this,if_pos hm];omega
   ·have hx:x.1≠m:=fun z=>hn'.1 (aCI.mpr ⟨g,e,by show g.1=x.1;omega⟩);rw[if_neg hx,ih hn'.2 e];omega
 omega
theorem S6 {gs:List Grp} (gd:GoodG gs):lng 0 gs=(gs.map (fun g:Grp=>(g.2.2.length:Int))).sum:=by
 unfold lng wgt
 congr 1
 exact List.map_congr_left fun g hg=>by show (if 0<g.1 then (1:Int)else 0) * _=_;rw[if_pos (by have:=(gd g hg).1;omega)];omega
theorem S7 {gs:List Grp} (gd:GoodG gs):wgt (gS 0) gs=0:=by
 have:wgt (gS 0) gs=wgt (fun _=>0) gs:=lV fun g hg=>by rw[nK];have:=(gd g hg).1;omega
 rw[this];exact qX gs
end CW
namespace L2
open PySem PySem.Spec PyProof.Rows
def B3 (J:It) (σ0:St) (g:TG) (tt:TT) (te:TE) (ys0:List V) (N:List V->Hp->Prop) (H1:Hp):Prop:=∃ W:Nat->Nat->List V->Hp->Prop,(∃ m,W 0 m ys0 H1)/\∀ i m ys H,W i m ys H ->
 ys.length<sizeLine/\((J.stop i H/\N ys H) \/
  (J.go i H/\∃ N':List V->Hp->Prop,(∀ ys' H',N' ys' H'->∃ m',m'<m/\W (i+1) m' ys' H')/\∀ x H',J.yld i H x H'->g x σ0 H' fun σ2 H2=>tt σ2 H2 fun b H3 =>
   if b=true then te σ2 H3 fun y H4=>N' (ys++[y]) H4 else N' ys H3))
def yW (J:It) (σ0:St) (g:TG) (tt:TT) (wi:TI) (g2:TG) (tt2:TT) (te:TE) (Q:VK) (H1:Hp):Prop:=∃ W:Nat->Nat->List V->Hp->Prop,(∃ m,W 0 m [] H1)/\∀ i m ys H,W i m ys H ->
 ys.length<sizeLine/\((J.stop i H/\∀ D,H D=none->Q (.ref D) (upd H D (.lst ys))) \/
  (J.go i H/\∃ N:List V->Hp->Prop,(∀ ys' H',N ys' H'->∃ m',m'<m/\W (i+1) m' ys' H')/\∀ x H',J.yld i H x H'->g x σ0 H' fun σ2 H2=>tt σ2 H2 fun b H3 =>
   if b=true then wi σ2 H3 fun J2 H4=>B3 J2 σ2 g2 tt2 te ys N H4 else N ys H3))
def aAI (wi:TI) (nt:Nat) (js:List Nat) (g:TG) (tt:TT) (wi2:TI) (g2:TG) (tt2:TT) (te:TE):TE:=fun σ H Q=>wi σ H fun J H1=>yW J (sIn nt js σ) g tt wi2 g2 tt2 te Q H1
def GR (lo hi:Nat) (g:TG):Prop:=∀ v σ H Q,g v σ H Q->g v σ H fun σ' H'=>((∀ i,(i<lo\/hi<=i)->σ'[i]?=σ[i]?)/\σ'.length=σ.length)/\Q σ' H'
theorem d5 {lo hi i:Nat} (h:lo<=i) (h2:i<hi):GR lo hi (sL i):=fun v σ H Q q=>⟨⟨fun j hj=>by rw[List.getElem?_set_ne (by omega)],by simp⟩,q⟩
theorem pF (elt t1 i1 t2 i2:Expr) (f1 f2:List Expr) (scope:Scope) (pos:Pos) (it acc:Value) (env:Env) :
 compTurn (.ListComp elt [⟨t1,i1,f1,0⟩,⟨t2,i2,f2,0⟩] scope pos) 0 it acc env=(do
  standAt i1.pos
  match <- pyNext it with
  | none=>pure (.done .next)
  | some v =>
   letOwnedTupleGo t1 it v
   assign t1 env v
   let mut ok:=true
   for c in f1 do
    if ok then ok <- isTrue c env (eval c env)
   if ok then
    let x <- eval i2 env
    standAt i2.pos
    let x <- foldedSetIterable i2 env x
    let _ <- runOwn (.compStart (.ListComp elt [⟨t1,i1,f1,0⟩,⟨t2,i2,f2,0⟩] scope pos) 1 (<- holding [x] (pyIter x)) acc env) env
   again (.compLoop (.ListComp elt [⟨t1,i1,f1,0⟩,⟨t2,i2,f2,0⟩] scope pos) 0 it acc env)):=by rfl
theorem pG (elt t1 i1 t2 i2:Expr) (f1 f2:List Expr) (scope:Scope) (pos:Pos) (it acc:Value) (env:Env) :
 compTurn (.ListComp elt [⟨t1,i1,f1,0⟩,⟨t2,i2,f2,0⟩] scope pos) 1 it acc env=(do
  standAt i2.pos
  match <- pyNext it with
  | none=>pure (.done .next)
  | some v =>
   letOwnedTupleGo t2 it v
   assign t2 env v
   let mut ok:=true
   for c in f2 do
    if ok then ok <- isTrue c env (eval c env)
   if ok then
    (do let _ <- call (.builtin "list.append") [acc,<- eval elt env])
   again (.compLoop (.ListComp elt [⟨t1,i1,f1,0⟩,⟨t2,i2,f2,0⟩] scope pos) 1 it acc env)):=by rfl
theorem jO {prog:Program} {w:World} {A:Around} {R:Result->Shared->Prop} {s:Shared} {elt g1 target iter ifs rest scope pos it acc env}
 (h0:codeAny (model prog w) A (.compLoop (.ListComp elt (g1 :: ⟨target,iter,ifs,0⟩ :: rest) scope pos) 1 it acc env) R s)
 (h:wpAny (model prog w) A (pyIter it) (fun it' s'=>codeAny (model prog w) A (.compLoop (.ListComp elt (g1 :: ⟨target,iter,ifs,0⟩ :: rest) scope pos) 1 it' acc env) R s')
  (notedBy (model prog w) A env fun x s'=>R (.error x) s') s) :
 codeAny (model prog w) A (.compStart (.ListComp elt (g1 :: ⟨target,iter,ifs,0⟩ :: rest) scope pos) 1 it acc env) R s:=by
 refine codeAny_of_tree ?_;show wpAny _ _ ((compStart (.ListComp elt (g1 :: ⟨target,iter,ifs,0⟩ :: rest) scope pos) 1 it acc env).onRaise (fun x=>do noteFrame x env;standAt theWindowsPlace)) _ _ s;refine wpAny_notedAt ?_;unfold compStart;show wpAny _ _ (ask >>= _) _ _ s;refine aB2 (wpAny_askSetting (wpAny_ite ?_));split
 ·first
   | exact aB2 (aB3 (aB3 (And.intro rfl h0)))
   | exact aB3 (And.intro rfl h0)
 ·first
   | exact aB2 (wpAny_rule (aB2 (wpAny_standAt (aB2 (wpAny_mono h (fun it' s' h'=>aB3 (And.intro rfl h')) fun _ _ x=>x)))))
   | (refine aB2 (wpAny_rule ?_);show wpAny _ _ (standAt iter.pos >>= _) _ _ s;exact aB2 (wpAny_standAt (aB2 (wpAny_mono h (fun it' s' h'=>aB3 (And.intro rfl h')) fun _ _ x=>x))))
theorem yX {X:Cx} {pl:List (Addr×Obj)} {σ:St} {elt t1 i1 tg iter:Expr} {f1 ifs:List Expr} {inn:Scope} {pos:Pos} {g:TG} {tt:TT} {te:TE} {lo hi:Nat} {J:It} {fp:List Addr} {it:Addr} {tn:Nat->Heap->Prop} {H2:Hp} {s2:Shared} {ys0:List V} {N:List V->Hp->Prop} {RR:Result->Shared->Prop} {D:Addr}
 (hcalm:X.calm=true) (hxe:X.xe=fun _ _=>False) (DX:D∈X.ex) (Dl:D≠X.env.locals) (hpl:∀ p∈X.pn++pl,p.1≠D) (hDf:D∉fp)
 (hgX:PG X tg g) (hk:GR lo hi g) (htX:PIf X ifs tt) (heX:PE X elt te) (hσ:∀ i v,lo<=i->i<hi->σ[i]?≠some (some v))
 (I2:Inv X pl σ H2 s2) (T:pB X.prog X.w X.K tg J fp it tn) (st2:tn 0 s2.heap) (f2:∀ b∈fp,iT X pl H2 b) (fD2:H2 D=none) {its0:List Value} {c0:Nat} (rv0:Vals ys0 its0) (eD0:s2.heap.get? D=some { cls:=.type "list",data:=.seq its0.toArray c0 })
 (R:B3 J σ g tt te ys0 N H2)
 (hRR:∀ s' H' ys its c,Inv X pl σ H' s'->Vals ys its->s'.heap.get? D=some { cls:=.type "list",data:=.seq its.toArray c }->H' D=none->N ys H'->RR (.ok .next) s') :
 codeAny (model X.prog X.w) X.A (.compStart (.ListComp elt [⟨t1,i1,f1,0⟩,⟨tg,iter,ifs,0⟩] inn pos) 1 (.ref it) (.ref D) X.env) RR s2:=by
 have okX:=I2.ok;obtain⟨W,⟨m0,w0⟩,turn⟩:=R;have stat:∀ {H':Hp} {ql:List (Addr×Obj)},(∀ b∈fp,H' b=none)->(∀ p∈ql,p.1=D)->∀ b∈fp,iT X (pl++ql) H' b:=fun {H' ql} hn hql b hb=>by
  obtain⟨_,a1,a2,a3,a4,a5⟩:=f2 b hb;refine⟨hn b hb,a1,a2,a3,a4,fun p hp=>?_⟩;rw[<- List.append_assoc]at hp;rcases aCH.mp hp with hp | hp
  ·exact a5 p hp
  ·rw[hql p hp];intro e;exact hDf (e ▸ hb)
 have loop:codeAny (model X.prog X.w) X.A (.compLoop (.ListComp elt [⟨t1,i1,f1,0⟩,⟨tg,iter,ifs,0⟩] inn pos) 1 (.ref it) (.ref D) X.env) RR s2:=by
  refine codeAny_loop rfl (fun n s'=>∃ i ys H',Inv X pl σ H' s'/\tn i s'.heap/\(∀ b∈fp,H' b=none)/\H' D=none/\(∃ (its:List Value) (c:Nat),Vals ys its/\s'.heap.get? D=some { cls:=.type "list",data:=.seq its.toArray c })/\W i n ys H') ?_ m0
   ⟨0,ys0,H2,I2,st2,fun b hb=>(f2 b hb).1,fD2,⟨its0,c0,rv0,eD0⟩,w0⟩
  rintro n s5 ⟨i,ys,H5,I5,st5,fr5,fD5,⟨its,c,rv,eD⟩,w5⟩;show wpAny _ X.A ((compTurn (.ListComp elt [⟨t1,i1,f1,0⟩,⟨tg,iter,ifs,0⟩] inn pos) 1 (.ref it) (.ref D) X.env).onRaise (fun x=>do noteFrame x X.env;theTreesLotGoes x)) _ _ s5;refine wpAny_noted ?_;rw[pG];refine aB2 (wpAny_standAt (aB2 ?_));have pinD:Inv X (pl++bU [D] s5.heap) σ H5 s5:=by
   refine I5.pinned (fp:=[D]) (fun b hb=>?_) (fun b hb=>?_)
   ·have e:b=D:=by simpa using hb
    subst e;exact⟨fD5,Dl,fun z=>okX.exfs b DX z,.inl DX,(okX.exf b DX).2,hpl⟩
   ·have e:b=D:=by simpa using hb
    subst e;exact⟨_,eD,fun v z=>by cases z⟩
  have plD:∀ p∈bU [D] s5.heap,p.1=D:=fun p hp=>by simpa using (gW hp).1
  have memD:(D,({ cls:=.type "list",data:=.seq its.toArray c }:Obj))∈bU [D] s5.heap:=bN (by simp) eD;obtain⟨hz,tn5⟩:=turn i n ys H5 w5;rcases tn5 with ⟨stop,fin⟩ | ⟨go,N',hN,step⟩
  ·have q:=T.done X rfl rfl rfl hcalm i _ s5 _ H5 (notedBy (model X.prog X.w) X.A X.env fun e s'=>RR (.error e) s') pinD (stat fr5 plD) st5 stop;refine wpAny_mono q (fun r s6 ⟨hr,I6⟩=>?_) fun _ _ z=>z;subst hr;refine aB3 ?_;have eD6:=(I6.pin (D,_) (aB8 _ (aB8 _ memD))).1;exact hRR s6 H5 ys its c (I6.pins_of fun p hp=>I6.pin p (aB8 _ (aBn _ hp))) rv eD6 fD5 fin
  ·have q:=T.item X rfl rfl rfl hcalm i _ s5 _ H5 (notedBy (model X.prog X.w) X.A X.env fun e s'=>RR (.error e) s') pinD (stat fr5 plD) st5 go;refine wpAny_mono q (fun r s6 ⟨u,hr,h6⟩=>?_) fun _ _ z=>z;subst hr;refine aB2 (wpAny_mono h6 (fun _ s7 ⟨x,H7,I7,r7,y7,st7,fr7⟩=>?_) fun _ _ z=>z);have I7':=I7.pinned (fp:=fp) (fun b hb=>stat fr7 plD b hb) (T.obj _ _ st7);have q8:=hgX _ s7 _ H7 x u _ I7' r7 (hk x _ H7 _ (step x H7 y7));rw[hxe]at q8;refine aB2 (wpAny_mono q8 (fun _ s8 ⟨σ8,H8,I8,⟨k8,l8⟩,q8⟩=>?_) fun _ _ z=>z.elim);have q9:=htX _ s8 σ8 H8 _ I8 q8;rw[hxe]at q9;refine aB2 (wpAny_mono q9 (fun ok s9 ⟨H9,I9,q9⟩=>?_) fun _ _ z=>z.elim);have keepσ:∀ (j:Nat) v,σ[j]?=some (some v)->σ8[j]?=some (some v):=fun j v e=>by
    by_cases hj:j<lo\/hi<=j
    ·rw[k8 j hj];exact e
    ·exact absurd e (hσ j v (by omega) (by omega))
   have ends:∀ {H9:Hp} {s9:Shared} {ys':List V},Inv X ((pl++bU [D] s5.heap)++bU fp s7.heap) σ8 H9 s9->∀ {h':Heap} {its':List Value} {c':Nat},(∀ b o,b≠D->s9.heap.get? b=some o->h'.get? b=some o)->Vals ys' its'->h'.get? D=some { cls:=.type "list",data:=.seq its'.toArray c' }->N' ys' H9 ->
    ∀ tk,∃ m,m<n/\∃ i ys H',Inv X pl σ H' { s9 with heap:=h',toks:=tk }/\tn i h'/\(∀ b∈fp,H' b=none)/\H' D=none/\(∃ (its:List Value) (c:Nat),Vals ys its/\h'.get? D=some { cls:=.type "list",data:=.seq its.toArray c })/\W i m ys H':=fun {H9 s9 ys'} I9 {h' its' c'} kp rv' eD' n9 tk=>by
    obtain⟨m',hm,w9⟩:=hN ys' H9 n9;have fD9:H9 D=none:=(I9.pin (D,_) (aB8 _ (aBn _ (aB8 _ memD)))).2.1;have fr9:∀ b∈fp,H9 b=none:=fun b hb=>by
     obtain⟨o,e,d⟩:=T.obj _ _ st7 b hb;exact(I9.pin (b,o) (aB8 _ (aB8 _ (bN hb e)))).2.1
    have I10:Inv X pl σ8 H9 s9:=I9.pins_of fun p hp=>I9.pin p (aB8 _ (aBn _ (aBn _ hp)));have I11:Inv X pl σ8 H9 { s9 with heap:=h',toks:=tk }:=I10.turned (it:=D) kp fD9 Dl (.inl DX) (okX.exf D DX).2 hpl;refine⟨m',hm,i+1,ys',H9,I11.weak l8.symm keepσ,T.keep _ _ _ st7 fun b hb o e=>kp b o (fun z=>hDf (z ▸ hb)) (I9.pin (b,o) (aB8 _ (aB8 _ (bN hb e)))).1,fr9,fD9,⟨its',c',rv',eD'⟩,w9⟩
   cases ok with
   | false =>
    rw[if_neg aBh]at q9;have eD9:=(I9.pin (D,_) (aB8 _ (aBn _ (aB8 _ memD)))).1;exact aB3 ⟨rfl,ends I9 (h':=s9.heap) (fun _ _ _ e=>e) rv eD9 q9 s9.toks⟩
   | true =>
    rw[if_pos rfl]at q9;have q10:=heX _ s9 σ8 H9 _ I9 q9;rw[hxe]at q10;refine aB2 (aB2 (wpAny_mono q10 (fun v s10 ⟨y,H10,I10,r10,q10⟩=>?_) fun _ _ z=>z.elim));have eD10:=(I10.pin (D,_) (aB8 _ (aBn _ (aB8 _ memD)))).1;have hlen:=rv.length;refine aB2 (wpAny_list_append_plain (items:=its.toArray) ⟨c,eD10⟩ (fun h' hl hs=>aB3 (aB3 ⟨rfl,?_⟩)) (by rw[aBc];omega));obtain⟨c',e'⟩:=hl;have e'':h'.get? D=some { cls:=.type "list",data:=.seq (its++[v]).toArray c' }:=by rw[e'];simp
    exact ends I10 (h':=h') (fun b o hb e=>hs.extBut b o hb e) (rv.append (.cons r10 .nil)) e'' q10 s10.toks
 refine jO loop ?_;exact T.self X.A 0 _ _ _ st2 loop
section
variable {X:Cx} {pins:List (Addr×Obj)} {σ:St} {inn:Scope} {js:List Nat} {cs ts:List Str} {nt lo:Nat} {elt tg iter t2 i2:Expr} {ifs f2:List Expr} {pos:Pos} {g g2:TG} {tt tt2:TT} {te:TE} {wi wi2:TI}
theorem yY {J:It} {fp:List Addr} {it:Addr} {tn:Nat->Heap->Prop} {H2:Hp} {s2:Shared} {E:Value->Shared->Prop} {Q:VK} {RR:Value->Addr->Result->Shared->Prop}
 (hcalm:X.calm=true) (O:CompOk X.env.scope inn X.N js cs) (hts:ts.length=nt)
 (hlo:lo<=nt) (hg:∀ s₀ H₀ ex,PG (fI X inn (ts++cs) s₀ H₀ ex) tg g) (hk:GK lo g) (hi2:∀ s₀ H₀ ex,PI (fI X inn (ts++cs) s₀ H₀ ex) t2 i2 wi2) (hg2:∀ s₀ H₀ ex,PG (fI X inn (ts++cs) s₀ H₀ ex) t2 g2) (hk2:GR lo nt g2) (ht2:∀ s₀ H₀ ex,PIf (fI X inn (ts++cs) s₀ H₀ ex) f2 tt2) (hs2:∀ env x,foldedSetIterable i2 env x=pure x) (ht:∀ s₀ H₀ ex,PIf (fI X inn (ts++cs) s₀ H₀ ex) ifs tt) (he:∀ s₀ H₀ ex,PE (fI X inn (ts++cs) s₀ H₀ ex) elt te)
 (I2:Inv X pins σ H2 s2) (T:pB X.prog X.w X.K tg J fp it tn) (st2:tn 0 s2.heap) (fo:∀ b∈fp,iT X pins H2 b)
 (R:yW J (sIn nt js σ) g tt wi2 g2 tt2 te Q H2)
 (hRR:∀ D C s' H',Inv X pins σ H' s'->(∃ m,s'.heap.Ns C m)->H' C=none->C≠X.env.locals->X.s₀.heap.objs.size<=C->(∀ x c,X.env.cells.lookup x=some c->c≠C)->(∀ p∈X.pn++pins,p.1≠C)->Q (.ref D) H'->RR (.ref D) C (.ok .next) s') :
 wpAny (model X.prog X.w) X.A (newList []) (fun acc s₃=>wpAny (model X.prog X.w) X.A (newFunctionEnv inn X.env.globals (fH inn X.env) [] X.env.qual none .none (some X.env)) (fun cenv s₄ =>
  codeAny (model X.prog X.w) X.A (.compStart (.ListComp elt [⟨tg,iter,ifs,0⟩,⟨t2,i2,f2,0⟩] inn pos) 0 (.ref it) acc { cenv with scope:=relabel inn X.env }) (RR acc cenv.locals) s₄) E s₃) E s2:=by
 refine wpAny_newObj_type (wpAny_newFunctionEnv O.nocell (by intro y hy;simp at hy) (fun h₁ hns₁ hsb₁=>?_) O.kind);dsimp only at hns₁ hsb₁ ⊢;generalize hD:s2.heap.objs.size=D;have I3:Inv X pins σ H2 { s2 with heap:=s2.heap.push { cls:=.type "list",dict:=none,data:=.seq ([]:List Value).toArray } }:=I2.kept (t':=s2.toks) fun b o e=>aB5 _ e;generalize hs3:({ s2 with heap:=s2.heap.push { cls:=.type "list",dict:=none,data:=.seq ([]:List Value).toArray } }:Shared)=s3 at I3;have e3:s3.heap=s2.heap.push { cls:=.type "list",dict:=none,data:=.seq ([]:List Value).toArray }:=by rw[<- hs3]
 have hD3:s3.heap.get? D=some { cls:=.type "list",dict:=none,data:=.seq ([]:List Value).toArray }:=by rw[e3,<- hD];exact aBb _ rfl
 have hsz3:s3.heap.objs.size=D+1:=by rw[e3,Heap.size_push,hD]
 have e3':(s2.heap.push { cls:=.type "list",dict:=none,data:=.seq ([]:List Value).toArray })=s3.heap:=e3.symm;rw[e3']at hns₁ hsb₁ ⊢;have fH2D:H2 D=none:=I2.hok.fresh (by rw[hD];exact Nat.le_refl _);have up:∀ b o,s3.heap.get? b=some o->h₁.get? b=some o:=fun b o e=>hsb₁.extBut b o (aBr (aBa e)) (aB5 _ e);have fpo:∀ b∈fp,b<s3.heap.objs.size/\b≠D:=fun b hb=>by
  obtain⟨o,eo,_⟩:=T.obj 0 _ st2 b hb;have h1:=aBa eo;rw[hD]at h1;exact⟨by rw[hsz3];exact Nat.lt_succ_of_lt h1,aBr h1⟩
 have nb:∀ b,X.s₀.heap.objs.size<=b->∀ o,X.base.get? b≠some o:=fun b hb o e=>absurd (aBl (aBa e) (Nat.le_trans I2.ok.bsz hb)) (Nat.lt_irrefl _);have dge:s2.heap.objs.size<=D:=by rw[hD];exact Nat.le_refl _
 have fD:iT X pins H2 D:=I2.fpOk dge fH2D;have hex:∀ b∈D :: fp,b<s3.heap.objs.size/\b≠X.env.locals/\b∉X.fs/\(∀ x c,X.env.cells.lookup x=some c->c≠b)/\∀ o,X.base.get? b≠some o:=fun b hb=>by
  rcases aCG.mp hb with rfl | hb
  ·exact⟨by rw[hsz3];exact Nat.lt_succ_self _,fD.2.1,fD.2.2.1,fD.2.2.2.2.1,nb _ (Nat.le_trans I2.sz dge)⟩
  ·obtain⟨f0,f1,f2',f3,f4,f5⟩:=fo b hb;refine⟨(fpo b hb).1,f1,f2',f4,fun o e=>?_⟩;rcases f3 with z | z
   ·exact I2.ok.noex b o e z
   ·exact nb b z o e
 have hC:s3.heap.objs.size=s3.heap.objs.size:=rfl;generalize hXi:fI X inn (ts++cs) s3 H2 (D :: fp)=Xi;have I4:Inv Xi [] (sIn nt js σ) H2 { s3 with heap:=h₁,toks:=s3.toks }:=by
  rw[<- hXi];exact O9 hts I3 O hex ⟨_,hns₁⟩ up
 have xp:Xi.prog=X.prog:=by rw[<- hXi];rfl
 have xw:Xi.w=X.w:=by rw[<- hXi];rfl
 have xK:Xi.K=X.K:=by rw[<- hXi];rfl
 have xA:Xi.A=X.A:=by rw[<- hXi];rfl
 have xc:Xi.calm=true:=by rw[<- hXi];exact hcalm
 have xe:Xi.env=compEnvC inn (fH inn X.env) s3.heap.objs.size X.env:=by rw[<- hXi];rfl
 have xx:Xi.xe=fun _ _=>False:=by rw[<- hXi];rfl
 have xex:Xi.ex=D :: fp:=by rw[<- hXi];rfl
 have xpn:Xi.pn=[]:=by rw[<- hXi];rfl
 have xs0:Xi.s₀=s3:=by rw[<- hXi];rfl
 have xH0:Xi.H₀=H2:=by rw[<- hXi];rfl
 have xfs:Xi.fs=frs X.stack:=by rw[<- hXi];rfl
 have hgX:PG Xi tg g:=by rw[<- hXi];exact hg _ _ _
 have htX:PIf Xi ifs tt:=by rw[<- hXi];exact ht _ _ _
 have heX:PE Xi elt te:=by rw[<- hXi];exact he _ _ _
 have hi2X:PI Xi t2 i2 wi2:=by rw[<- hXi];exact hi2 _ _ _
 have hg2X:PG Xi t2 g2:=by rw[<- hXi];exact hg2 _ _ _
 have ht2X:PIf Xi f2 tt2:=by rw[<- hXi];exact ht2 _ _ _
 have okX:=I4.ok;have xl:Xi.env.locals=s3.heap.objs.size:=by rw[xe];rfl
 have Dl:D≠Xi.env.locals:=by rw[xl,hsz3];exact aBr (Nat.lt_succ_self _)
 have stat:∀ {H':Hp} {pl:List (Addr×Obj)},(∀ b∈fp,H' b=none)->(∀ p∈pl,p.1=D)->∀ b∈fp,iT Xi pl H' b:=fun {H' pl} hn hpl b hb=>by
  have hbx:b∈Xi.ex:=by rw[xex];exact aB7 _ hb
  refine⟨hn b hb,(okX.exf b hbx).1,fun z=>okX.exfs b hbx z,.inl hbx,(okX.exf b hbx).2,fun p hp=>?_⟩;rw[xpn,List.nil_append]at hp;rw[hpl p hp];exact Ne.symm (fpo b hb).2
 have DX:D∈Xi.ex:=by rw[xex];exact aB6
 obtain⟨W,⟨m0,w0⟩,turn⟩:=R;have loop:codeAny (model X.prog X.w) X.A (.compLoop (.ListComp elt [⟨tg,iter,ifs,0⟩,⟨t2,i2,f2,0⟩] inn pos) 0 (.ref it) (.ref D) Xi.env) (RR (.ref D) s3.heap.objs.size) { s3 with heap:=h₁,toks:=s3.toks }:=by
  refine codeAny_loop rfl (fun n s'=>∃ i ys H',Inv Xi [] (sIn nt js σ) H' s'/\tn i s'.heap/\(∀ b∈fp,H' b=none)/\H' D=none/\(∃ (its:List Value) (c:Nat),Vals ys its/\s'.heap.get? D=some { cls:=.type "list",data:=.seq its.toArray c })/\W i n ys H') ?_ m0
   ⟨0,[],H2,I4,?_,fun b hb=>(fo b hb).1,fH2D,⟨[],0,.nil,up D _ hD3⟩,w0⟩
  ·rintro n s5 ⟨i,ys,H5,I5,st5,fr5,fD5,⟨its,c,rv,eD⟩,w5⟩;show wpAny _ X.A ((compTurn (.ListComp elt [⟨tg,iter,ifs,0⟩,⟨t2,i2,f2,0⟩] inn pos) 0 (.ref it) (.ref D) Xi.env).onRaise (fun x=>do noteFrame x Xi.env;theTreesLotGoes x)) _ _ s5;refine wpAny_noted ?_;rw[pF];refine aB2 (wpAny_standAt (aB2 ?_));have pinD:Inv Xi (bU [D] s5.heap) (sIn nt js σ) H5 s5:=by
    have q:=I5.pinned (fp:=[D]) (fun b hb=>?_) (fun b hb=>?_)
    ·simpa using q
    ·have e:b=D:=by simpa using hb
     subst e;refine⟨fD5,Dl,fun z=>okX.exfs b DX z,.inl DX,(okX.exf b DX).2,fun p hp=>?_⟩;rw[xpn,List.nil_append]at hp;cases hp
    ·have e:b=D:=by simpa using hb
     subst e;exact⟨_,eD,fun v z=>by cases z⟩
   have plD:∀ p∈bU [D] s5.heap,p.1=D:=fun p hp=>by simpa using (gW hp).1
   have memD:(D,({ cls:=.type "list",data:=.seq its.toArray c }:Obj))∈bU [D] s5.heap:=bN (by simp) eD;obtain⟨hz,tn5⟩:=turn i n ys H5 w5;rcases tn5 with ⟨stop,fin⟩ | ⟨go,N,hN,step⟩
   ·have q:=T.done Xi xp xw xK xc i _ s5 _ H5 (notedBy (model X.prog X.w) X.A Xi.env fun e s'=>RR (.ref D) s3.heap.objs.size (.error e) s') pinD (stat fr5 plD) st5 stop;rw[xA]at q;refine wpAny_mono q (fun r s6 ⟨hr,I6⟩=>?_) fun _ _ z=>z;subst hr;refine aB3 ?_;have eD6:=(I6.pin (D,_) (aB8 _ memD)).1;have un:Un (frs X.stack) (D :: fp) H2 H5 s3.heap s6.heap:=by
     have z:=I6.base;rw[xfs,xex,xH0,xs0]at z;exact z
    have os6:s6.os=s3.os:=by have z:=I6.os;rw[xs0]at z;exact z
    have hok6:HOk X.prog X.w H5 s6.heap:=by have z:=I6.hok;rw[xp,xw]at z;exact z
    have I7:Inv X pins σ H5 s6:=I3.call' os6 un hok6 I6.bare fun b hb=>by
     rcases aCG.mp hb with e | hb
     ·rw[e];exact⟨.inr (Nat.le_trans I2.sz dge),fD.2.1,fD.2.2.2.2.1,fD.2.2.2.2.2⟩
     ·obtain⟨f0,f1,f2',f3,f4,f5⟩:=fo b hb;exact⟨f3,f1,f4,f5⟩
    have I8:Inv X pins σ (upd H5 D (.lst ys)) s6:=I7.track fD5 (Nat.le_trans I2.sz dge) fD.2.1 fD.2.2.2.2.1 fD.2.2.2.2.2 ⟨Nat.le_of_lt hz,its,c,rv,eD6⟩;have Cge:s3.heap.objs.size<=s3.heap.objs.size:=Nat.le_refl _;have fC:iT X pins (upd H5 D (.lst ys)) s3.heap.objs.size:=I3.fpOk Cge (by
     rw[aG (by rw[<- xl];exact Ne.symm Dl)];have z:=I6.free;rw[xl]at z;exact z)
    obtain⟨mm,hmm,_⟩:=I6.loc;rw[xl]at hmm;exact hRR D _ s6 _ I8 ⟨mm,hmm⟩ fC.1 fC.2.1 (Nat.le_trans I3.sz Cge) fC.2.2.2.2.1 fC.2.2.2.2.2 (fin D fD5)
   ·have q:=T.item Xi xp xw xK xc i _ s5 _ H5 (notedBy (model X.prog X.w) X.A Xi.env fun e s'=>RR (.ref D) s3.heap.objs.size (.error e) s') pinD (stat fr5 plD) st5 go;rw[xA]at q;refine wpAny_mono q (fun r s6 ⟨u,hr,h6⟩=>?_) fun _ _ z=>z;subst hr;refine aB2 (wpAny_mono h6 (fun _ s7 ⟨x,H7,I7,r7,y7,st7,fr7⟩=>?_) fun _ _ z=>z);have I7':=I7.pinned (fp:=fp) (fun b hb=>stat fr7 plD b hb) (T.obj _ _ st7);have q8:=hgX _ s7 _ H7 x u _ I7' r7 (hk x _ H7 _ (step x H7 y7));rw[xp,xw,xA,xx]at q8;refine aB2 (wpAny_mono q8 (fun _ s8 ⟨σ8,H8,I8,⟨k8,l8⟩,q8⟩=>?_) fun _ _ z=>z.elim);have q9:=htX _ s8 σ8 H8 _ I8 q8;rw[xp,xw,xA,xx]at q9;refine aB2 (wpAny_mono q9 (fun ok s9 ⟨H9,I9,q9⟩=>?_) fun _ _ z=>z.elim);have keepσ:∀ (j:Nat) v,(sIn nt js σ)[j]?=some (some v)->σ8[j]?=some (some v):=fun j v e=>by
     have hj:=(lQ e).1;rw[k8 j (Nat.le_trans hlo hj)];exact e
    have ends:∀ {H9:Hp} {s9:Shared} {ys':List V},Inv Xi (bU [D] s5.heap++bU fp s7.heap) σ8 H9 s9->∀ {h':Heap} {its':List Value} {c':Nat},(∀ b o,b≠D->s9.heap.get? b=some o->h'.get? b=some o)->Vals ys' its'->h'.get? D=some { cls:=.type "list",data:=.seq its'.toArray c' }->N ys' H9 ->
     ∀ tk,∃ m,m<n/\∃ i ys H',Inv Xi [] (sIn nt js σ) H' { s9 with heap:=h',toks:=tk }/\tn i h'/\(∀ b∈fp,H' b=none)/\H' D=none/\(∃ (its:List Value) (c:Nat),Vals ys its/\h'.get? D=some { cls:=.type "list",data:=.seq its.toArray c })/\W i m ys H':=fun {H9 s9 ys'} I9 {h' its' c'} kp rv' eD' n9 tk=>by
     obtain⟨m',hm,w9⟩:=hN ys' H9 n9;have fD9:H9 D=none:=(I9.pin (D,_) (aB8 _ (aBn _ memD))).2.1;have fr9:∀ b∈fp,H9 b=none:=fun b hb=>by
      obtain⟨o,e,d⟩:=T.obj _ _ st7 b hb;exact(I9.pin (b,o) (aB8 _ (aB8 _ (bN hb e)))).2.1
     have I10:Inv Xi [] σ8 H9 s9:=I9.pins_of fun p hp=>by cases hp
     have I11:Inv Xi [] σ8 H9 { s9 with heap:=h',toks:=tk }:=I10.turned (it:=D) kp fD9 Dl (.inl DX) (okX.exf D DX).2 (fun p hp=>by rw[xpn]at hp;cases hp);refine⟨m',hm,i+1,ys',H9,I11.weak l8.symm keepσ,T.keep _ _ _ st7 fun b hb o e=>kp b o (fpo b hb).2 (I9.pin (b,o) (aB8 _ (aB8 _ (bN hb e)))).1,fr9,fD9,⟨its',c',rv',eD'⟩,w9⟩
    cases ok with
    | false =>
     rw[if_neg aBh]at q9;have eD9:=(I9.pin (D,_) (aB8 _ (aBn _ memD))).1;exact aB3 ⟨rfl,ends I9 (h':=s9.heap) (fun _ _ _ e=>e) rv eD9 q9 s9.toks⟩
    | true =>
     rw[if_pos rfl]at q9;have q10:=hi2X _ s9 σ8 H9 _ I9 q9;rw[xp,xw,xA,xx]at q10;refine aB2 (wpAny_mono q10 (fun v s10 q11=>?_) fun _ _ z=>z.elim);refine aB2 (wpAny_standAt (aB2 (wpAny_of_eq (hs2 _ v) (aB2 (wpAny_holding (wpAny_mono q11 (fun itv s11 q12=>?_) fun _ _ z=>z.elim))))));obtain⟨it2,fp2,tn2,J2,H11,ei,I11,T2,st11,f11,R11⟩:=q12;subst ei;have pm:(D,({ cls:=.type "list",data:=.seq its.toArray c }:Obj))∈Xi.pn++(bU [D] s5.heap++bU fp s7.heap):=aB8 _ (aBn _ memD);have eD11:=(I11.pin (D,_) pm).1;have fD11:H11 D=none:=(I11.pin (D,_) pm).2.1;have hpl:∀ p∈Xi.pn++bU fp s7.heap,p.1≠D:=fun p hp=>by
      rw[xpn,List.nil_append]at hp;exact(fpo p.1 (gW hp).1).2
     have xcc:Xi.calm=true:=xc;refine aB2 (wpAny_runOwn ?_);have core:=yX (X:=Xi) (pl:=bU fp s7.heap) (σ:=σ8) (elt:=elt) (t1:=tg) (i1:=iter) (tg:=t2) (iter:=i2) (f1:=ifs) (ifs:=f2) (inn:=inn) (pos:=pos) (lo:=lo) (hi:=nt) (D:=D) (N:=N)
      (RR:=fun r s'=>match r with | .ok f=>wpAny (model Xi.prog Xi.w) Xi.A (again (.compLoop (.ListComp elt [⟨tg,iter,ifs,0⟩,⟨t2,i2,f2,0⟩] inn pos) 0 (.ref it) (.ref D) Xi.env)) (fun f s'=>f=Fin.again (.compLoop (.ListComp elt [⟨tg,iter,ifs,0⟩,⟨t2,i2,f2,0⟩] inn pos) 0 (.ref it) (.ref D) Xi.env)/\∃ m,m<n/\∃ i ys H',Inv Xi [] (sIn nt js σ) H' s'/\tn i s'.heap/\(∀ b∈fp,H' b=none)/\H' D=none/\(∃ (its:List Value) (c:Nat),Vals ys its/\s'.heap.get? D=some { cls:=.type "list",data:=.seq its.toArray c })/\W i m ys H') (fun _ _=>False) s' | .error e=>False)
      xc xx DX Dl hpl (fun hb=>(f11 D hb).2.2.2.2.2 _ pm rfl) hg2X hk2 ht2X heX (fun j v h1 h2 e=>?_) (I11.pins_of fun p hp=>I11.pin p (aB8 _ (aB8 _ hp))) T2 st11
      (fun b hb=>let ⟨a0,a1,a2,a3,a4,a5⟩:=f11 b hb;⟨a0,a1,a2,a3,a4,fun p hp=>a5 p ((aCH.mp hp).elim (aBn _) fun z=>aB8 _ (aB8 _ z))⟩) fD11 rv eD11 R11 ?_
     ·rw[xp,xw,xA]at core;refine codeAny_mono core fun r s' hr=>?_;cases r with
      | ok f=>exact wpAny_mono hr (fun _ _ z=>by obtain⟨rfl,z⟩:=z;exact⟨rfl,z⟩) fun _ _ z=>z.elim
      | error e=>exact hr.elim
     ·have e':=(k8 j h1).symm.trans e;exact absurd (lQ e').1 (by omega)
     ·intro s' H' ys' its' c' I' rv' eD' fD' n';obtain⟨m',hm,w9⟩:=hN ys' H' n';have fr':∀ b∈fp,H' b=none:=fun b hb=>by
       obtain⟨o,e,d⟩:=T.obj _ _ st7 b hb;exact(I'.pin (b,o) (aB8 _ (bN hb e))).2.1
      refine aB3 ⟨rfl,m',hm,i+1,ys',H',(I'.pins_of fun p hp=>by cases hp).weak l8.symm keepσ,T.keep _ _ _ st7 fun b hb o e=>(I'.pin (b,o) (aB8 _ (bN hb e))).1,fr',fD',⟨its',c',rv',eD'⟩,w9⟩
  ·exact T.keep 0 _ _ st2 fun b hb o e=>up b o (by rw[e3];exact aB5 _ e)
 have e4:({ s2 with heap:=h₁,toks:=s2.toks+([]:List (Str×Value)).length }:Shared)={ s3 with heap:=h₁,toks:=s3.toks }:=by rw[<- hs3];rfl
 rw[e4];show codeAny _ _ (.compStart (.ListComp elt [⟨tg,iter,ifs,0⟩,⟨t2,i2,f2,0⟩] inn pos) 0 (.ref it) (.ref D) (compEnvC inn (fH inn X.env) s3.heap.objs.size X.env)) (RR (.ref D) s3.heap.objs.size) _;rw[<- xe];refine codeAny_compStart_list loop ?_;refine T.self X.A 0 _ _ _ ?_ loop;exact T.keep 0 _ _ st2 fun b hb o e=>up b o (by rw[e3];exact aB5 _ e)
theorem S8 (ts1 ts2 cs:List Str) (js:List Nat) (hcalm:X.calm=true) (O:CompOk X.env.scope inn X.N js cs) (hi:PI X tg iter wi)
 (hg:∀ s₀ H₀ ex,PG (fI X inn ((ts1++ts2)++cs) s₀ H₀ ex) tg g) (hk:GK ts1.length g) (ht:∀ s₀ H₀ ex,PIf (fI X inn ((ts1++ts2)++cs) s₀ H₀ ex) ifs tt)
 (hi2:∀ s₀ H₀ ex,PI (fI X inn ((ts1++ts2)++cs) s₀ H₀ ex) t2 i2 wi2) (hg2:∀ s₀ H₀ ex,PG (fI X inn ((ts1++ts2)++cs) s₀ H₀ ex) t2 g2) (hk2:GR ts1.length (ts1++ts2).length g2) (ht2:∀ s₀ H₀ ex,PIf (fI X inn ((ts1++ts2)++cs) s₀ H₀ ex) f2 tt2) (he:∀ s₀ H₀ ex,PE (fI X inn ((ts1++ts2)++cs) s₀ H₀ ex) elt te)
 (hs:∀ x,foldedSetIterable iter X.env x=pure x:=by intro _;rfl) (hs2:∀ env x,foldedSetIterable i2 env x=pure x:=by intro _ _;rfl):PE X (.ListComp elt [⟨tg,iter,ifs,0⟩,⟨t2,i2,f2,0⟩] inn pos) (aAI wi (ts1++ts2).length js g tt wi2 g2 tt2 te):=by
 intro pins s σ H Q I h;rw[eval_ListComp];refine wpAny_comprehension_free (use:=none) rfl hs (pM fun y hy e=>I.ok.has y.1 (O.frees y hy e)) O.kind O.names (thn (hi pins s σ H _ I h) fun xv s1 h1=>thn h1 fun itv s2 h2=>?_);obtain⟨it,fp,tn,J,H2,e,I2,T,st2,f2,R⟩:=h2;subst e;refine yY (Q:=Q) (RR:=fun acc C=>compPost (model X.prog X.w) X.A X.xe none (EP X pins σ Q) acc C) hcalm O rfl (lo:=ts1.length) (by simp) hg hk hi2 hg2 hk2 ht2 hs2 ht he I2 T st2 f2 R ?_;intro D C s' H' I' ⟨m,hm⟩ c1 c2 c3 c4 c5 q;refine⟨m,hm,fun h' hsb=>?_⟩;exact⟨.ref D,H',I'.turned (it:=C) (t':=s'.toks) (fun b o hb e=>hsb.extBut b o hb e) c1 c2 (.inr c3) c4 c5,rfl,q⟩
end
theorem xN {X:Cx} {tg:Expr} (K:PySem.W.Frag) (h:X.K=K) {l:Expr} {tl:TE} (hl:PE X l tl):PI X tg l (o4 K tl):=h ▸ bH hl
theorem yZ {K:PySem.W.Frag} {a:Addr} {xs:List V} {σ0:St} {g g2:TG} {tt tt2:TT} {wi:TI} {te:TE} {H:Hp} {Q:VK} (Pv:Nat->List V->Hp->Prop) (h0:Pv 0 [] H) (hl:∀ i ys H,i<=xs.length->Pv i ys H->SqL K H a xs/\ys.length<sizeLine)
 (hs:∀ i x ys H,xs[i]?=some x->Pv i ys H->g x σ0 H fun σ2 H2=>tt σ2 H2 fun b H3=>if b=true then wi σ2 H3 fun J2 H4=>B3 J2 σ2 g2 tt2 te ys (Pv (i+1)) H4 else Pv (i+1) ys H3) (hd:∀ ys H,Pv xs.length ys H->∀ D,H D=none->Q (.ref D) (upd H D (.lst ys))) :
 yW (Itl K a) σ0 g tt wi g2 tt2 te Q H:=by
 refine⟨fun i m ys H=>m=xs.length - i/\i<=xs.length/\Pv i ys H,⟨xs.length,by simp,Nat.zero_le _,h0⟩,?_⟩;rintro i m ys H ⟨rfl,hi,p⟩;obtain⟨q,hz⟩:=hl i ys H hi p;refine⟨hz,?_⟩
 by_cases hlt:i<xs.length
 ·refine .inr ⟨⟨xs,xs[i],q,by simp[hlt]⟩,Pv (i+1),fun ys' H' p'=>⟨xs.length - (i+1),by omega,rfl,hlt,p'⟩,fun x H' y=>?_⟩;obtain⟨e,y⟩:=y;subst e;exact hs i x ys _ (y xs q) p
 ·have e:i=xs.length:=by omega
  subst e;exact .inl ⟨⟨xs,q,Nat.le_refl _⟩,hd ys H p⟩
theorem zA {K:PySem.W.Frag} {a:Addr} {xs:List V} {σ0:St} {g:TG} {tt:TT} {te:TE} {H:Hp} {N:List V->Hp->Prop} {ys0:List V} (Pv:Nat->List V->Hp->Prop) (h0:Pv 0 ys0 H) (hl:∀ i ys H,i<=xs.length->Pv i ys H->SqL K H a xs/\ys.length<sizeLine)
 (hs:∀ i x ys H,xs[i]?=some x->Pv i ys H->g x σ0 H fun σ2 H2=>tt σ2 H2 fun b H3=>if b=true then te σ2 H3 fun y H4=>Pv (i+1) (ys++[y]) H4 else Pv (i+1) ys H3) (hd:∀ ys H,Pv xs.length ys H->N ys H) :
 B3 (Itl K a) σ0 g tt te ys0 N H:=by
 refine⟨fun i m ys H=>m=xs.length - i/\i<=xs.length/\Pv i ys H,⟨xs.length,by simp,Nat.zero_le _,h0⟩,?_⟩;rintro i m ys H ⟨rfl,hi,p⟩;obtain⟨q,hz⟩:=hl i ys H hi p;refine⟨hz,?_⟩
 by_cases hlt:i<xs.length
 ·refine .inr ⟨⟨xs,xs[i],q,by simp[hlt]⟩,Pv (i+1),fun ys' H' p'=>⟨xs.length - (i+1),by omega,rfl,hlt,p'⟩,fun x H' y=>?_⟩;obtain⟨e,y⟩:=y;subst e;exact hs i x ys _ (y xs q) p
 ·have e:i=xs.length:=by omega
  subst e;exact .inl ⟨⟨xs,q,Nat.le_refl _⟩,hd ys H p⟩
def aAt (t u:TS):TS:=fun D σ H=>∀ M:St->Hp->Prop,(∀ σ' H',u D σ' H'->M σ' H')->t { D with nx:=M } σ H
theorem aY {X:Cx} {st:Stmt} {rest:List Stmt} {t u:TS} (h1:PS X st t) (h2:PSs X rest u):PSs X (st :: rest) (aAt t u):=fun pins s σ H D I h=>aE h1 h2 pins s σ H D I (h (u D) fun _ _ z=>z)
end L2
namespace L2
open PySem
open PyProof.Rows PySem.MeetsSeq PySem.SeqAt PySem.Spec
open PySem.AutoSeq1 (wpAny_loadPart')
theorem rZ (l:Addr) (items:Array Value) (n:Nat) (x:Value) (e:Value->Bool) (j:Nat) (hj:j<items.size) (hit:e items[j]=true) (k:Nat) (hs1:items.size<=sizeLine) :
 ∀ i:Nat,j - i=k->i<=j->(∀ m (hm:m<items.size),i<=m->m<j->e items[m]=false)->Meets (Builtin.«list.remove.loop» ⟨[.ref l,x,rawInt i],[]⟩)
  (fun A R s=>s.heap.get? l=some { cls:=.type "list",dict:=none,data:=.seq items n,slots:=#[] }/\(∀ y,y∈items->EqAt A.in1 s y x (e y))/\R (.ok (.ret .none)) { s with heap:=s.heap.update l (Obj.mapSeq fun xs=>xs.eraseIdxIfInBounds j) }):=by
 induction k with
 | zero =>
  intro i hk hij hno prog w A R s h;obtain⟨hp,g,d,tk,os⟩:=s;obtain⟨hl,he,h⟩:=h;have hij':i=j:=by omega
  subst hij'
  wp_walk using wpAny_loadPart' hl
  have hi:items[((i:Nat):Int).toNat]?=some items[i]:=by simp[hj]
  rw[hi];refine aB2 (he _ (Array.getElem_mem hj) prog w _ _ ?_);rw[hit];have hz':(items.eraseIdxIfInBounds i).size<=sizeLine+1:=Nat.le_trans (size_erased items _) (Nat.le_succ_of_le hs1)
  wp_walk using (wpAny_updateSeq hl rfl (hz:=hs1) (_hz':=hz')),wpAny_loadPart' hl
  simpa using h
 | succ k ih =>
  intro i hk hij hno prog w A R s h;obtain⟨hp,g,d,tk,os⟩:=s;obtain⟨hl,he,h⟩:=h;have hlt:i<items.size:=by omega
  wp_walk using wpAny_loadPart' hl
  have hi:items[((i:Nat):Int).toNat]?=some items[i]:=by simp[hlt]
  have hc:((i:Int)+1)=((i+1:Nat):Int):=by push_cast;rfl
  rw[hi];refine aB2 (he _ (Array.getElem_mem hlt) prog w _ _ ?_);rw[hno i hlt (Nat.le_refl _) (by omega)]
  wp_walk
  rw[hc];exact⟨plainId_quiet plain_remove_loop _,codeAny_builtin entry_remove_loop (by
   rw[aBg plain_remove_loop _];exact ih (i+1) (by omega) (by omega) (fun m hm h1 h2=>hno m hm (by omega) h2) prog w A R _ ⟨hl,he,h⟩)⟩
theorem sA (l:Addr) (items:Array Value) (n:Nat) (x:Value) (e:Value->Bool) (j:Nat) (hj:j<items.size)
 (hit:e items[j]=true) (hno:∀ m (hm:m<items.size),m<j->e items[m]=false) (hs1:items.size<=sizeLine) :
 Meets (Builtin.«list.remove» ⟨[.ref l,x],[]⟩)
  (fun A R s=>s.heap.get? l=some { cls:=.type "list",dict:=none,data:=.seq items n,slots:=#[] }/\(∀ y,y∈items->EqAt A.in1 s y x (e y))/\R (.ok (.ret .none)) { s with heap:=s.heap.update l (Obj.mapSeq fun xs=>xs.eraseIdxIfInBounds j) }):=by
 intro prog w A R s h;obtain⟨hp,g,d,tk,os⟩:=s;obtain⟨hl,he,h⟩:=h
 wp_walk using wpAny_loadPart' hl
 exact⟨plainId_quiet plain_remove_loop _,codeAny_builtin entry_remove_loop (by
  rw[aBg plain_remove_loop _];exact rZ l items n x e j hj hit _ hs1 0 rfl (Nat.zero_le _) (fun m hm _ h2=>hno m hm h2) prog w A R _ ⟨hl,he,h⟩)⟩
theorem PairV.inj {h:Heap} {v:Value} {p q:Int×Int} (a:PairV h v p) (b:PairV h v q):p=q:=by
 obtain⟨t,o,n,k1,k2,rfl,ho,_,hd⟩:=a;obtain⟨t',o',n',k1',k2',e,ho',_,hd'⟩:=b;cases e;rw[ho]at ho';cases ho';rw[hd]at hd';obtain⟨p1,p2⟩:=p;obtain⟨q1,q2⟩:=q;simp only[Data.seq.injEq,Array.mk.injEq,List.cons.injEq,Value.int.injEq,and_true]at hd';obtain⟨⟨⟨rfl,_⟩,rfl,_⟩,_⟩:=hd';rfl
theorem EqAt.pairs {A:Around} {s:Shared} {x y:Value} {p q:Int×Int} (hx:PairV s.heap x p) (hy:PairV s.heap y q) (hu:A.units+1<cLine):EqAt A s x y (decide (p=q)):=by
 obtain⟨t,o,n,k1,k2,rfl,ho,hc,hd⟩:=id hx;obtain⟨t',o',n',k1',k2',rfl,ho',hc',hd'⟩:=id hy
 by_cases ht:t=t'
 ·subst ht;have:p=q:=hx.inj hy;rw[aBq this];exact EqAt.same _
 ·refine EqAt.of_refs ht ?_;have h:=RcAt.tuples (A:=A) (s:=s) (l:=t) (b:=t') (e:=fun j=>if j=0 then p.1 == q.1 else p.2 == q.2) ⟨o,ho,hc,n,hd⟩ ⟨o',ho',hc',n',hd'⟩ (by omega) fun j h1 h2=>?_
  ·have e:((List.range (min (#[Value.int p.1 k1,Value.int p.2 k2]:Array Value).size (#[Value.int q.1 k1',Value.int q.2 k2']:Array Value).size)).all (fun j=>if j=0 then p.1 == q.1 else p.2 == q.2) && (#[Value.int p.1 k1,Value.int p.2 k2]:Array Value).size == (#[Value.int q.1 k1',Value.int q.2 k2']:Array Value).size)=decide (p=q):=by
    show ((p.1 == q.1) && ((p.2 == q.2) && true) && true)=decide (p=q);obtain⟨p1,p2⟩:=p;obtain⟨q1,q2⟩:=q;rw[Bool.eq_iff_iff];simp
   rw[e]at h;exact h
  ·match j,h1,h2 with
   | 0,_,_=>exact EqAt.int_int p.1 k1 q.1 k1'
   | 1,_,_=>exact EqAt.int_int p.2 k2 q.2 k2'
section
variable {X:Cx}
open Classical in
def S9:V->List V->Hp->VK->Prop:=fun x vs H Q=>∃ l us ps t p,x=.ref l/\vs=[.ref t]/\H l=some (.lst us)/\CW.Prs H us ps/\H t=some (.tup [.int p.1,.int p.2])/\p∈ps/\∀ us':List V,CW.Prs H us' (ps.erase p)->us'.length<us.length->Q .non (upd H l (.lst us'))
theorem tJ {H:Hp} {p:Int×Int}:∀ {us:List V} {ps:List (Int×Int)},CW.Prs H us ps->p∈ps->∃ j,j<ps.length/\ps[j]?=some p/\(∀ m,m<j->ps[m]?≠some p)/\CW.Prs H (us.eraseIdx j) (ps.erase p)
 | [],[],_,h=>by cases h
 | u :: us,q :: ps,.cons a r,h=>by
  by_cases e:q=p
  ·subst e;refine⟨0,by simp,rfl,fun m hm=>by omega,?_⟩;rw[List.erase_cons_head];exact r
  ·have hp:p∈ps:=by
    rcases aCG.mp h with z | z
    ·exact absurd z.symm e
    ·exact z
   obtain⟨j,h1,h2,h3,h4⟩:=tJ r hp;refine⟨j+1,by simpa using h1,h2,fun m hm=>?_,?_⟩
   ·cases m with
    | zero=>simpa using e
    | succ m=>exact h3 m (by omega)
   ·rw[List.erase_cons_tail (by simpa using e)];exact .cons a h4
theorem qY (hu:X.A.units+64<cLine):MtM X "list.remove" S9:=by
 intro pins s σ H x vs v us Q I rx rv h;obtain⟨l,xs,ps,t,p,rfl,rfl,hH,pr,ht,hp,q⟩:=h;cases rx;obtain⟨u,rfl,ru⟩:=rv.one;obtain⟨z,its,n,r,hl,e⟩:=I.lstM hH;obtain⟨j,h1,h2,h3,h4⟩:=tJ pr hp;have hv:=qR I r pr;have hu2:PairV s.heap u p:=by
  have:=qR I (us0:=[.ref t]) (its:=[u]) (ps:=[p]) (.cons ru .nil) (.cons ⟨t,rfl,ht⟩ .nil);cases this with
  | cons a _=>exact a
 have hlp:xs.length=ps.length:=CW.Prs.len pr;have at':∀ m (hm:m<its.toArray.size),PairV s.heap its.toArray[m] (ps[m]'(by simp at hm;omega)):=fun m hm=>by
  have hm':m<its.length:=by simpa using hm
  obtain⟨q',hq,hP⟩:=CW.paired_get hv (i:=m) (x:=its[m]) (by simp[hm']);have:ps[m]'(by omega)=q':=by
   have:=aBe (l:=ps) (i:=m) (by omega);rw[this]at hq;exact Option.some.inj hq
  rw[this];simpa using hP
 refine call_meets F.slot_list_remove ⟨_,e,rfl⟩ F.entry_list_remove (F.args_list_remove_2 _ _) (sA l its.toArray n u (fun y=>@decide (PairV s.heap y p) (Classical.propDecidable _)) j (by simp;omega) ?_ (fun m hm hlt=>?_) (by rw[aBc];omega)) ⟨e,fun y hy=>?_,?_⟩
 ·have:=at' j (by simp;omega);have e2:ps[j]'(by omega)=p:=by
   have:=aBe (l:=ps) (i:=j) (by omega);rw[this]at h2;exact Option.some.inj h2
  rw[e2]at this;exact @decide_eq_true _ (Classical.propDecidable _) this
 ·refine @decide_eq_false _ (Classical.propDecidable _) fun hP=>h3 m hlt ?_;have e2:=(at' m hm).inj hP;rw[aBe (by simp at hm;omega),e2]
 ·obtain⟨m,hm,rfl⟩:=Array.mem_iff_getElem.mp hy;have hP:=at' m hm;have h5:=EqAt.pairs (A:=X.A.in1) hP hu2 (by show X.A.units+1+1<cLine;omega);have:(@decide (PairV s.heap its.toArray[m] p) (Classical.propDecidable _))=decide (ps[m]'(by simp at hm;omega)=p):=by
   rw[Bool.eq_iff_iff,@decide_eq_true_iff _ (Classical.propDecidable _),decide_eq_true_iff];exact⟨fun z=>hP.inj z,fun z=>z ▸ hP⟩
  rw[this];exact h5
 ·have hlen:(xs.eraseIdx j).length<xs.length:=by rw[List.length_eraseIdx];split <;> omega
  refine⟨.non,_,I.lset (its':=its.eraseIdx j) hH e ?_ (r.eraseIdx j) (by omega),rfl,q _ h4 hlen⟩;apply Array.toList_inj.mp
  simp[Array.toList_eraseIdxIfInBounds]
def aAJ (t:TS):TS:=fun D σ H=>∃ d kvs,H d=some (.dK kvs)/\t { D with nx:=fun σ' H'=>∃ od,H' d=some (.frz od (.dK kvs))/\D.nx σ' (upd H' d (.dK kvs)) } σ H
theorem d6 {st:Stmt} {t:TS} (h:PS X st t):PS X st (aAJ t):=by
 intro pins s σ H D I q;obtain⟨d,kvs,hd,q⟩:=q;have h0:∀ o u,X.H₀ d≠some (.frz o u):=fun o u z=>by
  have:=I.base.frzs d o u z;rw[hd]at this;cases this
 refine thn (h pins s σ H _ I q) fun f s1 q1=>?_;cases f with
 | next =>
  obtain⟨σ',H',I',od,hf,q1⟩:=q1;exact⟨σ',_,I'.thaw hf h0,q1⟩
 | ret v=>exact q1
 | brk=>exact q1
 | cont=>exact q1
end
end L2
namespace CW
open PySem L2
theorem T0 {b:Int}:∀ {gs:List Grp},(∀ g∈gs,g.2.2.length<=60)->0<=lng b gs/\lng b gs<=60 * (gs.length:Int)
 | [],_=>⟨Int.le_refl _,Int.le_refl _⟩
 | g :: r,h=>by
  obtain⟨h1,h2⟩:=T0 (b:=b) (gs:=r) fun x hx=>h x (aB7 _ hx);have h3:=h g aB6;unfold lng at h1 h2 ⊢;rw[cF,aBx]
  by_cases c:b<g.1
  ·rw[if_pos c];omega
  ·rw[if_neg c];omega
theorem qZ:∀ {a b:Trs},a.Perm b->a.Pairwise ple->b.Pairwise ple->a=b:=fun {a b} h ha hb =>
 List.Perm.eq_of_pairwise (le:=ple) (fun x y _ _ h1 h2=>by
  obtain⟨x1,x2⟩:=x;obtain⟨y1,y2⟩:=y;unfold ple at h1 h2;simp only at h1 h2;have e1:x1=y1:=by omega
  have e2:x2=y2:=by omega
  rw[e1,e2]) ha hb h
def laid (ms:List Int) (gs:List Grp):Trs:=ms.flatMap fun m=>match gs.find? (fun g=>decide (g.1=m))with | some g=>g.2.2.map fun o=>(m,o) | none=>[]
theorem oH (m:Int) (ms:List Int) (gs:List Grp):laid (m :: ms) gs=(match gs.find? (fun g=>decide (g.1=m))with | some g=>g.2.2.map (fun o=>(m,o)) | none=>[])++laid ms gs:=rfl
theorem oS (a b:List Int) (gs:List Grp):laid (a++b) gs=laid a gs++laid b gs:=by simp[laid]
theorem T1 {gs:List Grp} (hn:(gs.map (·.1)).Nodup) {g:Grp} (hg:g∈gs):laid [g.1] gs=g.2.2.map fun o=>(g.1,o):=by
 rw[oH,nI hn hg];exact List.append_nil _
theorem tK {ms ks:List Int} (gs:List Grp) (h:ms.Perm ks):(laid ms gs).Perm (laid ks gs):=h.flatMap_right _
theorem tL:∀ {gs:List Grp},(gs.map (·.1)).Nodup->laid (gs.map (·.1)) gs=bJ gs:=by
 intro gs hn;have go:∀ us:List Grp,(∀ g∈us,g∈gs)->laid (us.map (·.1)) gs=bJ us:=by
  intro us
  induction us with
  | nil=>intro _;rfl
  | cons g r ih =>
   intro h;rw[aBt,oH,nI hn (h g aB6),cM,ih fun x hx=>h x (aB7 _ hx)]
 exact go gs fun _ h=>h
theorem T3 {ms:List Int} {gs:List Grp} {q:Int×Int} (h:q∈laid ms gs):q.1∈ms:=by
 unfold laid at h;obtain⟨m,hm,hq⟩:=List.mem_flatMap.mp h;split at hq
 ·obtain⟨o,_,rfl⟩:=aCI.mp hq;exact hm
 ·cases hq
theorem oT {gs:List Grp} (ac:Asc gs):∀ {ms:List Int},ms.Pairwise (·<·)->(laid ms gs).Pairwise ple
 | [],_=>List.Pairwise.nil
 | m :: ms,h=>by
  obtain⟨h1,h2⟩:=List.pairwise_cons.mp h;rw[oH];refine List.pairwise_append.mpr ⟨?_,oT ac h2,fun a ha b hb=>?_⟩
  ·split
   ·next g hg =>
    rw[List.pairwise_map];exact(ac g (List.mem_of_find?_eq_some hg)).imp fun {x y} hxy=>.inr ⟨rfl,hxy⟩
   ·exact List.Pairwise.nil
  ·have hb1:=h1 _ (T3 hb);split at ha
   ·obtain⟨o,_,rfl⟩:=aCI.mp ha;exact .inl hb1
   ·cases ha
theorem tM {ms ks:List Int} (hp:ms.Perm ks) (hs:ms.Pairwise (·<=·)) (hn:ks.Nodup):ms.Pairwise (·<·):=by
 have h:=hp.nodup_iff.mpr hn;exact(List.pairwise_and_iff.mpr ⟨hs,h⟩).imp fun {x y} ⟨a,b⟩=>by omega
section
variable {P:Program} {w:World} {K:PySem.W.Frag} {mg:Str->Option Value} {base:Heap}
inductive jP (vs:List V) (H:Hp) (Q:VK) (E_:XK):Prop
 | mk (d:Addr) (gs:List Grp) (h0_:vs=[.ref d]) (h1_:DG H d gs) (h2_:GoodG gs) (h3_:gs.length<=60) (h4_:(∀ g∈gs,g.2.2.length<=60)) (h5_:∀ (e:Addr) (kvs:List (Key×V)) (H':Hp),H e=none->Same H H'->H' e=some (.dK kvs)->(∀ g∈gs,cU kvs (Sum.inl g.1:Key)=some (.int (2 * les (bJ gs) g.1)))->Q (.ref e) H'):jP vs H Q E_
inductive gF (vs:List V) (H:Hp) (Q:VK) (E_:XK):Prop
 | mk (d:Addr) (gs:List Grp) (k p:Int) (h0_:vs=[.ref d,.int k,.int p]) (h1_:DG H d gs) (h2_:gs.length<=60) (h3_:(∀ g∈gs,g.2.2.length<=60)) (h4_:∀ (gs':List Grp) (H':Hp),StayG d gs H H'->DG H' d gs'->qT H k (p - 2 * wgt (gS k) gs - 2 * k) gs gs'->Q .non H'):gF vs H Q E_
inductive jY (vs:List V) (H:Hp) (Q:VK) (E_:XK):Prop
 | mk (d:Addr) (gs:List Grp) (p:Int) (H0:Hp) (h0_:vs=[.ref d,.int p]) (h1_:DG H d gs) (h2_:GoodG gs) (h3_:Asc gs) (h4_:sto gs<=59) (h5_:Bd (bJ gs) (p - 1)) (h6_:Same H0 H) (h7_:H0 d=none) (h8_:(∀ g∈gs,H0 g.2.1=none)) (h9_:∀ (gs':List Grp) (H':Hp),Same H0 H'->DG H' d gs'->GoodG gs'->Asc gs'->Add (bJ gs) p (bJ gs')->(∀ g∈gs',H0 g.2.1=none)->Q .non H'):jY vs H Q E_
inductive gG (vs:List V) (H:Hp) (Q:VK) (E_:XK):Prop
 | mk (a:Addr) (row:List Int) (h0_:vs=[.ref a]) (h1_:H a=some (.lst (row.map V.int))) (h2_:Row row) (h3_:row.length<=60) (h4_:∀ qs:Trs,Lst row qs->qs.Pairwise ple->wM H Q qs):gG vs H Q E_
inductive lW (vs:List V) (H:Hp) (Q:VK) (E_:XK):Prop
 | mk (a:Addr) (row:List Int) (h0_:vs=[.ref a]) (h1_:H a=some (.lst (row.map V.int))) (h2_:Row row) (h3_:row.length<=60) (h4_:∀ qs:Trs,Lst row qs->qs.Pairwise ple->wM H Q qs):lW vs H Q E_
end
theorem B4 {l:List Int} (h:l≠[]):atI (l.map V.int) (-1)=some (V.int (l.getLast h)):=by
 have e:l.map V.int=l.dropLast.map V.int++[V.int (l.getLast h)]:=by
  rw[<- List.map_singleton (f:=V.int),<- aBj,List.dropLast_concat_getLast h]
 rw[e];exact hZ _ _
theorem dP:∀ (r:List Int) (n:Int),(r.foldl max n=n\/r.foldl max n∈r)/\n<=r.foldl max n/\∀ x∈r,x<=r.foldl max n
 | [],n=>⟨.inl rfl,Int.le_refl _,fun x hx=>(nomatch hx)⟩
 | a :: r,n=>by
  obtain⟨h1,h2,h3⟩:=dP r (max n a);rw[aBv];refine⟨?_,by omega,fun x hx=>?_⟩
  ·rcases h1 with h1 | h1
   ·rcases Int.le_total n a with c | c
    ·right;rw[h1];rw[show max n a=a by omega];exact aB6
    ·left;rw[h1];omega
   ·exact .inr (aB7 _ h1)
  ·rcases aCG.mp hx with rfl | hx
   ·omega
   ·exact h3 x hx
theorem J3 {gs:List Grp} {p:Int} (gd:GoodG gs) {ns:List Int} (h1:∀ n∈ns,∃ g∈gs,∃ hne:g.2.2≠[],n=g.1/\g.2.2.getLast hne=p - 1 - 2 * les (bJ gs) g.1)
 (h2:∀ g∈gs,∀ hne:g.2.2≠[],g.2.2.getLast hne=p - 1 - 2 * les (bJ gs) g.1->g.1∈ns) :
 ∃ s:Int,mxD ns (.int 0)=.int s/\0<=s/\(s=0\/1<=s/\∃ g∈gs,∃ hne:g.2.2≠[],g.1=s/\g.2.2.getLast hne=p - 1 - 2 * les (bJ gs) s)/\(∀ g∈gs,∀ hne:g.2.2≠[],s<g.1->g.2.2.getLast hne≠p - 1 - 2 * les (bJ gs) g.1):=by
 cases ns with
 | nil=>exact⟨0,rfl,Int.le_refl _,.inl rfl,fun g hg hne _ e=>(nomatch (h2 g hg hne e))⟩
 | cons n r =>
  obtain⟨a1,a2,a3⟩:=dP r n;have hm:r.foldl max n∈n :: r:=by
   rcases a1 with h | h
   ·rw[h];exact aB6
   ·exact aB7 _ h
  obtain⟨g,hg,hne,e1,e2⟩:=h1 _ hm;have hg1:=(gd g hg).1;refine⟨r.foldl max n,rfl,by omega,.inr ⟨by omega,g,hg,hne,e1.symm,by rw[e1];exact e2⟩,fun x hx hnx hlt e=>?_⟩;have:=h2 x hx hnx e;rcases aCG.mp this with z | z
  ·omega
  ·have:=a3 _ z;omega
theorem T4 {ps:Trs} {p:Int} (hpos:∀ q∈ps,1<=q.1) {ns:List Int} (h1:∀ n∈ns,∃ q∈ps,n=q.1/\q.2=p - 1 - 2 * les ps q.1) (h2:∀ q∈ps,q.2=p - 1 - 2 * les ps q.1->q.1∈ns) :
 ∃ s:Int,mxD ns (.int 0)=.int s/\0<=s/\(s=0\/1<=s/\(s,p - 1 - 2 * les ps s)∈ps)/\(∀ q∈ps,s<q.1->q.2+2 * les ps q.1≠p - 1):=by
 cases ns with
 | nil=>exact⟨0,rfl,Int.le_refl _,.inl rfl,fun q hq _ e=>(nomatch (h2 q hq (by omega)))⟩
 | cons n r =>
  obtain⟨a1,a2,a3⟩:=dP r n;have hm:r.foldl max n∈n :: r:=by
   rcases a1 with h | h
   ·rw[h];exact aB6
   ·exact aB7 _ h
  obtain⟨q,hq,e1,e2⟩:=h1 _ hm;have hq1:=hpos q hq;refine⟨r.foldl max n,rfl,by omega,.inr ⟨by omega,?_⟩,fun x hx hlt e=>?_⟩
  ·have:(r.foldl max n,p - 1 - 2 * les ps (r.foldl max n))=q:=by rw[e1,<- e2]
   rw[this];exact hq
  have:=h2 x hx (by omega);rcases aCG.mp this with z | z
  ·omega
  ·have:=a3 _ z;omega
theorem add_list {ps ps1:Trs} {p s:Int} (h0:0<=s) (hs:s=0/\ps1=ps\/1<=s/\(s,p - 1 - 2 * les ps s)∈ps/\ps1=ps.erase (s,p - 1 - 2 * les ps s)) (htop:∀ q∈ps,s<q.1->q.2+2 * les ps q.1≠p - 1) :
 Add ps p (ps1++[(s+1,p - 2 * les (ps1++[(s+1,0)]) (s+1))]):=by
 refine⟨s,ps1,h0,?_,htop,?_⟩
 ·rcases hs with ⟨a,rfl⟩ | ⟨a,b,rfl⟩
  ·exact .inl ⟨a,.refl _⟩
  ·exact .inr ⟨a,List.perm_cons_erase b⟩
 ·have:p - 2 * les (ps1++[(s+1,0)]) (s+1)=p - 2 * les ps1 (s+1) - 2 * (s+1):=by
   rw[qU,aZ,A9];simp only;omega
  rw[this];exact List.perm_append_comm
theorem Lst.few {row:List Int} {qs:Trs} (h:Lst row qs) (hl:row.length<=60):qs.length<=60:=by
 have h3:=dL h.pos;have h4:(szs qs).sum=siz qs:=rfl;have h5:=h.sizx;omega
end CW
namespace L2
open PySem PySem.Spec PyProof.Rows
section
variable {prog:Program} {w:World} {A:Around} {R:Result->Shared->Prop} {l it S:Addr} {its:List Value} {ns:List Int}
theorem T5 (hh:A.handled=none) (hI:IntsAre its ns) (hlt:l≠it) (hiS:it≠S) (hlS:l≠S) :
 ∀ (k i:Nat) (s:Shared) (b:Int) (t:Tok) (c:Nat),ns.length - i=k->i<=ns.length->s.heap.IsListIter it l i->s.heap.IsList l its.toArray->s.heap.get? S=some (two b t c) ->
  (∀ h' tk t',(∀ x o,x≠it->x≠S->s.heap.get? x=some o->h'.get? x=some o)->R (.ok (.ret (.int ((ns.drop i).foldl max b) t'))) { s with heap:=h',toks:=tk }) ->
  codeAny (model prog w) A (.builtin "max.loop" ⟨[.ref it,.none,.ref S],[]⟩) R s:=by
 have nm:(toString "max"++toString ".loop":String)="max.loop":=by decide
 intro k
 induction k with
 | zero =>
  intro i s b t c hk hi st hl hS hR;have e:i=ns.length:=by omega
  refine codeAny_builtin PySem.F.entry_max_loop (by
   rw[aBg PySem.F.plain_max_loop _];show wpAny _ A.in1 (seqItems? (Value.ref S) >>= _) _ _ s;refine aB2 (wpAny_seqItems hS rfl ?_);show wpAny _ A.in1 (tryCatch (pyNext (Value.ref it)) _ >>= _) _ _ s;refine aB2 (wpAny_tryCatch (wpAny_pyNext_list_end hh st hl (by have:=hI.length;simp;omega) fun h' eb=>?_));have hS':=eb S _ (Ne.symm hiS) hS;show wpAny _ A.in1 (updateSeq S (fun _=>#[]) >>= _) _ _ { s with heap:=h' };refine aB2 (wpAny_updateSeq hS' rfl (aB2 (wpAny_letGo (aB3 ?_))));have q:=hR (h'.update S (Obj.mapSeq fun _=>#[])) s.toks t (fun x o h1 h2 e=>(aB9 _ _ (Ne.symm h2)).trans (eb x o h1 e));rw[e,List.drop_length]at q;exact q)
 | succ k ih =>
  intro i s b t c hk hi st hl hS hR;have hi':i<ns.length:=by omega
  obtain⟨u,hu⟩:=kP (i:=i) (n:=ns[i]) hI (by simp[hi']);have hdr:ns.drop i=ns[i] :: ns.drop (i+1):=List.drop_eq_getElem_cons hi';refine codeAny_builtin PySem.F.entry_max_loop (by
   rw[aBg PySem.F.plain_max_loop _];show wpAny _ A.in1 (seqItems? (Value.ref S) >>= _) _ _ s;refine aB2 (wpAny_seqItems hS rfl ?_);show wpAny _ A.in1 (tryCatch (pyNext (Value.ref it)) _ >>= _) _ _ s;refine aB2 (wpAny_tryCatch (wpAny_pyNext_list_item st hl (x:=.int ns[i] u) (by simpa using hu) fun h' st' sb=>?_));have hS':=sb.extBut S _ (Ne.symm hiS) hS;have hl':=hl.extBut sb.extBut hlt;show wpAny _ A.in1 (tryCatch (holding [.int ns[i] u,.int ns[i] u] (richCompare .Gt (.int ns[i] u) (.int b t) >>= _)) _ >>= _) _ _ { s with heap:=h' };refine aB2 (wpAny_tryCatch (wpAny_holding (aB2 (gt_int (s:={ s with heap:=h' }) ?_))));refine aB2 (wpAny_holding (wpAny_truthy_bool (aB2 (wpAny_letGo (aB3 ?_)))))
   by_cases hb:b<ns[i]
   ·have hd:decide (b<ns[i])=true:=aBq hb;simp only[hd,if_true];refine aB2 (wpAny_updateSeq hS' rfl (aB2 (wpAny_letGo ?_)));rw[nm];obtain⟨c',e1⟩:∃ c',(h'.update S (Obj.mapSeq fun _=>#[Value.int ns[i] u,Value.int ns[i] u])).get? S=some (two ns[i] u c'):=⟨_,aBm _ hS' rfl⟩;refine aB3 ⟨plainId_quiet PySem.F.plain_max_loop _,ih (i+1) { s with heap:=h'.update S (Obj.mapSeq fun _=>#[Value.int ns[i] u,Value.int ns[i] u]) } ns[i] u _ (by omega) hi' (st'.at fun o e=>(aB9 _ _ (Ne.symm hiS)).trans e) (hl'.at fun o e=>(aB9 _ _ (Ne.symm hlS)).trans e) e1 fun h'' tk t' kp=>?_⟩;have q:=hR h'' tk t' (fun x o h1 h2 e=>kp x o h1 h2 ((aB9 _ _ (Ne.symm h2)).trans (sb.extBut x o h1 e)));rw[hdr,aBv,show max b ns[i]=ns[i]by omega]at q;exact q
   ·have hd:decide (b<ns[i])=false:=aBp hb;simp only[hd,Bool.false_eq_true,if_false];refine aB2 (wpAny_letGo ?_);rw[nm];refine aB3 ⟨plainId_quiet PySem.F.plain_max_loop _,ih (i+1) { s with heap:=h' } b t c (by omega) hi' st' hl' hS' fun h'' tk t' kp=>?_⟩;have q:=hR h'' tk t' (fun x o h1 h2 e=>kp x o h1 h2 (sb.extBut x o h1 e));rw[hdr,aBv,show max b ns[i]=b by omega]at q;exact q)
theorem J4 (hh:A.handled=none) (hI:IntsAre its ns) (hne:ns≠[]) (hlt:l≠it) (hiS:it≠S) (hlS:l≠S) {s:Shared} {c:Nat} (st:s.heap.IsListIter it l 0) (hl:s.heap.IsList l its.toArray)
 (hS:s.heap.get? S=some { cls:=.type "list",dict:=none,data:=.seq #[] c,slots:=#[] })
 (hR:∀ h' tk v u,(∀ x o,x≠it->x≠S->s.heap.get? x=some o->h'.get? x=some o)->RelV v u->(v=match ns with | []=>.non | n :: r=>.int (r.foldl max n))->R (.ok (.ret u)) { s with heap:=h',toks:=tk }) :
 codeAny (model prog w) A (.builtin "max.loop" ⟨[.ref it,.none,.ref S],[]⟩) R s:=by
 have nm:(toString "max"++toString ".loop":String)="max.loop":=by decide
 cases hI with
 | nil=>exact absurd rfl hne
 | @cons n t its' ns' r =>
  refine codeAny_builtin PySem.F.entry_max_loop (by
   rw[aBg PySem.F.plain_max_loop _];show wpAny _ A.in1 (seqItems? (Value.ref S) >>= _) _ _ s;refine aB2 (wpAny_seqItems hS rfl ?_);show wpAny _ A.in1 (tryCatch (pyNext (Value.ref it)) _ >>= _) _ _ s;refine aB2 (wpAny_tryCatch (wpAny_pyNext_list_item st hl (x:=.int n t) (by simp) fun h' st' sb=>?_));have hS':=sb.extBut S _ (Ne.symm hiS) hS;have hl':=hl.extBut sb.extBut hlt;show wpAny _ A.in1 (updateSeq S (fun _=>#[Value.int n t,Value.int n t]) >>= _) _ _ { s with heap:=h' };refine aB2 (wpAny_updateSeq hS' rfl ?_);rw[nm];obtain⟨c',e1⟩:∃ c',(h'.update S (Obj.mapSeq fun _=>#[Value.int n t,Value.int n t])).get? S=some (two n t c'):=⟨_,aBm _ hS' rfl⟩;refine aB3 ⟨plainId_quiet PySem.F.plain_max_loop _,T5 hh (.cons n t r) hlt hiS hlS _ 1 { s with heap:=h'.update S (Obj.mapSeq fun _=>#[Value.int n t,Value.int n t]) } n t _ rfl (by simp) (st'.at fun o e=>(aB9 _ _ (Ne.symm hiS)).trans e) (hl'.at fun o e=>(aB9 _ _ (Ne.symm hlS)).trans e) e1 fun h'' tk t' kp=>?_⟩;exact hR h'' tk (.int (ns'.foldl max n)) _ (fun x o h1 h2 e=>kp x o h1 h2 ((aB9 _ _ (Ne.symm h2)).trans (sb.extBut x o h1 e))) ⟨t',rfl⟩ rfl)
theorem J5 {E:Value->Shared->Prop} {s:Shared} {Q:Value->Shared->Prop} (hh:A.handled=none) (hI:IntsAre its ns) (hne:ns≠[]) (hl:s.heap.IsList l its.toArray)
 (h:∀ h' tk u,(∀ x o,s.heap.get? x=some o->h'.get? x=some o)->RelV (mxD ns .non) u->Q u { s with heap:=h',toks:=tk }):wpAny (model prog w) A (call (.builtin "max") [.ref l]) Q E s:=by
 have nm:(toString "max"++toString ".loop":String)="max.loop":=by decide
 refine kmk_tree PySem.F.kind_max PySem.F.plain_max PySem.F.entry_max (tG _) (by
  show wpAny _ A.in1 (Builtin.Builtins.bindParams "max" ["key","default"] 0 ⟨[],[]⟩ >>= _) _ _ s;refine aB2 (wpAny_of_eq (show Builtin.Builtins.bindParams "max" ["key","default"] 0 ⟨[],[]⟩=pure [none,none] from rfl) (aB2 (aB3 ?_)));refine aB2 (wpAny_pyIter_list hl ?_);refine aB2 (wpAny_newObj_type ?_);rw[nm];have hlt:l<s.heap.objs.size:=by obtain⟨_,e,_⟩:=hl;exact aBa e
  refine aB3 ⟨plainId_quiet PySem.F.plain_max_loop _,J4 (l:=l) (it:=s.heap.objs.size) (its:=its) hh hI hne (aBr hlt) (by rw[Heap.size_push];exact aBr (Nat.lt_succ_self _)) (by rw[Heap.size_push];exact aBr (Nat.lt_succ_of_lt hlt)) ⟨_,aB5 _ (aBb _ rfl),rfl,rfl⟩ ((hl.push _).push _) (aBb _ rfl) fun h' tk v u kp rv ev=>?_⟩;subst ev;refine h h' tk u (fun x o e=>?_) rv;have hx:=aBa e;exact kp x o (aBr hx) (by rw[Heap.size_push];exact aBr (Nat.lt_succ_of_lt hx)) (aB5 _ (aB5 _ e)))
theorem T6 (hh:A.handled=none) (hI:IntsAre its ns) (hlt:l≠it) (hiS:it≠S) (hlS:l≠S) :
 ∀ (k i:Nat) (s:Shared) (b:Int) (t:Tok) (c:Nat),ns.length - i=k->i<=ns.length->s.heap.IsListIter it l i->s.heap.IsList l its.toArray->s.heap.get? S=some (two b t c) ->
  (∀ h' tk t',(∀ x o,x≠it->x≠S->s.heap.get? x=some o->h'.get? x=some o)->R (.ok (.ret (.int ((ns.drop i).foldl min b) t'))) { s with heap:=h',toks:=tk }) ->
  codeAny (model prog w) A (.builtin "min.loop" ⟨[.ref it,.none,.ref S],[]⟩) R s:=by
 have nm:(toString "min"++toString ".loop":String)="min.loop":=by decide
 intro k
 induction k with
 | zero =>
  intro i s b t c hk hi st hl hS hR;have e:i=ns.length:=by omega
  refine codeAny_builtin PySem.F.entry_min_loop (by
   rw[aBg PySem.F.plain_min_loop _];show wpAny _ A.in1 (seqItems? (Value.ref S) >>= _) _ _ s;refine aB2 (wpAny_seqItems hS rfl ?_);show wpAny _ A.in1 (tryCatch (pyNext (Value.ref it)) _ >>= _) _ _ s;refine aB2 (wpAny_tryCatch (wpAny_pyNext_list_end hh st hl (by have:=hI.length;simp;omega) fun h' eb=>?_));have hS':=eb S _ (Ne.symm hiS) hS;show wpAny _ A.in1 (updateSeq S (fun _=>#[]) >>= _) _ _ { s with heap:=h' };refine aB2 (wpAny_updateSeq hS' rfl (aB2 (wpAny_letGo (aB3 ?_))));have q:=hR (h'.update S (Obj.mapSeq fun _=>#[])) s.toks t (fun x o h1 h2 e=>(aB9 _ _ (Ne.symm h2)).trans (eb x o h1 e));rw[e,List.drop_length]at q;exact q)
 | succ k ih =>
  intro i s b t c hk hi st hl hS hR;have hi':i<ns.length:=by omega
  obtain⟨u,hu⟩:=kP (i:=i) (n:=ns[i]) hI (by simp[hi']);have hdr:ns.drop i=ns[i] :: ns.drop (i+1):=List.drop_eq_getElem_cons hi';refine codeAny_builtin PySem.F.entry_min_loop (by
   rw[aBg PySem.F.plain_min_loop _];show wpAny _ A.in1 (seqItems? (Value.ref S) >>= _) _ _ s;refine aB2 (wpAny_seqItems hS rfl ?_);show wpAny _ A.in1 (tryCatch (pyNext (Value.ref it)) _ >>= _) _ _ s;refine aB2 (wpAny_tryCatch (wpAny_pyNext_list_item st hl (x:=.int ns[i] u) (by simpa using hu) fun h' st' sb=>?_));have hS':=sb.extBut S _ (Ne.symm hiS) hS;have hl':=hl.extBut sb.extBut hlt;show wpAny _ A.in1 (tryCatch (holding [.int ns[i] u,.int ns[i] u] (richCompare .Lt (.int ns[i] u) (.int b t) >>= _)) _ >>= _) _ _ { s with heap:=h' };refine aB2 (wpAny_tryCatch (wpAny_holding (aB2 (lt_int (s:={ s with heap:=h' }) ?_))));refine aB2 (wpAny_holding (wpAny_truthy_bool (aB2 (wpAny_letGo (aB3 ?_)))))
   by_cases hb:ns[i]<b
   ·have hd:decide (ns[i]<b)=true:=aBq hb;simp only[hd,if_true];refine aB2 (wpAny_updateSeq hS' rfl (aB2 (wpAny_letGo ?_)));rw[nm];obtain⟨c',e1⟩:∃ c',(h'.update S (Obj.mapSeq fun _=>#[Value.int ns[i] u,Value.int ns[i] u])).get? S=some (two ns[i] u c'):=⟨_,aBm _ hS' rfl⟩;refine aB3 ⟨plainId_quiet PySem.F.plain_min_loop _,ih (i+1) { s with heap:=h'.update S (Obj.mapSeq fun _=>#[Value.int ns[i] u,Value.int ns[i] u]) } ns[i] u _ (by omega) hi' (st'.at fun o e=>(aB9 _ _ (Ne.symm hiS)).trans e) (hl'.at fun o e=>(aB9 _ _ (Ne.symm hlS)).trans e) e1 fun h'' tk t' kp=>?_⟩;have q:=hR h'' tk t' (fun x o h1 h2 e=>kp x o h1 h2 ((aB9 _ _ (Ne.symm h2)).trans (sb.extBut x o h1 e)));rw[hdr,aBv,show min b ns[i]=ns[i]by omega]at q;exact q
   ·have hd:decide (ns[i]<b)=false:=aBp hb;simp only[hd,Bool.false_eq_true,if_false];refine aB2 (wpAny_letGo ?_);rw[nm];refine aB3 ⟨plainId_quiet PySem.F.plain_min_loop _,ih (i+1) { s with heap:=h' } b t c (by omega) hi' st' hl' hS' fun h'' tk t' kp=>?_⟩;have q:=hR h'' tk t' (fun x o h1 h2 e=>kp x o h1 h2 (sb.extBut x o h1 e));rw[hdr,aBv,show min b ns[i]=b by omega]at q;exact q)
theorem J6 (hh:A.handled=none) (hI:IntsAre its ns) (hne:ns≠[]) (hlt:l≠it) (hiS:it≠S) (hlS:l≠S) {s:Shared} {c:Nat} (st:s.heap.IsListIter it l 0) (hl:s.heap.IsList l its.toArray)
 (hS:s.heap.get? S=some { cls:=.type "list",dict:=none,data:=.seq #[] c,slots:=#[] })
 (hR:∀ h' tk v u,(∀ x o,x≠it->x≠S->s.heap.get? x=some o->h'.get? x=some o)->RelV v u->(v=match ns with | []=>.non | n :: r=>.int (r.foldl min n))->R (.ok (.ret u)) { s with heap:=h',toks:=tk }) :
 codeAny (model prog w) A (.builtin "min.loop" ⟨[.ref it,.none,.ref S],[]⟩) R s:=by
 have nm:(toString "min"++toString ".loop":String)="min.loop":=by decide
 cases hI with
 | nil=>exact absurd rfl hne
 | @cons n t its' ns' r =>
  refine codeAny_builtin PySem.F.entry_min_loop (by
   rw[aBg PySem.F.plain_min_loop _];show wpAny _ A.in1 (seqItems? (Value.ref S) >>= _) _ _ s;refine aB2 (wpAny_seqItems hS rfl ?_);show wpAny _ A.in1 (tryCatch (pyNext (Value.ref it)) _ >>= _) _ _ s;refine aB2 (wpAny_tryCatch (wpAny_pyNext_list_item st hl (x:=.int n t) (by simp) fun h' st' sb=>?_));have hS':=sb.extBut S _ (Ne.symm hiS) hS;have hl':=hl.extBut sb.extBut hlt;show wpAny _ A.in1 (updateSeq S (fun _=>#[Value.int n t,Value.int n t]) >>= _) _ _ { s with heap:=h' };refine aB2 (wpAny_updateSeq hS' rfl ?_);rw[nm];obtain⟨c',e1⟩:∃ c',(h'.update S (Obj.mapSeq fun _=>#[Value.int n t,Value.int n t])).get? S=some (two n t c'):=⟨_,aBm _ hS' rfl⟩;refine aB3 ⟨plainId_quiet PySem.F.plain_min_loop _,T6 hh (.cons n t r) hlt hiS hlS _ 1 { s with heap:=h'.update S (Obj.mapSeq fun _=>#[Value.int n t,Value.int n t]) } n t _ rfl (by simp) (st'.at fun o e=>(aB9 _ _ (Ne.symm hiS)).trans e) (hl'.at fun o e=>(aB9 _ _ (Ne.symm hlS)).trans e) e1 fun h'' tk t' kp=>?_⟩;exact hR h'' tk (.int (ns'.foldl min n)) _ (fun x o h1 h2 e=>kp x o h1 h2 ((aB9 _ _ (Ne.symm h2)).trans (sb.extBut x o h1 e))) ⟨t',rfl⟩ rfl)
theorem J7 (a:Value):argsOk "min" ⟨[a],[]⟩:=by unfold argsOk;kernel_rfl
theorem J8 {E:Value->Shared->Prop} {s:Shared} {Q:Value->Shared->Prop} (hh:A.handled=none) (hI:IntsAre its ns) (hne:ns≠[]) (hl:s.heap.IsList l its.toArray)
 (h:∀ h' tk u,(∀ x o,s.heap.get? x=some o->h'.get? x=some o)->RelV (mnD ns .non) u->Q u { s with heap:=h',toks:=tk }):wpAny (model prog w) A (call (.builtin "min") [.ref l]) Q E s:=by
 have nm:(toString "min"++toString ".loop":String)="min.loop":=by decide
 refine kmk_tree PySem.F.kind_min PySem.F.plain_min PySem.F.entry_min (J7 _) (by
  show wpAny _ A.in1 (Builtin.Builtins.bindParams "min" ["key","default"] 0 ⟨[],[]⟩ >>= _) _ _ s;refine aB2 (wpAny_of_eq (show Builtin.Builtins.bindParams "min" ["key","default"] 0 ⟨[],[]⟩=pure [none,none] from rfl) (aB2 (aB3 ?_)));refine aB2 (wpAny_pyIter_list hl ?_);refine aB2 (wpAny_newObj_type ?_);rw[nm];have hlt:l<s.heap.objs.size:=by obtain⟨_,e,_⟩:=hl;exact aBa e
  refine aB3 ⟨plainId_quiet PySem.F.plain_min_loop _,J6 (l:=l) (it:=s.heap.objs.size) (its:=its) hh hI hne (aBr hlt) (by rw[Heap.size_push];exact aBr (Nat.lt_succ_self _)) (by rw[Heap.size_push];exact aBr (Nat.lt_succ_of_lt hlt)) ⟨_,aB5 _ (aBb _ rfl),rfl,rfl⟩ ((hl.push _).push _) (aBb _ rfl) fun h' tk v u kp rv ev=>?_⟩;subst ev;refine h h' tk u (fun x o e=>?_) rv;have hx:=aBa e;exact kp x o (aBr hx) (by rw[Heap.size_push];exact aBr (Nat.lt_succ_of_lt hx)) (aB5 _ (aB5 _ e)))
end
section
variable {X:Cx}
theorem J9 (hc:X.calm=true):fW X (.builtin "max") (fun xs H Q=>∃ (a:Addr) (ns:List Int),xs=[.ref a]/\H a=some (.lst (ns.map V.int))/\ns≠[]/\Q (mxD ns .non) H):=by
 intro pins s σ H xs us Q I r h;obtain⟨a,ns,rfl,ha,hne,q⟩:=h;obtain⟨u,rfl,rx⟩:=iU r;cases rx;obtain⟨its,rv,pl,hz⟩:=I.list (SqL.of ha);exact J5 (I.ok.hd hc) (kS rv) hne pl.isList fun h' tk u kp ru=>⟨_,H,I.kept kp,ru,q⟩
theorem K0 (hc:X.calm=true):fW X (.builtin "min") (fun xs H Q=>∃ (a:Addr) (ns:List Int),xs=[.ref a]/\H a=some (.lst (ns.map V.int))/\ns≠[]/\Q (mnD ns .non) H):=by
 intro pins s σ H xs us Q I r h;obtain⟨a,ns,rfl,ha,hne,q⟩:=h;obtain⟨u,rfl,rx⟩:=iU r;cases rx;obtain⟨its,rv,pl,hz⟩:=I.list (SqL.of ha);exact J8 (I.ok.hd hc) (kS rv) hne pl.isList fun h' tk u kp ru=>⟨_,H,I.kept kp,ru,q⟩
end
end L2
namespace CW
open PySem L2
theorem Lst.le {r:List Int} {ps:Trs} (h:Lst r ps) {n:Int} (b:Bd ps n):∀ x∈r,x<=n:=by
 cases h with
 | nil=>intro x hx;cases hx
 | snoc a hlt c =>
  rename_i r ps0 p
  have bd:=a.bd (n:=p - 1) fun x hx=>by have:=hlt x hx;omega
  obtain⟨s,rest,h0,h1,_⟩:=c.tak bd;have:=(b _ (h1.mem_iff.mpr aB6)).2;simp only at this;intro x hx;rcases aCH.mp hx with hx | hx
  ·have:=hlt x hx;omega
  ·have:x=p:=by simpa using hx
   omega
theorem Lst.rowp {r:List Int} {ps:Trs} (h:Lst r ps):Row r:=by
 induction h with
 | nil=>exact List.Pairwise.nil
 | snoc a b c ih=>exact qL ih b
theorem rA {ps qs ps0:Trs} {p:Int} {done:List Int} (t:Tak ps p qs) (hp:∀ q∈ps,1<=q.1) (fin:∀ r,Lst r ps->Lst (r++done) ps0):∀ r,Lst r qs->Lst (r++p :: done) ps0:=fun r hr=>by
 obtain⟨b,a⟩:=t.add hp;have:=fin (r++[p]) (.snoc hr (fun x hx=>by have:=hr.le b x hx;omega) a);rw[List.append_assoc]at this;exact this
theorem Tak.pos {ps qs:Trs} {p:Int} (h:Tak ps p qs) (hp:∀ q∈ps,1<=q.1):∀ q∈qs,1<=q.1:=fun q hq=>((h.add hp).1 q hq).1
theorem Tak.sizx {ps qs:Trs} {p:Int} (h:Tak ps p qs) (hp:∀ q∈ps,1<=q.1):siz ps=siz qs+1:=(h.add hp).2.sizx
theorem B5 {ps:Trs} (h:∀ q∈ps,1<=q.1):(ps.length:Int)<=siz ps:=dL h
theorem zB {ms row:List Int} (hp:ms.Perm row) (hs:ms.Pairwise (·<=·)) (hr:Row row.reverse):ms=row.reverse :=
 List.Perm.eq_of_pairwise (le:=fun a b:Int=>a<=b) (fun x y _ _ h1 h2=>by omega) hs (hr.imp fun {x y} q=>by omega) (hp.trans (List.reverse_perm _).symm)
theorem lA:∀ (r:List Int) (n:Int),(r.foldl min n=n\/r.foldl min n∈r)/\r.foldl min n<=n/\∀ x∈r,r.foldl min n<=x
 | [],n=>⟨.inl rfl,Int.le_refl _,fun x hx=>(nomatch hx)⟩
 | a :: r,n=>by
  obtain⟨h1,h2,h3⟩:=lA r (min n a);rw[aBv];refine⟨?_,by omega,fun x hx=>?_⟩
  ·rcases h1 with h1 | h1
   ·rcases Int.le_total n a with c | c
    ·left;rw[h1];omega
    ·right;rw[h1];rw[show min n a=a by omega];exact aB6
   ·exact .inr (aB7 _ h1)
  ·rcases aCG.mp hx with rfl | hx
   ·omega
   ·exact h3 x hx
theorem T7 {ns:List Int} (h:ns≠[]):∃ m:Int,mxD ns .non=.int m/\m∈ns/\∀ x∈ns,x<=m:=by
 cases ns with
 | nil=>exact absurd rfl h
 | cons n r =>
  obtain⟨a1,a2,a3⟩:=dP r n;refine⟨_,rfl,?_,fun x hx=>?_⟩
  ·rcases a1 with h | h
   ·rw[h];exact aB6
   ·exact aB7 _ h
  ·rcases aCG.mp hx with rfl | hx
   ·exact a2
   ·exact a3 x hx
theorem T8 {ns:List Int} (h:ns≠[]):∃ m:Int,mnD ns .non=.int m/\m∈ns/\∀ x∈ns,m<=x:=by
 cases ns with
 | nil=>exact absurd rfl h
 | cons n r =>
  obtain⟨a1,a2,a3⟩:=lA r n;refine⟨_,rfl,?_,fun x hx=>?_⟩
  ·rcases a1 with h | h
   ·rw[h];exact aB6
   ·exact aB7 _ h
  ·rcases aCG.mp hx with rfl | hx
   ·exact a2
   ·exact a3 x hx
theorem xO {ps ps2:Trs} {p s:Int} (hpos:∀ q∈ps,1<=q.1) (hm:(s,p - 2 * les ps s)∈ps) (hp:∀ q∈ps,q.2+2 * les ps q.1<=p) (hs:∀ q∈ps,q.2+2 * les ps q.1=p->s<=q.1)
 (h2:s=1/\ps2=ps.erase (s,p - 2 * les ps s)\/2<=s/\ps2=ps.erase (s,p - 2 * les ps s)++[(s - 1,p - 1 - 2 * les (ps.erase (s,p - 2 * les ps s)++[(s - 1,0)]) (s - 1))]):Tak ps p ps2:=by
 refine⟨s,ps.erase (s,p - 2 * les ps s),hpos _ hm,List.perm_cons_erase hm,hp,fun q hq hl=>?_,?_⟩
 ·have h1:=hp q hq;have h2:=hs q hq;rcases Int.lt_or_eq_of_le h1 with c | c
  ·exact c
  ·have:=h2 c;omega
 ·rcases h2 with ⟨a,rfl⟩ | ⟨a,rfl⟩
  ·exact .inl ⟨a,.refl _⟩
  ·refine .inr ⟨a,?_⟩;have:p - 1 - 2 * les (ps.erase (s,p - 2 * les ps s)++[(s - 1,0)]) (s - 1)=p - 1 - 2 * les (ps.erase (s,p - 2 * les ps s)) (s - 1) - 2 * (s - 1):=by
    rw[qU,aZ,A9];simp only;omega
   rw[this];exact List.perm_append_comm
theorem zC {gs:List Grp} (gd:GoodG gs) {qs:List (Int×Int)} {j:Nat} {p:Int×Int} (ht:Top qs qs.length j) (hj:qs[j]?=some p) (h1:∀ q∈qs,∃ g∈gs,∃ hne:g.2.2≠[],q=(g.2.2.getLast hne+2 * les (bJ gs) g.1,-g.1))
 (h2:∀ g∈gs,∀ hne:g.2.2≠[],(g.2.2.getLast hne+2 * les (bJ gs) g.1,-g.1)∈qs) :
 ∃ g∈gs,∃ hne:g.2.2≠[],p.2=-g.1/\g.2.2.getLast hne+2 * les (bJ gs) g.1=p.1/\∀ x∈gs,∀ hx:x.2.2≠[],x.2.2.getLast hx+2 * les (bJ gs) x.1<=p.1/\(x.1<g.1->x.2.2.getLast hx+2 * les (bJ gs) x.1<p.1):=by
 obtain⟨g,hg,hne,e⟩:=h1 p (aBf hj);refine⟨g,hg,hne,by rw[e],by rw[e],fun x hx hnx=>?_⟩;obtain⟨k,hk,hkx⟩:=List.mem_iff_getElem.mp (h2 x hx hnx);have h3:=ht.2 k hk;have e1:qs.getD j (0,0)=p:=by rw[List.getD_eq_getElem?_getD,hj];rfl
 have e2:qs.getD k (0,0)=(x.2.2.getLast hnx+2 * les (bJ gs) x.1,-x.1):=by rw[List.getD_eq_getElem?_getD,aBe hk,hkx];rfl
 rw[e1,e2,gQ]at h3;simp only at h3;rw[e]at h3 ⊢;simp only at h3 ⊢;omega
section
variable {P:Program} {w:World} {K:PySem.W.Frag} {mg:Str->Option Value} {base:Heap}
inductive lX (vs:List V) (H:Hp) (Q:VK) (E_:XK):Prop
 | mk (a:Addr) (ps:List (Int×Int)) (h0_:vs=[.ref a]) (h1_:LP H a ps) (h2_:ps.length<=60) (h3_:∀ (d:Addr) (gs:List Grp) (H':Hp),H d=none->Same H H'->DG H' d gs->(bJ gs).Perm ps->Asc gs->(∀ g∈gs,g.2.2≠[]/\H g.2.1=none)->Q (.ref d) H'):lX vs H Q E_
inductive aAK (H0:Hp) (ps:Trs) (a d r:Addr) (m:Nat) (σ:St) (Hx:Hp):Prop
 | mk (gs:List Grp) (row:List Int) (v3 v4 v5 v6:Option V) (h0_:σ=[some (.ref a),some (.ref d),some (.ref r),v3,v4,v5,v6]) (h1_:Same H0 Hx) (h2_:DG Hx d gs) (h3_:GoodG gs) (h4_:Asc gs) (h5_:Hx r=some (.lst (row.map V.int))) (h6_:(∀ g∈gs,H0 g.2.1=none/\g.2.1≠r)) (h7_:sto gs=(m:Int)) (h8_:m+row.length<=60) (h9_:∀ r',Lst r' (bJ gs)->Lst (r'++row.reverse) ps):aAK H0 ps a d r m σ Hx
inductive lB (vs:List V) (H:Hp) (Q:VK) (E_:XK):Prop
 | mk (a:Addr) (ps:List (Int×Int)) (h0_:vs=[.ref a]) (h1_:LP H a ps) (h2_:Trn ps) (h3_:∀ r:List Int,Lst r ps->mY H Q r):lB vs H Q E_
inductive nL (vs:List V) (H:Hp) (Q:VK) (E_:XK):Prop
 | mk (a:Addr) (ps:List (Int×Int)) (h0_:vs=[.ref a]) (h1_:LP H a ps) (h2_:Trn ps) (h3_:∀ r:List Int,Lst r ps->mY H Q r):nL vs H Q E_
end
theorem rB {ps qs:Trs} (h:Trn ps) (e:qs.Perm ps):Trn qs:=⟨fun p hp=>h.pos p (e.mem_iff.mp hp),by have:=kZ e;have:=h.few;unfold siz szs at *;omega⟩
def iX (s:Int) (q:Int×Int):Int:=q.2 * (if s<q.1 then s else q.1)
def B6 (ws:List (Int×Int)) (s:Int):Int:=(ws.map (iX s)).sum
def dA (ps ws:List (Int×Int)):List (Int×Int):=ps.map fun p=>(p.1,p.2+B6 ws p.1)
def Crl (ws:List (Int×Int)):Prop:=∀ q∈ws,1<=q.1
inductive nM (vs:List V) (H:Hp) (Q:VK) (E_:XK):Prop
 | mk (a:Addr) (ws:List (Int×Int)) (h0_:vs=[.ref a]) (h1_:LP H a ws) (h2_:Crl ws) (h3_:Q .non H):nM vs H Q E_
inductive vC (vs:List V) (H:Hp) (Q:VK) (E_:XK):Prop
 | mk (a:Addr) (ws:List (Int×Int)) (s:Int) (h0_:vs=[.ref a,.int s]) (h1_:LP H a ws) (h2_:ws.length<=200) (h3_:Crl ws) (h4_:0<=s) (h5_:s<=1000) (h6_:∀ H',Same H H'->Q (.int (B6 ws s)) H'):vC vs H Q E_
inductive pS (vs:List V) (H:Hp) (Q:VK) (E_:XK):Prop
 | mk (a b:Addr) (ps ws:List (Int×Int)) (h0_:vs=[.ref a,.ref b]) (h1_:LP H a ps) (h2_:Trn ps) (h3_:LP H b ws) (h4_:ws.length<=200) (h5_:Crl ws) (h6_:∀ qs:List (Int×Int),qs.Perm (dA ps ws)->qs.Pairwise ple->wM H Q qs):pS vs H Q E_
inductive vD (vs:List V) (H:Hp) (Q:VK) (E_:XK):Prop
 | mk (a b:Addr) (ps ws:List (Int×Int)) (h0_:vs=[.ref a,.ref b]) (h1_:LP H a ps) (h2_:Trn ps) (h3_:LP H b ws) (h4_:ws.length<=200) (h5_:Crl ws) (h6_:∀ qs:List (Int×Int),qs.Perm (dA ps ws)->qs.Pairwise ple->wM H Q qs):vD vs H Q E_
theorem T9 {ps:List (Int×Int)} (h:Trn ps) {p:Int×Int} (hp:p∈ps):p.1<=60:=by
 have:=h.few;have:∀ {l:List (Int×Int)},(∀ q∈l,1<=q.1)->p∈l->p.1<=(szs l).sum:=by
  intro l
  induction l with
  | nil=>intro _ z;cases z
  | cons x r ih =>
   intro hpos hm;simp only[szs,aBt,aBw];have hx:=hpos x aB6;have hr:=dL (ps:=r) fun q hq=>hpos q (aB7 _ hq);rcases aCG.mp hm with rfl | hm
   ·simp only[szs]at hr;omega
   ·have:=ih (fun q hq=>hpos q (aB7 _ hq)) hm;simp only[szs]at this;omega
 have:=this h.pos hp;omega
end CW
namespace CW
def tr (s o:Int) (rest:Trs):Trs:=if s=0 then rest else (s,o) :: rest
theorem jZ {s o:Int} {rest:Trs} {j:Int} (hs:0<=s) (hj:0<=j):les (tr s o rest) j=min j s+les rest j:=by
 unfold tr;split
 ·omega
 ·rw[aZ]
theorem rC {s o:Int} {rest:Trs} {q:Int×Int} (h:q∈tr s o rest):q=(s,o)/\s≠0\/q∈rest:=by
 unfold tr at h;split at h
 ·exact .inr h
 ·rcases aCG.mp h with h | h
  ·exact .inl ⟨h,by assumption⟩
  ·exact .inr h
theorem vE {s o:Int} {rest:Trs} {q:Int×Int} (h:q∈rest):q∈tr s o rest:=by
 unfold tr;split
 ·exact h
 ·exact aB7 _ h
theorem d7 {s o:Int} {a b:Trs} (h:a.Perm b):(tr s o a).Perm (tr s o b):=by
 unfold tr;split
 ·exact h
 ·exact h.cons _
theorem vF {ps qs:Trs} {p s:Int} {rest:Trs} (h0:0<=s) (h1:ps.Perm (tr s (p - 1 - 2 * les ps s) rest)) (h2:∀ q∈ps,s<q.1->q.2+2 * les ps q.1≠p - 1) (h3:qs.Perm ((s+1,p - 2 * les rest (s+1) - 2 * (s+1)) :: rest)):Add ps p qs:=by
 refine⟨s,rest,h0,?_,h2,h3⟩;unfold tr at h1;split at h1
 ·exact .inl ⟨by assumption,h1⟩
 ·exact .inr ⟨by omega,h1⟩
theorem Add.tr' {ps qs:Trs} {p:Int} (h:Add ps p qs):∃ (s:Int) (rest:Trs),0<=s/\ps.Perm (tr s (p - 1 - 2 * les ps s) rest)/\(∀ q∈ps,s<q.1->q.2+2 * les ps q.1≠p - 1)/\qs.Perm ((s+1,p - 2 * les rest (s+1) - 2 * (s+1)) :: rest):=by
 obtain⟨s,rest,h0,h1,h2,h3⟩:=h;refine⟨s,rest,h0,?_,h2,h3⟩;unfold tr;rcases h1 with ⟨a,b⟩ | ⟨a,b⟩
 ·rw[if_pos a];exact b
 ·rw[if_neg (by omega)];exact b
theorem Tak.tr' {ps qs:Trs} {p:Int} (h:Tak ps p qs):∃ (s:Int) (rest:Trs),1<=s/\ps.Perm ((s,p - 2 * les ps s) :: rest)/\(∀ q∈ps,q.2+2 * les ps q.1<=p)/\(∀ q∈ps,q.1<s->q.2+2 * les ps q.1<p)/\qs.Perm (tr (s - 1) (p - 1 - 2 * les rest (s - 1) - 2 * (s - 1)) rest):=by
 obtain⟨s,rest,h0,h1,h2,h3,h4⟩:=h;refine⟨s,rest,h0,h1,h2,h3,?_⟩;unfold tr;rcases h4 with ⟨a,b⟩ | ⟨a,b⟩
 ·rw[if_pos (by omega)];exact b
 ·rw[if_neg (by omega)];exact b
def rnn (p:Int) (k:Nat):List Int:=(List.range k).map fun(j:Nat)=>p+(j:Int)
theorem xP (p:Int) (k:Nat):rnn p (k+1)=rnn p k++[p+(k:Int)]:=by unfold rnn;rw[List.range_succ,aBj];rfl
theorem U0 (p:Int):rnn p 0=[]:=rfl
theorem iY {p:Int} {k:Nat} {x:Int} (h:x∈rnn p k):p<=x/\x<=p+(k:Int) - 1:=by
 unfold rnn at h;obtain⟨j,hj,rfl⟩:=aCI.mp h;have:=List.mem_range.mp hj;omega
theorem vG {fs:List Int} {p:Int} {k:Nat} (hf:∀ x∈fs,x<p):∀ x∈fs++rnn p k,x<=p+(k:Int) - 1:=fun x hx=>by
 rcases aCH.mp hx with h | h
 ·have:=hf x h;omega
 ·have:=iY h;omega
theorem vH {fs:List Int} {p:Int} {k:Nat} {Y:Trs} (h:Lst (fs++rnn p (k+1)) Y):∃ Y',Lst (fs++rnn p k) Y'/\Tak Y (p+(k:Int)) Y':=by
 rw[xP,<- List.append_assoc]at h;obtain⟨Y',h1,h2,h3⟩:=h.inv;exact⟨Y',h1,h3.tak (h1.bd fun x hx=>by have:=h2 x hx;omega)⟩
theorem vI {fs:List Int} {p:Int} {k:Nat} {X X':Trs} (hf:∀ x∈fs,x<p) (h:Lst (fs++rnn p k) X') (a:Add X' (p+(k:Int)) X):Lst (fs++rnn p (k+1)) X:=by
 rw[xP,<- List.append_assoc];exact .snoc h (fun x hx=>by have:=vG hf x hx;omega) a
theorem aAL {fs:List Int} {p:Int} (hf:∀ x∈fs,x<p):∀ (k:Nat) (Y rest X:Trs),Lst (fs++rnn p k) Y->(∀ q∈Y,q.1<=(k:Int)->q.2+2 * les Y q.1<=p - 1+q.1) ->
 Y.Perm (tr (k:Int) (p - 1+(k:Int) - 2 * les Y (k:Int)) rest)->X.Perm (tr (k:Int) (p+(k:Int) - 2 * les Y (k:Int)) rest)->Lst (fs++rnn (p+1) k) X:=by
 intro k
 induction k with
 | zero =>
  intro Y rest X hY hC hp hx;have e:∀ o,tr ((0:Nat):Int) o rest=rest:=fun o=>rfl;rw[e]at hp hx;exact hY.perm (hp.trans hx.symm)
 | succ k ih =>
  intro Y rest X hY hC hp hx;obtain⟨Y',hY',hT⟩:=vH hY;obtain⟨t,rT,ht1,hTp,hTm,hTs,hT'⟩:=hT.tr';have hk0:((k+1:Nat):Int)≠0:=by omega
  have hmem:(((k+1:Nat):Int),p - 1+((k+1:Nat):Int) - 2 * les Y ((k+1:Nat):Int))∈Y:=hp.mem_iff.mpr (by unfold tr;rw[if_neg hk0];exact aB6);have htm:(t,p+(k:Int) - 2 * les Y t)∈Y:=hTp.mem_iff.mpr aB6;have a1:=hTs _ hmem;have a2:=hC _ htm;simp only at a1 a2;have htk:t=((k+1:Nat):Int):=by
   rcases Int.lt_trichotomy t ((k+1:Nat):Int)with c | c | c
   ·have:=a2 (by omega);omega
   ·exact c
   ·have:=a1 c;omega
  subst htk;have hrr:rT.Perm rest:=by
   have h5:=hTp.symm.trans hp;unfold tr at h5;rw[if_neg hk0,show p - 1+((k+1:Nat):Int) - 2 * les Y ((k+1:Nat):Int)=p+(k:Int) - 2 * les Y ((k+1:Nat):Int)by omega]at h5;exact List.Perm.cons_inv h5
  have e1:((k+1:Nat):Int) - 1=(k:Int):=by omega
  rw[e1]at hT';have hlY:∀ j,0<=j->les Y j=min j ((k+1:Nat):Int)+les rest j:=fun j hj=>by
   rw[aS hTp,aZ,aS hrr]
  have hlY':∀ j,0<=j->les Y' j=min j (k:Int)+les rest j:=fun j hj=>by
   rw[aS hT',jZ (by omega) hj,aS hrr]
  have hbd:=hY.bd (vG hf);have hpos:=hY.pos;have hrY:∀ q∈rest,q∈Y:=fun q hq=>hp.mem_iff.mpr (vE hq);have hX':=ih Y' rest (tr (k:Int) (p+(k:Int) - 2 * les Y' (k:Int)) rest) hY' (fun q hq hle=>by
   rcases rC (hT'.mem_iff.mp hq)with ⟨e,hne⟩ | h
   ·rw[e];simp only;have h6:=hlY' (k:Int) (by omega);have h7:=aS hrr (k:Int);omega
   ·have hq':=hrY q (hrr.mem_iff.mp h);have h5:=hC q hq' (by omega);have h6:=hpos q hq';have h7:=hlY q.1 (by omega);have h8:=hlY' q.1 (by omega);omega) (hT'.trans (by
     have h6:=hlY' (k:Int) (by omega);have h7:=aS hrr (k:Int);rw[show p+(k:Int) - 1 - 2 * les rT (k:Int) - 2 * (k:Int)=p - 1+(k:Int) - 2 * les Y' (k:Int)by omega];exact d7 hrr)) (.refl _)
  refine vI (fun x hx=>by have:=hf x hx;omega) hX' (vF (s:=(k:Int)) (rest:=rest) (by omega) ?_ ?_ ?_)
  ·have hlX:les (tr (k:Int) (p+(k:Int) - 2 * les Y' (k:Int)) rest) (k:Int)=les Y' (k:Int):=by rw[jZ (by omega) (by omega),hlY' _ (by omega)]
   rw[hlX,show p+1+(k:Int) - 1 - 2 * les Y' (k:Int)=p+(k:Int) - 2 * les Y' (k:Int)by omega]
  ·intro q hq hgt;rcases rC hq with ⟨e,hne⟩ | h
   ·rw[e]at hgt;exact absurd hgt (by simp)
   ·have hq':=hrY q h;have h5:=(hbd q hq').2;have h6:=hpos q hq';have h7:=hlY q.1 (by omega);rw[jZ (by omega) (by omega)];omega
  ·have h8:=hlY ((k+1:Nat):Int) (by omega);have e3:(k:Int)+1=((k+1:Nat):Int):=by omega
   refine hx.trans ?_;unfold tr;rw[if_neg hk0,e3];rw[show p+((k+1:Nat):Int) - 2 * les Y ((k+1:Nat):Int)=p+1+(k:Int) - 2 * les rest ((k+1:Nat):Int) - 2 * ((k+1:Nat):Int)by omega]
theorem aAM {fs:List Int} {p:Int} (hf:∀ x∈fs,x<p) (s:Nat):∀ (d:Nat) (Y rest X:Trs),Lst (fs++rnn p (s+d)) Y->(∀ q∈Y,(q.1<=(s:Int)->q.2+2 * les Y q.1<=p - 1+q.1)/\((s:Int)<q.1->q.2+2 * les Y q.1<=p - 1+q.1 - 1)) ->
 Y.Perm (tr (s:Int) (p - 1+(s:Int) - 2 * les Y (s:Int)) rest)->X.Perm (((s:Int)+1,p+1+(s:Int) - 2 * les rest ((s:Int)+1) - 2 * ((s:Int)+1)) :: rest)->Lst (fs++rnn (p+1) (s+d+1)) X:=by
 intro d
 induction d with
 | zero =>
  intro Y rest X hY hC hp hx;rw[Nat.add_zero]at hY ⊢;have hlY:∀ j,0<=j->les Y j=min j (s:Int)+les rest j:=fun j hj=>by rw[aS hp,jZ (by omega) hj]
  have hX':=aAL hf s Y rest (tr (s:Int) (p+(s:Int) - 2 * les Y (s:Int)) rest) hY (fun q hq hle=>(hC q hq).1 hle) hp (.refl _);have hbd:=hY.bd (vG hf);refine vI (fun x hx=>by have:=hf x hx;omega) hX' (vF (s:=(s:Int)) (rest:=rest) (by omega) ?_ ?_ ?_)
  ·have hlX:les (tr (s:Int) (p+(s:Int) - 2 * les Y (s:Int)) rest) (s:Int)=les Y (s:Int):=by rw[jZ (by omega) (by omega),hlY _ (by omega)]
   rw[hlX,show p+1+(s:Int) - 1 - 2 * les Y (s:Int)=p+(s:Int) - 2 * les Y (s:Int)by omega]
  ·intro q hq hgt;rcases rC hq with ⟨e,hne⟩ | h
   ·rw[e]at hgt;exact absurd hgt (by simp)
   ·have hq':=hp.mem_iff.mpr (vE h);have h5:=(hbd q hq').2;have h7:=hlY q.1 (by omega);rw[jZ (by omega) (by omega)];omega
  ·exact hx
 | succ d ih =>
  intro Y rest X hY hC hp hx;have e0:s+(d+1)=(s+d)+1:=by omega
  rw[e0]at hY ⊢;obtain⟨Y',hY',hT⟩:=vH hY;obtain⟨t,rT,ht1,hTp,hTm,hTs,hT'⟩:=hT.tr';have htm:(t,p+((s+d:Nat):Int) - 2 * les Y t)∈Y:=hTp.mem_iff.mpr aB6;have hc:=hC _ htm;simp only at hc;have hts:(s:Int)+2<=t:=by
   rcases Int.lt_or_le (s:Int) t with c | c
   ·have:=hc.2 c;omega
   ·have:=hc.1 c;omega
  have hpos:=hY.pos;have htr:(t,p+((s+d:Nat):Int) - 2 * les Y t)∈rest:=by
   rcases rC (hp.mem_iff.mp htm)with ⟨e,_⟩ | h
   ·have:=congrArg Prod.fst e;simp only at this;omega
   ·exact h
  obtain⟨r2,hr2⟩:∃ r2:Trs,rest.Perm ((t,p+((s+d:Nat):Int) - 2 * les Y t) :: r2):=⟨rest.erase _,List.perm_cons_erase htr⟩;have hlY:∀ j,0<=j->les Y j=min j (s:Int)+(min j t+les r2 j):=fun j hj=>by rw[aS hp,jZ (by omega) hj,aS hr2,aZ]
  have hrT:rT.Perm (tr (s:Int) (p - 1+(s:Int) - 2 * les Y (s:Int)) r2):=by
   refine List.Perm.cons_inv (a:=(t,p+((s+d:Nat):Int) - 2 * les Y t)) (hTp.symm.trans (hp.trans ?_));unfold tr;split
   ·exact hr2
   ·exact(hr2.cons _).trans (List.Perm.swap _ _ _)
  have hlrT:∀ j,0<=j->les rT j=min j (s:Int)+les r2 j:=fun j hj=>by rw[aS hrT,jZ (by omega) hj]
  have ht0:t - 1≠0:=by omega
  obtain⟨rest',hrest'⟩:∃ rest':Trs,rest'=(t - 1,p+((s+d:Nat):Int) - 1 - 2 * les rT (t - 1) - 2 * (t - 1)) :: r2:=⟨_,rfl⟩;have hY'p:Y'.Perm (tr (s:Int) (p - 1+(s:Int) - 2 * les Y (s:Int)) rest'):=by
   refine hT'.trans ?_;rw[hrest'];unfold tr at hrT ⊢;rw[if_neg ht0];split at hrT
   ·rw[if_pos (by assumption)];exact hrT.cons _
   ·rw[if_neg (by assumption)];exact(hrT.cons _).trans (List.Perm.swap _ _ _)
  have hlY':∀ j,0<=j->les Y' j=min j (s:Int)+(min j (t - 1)+les r2 j):=fun j hj=>by rw[aS hY'p,jZ (by omega) hj,hrest',aZ]
  have hles:les Y' (s:Int)=les Y (s:Int):=by rw[hlY' _ (by omega),hlY _ (by omega)];omega
  rw[<- hles]at hY'p;have hX':=ih Y' rest' (((s:Int)+1,p+1+(s:Int) - 2 * les rest' ((s:Int)+1) - 2 * ((s:Int)+1)) :: rest') hY' (fun q hq=>by
   have hq2:=hY'p.mem_iff.mp hq;rw[hrest']at hq2;rcases rC hq2 with ⟨e,hne⟩ | h
   ·rw[e];simp only;omega
   ·rcases aCG.mp h with e | h
    ·rw[e];simp only;have h6:=hlY' (t - 1) (by omega);have h7:=hlrT (t - 1) (by omega);omega
    ·have hq':q∈Y:=hp.mem_iff.mpr (vE (hr2.mem_iff.mpr (aB7 _ h)));have h5:=hC q hq';have h6:=hpos q hq';have h7:=hlY q.1 (by omega);have h8:=hlY' q.1 (by omega);omega) hY'p (.refl _)
  have hlX':∀ j,0<=j->les (((s:Int)+1,p+1+(s:Int) - 2 * les rest' ((s:Int)+1) - 2 * ((s:Int)+1)) :: rest') j=min j ((s:Int)+1)+(min j (t - 1)+les r2 j):=fun j hj=>by
   have h1:les rest' j=min j (t - 1)+les r2 j:=by rw[hrest',aZ]
   rw[aZ,h1]
  have hrl:les rest' ((s:Int)+1)=((s:Int)+1)+les r2 ((s:Int)+1):=by rw[hrest',aZ];simp only;omega
  have hrl2:les rest ((s:Int)+1)=((s:Int)+1)+les r2 ((s:Int)+1):=by rw[aS hr2,aZ];simp only;omega
  refine vI (fun x hx=>by have:=hf x hx;omega) hX' (vF (s:=t - 1) (rest:=((s:Int)+1,p+1+(s:Int) - 2 * les rest' ((s:Int)+1) - 2 * ((s:Int)+1)) :: r2) (by omega) ?_ ?_ ?_)
  ·unfold tr;rw[if_neg ht0];have h9:=hlX' (t - 1) (by omega);have h7:=hlrT (t - 1) (by omega);generalize les (((s:Int)+1,p+1+(s:Int) - 2 * les rest' ((s:Int)+1) - 2 * ((s:Int)+1)) :: rest') (t - 1)=L at h9 ⊢;refine(List.Perm.cons _ ?_).trans (List.Perm.swap _ _ _);rw[hrest',show p+((s+d:Nat):Int) - 1 - 2 * les rT (t - 1) - 2 * (t - 1)=p+1+((s+d+1:Nat):Int) - 1 - 2 * L by omega]
  ·intro q hq hgt;have hq2:q∈r2:=by
    rcases aCG.mp hq with e | h
    ·rw[e]at hgt;simp only at hgt;omega
    ·rw[hrest']at h;rcases aCG.mp h with e | h
     ·rw[e]at hgt;exact absurd hgt (by simp)
     ·exact h
   have hq':q∈Y:=hp.mem_iff.mpr (vE (hr2.mem_iff.mpr (aB7 _ hq2)));have h5:=hTm q hq';have h6:=hpos q hq';have h7:=hlY q.1 (by omega);rw[hlX' q.1 (by omega)];omega
  ·have e4:t - 1+1=t:=by omega
   rw[e4];have h9:les (((s:Int)+1,p+1+(s:Int) - 2 * les rest' ((s:Int)+1) - 2 * ((s:Int)+1)) :: r2) t=((s:Int)+1)+les r2 t:=by rw[aZ];simp only;omega
   have h10:=hlY t (by omega);rw[h9,hrl];refine hx.trans ?_;rw[hrl2];refine(hr2.cons _).trans ?_;rw[show p+((s+d:Nat):Int) - 2 * les Y t=p+1+((s+d+1:Nat):Int) - 2 * ((s:Int)+1+les r2 t) - 2 * t by omega];exact List.Perm.swap _ _ _
theorem rD (n:Int) (k:Nat):rnn n (k+1)=n :: rnn (n+1) k:=fE k n
theorem rE {c:Int} {r:List Int}:∀ (k h:Nat) (m:Int),(∀ x∈r,m+(k:Int)<=x)->goM c r h m=rnn m (min h k)++goM c r (h - min h k) (m+(k:Int))
 | 0,h,m,_=>by simp[rnn]
 | k+1,0,m,hr=>by
  simp only[Nat.zero_min,Nat.zero_sub,U0,List.nil_append];exact kM
 | k+1,h+1,m,hr=>by
  have e1:min (h+1) (k+1)=min h k+1:=by omega
  have e2:h+1 - (min h k+1)=h - min h k:=by omega
  have ih:=rE (c:=c) (r:=r) k h (m+1) fun x hx=>by have:=hr x hx;omega
  have e3:goM c r (h+1) m=m :: goM c r h (m+1):=by
   cases r with
   | nil=>exact mW c h m
   | cons p r'=>exact uL (by have:=hr p aB6;omega)
  rw[e3,ih,e1,e2,rD,show m+((k+1:Nat):Int)=m+1+(k:Int)by omega];rfl
theorem U1 {c:Int} (hc:1<=c):∀ (r0:List Int) (h:Nat) (m n:Int),pE r0->(∀ x∈r0,x<n/\(m<=x\/h=0))->(m<=n\/h=0)->(h:Int)<=c ->
 ∃ (fs:List Int) (ld:Nat),(∀ x∈fs,x<n)/\(ld:Int)<=c/\∀ r,(∀ x∈r,n<=x)->goM c (r0++r) h m=fs++goM c r ld n
 | [],h,m,n,_,_,hmn,hh=>by
  rcases Nat.eq_zero_or_pos h with e | e
  ·subst e;exact⟨[],0,fun x hx=>(nomatch hx),by omega,fun r _=>by rw[List.nil_append,List.nil_append];exact kM⟩
  ·have hmn':m<=n:=by omega
   refine⟨rnn m (min h (n - m).toNat),h - min h (n - m).toNat,fun x hx=>by have:=iY hx;omega,by omega,fun r hr=>?_⟩;have:=rE (c:=c) (r:=r) (n - m).toNat h m fun x hx=>by have:=hr x hx;omega
   rw[List.nil_append,this,show m+((n - m).toNat:Int)=n by omega]
 | p :: r0,h,m,n,hrow,hx,hmn,hh=>by
  obtain⟨h1,h2⟩:=List.pairwise_cons.mp hrow;have hp:=hx p aB6;have hm:min h (p - m).toNat<=h:=Nat.min_le_left _ _;have key:∀ r,goM c ((p :: r0)++r) h m=rnn m (min h (p - m).toNat)++(if ((h - min h (p - m).toNat:Nat):Int)<c then goM c (r0++r) (h - min h (p - m).toNat+1) (p+1)else p :: goM c (r0++r) (h - min h (p - m).toNat) (p+1)):=fun r=>rfl;have hrnn:∀ x∈rnn m (min h (p - m).toNat),x<n:=fun x hx=>by
   have:=iY hx;rcases hp.2 with q | q
   ·omega
   ·rw[q]at hx;simp[rnn]at hx
  have hr0:∀ x∈r0,x<n/\p+1<=x:=fun x hx'=>⟨(hx x (aB7 _ hx')).1,by have:=h1 x hx';omega⟩
  by_cases hlt:((h - min h (p - m).toNat:Nat):Int)<c
  ·obtain⟨fs,ld,a1,a2,a3⟩:=U1 hc r0 (h - min h (p - m).toNat+1) (p+1) n h2 (fun x hx=>⟨(hr0 x hx).1,.inl (hr0 x hx).2⟩) (.inl (by omega)) (by omega);refine⟨rnn m (min h (p - m).toNat)++fs,ld,fun x hx=>?_,a2,fun r hr=>by rw[key,if_pos hlt,a3 r hr,List.append_assoc]⟩;rcases aCH.mp hx with q | q
   ·exact hrnn x q
   ·exact a1 x q
  ·obtain⟨fs,ld,a1,a2,a3⟩:=U1 hc r0 (h - min h (p - m).toNat) (p+1) n h2 (fun x hx=>⟨(hr0 x hx).1,.inl (hr0 x hx).2⟩) (.inl (by omega)) (by omega);refine⟨rnn m (min h (p - m).toNat)++p :: fs,ld,fun x hx=>?_,a2,fun r hr=>by rw[key,if_neg hlt,a3 r hr,List.append_assoc];rfl⟩;rcases aCH.mp hx with q | q
   ·exact hrnn x q
   ·rcases aCG.mp q with e | q
    ·rw[e];exact hp.1
    ·exact a1 x q
def shf (l:Int) (ps:Trs):Trs:=ps.map fun q=>(q.1,q.2+min l q.1)
theorem iZ (l:Int) (ps:Trs) (j:Int):les (shf l ps) j=les ps j:=by
 unfold les shf;rw[aBy];rfl
theorem nN {l:Int} {a b:Trs} (h:a.Perm b):(shf l a).Perm (shf l b):=h.map _
theorem U2 {l s o:Int} {rest:Trs}:shf l (tr s o rest)=tr s (o+min l s) (shf l rest):=by
 unfold tr;split <;> rfl
theorem vJ {l:Int} {ps:Trs} {q:Int×Int} (h:q∈shf l ps):∃ q'∈ps,q=(q'.1,q'.2+min l q'.1):=by
 obtain⟨q',h1,h2⟩:=aCI.mp h;exact⟨q',h1,h2.symm⟩
theorem mL {l p:Int} (hl:1<=l) {ps0 ps:Trs} (hb:Bd ps0 (p - 1)) (ha:Add ps0 p ps) {fs:List Int} {ld:Nat} (hf:∀ x∈fs,x<p) (hld:(ld:Int)<=l) (hY:Lst (fs++rnn p ld) (shf l ps0)) :
 Lst (if (ld:Int)<l then fs++rnn (p+1) (ld+1)else fs++rnn p (ld+1)) (shf l ps)/\∃ s rest,0<=s/\ps0.Perm (tr s (p - 1 - 2 * les ps0 s) rest)/\ps.Perm ((s+1,p - 2 * les rest (s+1) - 2 * (s+1)) :: rest)/\((ld:Int)<l↔s<l):=by
 obtain⟨s,rest,h0,h1,h2,h3⟩:=ha.tr';have hsm:s≠0->(s,p - 1 - 2 * les ps0 s)∈ps0:=fun h=>h1.mem_iff.mpr (by unfold tr;rw[if_neg h];exact aB6)
 by_cases hc:(ld:Int)<l
 ·rw[if_pos hc];have hbd:=hY.bd (vG hf);have hs:s<=(ld:Int):=by
   by_cases hs0:s=0
   ·omega
   ·have:=(hbd (s,p - 1 - 2 * les ps0 s+min l s) (aCI.mpr ⟨_,hsm hs0,rfl⟩)).2;simp only[iZ]at this;omega
  obtain⟨sn,rfl⟩:∃ sn:Nat,s=(sn:Int):=⟨s.toNat,by omega⟩;obtain⟨d,hd⟩:∃ d:Nat,ld=sn+d:=⟨ld - sn,by omega⟩;subst hd;refine⟨aAM hf sn d (shf l ps0) (shf l rest) (shf l ps) hY (fun q hq=>?_) ?_ ?_,(sn:Int),rest,h0,h1,h3,by constructor <;> intro _ <;> omega⟩
  ·obtain⟨q',hq',rfl⟩:=vJ hq;have h5:=hb q' hq';have h6:=h2 q' hq';simp only[iZ];refine⟨fun _=>by omega,fun h=>?_⟩;have:=h6 h;omega
  ·rw[iZ];refine(nN h1).trans ?_;rw[U2,show p - 1 - 2 * les ps0 (sn:Int)+min l (sn:Int)=p - 1+(sn:Int) - 2 * les ps0 (sn:Int)by omega]
  ·rw[iZ];refine(nN h3).trans ?_;unfold shf;rw[aBt];simp only;rw[show p - 2 * les rest ((sn:Int)+1) - 2 * ((sn:Int)+1)+min l ((sn:Int)+1)=p+1+(sn:Int) - 2 * les rest ((sn:Int)+1) - 2 * ((sn:Int)+1)by omega]
 ·rw[if_neg hc];have hll:(ld:Int)=l:=by omega
  obtain⟨k,hk⟩:∃ k,ld=k+1:=⟨ld - 1,by omega⟩;have hY2:=hY;rw[hk]at hY2;obtain⟨Y',_,hT⟩:=vH hY2;obtain⟨t,rT,ht1,hTp,_⟩:=hT;obtain⟨q',hq',e⟩:=vJ (hTp.mem_iff.mpr aB6);have e1:=congrArg Prod.fst e;have e2:=congrArg Prod.snd e;simp only[iZ]at e1 e2;have h5:=(hb q' hq').2;have h6:=h2 q' hq';rw[e1]at e2;have hs:l<=s:=by
   rcases Int.lt_or_le s q'.1 with c | c
   ·have:=h6 c;omega
   ·omega
  refine⟨vI hf hY (vF (s:=s) (rest:=shf l rest) h0 ?_ ?_ ?_),s,rest,h0,h1,h3,by constructor <;> intro _ <;> omega⟩
  ·rw[iZ];refine(nN h1).trans ?_;rw[U2,show p - 1 - 2 * les ps0 s+min l s=p+(ld:Int) - 1 - 2 * les ps0 s by omega]
  ·intro q hq hgt;obtain⟨q2,hq2,rfl⟩:=vJ hq;have:=h2 q2 hq2;simp only[iZ]at hgt ⊢;have:=this hgt;omega
  ·rw[iZ];refine(nN h3).trans ?_;unfold shf;rw[aBt];simp only;rw[show p - 2 * les rest (s+1) - 2 * (s+1)+min l (s+1)=p+(ld:Int) - 2 * les rest (s+1) - 2 * (s+1)by omega]
theorem Lst.rowP {r:List Int} {ps:Trs} (h:Lst r ps):pE r:=by
 induction h with
 | nil=>exact List.Pairwise.nil
 | snoc a b c ih=>exact List.pairwise_append.mpr ⟨ih,by simp,fun x hx y hy=>by rw[aCA.mp hy];exact b x hx⟩
theorem tN {l:Int} (hl:1<=l) {r:List Int} {p:Int} (hr:pE r) (hp:∀ x∈r,x<p):∃ (fs:List Int) (ld:Nat),(∀ x∈fs,x<p)/\(ld:Int)<=l/\cK r l=fs++rnn p ld/\cK (r++[p]) l=if (ld:Int)<l then fs++rnn (p+1) (ld+1)else fs++rnn p (ld+1):=by
 obtain⟨fs,ld,a1,a2,a3⟩:=U1 hl r 0 0 p hr (fun x hx=>⟨hp x hx,.inr rfl⟩) (.inr rfl) (by omega);refine⟨fs,ld,a1,a2,?_,?_⟩
 ·have:=a3 [] fun x hx=>(nomatch hx);rw[List.append_nil]at this;exact this
 ·have:=a3 [p] fun x hx=>by rw[aCA.mp hx];exact Int.le_refl _
  unfold cK;rw[this,lR (.inr (Int.le_refl _))];split
  ·rfl
  ·rw[rD];rfl
theorem Lst.walk {l:Int} (hl:1<=l) {r:List Int} {ps:Trs} (h:Lst r ps):Lst (cK r l) (shf l ps):=by
 induction h with
 | nil=>exact .nil
 | snoc a b c ih =>
  rename_i r ps0 p ps
  obtain⟨fs,ld,a1,a2,a3,a4⟩:=tN hl a.rowP b;rw[a3]at ih;rw[a4];exact(mL hl (a.bd fun x hx=>by have:=b x hx;omega) c a1 a2 ih).1
end CW
namespace L2
open PySem PySem.Spec PyProof.Rows
end L2
namespace CW
open PySem L2
theorem aAN:∀ {l:List Int},l≠[]->∃ m∈l,∀ x∈l,x<=m:=fun {l} h=>by
 cases l with
 | nil=>exact absurd rfl h
 | cons n r =>
  obtain⟨a1,a2,a3⟩:=dP r n;refine⟨r.foldl max n,?_,fun x hx=>?_⟩
  ·rcases a1 with h | h
   ·rw[h];exact aB6
   ·exact aB7 _ h
  ·rcases aCG.mp hx with rfl | hx
   ·exact a2
   ·exact a3 x hx
theorem Add.ex (ps:Trs) (hp:∀ q∈ps,1<=q.1) (p:Int):∃ qs,Add ps p qs:=by
 by_cases h:(ps.filter fun q=>decide (q.2+2 * les ps q.1=p - 1))=[]
 ·refine⟨_,0,ps,Int.le_refl _,.inl ⟨rfl,.refl _⟩,fun q hq _ e=>?_,.refl _⟩;have:q∈ps.filter fun q=>decide (q.2+2 * les ps q.1=p - 1):=aCJ.mpr ⟨hq,by simpa using e⟩;rw[h]at this;cases this
 ·obtain⟨s,hs,hmax⟩:=aAN (l:=(ps.filter fun q=>decide (q.2+2 * les ps q.1=p - 1)).map (·.1)) (by simpa using h);obtain⟨q,hq,e⟩:=aCI.mp hs;obtain⟨h1,h2⟩:=aCJ.mp hq;have h3:q.2+2 * les ps q.1=p - 1:=by simpa using h2
  have e':q.1=s:=e;have hm:(s,p - 1 - 2 * les ps s)∈ps:=by
   have:(s,p - 1 - 2 * les ps s)=q:=by rw[<- e',<- h3];exact Prod.ext rfl (by show _=q.2;omega)
   rw[this];exact h1
  have hs1:=hp _ hm;have hs1':1<=s:=hs1;refine⟨_,s,ps.erase (s,p - 1 - 2 * les ps s),by omega,.inr ⟨hs1',List.perm_cons_erase hm⟩,fun x hx hlt e2=>?_,.refl _⟩;have:=hmax x.1 (aCI.mpr ⟨x,aCJ.mpr ⟨hx,by simpa using e2⟩,rfl⟩);omega
theorem Lst.ex:∀ (r:List Int),Row r->∃ ps,Lst r ps:=by
 have go:∀ (n:Nat) (r:List Int),r.length=n->Row r->∃ ps,Lst r ps:=by
  intro n
  induction n with
  | zero=>intro r h _;exact⟨[],by rw[List.length_eq_zero_iff.mp h];exact .nil⟩
  | succ n ih =>
   intro r h hr;have hne:r≠[]:=fun e=>by rw[e]at h;cases h
   have e:=List.dropLast_concat_getLast hne;rw[<- e]at hr;obtain⟨h1,_,h2⟩:=List.pairwise_append.mp hr;obtain⟨ps,hps⟩:=ih r.dropLast (by rw[List.length_dropLast];omega) h1;obtain⟨qs,hqs⟩:=Add.ex ps hps.pos (r.getLast hne);refine⟨qs,?_⟩;rw[<- e];exact .snoc hps (fun x hx=>h2 x hx _ (by simp)) hqs
 exact fun r hr=>go r.length r rfl hr
def shn (f:Int->Int) (ps:Trs):Trs:=ps.map fun q=>(q.1,q.2+f q.1)
theorem Lst.walks {l:Int} (hl:1<=l) {r:List Int} {ps:Trs} (h:Lst r ps):Lst (cK r l) (shn (fun s=>min l s) ps):=h.walk hl
theorem rF {ps ws:Trs} (h:Trn ps):Trn (dA ps ws):=by
 refine⟨fun q hq=>?_,?_⟩
 ·obtain⟨p,hp,rfl⟩:=aCI.mp hq;exact h.pos p hp
 ·have:szs (dA ps ws)=szs ps:=by
   unfold szs dA;rw[aBy];rfl
  rw[this];exact h.few
theorem Lst.trn {r:List Int} {ps:Trs} (h:Lst r ps) (hl:r.length<=60):Trn ps:=⟨h.pos,by have:=h.sizx;unfold siz at this;unfold szs;omega⟩
section
variable {P:Program} {w:World} {K:PySem.W.Frag} {mg:Str->Option Value} {base:Heap}
inductive B7 (vs:List V) (H:Hp) (Q:VK) (E_:XK):Prop
 | mk (a b:Addr) (row:List Int) (ws:Trs) (h0_:vs=[.ref a,.ref b]) (h1_:H a=some (.lst (row.map V.int))) (h2_:Row row) (h3_:row.length<=60) (h4_:LP H b ws) (h5_:ws.length<=200) (h6_:Crl ws) (h7_:∀ r ps:_,Lst row ps->Lst r (dA ps ws)->mY H Q r):B7 vs H Q E_
end
theorem zD {c B:Int}:∀ (r:List Int) (h:Nat) (n:Int),(∀ x∈r,x<=B)->n<=B+1->∀ y∈goM c r h n,y<=B+(h:Int)+(r.length:Int)
 | [],h,n,_,hn,y,hy=>by
  obtain⟨k,hk,rfl⟩:=aCI.mp hy;have:=List.mem_range.mp hk;simp only[List.length_nil];omega
 | p :: r,h,n,hx,hn,y,hy=>by
  have hp:=hx p aB6;have hr:∀ x∈r,x<=B:=fun x hx'=>hx x (aB7 _ hx');rw[goM]at hy;rw[aBx];rcases aCH.mp hy with hy | hy
  ·obtain⟨k,hk,rfl⟩:=aCI.mp hy;have:=List.mem_range.mp hk;omega
  ·split at hy
   ·have:=zD r _ (p+1) hr (by omega) y hy;omega
   ·rcases aCG.mp hy with rfl | hy
    ·omega
    ·have:=zD r _ (p+1) hr (by omega) y hy;omega
theorem zE {c L:Int}:∀ (r:List Int) (h:Nat) (n:Int),(∀ x∈r,L<=x)->(L<=n\/h=0)->∀ y∈goM c r h n,L<=y
 | [],h,n,_,hn,y,hy=>by
  obtain⟨k,hk,rfl⟩:=aCI.mp hy;have:=List.mem_range.mp hk;omega
 | p :: r,h,n,hx,hn,y,hy=>by
  have hp:=hx p aB6;have hr:∀ x∈r,L<=x:=fun x hx'=>hx x (aB7 _ hx');rw[goM]at hy;rcases aCH.mp hy with hy | hy
  ·obtain⟨k,hk,rfl⟩:=aCI.mp hy;have:=List.mem_range.mp hk;omega
  ·split at hy
   ·exact zE r _ (p+1) hr (.inl (by omega)) y hy
   ·rcases aCG.mp hy with rfl | hy
    ·omega
    ·exact zE r _ (p+1) hr (.inl (by omega)) y hy
def Near (b:Int) (r:List Int):Prop:=∀ x∈r,-b<=x/\x<=b
theorem Near.walk {b c:Int} {r:List Int} (h:Near b r) (hb:0<=b):Near (b+(r.length:Int)) (cK r c):=fun y hy=>by
 have h1:=zD (c:=c) (B:=b) r 0 0 (fun x hx=>(h x hx).2) (by omega) y hy;have h2:=zE (c:=c) (L:=-b) r 0 0 (fun x hx=>(h x hx).1) (.inr rfl) y hy;omega
theorem Near.mir {b:Int} {r:List Int} (h:Near b r):Near b (mD r):=fun x hx=>by
 obtain⟨z,hz,rfl⟩:=aCI.mp hx;have:=h z (List.mem_reverse.mp hz);omega
section
variable {P:Program} {w:World} {K:PySem.W.Frag} {mg:Str->Option Value} {base:Heap}
inductive lC (vs:List V) (H:Hp) (Q:VK) (E_:XK):Prop
 | mk (a:Addr) (row:List Int) (c:Int) (h0_:vs=[.ref a,.int c]) (h1_:H a=some (.lst (row.map V.int))) (h2_:Row row) (h3_:row.length<=60) (h4_:Near 100000 row) (h5_:mY H Q (cK row c)):lC vs H Q E_
inductive gT (vs:List V) (H:Hp) (Q:VK) (E_:XK):Prop
 | mk (a:Addr) (row:List Int) (c:Int) (h0_:vs=[.ref a,.int c]) (h1_:H a=some (.lst (row.map V.int))) (h2_:Row row) (h3_:row.length<=60) (h4_:1<=c) (h5_:Near 100000 row) (h6_:mY H Q (nC row c)):gT vs H Q E_
end
theorem mM (p:Int->Bool) (a b:List Int):((a++b).filter p).length=(a.filter p).length+(b.filter p).length:=by rw[List.filter_append,aBd]
theorem B8 (s o l:Int) (rest:Trs) (h0:0<=s) (hl:1<=l):les (tr s o rest) l=min l s+les rest l:=by
 unfold tr;split
 ·rename_i e
  rw[e];have:min l 0=0:=by omega
  omega
 ·rw[aZ]
theorem Lst.car {l:Int} (hl:1<=l) {r:List Int} {ps:Trs} (h:Lst r ps):(uR r l:Int)=les ps l:=by
 induction h with
 | nil=>rfl
 | snoc a b c ih =>
  rename_i r ps0 p ps
  obtain⟨fs,ld,a1,a2,a3,a4⟩:=tN hl a.rowP b;have hw:=a.walk hl;rw[a3]at hw;obtain⟨_,s,rest,s0,s1,s2,s3⟩:=mL hl (a.bd fun x hx=>by have:=b x hx;omega) c a1 a2 hw;rw[aS s1,B8 s _ l rest s0 hl]at ih;rw[aS s2,aZ];simp only;have old:uR r l=(fs.filter fun x=>decide (x∉r)).length+ld:=by
   unfold uR;rw[a3,mM]
   congr 1
   rw[List.filter_eq_self.mpr]
   ·simp[rnn]
   ·intro x hx;have:=iY hx;exact aBq fun z=>by have:=b x z;omega
  have efs:(fs.filter fun x=>decide (x∉r++[p]))=fs.filter fun x=>decide (x∉r):=List.filter_congr fun x hx=>by
   have hne:x≠p:=by have:=a1 x hx;omega
   simp[hne]
  by_cases hc:(ld:Int)<l
  ·have new:uR (r++[p]) l=(fs.filter fun x=>decide (x∉r)).length+(ld+1):=by
    unfold uR;rw[a4,if_pos hc,mM,efs]
    congr 1
    rw[List.filter_eq_self.mpr]
    ·simp[rnn]
    ·intro x hx;have:=iY hx;refine aBq fun z=>?_;rcases aCH.mp z with z | z
     ·have:=b x z;omega
     ·have:=aCA.mp z;omega
   have:=s3.mp hc;omega
  ·have new:uR (r++[p]) l=(fs.filter fun x=>decide (x∉r)).length+ld:=by
    unfold uR;rw[a4,if_neg hc,mM,efs]
    congr 1
    rw[rD,List.filter_cons,if_neg (by simp),List.filter_eq_self.mpr]
    ·simp[rnn]
    ·intro x hx;have:=iY hx;refine aBq fun z=>?_;rcases aCH.mp z with z | z
     ·have:=b x z;omega
     ·have:=aCA.mp z;omega
   have:=mt s3.mpr hc;omega
def ldG (c:Nat):List Int->Nat->Int->Nat
 | [],_,_=>0
 | p :: r,h,n=>if h - min h (p - n).toNat<c then 1+ldG c r (h - min h (p - n).toNat+1) (p+1)else ldG c r (h - min h (p - n).toNat) (p+1)
def bW (a:Int):List Int->List Int
 | []=>[]
 | [_]=>[]
 | x :: y :: r=>if y=x+1 then (x - 2 * a) :: bW a (y :: r)else bW (a+1) (y :: r)
def stG:List Int->Nat
 | []=>0
 | [_]=>1
 | x :: y :: r=>if y=x+1 then stG (y :: r)else stG (y :: r)+1
theorem d8 (c:Nat) {r:List Int} {h:Nat} {n:Int} (d:Nat) (hr:∀ x∈r,n+(d:Int)<=x):ldG c r h n=ldG c r (h - min h d) (n+(d:Int)):=by
 cases r with
 | nil=>rfl
 | cons p r =>
  have hp:=hr p aB6;show (if h - min h (p - n).toNat<c then _ else _)=if h - min h d - min (h - min h d) (p - (n+(d:Int))).toNat<c then _ else _
  have e:h - min h d - min (h - min h d) (p - (n+(d:Int))).toNat=h - min h (p - n).toNat:=by omega
  rw[e]
theorem vK:∀ (r:List Int) (a x:Int),Row (x :: r)->∀ z∈bW a (x :: r),x - 2 * a<=z
 | [],a,x,_,z,hz=>by simp[bW]at hz
 | y :: r,a,x,h,z,hz=>by
  have h':=List.pairwise_cons.mp h;have hxy:=h'.1 y aB6;unfold bW at hz;split at hz
  ·rename_i e
   rcases aCG.mp hz with q | q
   ·omega
   ·have:=vK r a y h'.2 z q;omega
  ·have:=vK r (a+1) y h'.2 z hz;omega
def bG:List Int->List Int
 | []=>[]
 | [x]=>[x]
 | x :: y :: r=>if y=x+1 then bG (y :: r)else x :: bG (y :: r)
theorem lY:∀ (r:List Int) (A:List (Int×Int)) (f z:Int),(r.foldl iE (A++[(f,z)])).length=A.length+stG (z :: r)/\(r.foldl iE (A++[(f,z)])).map (·.2)=A.map (·.2)++bG (z :: r)
 | [],A,f,z=>by
  refine⟨?_,?_⟩
  ·show (A++[(f,z)]).length=A.length+1;simp
  ·show (A++[(f,z)]).map (·.2)=A.map (·.2)++[z];simp
 | y :: r,A,f,z=>by
  show ((r.foldl iE (iE (A++[(f,z)]) y)).length=_/\_);rw[show List.foldl iE (A++[(f,z)]) (y :: r)=r.foldl iE (iE (A++[(f,z)]) y) from rfl,fK]
  by_cases hy:y=z+1
  ·rw[if_pos (show (f,z).2=y - 1 by show z=y - 1;omega)];have e1:stG (z :: y :: r)=stG (y :: r):=if_pos hy;have e2:bG (z :: y :: r)=bG (y :: r):=if_pos hy;rw[e1,e2];exact lY r A f y
  ·rw[if_neg (show ¬ (f,z).2=y - 1 by show ¬ z=y - 1;omega)];have e1:stG (z :: y :: r)=stG (y :: r)+1:=if_neg hy;have e2:bG (z :: y :: r)=z :: bG (y :: r):=if_neg hy;obtain⟨k1,k2⟩:=lY r (A++[(f,z)]) y y;rw[e1,e2,k1,k2];refine⟨?_,?_⟩
   ·rw[aBd,List.length_singleton];omega
   ·simp
theorem B9 (row:List Int):(cZ row).length=stG row:=by
 cases row with
 | nil=>rfl
 | cons x r=>exact(lY r [] x x).1.trans (by simp)
theorem oI (row:List Int):(cZ row).map (·.2)=bG row:=by
 cases row with
 | nil=>rfl
 | cons x r=>exact(lY r [] x x).2
theorem pT:∀ (r:List Int) (x:Int),Row (x :: r)->∀ z∈bG (x :: r),x<=z
 | [],x,_,z,hz=>by rw[aCA.mp hz];exact Int.le_refl _
 | y :: r,x,h,z,hz=>by
  have h':=List.pairwise_cons.mp h;have hxy:=h'.1 y aB6;unfold bG at hz;split at hz
  ·have:=pT r y h'.2 z hz;omega
  ·rcases aCG.mp hz with q | q
   ·omega
   ·have:=pT r y h'.2 z q;omega
theorem lD:∀ (row:List Int) (a:Int),(bW a row).length+stG row=row.length
 | [],a=>rfl
 | [x],a=>rfl
 | x :: y :: r,a=>by
  by_cases hy:y=x+1
  ·have e1:stG (x :: y :: r)=stG (y :: r):=if_pos hy;have e2:bW a (x :: y :: r)=(x - 2 * a) :: bW a (y :: r):=if_pos hy;have:=lD (y :: r) a;rw[e1,e2,aBx,aBx];omega
  ·have e1:stG (x :: y :: r)=stG (y :: r)+1:=if_neg hy;have e2:bW a (x :: y :: r)=bW (a+1) (y :: r):=if_neg hy;have:=lD (y :: r) (a+1);rw[e1,e2,aBx];omega
theorem rG:∀ (row:List Int) (a:Int),Row row->Row (bW a row)
 | [],a,_=>List.Pairwise.nil
 | [x],a,_=>List.Pairwise.nil
 | x :: y :: r,a,h=>by
  have h':=List.pairwise_cons.mp h
  by_cases hy:y=x+1
  ·have e2:bW a (x :: y :: r)=(x - 2 * a) :: bW a (y :: r):=if_pos hy;rw[e2];refine List.pairwise_cons.mpr ⟨fun z hz=>?_,rG (y :: r) a h'.2⟩;have:=vK r a y h'.2 z hz;omega
  ·have e2:bW a (x :: y :: r)=bW (a+1) (y :: r):=if_neg hy;rw[e2];exact rG (y :: r) (a+1) h'.2
theorem U3 (c:Nat) {r:List Int} {n m:Int}:ldG c r 0 n=ldG c r 0 m:=by
 cases r with
 | nil=>rfl
 | cons p r =>
  show (if 0 - min 0 (p - n).toNat<c then _ else _)=if 0 - min 0 (p - m).toNat<c then _ else _
  simp
theorem zF {c:Nat} (hc:1<=c):∀ (r0:List Int) (h:Nat) (m n:Int),pE r0->(∀ x∈r0,x<n/\(m<=x\/h=0))->(m<=n\/h=0)->h<=c ->
 ∃ (fs:List Int) (ld k:Nat),(∀ x∈fs,x<n)/\ld<=c/\∀ r,(∀ x∈r,n<=x)->goM c (r0++r) h m=fs++goM c r ld n/\ldG c (r0++r) h m=k+ldG c r ld n
 | [],h,m,n,_,_,hmn,hh=>by
  rcases Nat.eq_zero_or_pos h with e | e
  ·subst e;exact⟨[],0,0,fun x hx=>(nomatch hx),by omega,fun r _=>⟨by rw[List.nil_append,List.nil_append];exact kM,by rw[List.nil_append,Nat.zero_add];exact U3 c⟩⟩
  ·have hmn':m<=n:=by omega
   refine⟨rnn m (min h (n - m).toNat),h - min h (n - m).toNat,0,fun x hx=>by have:=iY hx;omega,by omega,fun r hr=>⟨?_,?_⟩⟩
   ·have:=rE (c:=c) (r:=r) (n - m).toNat h m fun x hx=>by have:=hr x hx;omega
    rw[List.nil_append,this,show m+((n - m).toNat:Int)=n by omega]
   ·have:=d8 c (r:=r) (h:=h) (n:=m) (n - m).toNat fun x hx=>by have:=hr x hx;omega
    rw[List.nil_append,this,show m+((n - m).toNat:Int)=n by omega];omega
 | p :: r0,h,m,n,hrow,hx,hmn,hh=>by
  obtain⟨h1,h2⟩:=List.pairwise_cons.mp hrow;have hp:=hx p aB6;have hm:min h (p - m).toNat<=h:=Nat.min_le_left _ _;have key:∀ r,goM c ((p :: r0)++r) h m=rnn m (min h (p - m).toNat)++(if ((h - min h (p - m).toNat:Nat):Int)<(c:Int)then goM c (r0++r) (h - min h (p - m).toNat+1) (p+1)else p :: goM c (r0++r) (h - min h (p - m).toNat) (p+1)):=fun r=>rfl;have key2:∀ r,ldG c ((p :: r0)++r) h m=if h - min h (p - m).toNat<c then 1+ldG c (r0++r) (h - min h (p - m).toNat+1) (p+1)else ldG c (r0++r) (h - min h (p - m).toNat) (p+1):=fun r=>rfl
  have hrnn:∀ x∈rnn m (min h (p - m).toNat),x<n:=fun x hx=>by
   have:=iY hx;rcases hp.2 with q | q
   ·omega
   ·rw[q]at hx;simp[rnn]at hx
  have hr0:∀ x∈r0,x<n/\p+1<=x:=fun x hx'=>⟨(hx x (aB7 _ hx')).1,by have:=h1 x hx';omega⟩
  by_cases hlt:h - min h (p - m).toNat<c
  ·obtain⟨fs,ld,k,a1,a2,a3⟩:=zF hc r0 (h - min h (p - m).toNat+1) (p+1) n h2 (fun x hx=>⟨(hr0 x hx).1,.inl (hr0 x hx).2⟩) (.inl (by omega)) (by omega);refine⟨rnn m (min h (p - m).toNat)++fs,ld,k+1,fun x hx=>?_,a2,fun r hr=>⟨by rw[key,if_pos (by omega),(a3 r hr).1,List.append_assoc],by rw[key2,if_pos hlt,(a3 r hr).2];omega⟩⟩;rcases aCH.mp hx with q | q
   ·exact hrnn x q
   ·exact a1 x q
  ·obtain⟨fs,ld,k,a1,a2,a3⟩:=zF hc r0 (h - min h (p - m).toNat) (p+1) n h2 (fun x hx=>⟨(hr0 x hx).1,.inl (hr0 x hx).2⟩) (.inl (by omega)) (by omega);refine⟨rnn m (min h (p - m).toNat)++p :: fs,ld,k,fun x hx=>?_,a2,fun r hr=>⟨by rw[key,if_neg (by omega),(a3 r hr).1,List.append_assoc];rfl,by rw[key2,if_neg hlt,(a3 r hr).2]⟩⟩;rcases aCH.mp hx with q | q
   ·exact hrnn x q
   ·rcases aCG.mp q with e | q
    ·rw[e];exact hp.1
    ·exact a1 x q
theorem Lst.load {c:Nat} (hc:1<=c) {r:List Int} {ps:Trs} (h:Lst r ps):(ldG c r 0 0:Int)=les ps c:=by
 induction h with
 | nil=>rfl
 | snoc a b d ih =>
  rename_i r ps0 p ps
  obtain⟨fs,ld,k,a1,a2,a3⟩:=zF hc r 0 0 p a.rowP (fun x hx=>⟨b x hx,.inr rfl⟩) (.inr rfl) (by omega);have o:=a3 [] fun x hx=>(nomatch hx);have w:=a3 [p] fun x hx=>by rw[aCA.mp hx];exact Int.le_refl _
  rw[List.append_nil]at o;have ow:cK r c=fs++rnn p ld:=o.1;have ol:ldG c r 0 0=k:=o.2;have nl:ldG c (r++[p]) 0 0=k+(if ld<c then 1 else 0):=by
   rw[w.2]
   congr 1
   show (if ld - min ld (p - p).toNat<c then 1+0 else 0)=_;rw[show ld - min ld (p - p).toNat=ld by omega]
  have hw:=a.walk (l:=c) (by omega);rw[ow]at hw;obtain⟨_,s,rest,s0,s1,s2,s3⟩:=mL (l:=c) (by omega) (a.bd fun x hx=>by have:=b x hx;omega) d a1 (by omega) hw;rw[aS s1,B8 s _ c rest s0 (by omega),ol]at ih;rw[aS s2,aZ,nl];simp only
  by_cases hl:ld<c
  ·have:=s3.mp (by omega);rw[if_pos hl];omega
  ·have:=mt s3.mpr (by omega);rw[if_neg hl];omega
def bM:Nat->List Int->List Int
 | 0,r=>r
 | k+1,r=>bW 0 (bM k r)
theorem oJ {row:List Int} (h:Row row):∀ k,Row (bM k row)
 | 0=>h
 | k+1=>rG _ 0 (oJ h k)
theorem K1 {ps:Trs} (h:∀ q∈ps,1<=q.1):les ps 0=0:=by
 induction ps with
 | nil=>rfl
 | cons q ps ih =>
  have:=h q aB6;rw[aZ,ih fun x hx=>h x (aB7 _ hx)];omega
def geN (ss:List Int) (k:Int):Nat:=(ss.filter fun s=>decide (k<=s)).length
theorem U4 (k:Int):∀ ps:Trs,les ps (k+1) - les ps k=(geN (ps.map (·.1)) (k+1):Int)
 | []=>rfl
 | q :: ps=>by
  have ih:=U4 k ps;rw[aZ,aZ];unfold geN at *;rw[aBt,List.filter_cons]
  by_cases c:k+1<=q.1
  ·rw[if_pos (by simpa using c),aBx];omega
  ·rw[if_neg (by simpa using c)];omega
theorem lE (s:Int) (ss:List Int) (k:Int):geN (s :: ss) k=(if k<=s then 1 else 0)+geN ss k:=by
 unfold geN;rw[List.filter_cons]
 by_cases c:k<=s
 ·rw[if_pos (by simpa using c),if_pos c,aBx];omega
 ·rw[if_neg (by simpa using c),if_neg c];omega
theorem U6 (ss:List Int) (k:Int):geN ss (k+1)<=geN ss k:=by
 induction ss with
 | nil=>exact Nat.le_refl _
 | cons s ss ih =>
  rw[lE,lE];split <;> split <;> omega
theorem C0 {ss:List Int} {k:Int} (h:∀ s∈ss,k<=s):geN ss k=ss.length:=by
 induction ss with
 | nil=>rfl
 | cons s ss ih =>
  rw[lE,if_pos (h s aB6),ih fun x hx=>h x (aB7 _ hx),aBx];omega
theorem K2 {ss:List Int} (hs:ss.Pairwise (·<=·)) (k:Int):(ss.filter fun s=>decide (s<=k+1))=(ss.filter fun s=>decide (s<=k))++List.replicate (geN ss (k+1) - geN ss (k+2)) (k+1):=by
 induction ss with
 | nil=>rfl
 | cons s ss ih =>
  obtain⟨h1,h2⟩:=List.pairwise_cons.mp hs;have ih:=ih h2;rw[List.filter_cons,List.filter_cons,lE,lE]
  by_cases c1:s<=k
  ·rw[if_pos (by simp;omega),if_pos (by simp;omega),if_neg (by omega),if_neg (by omega),Nat.zero_add,Nat.zero_add,ih];rfl
  ·by_cases c2:s=k+1
   ·rw[if_pos (by simp;omega),if_neg (by simp;omega),if_pos (by omega),if_neg (by omega),Nat.zero_add,ih];have e:(ss.filter fun s=>decide (s<=k))=[]:=List.filter_eq_nil_iff.mpr fun x hx=>by
     have:=h1 x hx;simp;omega
    have hle:=U6 ss (k+1);rw[show k+1+1=k+2 by omega]at hle;rw[e,List.nil_append,List.nil_append,show 1+geN ss (k+1) - geN ss (k+2)=(geN ss (k+1) - geN ss (k+2))+1 by omega,List.replicate_succ,c2]
   ·rw[if_neg (by simp;omega),if_neg (by simp;omega),if_pos (by omega),if_pos (by omega),ih];have e1:geN ss (k+1)=ss.length:=C0 fun x hx=>by have:=h1 x hx;omega
    have e2:geN ss (k+2)=ss.length:=C0 fun x hx=>by have:=h1 x hx;omega
    rw[e1,e2,Nat.sub_self,Nat.sub_self]
theorem C1:∀ (r:List Int) (x:Int),∃ z t,bG (x :: r)=z :: t
 | [],x=>⟨x,[],rfl⟩
 | y :: r,x=>by
  by_cases hy:y=x+1
  ·rw[show bG (x :: y :: r)=bG (y :: r) from if_pos hy];exact C1 r y
  ·exact⟨x,bG (y :: r),if_neg hy⟩
theorem vL {α:Type} {l t:List α} {i:Nat} {x:α} (h:l.drop i=x :: t):l[i]?=some x/\l.drop (i+1)=t:=by
 refine⟨?_,?_⟩
 ·have:=congrArg (fun z:List α=>z[0]?) h;simpa[List.getElem?_drop]using this
 ·rw[<- List.drop_drop,h];rfl
theorem C2 {E row stays P:List Int} {i a:Nat} {x:Int} (hr:Row row) (hx:row[i]?=some x) (hE:E.drop a=bG (row.drop i)) (hs:stays++bW a (row.drop i)=P) :
 ∃ z,E[a]?=some z/\((x=z/\E.drop (a+1)=bG (row.drop (i+1))/\stays++bW ((a+1:Nat):Int) (row.drop (i+1))=P)\/(x≠z/\E.drop a=bG (row.drop (i+1))/\(stays++[x - 2 * (a:Int)])++bW a (row.drop (i+1))=P)):=by
 obtain⟨hi,ex⟩:=aCF.mp hx;have hd:row.drop i=x :: row.drop (i+1):=by rw[List.drop_eq_getElem_cons hi,ex]
 have hrd:Row (row.drop i):=List.Pairwise.sublist (List.drop_sublist i row) hr;rw[hd]at hE hs hrd;generalize row.drop (i+1)=t at hE hs hrd ⊢;cases t with
 | nil =>
  obtain⟨k1,k2⟩:=vL (t:=[]) (x:=x) hE;exact⟨x,k1,.inl ⟨rfl,k2,hs⟩⟩
 | cons y r =>
  have h':=List.pairwise_cons.mp hrd;have hxy:=h'.1 y aB6
  by_cases hy:y=x+1
  ·rw[show bG (x :: y :: r)=bG (y :: r) from if_pos hy]at hE;rw[show bW (a:Int) (x :: y :: r)=(x - 2 * (a:Int)) :: bW a (y :: r) from if_pos hy]at hs;obtain⟨z,t,ez⟩:=C1 r y;have hz:=pT r y h'.2 z (by rw[ez];exact aB6);obtain⟨k1,k2⟩:=vL (hE.trans ez);exact⟨z,k1,.inr ⟨by omega,hE,by rw[List.append_assoc];exact hs⟩⟩
  ·rw[show bG (x :: y :: r)=x :: bG (y :: r) from if_neg hy]at hE;rw[show bW (a:Int) (x :: y :: r)=bW ((a:Int)+1) (y :: r) from if_neg hy]at hs;obtain⟨k1,k2⟩:=vL hE;exact⟨x,k1,.inl ⟨rfl,k2,by rw[show ((a+1:Nat):Int)=(a:Int)+1 by omega];exact hs⟩⟩
theorem zG:∀ (r:List Int) (x:Int),1<=stG (x :: r)
 | [],x=>Nat.le_refl _
 | y :: r,x=>by
  by_cases hy:y=x+1
  ·rw[show stG (x :: y :: r)=stG (y :: r) from if_pos hy];exact zG r y
  ·rw[show stG (x :: y :: r)=stG (y :: r)+1 from if_neg hy];omega
inductive gH (vs:List V) (H:Hp) (Q:VK) (E_:XK):Prop
 | mk (a:Addr) (row:List Int) (h0_:vs=[.ref a]) (h1_:H a=some (.lst (row.map V.int))) (h2_:Row row) (h3_:row.length<=60) (h4_:mY H Q (bW 0 row)):gH vs H Q E_
inductive nO (vs:List V) (H:Hp) (Q:VK) (E_:XK):Prop
 | mk (a:Addr) (row:List Int) (h0_:vs=[.ref a]) (h1_:H a=some (.lst (row.map V.int))) (h2_:Row row) (h3_:row.length<=60) (h4_:∀ n:Nat,bM n row=[]->(∀ k,k<n->bM k row≠[])->mY H Q ((List.range n).map fun k=>(stG (bM k row):Int))):nO vs H Q E_
end CW
namespace L2
open PySem PySem.Spec PyProof.Rows
section
variable {K:PySem.W.Frag} {x qual:Str} {st:Stmt} {f:Addr} {fd:FuncData} {p1 p2 p3 p4:Str}
theorem Fun.binds1 (F:Fun K x qual st f fd) (h:∀ (kV doc pm:Value) (an:Option Addr) (cdv ct u:Value),bindArgs (PySem.W.fnOf x qual (aP st) (aN st) (aD st) .none kV doc pm an cdv ct) ⟨[u],[]⟩=pure [(p1,u)]):Binds K fd [p1] [] :=
 F.binds fun a b c d e g us hl=>match us,hl with | [u],_=>h a b c d e g u
theorem Fun.binds2 (F:Fun K x qual st f fd) (h:∀ (kV doc pm:Value) (an:Option Addr) (cdv ct u v:Value),bindArgs (PySem.W.fnOf x qual (aP st) (aN st) (aD st) .none kV doc pm an cdv ct) ⟨[u,v],[]⟩=pure [(p1,u),(p2,v)]):Binds K fd [p1,p2] [] :=
 F.binds fun a b c d e g us hl=>match us,hl with | [u,v],_=>h a b c d e g u v
theorem Fun.binds3 (F:Fun K x qual st f fd) (h:∀ (kV doc pm:Value) (an:Option Addr) (cdv ct u v w:Value),bindArgs (PySem.W.fnOf x qual (aP st) (aN st) (aD st) .none kV doc pm an cdv ct) ⟨[u,v,w],[]⟩=pure [(p1,u),(p2,v),(p3,w)]):Binds K fd [p1,p2,p3] [] :=
 F.binds fun a b c d e g us hl=>match us,hl with | [u,v,w],_=>h a b c d e g u v w
end
structure CompOkC (sc inn:Scope) (N:List Str) (js:List Nat) (cs:List Str):Prop where
 kind:inn.kind=.function
 names:∀ y∈inn.names,y.2=.local->inn.names.lookup y.1=some .local
 cells:∀ y∈inn.names,y.2=.cell->inn.names.lookup y.1=some .cell
 frees:∀ y∈inn.names,y.2=.free->sc.names.lookup y.1=some .cell\/sc.names.lookup y.1=some .free
 slots:(js.map fun j=>N[j]?)=cs.map some
 caps:∀ x∈cs,inn.names.lookup x=some .free
def vM (sc inn:Scope) (N:List Str) (js:List Nat) (cs:List Str):Bool :=
 (inn.kind == .function) && inn.names.all (fun y=>(y.2 != .cell || inn.names.lookup y.1 == some .cell) && (y.2 != .local || inn.names.lookup y.1 == some .local) && (y.2 != .free || (sc.names.lookup y.1 == some .cell || sc.names.lookup y.1 == some .free))) &&
 (js.map fun j=>N[j]?) == cs.map some && cs.all (fun x=>inn.names.lookup x == some .free)
theorem CompOkC.of {sc inn:Scope} {N:List Str} {js:List Nat} {cs:List Str} (h:vM sc inn N js cs=true):CompOkC sc inn N js cs:=by
 unfold vM at h;simp only[Bool.and_eq_true]at h;obtain⟨⟨⟨h1,h2⟩,h3⟩,h4⟩:=h;rw[List.all_eq_true]at h2 h4;refine⟨by simpa using h1,fun y hy e=>?_,fun y hy e=>?_,fun y hy e=>?_,by simpa using h3,fun x hx=>by simpa using h4 x hx⟩
 ·have:=h2 y hy;simp only[Bool.and_eq_true,e]at this;simpa using this.1.2
 ·have:=h2 y hy;simp only[Bool.and_eq_true,e]at this;simpa using this.1.1
 ·have:=h2 y hy;simp only[Bool.and_eq_true,e]at this;simpa using this.2
def U7 (inn:Scope) (x:Str):Bool:=match inn.names.lookup x with | some .cell=>true | _=>false
theorem K3 {inn:Scope} {x:Str} (h:U7 inn x=true):inn.names.lookup x=some .cell:=by
 unfold U7 at h;split at h
 ·assumption
 ·cases h
def mH (X:Cx) (inn:Scope) (N':List Str) (s₀:Shared) (H₀:Hp) (ex:List Addr):Cx :=
 { fI X inn N' s₀ H₀ ex with env:=compEnvC inn (cellsFrom (s₀.heap.objs.size+1) inn.names (fH inn X.env)) s₀.heap.objs.size X.env,fn:=fun x=>U7 inn x }
theorem fL:∀ (names:List (Str×NameKind)) (n:Nat) (acc:List (Str×Addr)),cellsFrom n names acc=cellsFrom n names []++acc
 | [],_,_=>rfl
 | (x,k) :: r,n,acc=>by
  unfold cellsFrom;split
  ·rw[fL r (n+1) ((x,n) :: acc),fL r (n+1) [(x,n)],List.append_assoc];rfl
  ·exact fL r n acc
theorem oK {x:Str} {c:Addr}:∀ (names:List (Str×NameKind)) (n:Nat) (acc:List (Str×Addr)),(x,c)∈cellsFrom n names acc->(x,NameKind.cell)∈names\/(x,c)∈acc
 | [],_,_,h=>.inr h
 | (y,k) :: r,n,acc,h=>by
  unfold cellsFrom at h;split at h
  ·rename_i hk
   rcases oK r _ _ h with q | q
   ·exact .inl (aB7 _ q)
   ·rcases aCG.mp q with e | q
    ·cases e;have:k=.cell:=by simpa using hk
     rw[this];exact .inl aB6
    ·exact .inr q
  ·rcases oK r _ _ h with q | q
   ·exact .inl (aB7 _ q)
   ·exact .inr q
theorem vN {inn:Scope} (h:Heap):(∀ x c,(x,c)∈cellsFrom (h.objs.size+1) inn.names []->(pushCells (h.push { cls:=.type "dict",data:=.dict #[] }) inn.names).IsCell c none)/\(∀ x c,(x,c)∈cellsFrom (h.objs.size+1) inn.names []->h.objs.size<c)/\(cellsFrom (h.objs.size+1) inn.names []).Pairwise fun x y=>x.2≠y.2:=by
 have ok:=cellsFrom_ok inn.names (h.push { cls:=.type "dict",data:=.dict #[] }) (h.objs.size+1) [] ⟨fun _ _ hm=>(nomatch hm),List.Pairwise.nil⟩ (by rw[Heap.size_push];exact Nat.le_refl _);rw[Heap.size_push]at ok;exact⟨fun x c hm=>(ok.empty x c hm).1,fun x c hm=>(ok.empty x c hm).2,ok.apart⟩
theorem iJ {x:Str}:∀ (a b:List (Str×Addr)),(a++b).lookup x=(a.lookup x).or (b.lookup x)
 | [],_=>rfl
 | (y,c) :: a,b=>by
  rw[List.cons_append,List.lookup_cons,List.lookup_cons];cases x == y with
  | true=>rfl
  | false=>exact iJ a b
theorem U9 {inn:Scope} {n:Nat} {cl:List (Str×Addr)} {x:Str} {c:Addr} (h:(cellsFrom n inn.names cl).lookup x=some c):(x,c)∈cellsFrom n inn.names []\/cl.lookup x=some c:=by
 rw[fL,iJ]at h;cases e:(cellsFrom n inn.names []).lookup x with
 | none=>rw[e]at h;exact .inr h
 | some d =>
  rw[e]at h;cases h;exact .inl (PySem.mem_of_lookup e)
theorem C3 {inn:Scope} {n:Nat} {cl:List (Str×Addr)} {x:Str} {c:Addr} (hc:∀ y∈inn.names,y.2=.cell->inn.names.lookup y.1=some .cell) (hx:inn.names.lookup x=some .free) (h:cl.lookup x=some c):(cellsFrom n inn.names cl).lookup x=some c:=by
 rw[fL,iJ];cases e:(cellsFrom n inn.names []).lookup x with
 | none=>exact h
 | some d =>
  rcases oK inn.names _ _ (PySem.mem_of_lookup e)with q | q
  ·have:=hc _ q rfl;rw[hx]at this;cases this
  ·cases q
theorem oU {env:Env}:∀ {names:List (Str×NameKind)} {x:Str},((names.map fun(n,k)=>if (k == NameKind.free && env.scope.kind == .function && env.kindOf n == some .cell)then (n,NameKind.cell)else (n,k)).lookup x=some .cell \/
 (names.map fun(n,k)=>if (k == NameKind.free && env.scope.kind == .function && env.kindOf n == some .cell)then (n,NameKind.cell)else (n,k)).lookup x=some .free)->names.lookup x=some .cell\/names.lookup x=some .free
 | [],_,h=>by simp at h
 | (n,k) :: r,x,h=>by
  have ih:=@oU env r x;rw[aBt]at h;cases hx:x == n with
  | true =>
   simp only[List.lookup_cons,hx]
   by_cases hc:(k == NameKind.free && env.scope.kind == .function && env.kindOf n == some .cell)=true
   ·have:k=.free:=by simp only[Bool.and_eq_true]at hc;simpa using hc.1.1
    subst this;exact .inr rfl
   ·simp only[if_neg hc,List.lookup_cons,hx]at h;exact h
  | false =>
   simp only[List.lookup_cons,hx];refine ih ?_
   by_cases hc:(k == NameKind.free && env.scope.kind == .function && env.kindOf n == some .cell)=true
   ·simp only[if_pos hc,List.lookup_cons,hx]at h;exact h
   ·simp only[if_neg hc,List.lookup_cons,hx]at h;exact h
section
variable {M:Model} {A:Around} {E:Value->Shared->Prop} {s:Shared}
theorem d9 {scope:Scope} {globals:Addr} {cl:List (Str×Addr)} {qual:Str} {func:Option Addr} {code:Value} {around:Env} {builtins:Addr} {Q:Env->Shared->Prop}
 (hQ:Q { scope:=scope,locals:=s.heap.objs.size,globals:=globals,cells:=cellsFrom (s.heap.objs.size+1) scope.names cl,qual:=qual,func:=func,code:=around.code,frame:=around.frame,builtins:=around.builtins } { s with heap:=pushCells (s.heap.push { cls:=.type "dict",data:=.dict #[] }) scope.names }) :
 wpAny M A (newFunctionEnv scope globals cl [] qual func code (some around) builtins) Q E s:=by
 simp only[newFunctionEnv,Option.isSome_some,if_true];refine aB2 (wpAny_alloc ?_);refine aB2 (wpAny_layCells _ (fun name kind cells=>by cases hkc:kind == NameKind.cell <;> simp[hkc]) _ _ _ _ ?_);rw[show ({ s with heap:=s.heap.push { cls:=.type "dict",data:=.dict #[] } }:Shared).heap.objs.size=s.heap.objs.size+1 from Heap.size_push ..];refine aB2 ?_;rw[List.forIn_nil];exact aB3 (aB3 hQ)
end
section
variable {X:Cx} {pins:List (Addr×Obj)} {σ:St} {H H':Hp} {s:Shared} {inn:Scope} {js:List Nat} {cs ts:List Str} {nt:Nat}
theorem rH (I:Inv X pins σ H s) {x:Str} {c:Addr} (e:(cellsFrom (s.heap.objs.size+1) inn.names (fH inn X.env)).lookup x=some c):((x,c)∈cellsFrom (s.heap.objs.size+1) inn.names []/\s.heap.objs.size<c)\/(X.env.cells.lookup x=some c/\c<s.heap.objs.size):=by
 rcases U9 e with q | q
 ·exact .inl ⟨q,(vN s.heap).2.1 x c q⟩
 ·obtain⟨v,o,ho,_⟩:=I.cell x c (dU q);exact .inr ⟨dU q,aBa ho⟩
theorem aAO {ex:List Addr} (I:Inv X pins σ H s) (O:CompOkC X.env.scope inn X.N js cs) (hex:∀ b∈ex,b<s.heap.objs.size/\b≠X.env.locals/\b∉X.fs/\(∀ x c,X.env.cells.lookup x=some c->c≠b)/\∀ o,X.base.get? b≠some o) :
 (mH X inn (ts++cs) s H ex).Ok where
 mod:=I.ok.mod
 kind:=O.kind
 glob:=I.ok.glob
 blt:=I.ok.blt
 above:=Nat.le_refl _
 inj:=fun x y c h1 h2=>by
  rcases rH I h1 with ⟨a,la⟩ | ⟨a,la⟩ <;> rcases rH I h2 with ⟨b,lb⟩ | ⟨b,lb⟩
  ·exact name_of_addr (vN s.heap).2.2 a b
  ·exact absurd (Nat.lt_trans la lb) (Nat.lt_irrefl _)
  ·exact absurd (Nat.lt_trans la lb) (Nat.lt_irrefl _)
  ·exact I.ok.inj x y c a b
 has:=fun x hx=>by
  show ∃ c,(cellsFrom (s.heap.objs.size+1) inn.names (fH inn X.env)).lookup x=some c;rcases oU (env:=X.env) hx with q | q
  ·obtain⟨c,ec⟩:=mS (n:=s.heap.objs.size+1) q;exact⟨c,by rw[fL,iJ,ec];rfl⟩
  ·obtain⟨c,ec⟩:=lP (env:=X.env) (fun y hy e=>I.ok.has y.1 (O.frees y hy e)) (PySem.mem_of_lookup q);exact⟨c,C3 O.cells q ec⟩
 cab:=fun x c h e=>by
  have e':(cellsFrom (s.heap.objs.size+1) inn.names (fH inn X.env)).lookup x=some c:=e;obtain⟨d,ed⟩:=mS (n:=s.heap.objs.size+1) (K3 h);rw[fL,iJ,ed]at e';cases e';exact Nat.le_of_lt ((vN s.heap).2.1 x _ (PySem.mem_of_lookup ed))
 hd:=I.ok.hd
 frames:=I.ok.frames
 stk:=.inl rfl
 exf:=fun b hb=>⟨aBr (hex b hb).1,fun x c e=>by
  rcases rH I e with ⟨_,l⟩ | ⟨q,_⟩
  ·exact aBu (Nat.lt_trans (hex b hb).1 l)
  ·exact(hex b hb).2.2.2.1 x c q⟩
 bs:=I.bs
 bsz:=Nat.le_trans I.ok.bsz I.sz
 noex:=fun b o e hb=>(hex b hb).2.2.2.2 o e
 exfs:=fun b hb hs=>by
  rcases aCG.mp (I.stkSub b hs)with e | e
  ·exact(hex b hb).2.1 e
  ·exact(hex b hb).2.2.1 e
 funs:=I.stack
 frf:=I.stkFree
theorem e8 {ex:List Addr} {h':Heap} {tk:Nat} (hts:ts.length=nt) (I:Inv X pins σ H s) (O:CompOkC X.env.scope inn X.N js cs) (hex:∀ b∈ex,b<s.heap.objs.size/\b≠X.env.locals/\b∉X.fs/\(∀ x c,X.env.cells.lookup x=some c->c≠b)/\∀ o,X.base.get? b≠some o)
 (hn:∃ m,h'.Ns s.heap.objs.size m) (hk:∀ b o,s.heap.get? b=some o->h'.get? b=some o) (hcel:∀ x c,(x,c)∈cellsFrom (s.heap.objs.size+1) inn.names []->h'.IsCell c none) :
 Inv (mH X inn (ts++cs) s H ex) [] (sIn nt js σ) H { s with heap:=h',toks:=tk }:=by
 have ok:(mH X inn (ts++cs) s H ex).Ok:=aAO I O hex;obtain⟨m,hn⟩:=hn;have cellK:∀ c v,s.heap.IsCell c v->h'.IsCell c v:=fun c v ⟨o,ho,hd⟩=>⟨o,hk c o ho,hd⟩;have hlen:js.length=cs.length:=by have:=congrArg List.length O.slots;simpa using this
 refine⟨ok,rfl,I.bare,Un.kept hk,⟨m,hn,fun i x v e1 e2 e3=>?_⟩,fun x c e=>?_,I.hok.fresh (Nat.le_refl _),fun x c e=>?_,fun p hp=>?_,I.hok.kept hk,?_⟩
 ·obtain⟨hi,j,hj,hv⟩:=lQ e2;have e1':(ts++cs)[i]?=some x:=e1;rw[List.getElem?_append_right (by omega),hts]at e1';have hN:X.N[j]?=some x:=by
   have q:(js.map fun j=>X.N[j]?)[i - nt]?=(cs.map some)[i - nt]?:=by rw[O.slots]
   rw[aBs,aBs,hj,e1']at q;exact Option.some.inj q
  have hcap:=O.caps x (aBf e1');have hmem:(x,NameKind.free)∈inn.names:=PySem.mem_of_lookup hcap;have hout:=O.frees _ hmem rfl;obtain⟨mo,hno,hl⟩:=I.loc;obtain⟨u,r,l⟩:=hl j x v hN hv (.inr hout);refine⟨u,r,.inr ?_⟩;rcases l with ⟨l1,_⟩ | ⟨k,c,ec,z⟩
  ·have l1':X.env.scope.names.lookup x=some .local:=l1;rcases hout with q | q <;> (rw[q]at l1';cases l1')
  ·refine⟨?_,?_⟩
   ·exact eG (env:=X.env) hcap
   ·obtain⟨c',ec'⟩:=lP (env:=X.env) (fun y hy e=>I.ok.has y.1 (O.frees y hy e)) hmem;have:=dU ec';rw[ec]at this;cases this;exact⟨c,C3 O.cells hcap ec',cellK _ _ z⟩
 ·rcases rH I e with ⟨q,_⟩ | ⟨q,_⟩
  ·exact⟨none,hcel x c q⟩
  ·obtain⟨v,z⟩:=I.cell x c q;exact⟨v,cellK _ _ z⟩
 ·rcases rH I e with ⟨_,l⟩ | ⟨q,_⟩
  ·exact I.hok.fresh (Nat.le_of_lt l)
  ·exact I.freeC x c q
 ·exact absurd (show p∈([]:List (Addr×Obj)) from hp) (by simp)
 ·show (sIn nt js σ).length=(ts++cs).length;unfold sIn;simp[hts,hlen]
end
section
variable {X:Cx} {pins:List (Addr×Obj)} {σ:St} {inn:Scope} {js:List Nat} {cs ts:List Str} {nt:Nat} {elt tg iter:Expr} {ifs:List Expr} {pos:Pos} {g:TG} {tt:TT} {te:TE}
theorem zH {J:It} {fp:List Addr} {it:Addr} {tn:Nat->Heap->Prop} {H2:Hp} {s2:Shared} {E:Value->Shared->Prop} {Q:VK} {RR:Value->Addr->Result->Shared->Prop}
 (hcalm:X.calm=true) (O:CompOkC X.env.scope inn X.N js cs) (hts:ts.length=nt)
 (hg:∀ s₀ H₀ ex,PG (mH X inn (ts++cs) s₀ H₀ ex) tg g) (hk:GK nt g) (ht:∀ s₀ H₀ ex,PIf (mH X inn (ts++cs) s₀ H₀ ex) ifs tt) (he:∀ s₀ H₀ ex,PE (mH X inn (ts++cs) s₀ H₀ ex) elt te)
 (I2:Inv X pins σ H2 s2) (T:pB X.prog X.w X.K tg J fp it tn) (st2:tn 0 s2.heap) (f2:∀ b∈fp,iT X pins H2 b)
 (R:oN J (sIn nt js σ) g tt te Q H2)
 (hRR:∀ D C s' H',Inv X pins σ H' s'->(∃ m,s'.heap.Ns C m)->H' C=none->C≠X.env.locals->X.s₀.heap.objs.size<=C->(∀ x c,X.env.cells.lookup x=some c->c≠C)->(∀ p∈X.pn++pins,p.1≠C)->Q (.ref D) H'->RR (.ref D) C (.ok .next) s') :
 wpAny (model X.prog X.w) X.A (newList []) (fun acc s₃=>wpAny (model X.prog X.w) X.A (newFunctionEnv inn X.env.globals (fH inn X.env) [] X.env.qual none .none (some X.env)) (fun cenv s₄ =>
  codeAny (model X.prog X.w) X.A (.compStart (.ListComp elt [⟨tg,iter,ifs,0⟩] inn pos) 0 (.ref it) acc { cenv with scope:=relabel inn X.env }) (RR acc cenv.locals) s₄) E s₃) E s2:=by
 refine wpAny_newObj_type (d9 ?_);dsimp only;have hns₁:(pushCells ((s2.heap.push { cls:=.type "list",dict:=none,data:=.seq ([]:List Value).toArray }).push { cls:=.type "dict",data:=.dict #[] }) inn.names).Ns (s2.heap.push { cls:=.type "list",dict:=none,data:=.seq ([]:List Value).toArray }).objs.size (fun _=>none):=(Heap.Ns.new _ (.type "dict")).keeps (pushCells_keeps _ _);have up₁:∀ b o,(s2.heap.push { cls:=.type "list",dict:=none,data:=.seq ([]:List Value).toArray }).get? b=some o->(pushCells ((s2.heap.push { cls:=.type "list",dict:=none,data:=.seq ([]:List Value).toArray }).push { cls:=.type "dict",data:=.dict #[] }) inn.names).get? b=some o:=fun b o e=>pushCells_keeps _ _ b o (aB5 _ e);have cel₁:∀ x c,(x,c)∈cellsFrom ((s2.heap.push { cls:=.type "list",dict:=none,data:=.seq ([]:List Value).toArray }).objs.size+1) inn.names []->(pushCells ((s2.heap.push { cls:=.type "list",dict:=none,data:=.seq ([]:List Value).toArray }).push { cls:=.type "dict",data:=.dict #[] }) inn.names).IsCell c none:=fun x c hm=>(vN (inn:=inn) (s2.heap.push { cls:=.type "list",dict:=none,data:=.seq ([]:List Value).toArray })).1 x c hm;generalize pushCells ((s2.heap.push { cls:=.type "list",dict:=none,data:=.seq ([]:List Value).toArray }).push { cls:=.type "dict",data:=.dict #[] }) inn.names=h₁ at hns₁ up₁ cel₁ ⊢;generalize hD:s2.heap.objs.size=D;have I3:Inv X pins σ H2 { s2 with heap:=s2.heap.push { cls:=.type "list",dict:=none,data:=.seq ([]:List Value).toArray } }:=I2.kept (t':=s2.toks) fun b o e=>aB5 _ e;generalize hs3:({ s2 with heap:=s2.heap.push { cls:=.type "list",dict:=none,data:=.seq ([]:List Value).toArray } }:Shared)=s3 at I3;have e3:s3.heap=s2.heap.push { cls:=.type "list",dict:=none,data:=.seq ([]:List Value).toArray }:=by rw[<- hs3]
 have hD3:s3.heap.get? D=some { cls:=.type "list",dict:=none,data:=.seq ([]:List Value).toArray }:=by rw[e3,<- hD];exact aBb _ rfl
 have hsz3:s3.heap.objs.size=D+1:=by rw[e3,Heap.size_push,hD]
 have e3':(s2.heap.push { cls:=.type "list",dict:=none,data:=.seq ([]:List Value).toArray })=s3.heap:=e3.symm;rw[e3']at hns₁ up₁ cel₁ ⊢;have fH2D:H2 D=none:=I2.hok.fresh (by rw[hD];exact Nat.le_refl _);have up:=up₁;have fpo:∀ b∈fp,b<s3.heap.objs.size/\b≠D:=fun b hb=>by
  obtain⟨o,eo,_⟩:=T.obj 0 _ st2 b hb;have h1:=aBa eo;rw[hD]at h1;exact⟨by rw[hsz3];exact Nat.lt_succ_of_lt h1,aBr h1⟩
 have nb:∀ b,X.s₀.heap.objs.size<=b->∀ o,X.base.get? b≠some o:=fun b hb o e=>absurd (aBl (aBa e) (Nat.le_trans I2.ok.bsz hb)) (Nat.lt_irrefl _);have dge:s2.heap.objs.size<=D:=by rw[hD];exact Nat.le_refl _
 have fD:iT X pins H2 D:=I2.fpOk dge fH2D;have hex:∀ b∈D :: fp,b<s3.heap.objs.size/\b≠X.env.locals/\b∉X.fs/\(∀ x c,X.env.cells.lookup x=some c->c≠b)/\∀ o,X.base.get? b≠some o:=fun b hb=>by
  rcases aCG.mp hb with rfl | hb
  ·exact⟨by rw[hsz3];exact Nat.lt_succ_self _,fD.2.1,fD.2.2.1,fD.2.2.2.2.1,nb _ (Nat.le_trans I2.sz dge)⟩
  ·obtain⟨f0,f1,f2',f3,f4,f5⟩:=f2 b hb;refine⟨(fpo b hb).1,f1,f2',f4,fun o e=>?_⟩;rcases f3 with z | z
   ·exact I2.ok.noex b o e z
   ·exact nb b z o e
 have hC:s3.heap.objs.size=s3.heap.objs.size:=rfl;generalize hXi:mH X inn (ts++cs) s3 H2 (D :: fp)=Xi;have I4:Inv Xi [] (sIn nt js σ) H2 { s3 with heap:=h₁,toks:=s3.toks }:=by
  rw[<- hXi];exact e8 hts I3 O hex ⟨_,hns₁⟩ up cel₁
 have xp:Xi.prog=X.prog:=by rw[<- hXi];rfl
 have xw:Xi.w=X.w:=by rw[<- hXi];rfl
 have xK:Xi.K=X.K:=by rw[<- hXi];rfl
 have xA:Xi.A=X.A:=by rw[<- hXi];rfl
 have xc:Xi.calm=true:=by rw[<- hXi];exact hcalm
 have xe:Xi.env=compEnvC inn (cellsFrom (s3.heap.objs.size+1) inn.names (fH inn X.env)) s3.heap.objs.size X.env:=by rw[<- hXi];rfl
 have xx:Xi.xe=fun _ _=>False:=by rw[<- hXi];rfl
 have xex:Xi.ex=D :: fp:=by rw[<- hXi];rfl
 have xpn:Xi.pn=[]:=by rw[<- hXi];rfl
 have xs0:Xi.s₀=s3:=by rw[<- hXi];rfl
 have xH0:Xi.H₀=H2:=by rw[<- hXi];rfl
 have xfs:Xi.fs=frs X.stack:=by rw[<- hXi];rfl
 have hgX:PG Xi tg g:=by rw[<- hXi];exact hg _ _ _
 have htX:PIf Xi ifs tt:=by rw[<- hXi];exact ht _ _ _
 have heX:PE Xi elt te:=by rw[<- hXi];exact he _ _ _
 have okX:=I4.ok;have xl:Xi.env.locals=s3.heap.objs.size:=by rw[xe];rfl
 have Dl:D≠Xi.env.locals:=by rw[xl,hsz3];exact aBr (Nat.lt_succ_self _)
 have stat:∀ {H':Hp} {pl:List (Addr×Obj)},(∀ b∈fp,H' b=none)->(∀ p∈pl,p.1=D)->∀ b∈fp,iT Xi pl H' b:=fun {H' pl} hn hpl b hb=>by
  have hbx:b∈Xi.ex:=by rw[xex];exact aB7 _ hb
  refine⟨hn b hb,(okX.exf b hbx).1,fun z=>okX.exfs b hbx z,.inl hbx,(okX.exf b hbx).2,fun p hp=>?_⟩;rw[xpn,List.nil_append]at hp;rw[hpl p hp];exact Ne.symm (fpo b hb).2
 have DX:D∈Xi.ex:=by rw[xex];exact aB6
 obtain⟨W,⟨m0,w0⟩,turn⟩:=R;have loop:codeAny (model X.prog X.w) X.A (.compLoop (.ListComp elt [⟨tg,iter,ifs,0⟩] inn pos) 0 (.ref it) (.ref D) Xi.env) (RR (.ref D) s3.heap.objs.size) { s3 with heap:=h₁,toks:=s3.toks }:=by
  refine codeAny_loop rfl (fun n s'=>∃ i ys H',Inv Xi [] (sIn nt js σ) H' s'/\tn i s'.heap/\(∀ b∈fp,H' b=none)/\H' D=none/\(∃ (its:List Value) (c:Nat),Vals ys its/\s'.heap.get? D=some { cls:=.type "list",data:=.seq its.toArray c })/\W i n ys H') ?_ m0
   ⟨0,[],H2,I4,?_,fun b hb=>(f2 b hb).1,fH2D,⟨[],0,.nil,up D _ hD3⟩,w0⟩
  ·rintro n s5 ⟨i,ys,H5,I5,st5,fr5,fD5,⟨its,c,rv,eD⟩,w5⟩;show wpAny _ X.A ((compTurn (.ListComp elt [⟨tg,iter,ifs,0⟩] inn pos) 0 (.ref it) (.ref D) Xi.env).onRaise (fun x=>do noteFrame x Xi.env;theTreesLotGoes x)) _ _ s5;refine wpAny_noted ?_;rw[compTurn_list];refine aB2 (wpAny_standAt (aB2 ?_));have pinD:Inv Xi (bU [D] s5.heap) (sIn nt js σ) H5 s5:=by
    have q:=I5.pinned (fp:=[D]) (fun b hb=>?_) (fun b hb=>?_)
    ·simpa using q
    ·have e:b=D:=by simpa using hb
     subst e;refine⟨fD5,Dl,fun z=>okX.exfs b DX z,.inl DX,(okX.exf b DX).2,fun p hp=>?_⟩;rw[xpn,List.nil_append]at hp;cases hp
    ·have e:b=D:=by simpa using hb
     subst e;exact⟨_,eD,fun v z=>by cases z⟩
   have plD:∀ p∈bU [D] s5.heap,p.1=D:=fun p hp=>by simpa using (gW hp).1
   have memD:(D,({ cls:=.type "list",data:=.seq its.toArray c }:Obj))∈bU [D] s5.heap:=bN (by simp) eD;obtain⟨hz,tn5⟩:=turn i n ys H5 w5;rcases tn5 with ⟨stop,fin⟩ | ⟨go,N,hN,step⟩
   ·have q:=T.done Xi xp xw xK xc i _ s5 _ H5 (notedBy (model X.prog X.w) X.A Xi.env fun e s'=>RR (.ref D) s3.heap.objs.size (.error e) s') pinD (stat fr5 plD) st5 stop;rw[xA]at q;refine wpAny_mono q (fun r s6 ⟨hr,I6⟩=>?_) fun _ _ z=>z;subst hr;refine aB3 ?_;have eD6:=(I6.pin (D,_) (aB8 _ memD)).1;have un:Un (frs X.stack) (D :: fp) H2 H5 s3.heap s6.heap:=by
     have z:=I6.base;rw[xfs,xex,xH0,xs0]at z;exact z
    have os6:s6.os=s3.os:=by have z:=I6.os;rw[xs0]at z;exact z
    have hok6:HOk X.prog X.w H5 s6.heap:=by have z:=I6.hok;rw[xp,xw]at z;exact z
    have I7:Inv X pins σ H5 s6:=I3.call' os6 un hok6 I6.bare fun b hb=>by
     rcases aCG.mp hb with e | hb
     ·rw[e];exact⟨.inr (Nat.le_trans I2.sz dge),fD.2.1,fD.2.2.2.2.1,fD.2.2.2.2.2⟩
     ·obtain⟨f0,f1,f2',f3,f4,f5⟩:=f2 b hb;exact⟨f3,f1,f4,f5⟩
    have I8:Inv X pins σ (upd H5 D (.lst ys)) s6:=I7.track fD5 (Nat.le_trans I2.sz dge) fD.2.1 fD.2.2.2.2.1 fD.2.2.2.2.2 ⟨Nat.le_of_lt hz,its,c,rv,eD6⟩;have Cge:s3.heap.objs.size<=s3.heap.objs.size:=Nat.le_refl _;have fC:iT X pins (upd H5 D (.lst ys)) s3.heap.objs.size:=I3.fpOk Cge (by
     rw[aG (by rw[<- xl];exact Ne.symm Dl)];have z:=I6.free;rw[xl]at z;exact z)
    obtain⟨mm,hmm,_⟩:=I6.loc;rw[xl]at hmm;exact hRR D _ s6 _ I8 ⟨mm,hmm⟩ fC.1 fC.2.1 (Nat.le_trans I3.sz Cge) fC.2.2.2.2.1 fC.2.2.2.2.2 (fin D fD5)
   ·have q:=T.item Xi xp xw xK xc i _ s5 _ H5 (notedBy (model X.prog X.w) X.A Xi.env fun e s'=>RR (.ref D) s3.heap.objs.size (.error e) s') pinD (stat fr5 plD) st5 go;rw[xA]at q;refine wpAny_mono q (fun r s6 ⟨u,hr,h6⟩=>?_) fun _ _ z=>z;subst hr;refine aB2 (wpAny_mono h6 (fun _ s7 ⟨x,H7,I7,r7,y7,st7,fr7⟩=>?_) fun _ _ z=>z);have I7':=I7.pinned (fp:=fp) (fun b hb=>stat fr7 plD b hb) (T.obj _ _ st7);have q8:=hgX _ s7 _ H7 x u _ I7' r7 (hk x _ H7 _ (step x H7 y7));rw[xp,xw,xA,xx]at q8;refine aB2 (wpAny_mono q8 (fun _ s8 ⟨σ8,H8,I8,⟨k8,l8⟩,q8⟩=>?_) fun _ _ z=>z.elim);have q9:=htX _ s8 σ8 H8 _ I8 q8;rw[xp,xw,xA,xx]at q9;refine aB2 (wpAny_mono q9 (fun ok s9 ⟨H9,I9,q9⟩=>?_) fun _ _ z=>z.elim);have keepσ:∀ (j:Nat) v,(sIn nt js σ)[j]?=some (some v)->σ8[j]?=some (some v):=fun j v e=>by
     have hj:=(lQ e).1;rw[k8 j hj];exact e
    have ends:∀ {H9:Hp} {s9:Shared} {ys':List V},Inv Xi (bU [D] s5.heap++bU fp s7.heap) σ8 H9 s9->∀ {h':Heap} {its':List Value} {c':Nat},(∀ b o,b≠D->s9.heap.get? b=some o->h'.get? b=some o)->Vals ys' its'->h'.get? D=some { cls:=.type "list",data:=.seq its'.toArray c' }->N ys' H9 ->
     ∀ tk,∃ m,m<n/\∃ i ys H',Inv Xi [] (sIn nt js σ) H' { s9 with heap:=h',toks:=tk }/\tn i h'/\(∀ b∈fp,H' b=none)/\H' D=none/\(∃ (its:List Value) (c:Nat),Vals ys its/\h'.get? D=some { cls:=.type "list",data:=.seq its.toArray c })/\W i m ys H':=fun {H9 s9 ys'} I9 {h' its' c'} kp rv' eD' n9 tk=>by
     obtain⟨m',hm,w9⟩:=hN ys' H9 n9;have fD9:H9 D=none:=(I9.pin (D,_) (aB8 _ (aBn _ memD))).2.1;have fr9:∀ b∈fp,H9 b=none:=fun b hb=>by
      obtain⟨o,e,d⟩:=T.obj _ _ st7 b hb;exact(I9.pin (b,o) (aB8 _ (aB8 _ (bN hb e)))).2.1
     have I10:Inv Xi [] σ8 H9 s9:=I9.pins_of fun p hp=>by cases hp
     have I11:Inv Xi [] σ8 H9 { s9 with heap:=h',toks:=tk }:=I10.turned (it:=D) kp fD9 Dl (.inl DX) (okX.exf D DX).2 (fun p hp=>by rw[xpn]at hp;cases hp);refine⟨m',hm,i+1,ys',H9,I11.weak l8.symm keepσ,T.keep _ _ _ st7 fun b hb o e=>kp b o (fpo b hb).2 (I9.pin (b,o) (aB8 _ (aB8 _ (bN hb e)))).1,fr9,fD9,⟨its',c',rv',eD'⟩,w9⟩
    cases ok with
    | false =>
     rw[if_neg aBh]at q9;have eD9:=(I9.pin (D,_) (aB8 _ (aBn _ memD))).1;exact aB3 ⟨rfl,ends I9 (h':=s9.heap) (fun _ _ _ e=>e) rv eD9 q9 s9.toks⟩
    | true =>
     rw[if_pos rfl]at q9;have q10:=heX _ s9 σ8 H9 _ I9 q9;rw[xp,xw,xA,xx]at q10;refine aB2 (aB2 (wpAny_mono q10 (fun v s10 ⟨y,H10,I10,r10,q10⟩=>?_) fun _ _ z=>z.elim));have eD10:=(I10.pin (D,_) (aB8 _ (aBn _ memD))).1;have hlen:=rv.length;refine aB2 (wpAny_list_append_plain (items:=its.toArray) ⟨c,eD10⟩ (fun h' hl hs=>aB3 (aB3 ⟨rfl,?_⟩)) (by rw[aBc];omega));obtain⟨c',e'⟩:=hl;have e'':h'.get? D=some { cls:=.type "list",data:=.seq (its++[v]).toArray c' }:=by rw[e'];simp
     exact ends I10 (h':=h') (fun b o hb e=>hs.extBut b o hb e) (rv.append (.cons r10 .nil)) e'' q10 s10.toks
  ·exact T.keep 0 _ _ st2 fun b hb o e=>up b o (by rw[e3];exact aB5 _ e)
 have e4:({ s2 with heap:=h₁ }:Shared)={ s3 with heap:=h₁,toks:=s3.toks }:=by rw[<- hs3]
 rw[e4];show codeAny _ _ (.compStart (.ListComp elt [⟨tg,iter,ifs,0⟩] inn pos) 0 (.ref it) (.ref D) (compEnvC inn (cellsFrom (s3.heap.objs.size+1) inn.names (fH inn X.env)) s3.heap.objs.size X.env)) (RR (.ref D) s3.heap.objs.size) _;rw[<- xe];refine codeAny_compStart_list loop ?_;refine T.self X.A 0 _ _ _ ?_ loop;exact T.keep 0 _ _ st2 fun b hb o e=>up b o (by rw[e3];exact aB5 _ e)
end
section
variable {X:Cx} {inn:Scope} {js:List Nat} {cs ts:List Str} {nt:Nat} {elt tg iter:Expr} {ifs:List Expr} {pos:Pos} {g:TG} {tt:TT} {te:TE} {wi:TI}
theorem V0 (ts cs:List Str) (js:List Nat) (hcalm:X.calm=true) (O:CompOkC X.env.scope inn X.N js cs) (hi:PI X tg iter wi)
 (hg:∀ s₀ H₀ ex,PG (mH X inn (ts++cs) s₀ H₀ ex) tg g) (hk:GK ts.length g) (ht:∀ s₀ H₀ ex,PIf (mH X inn (ts++cs) s₀ H₀ ex) ifs tt) (he:∀ s₀ H₀ ex,PE (mH X inn (ts++cs) s₀ H₀ ex) elt te)
 (hs:∀ x,foldedSetIterable iter X.env x=pure x:=by intro _;rfl):PE X (.ListComp elt [⟨tg,iter,ifs,0⟩] inn pos) (O8 wi ts.length js g tt te):=by
 intro pins s σ H Q I h;rw[eval_ListComp];refine wpAny_comprehension_free (use:=none) rfl hs (pM fun y hy e=>I.ok.has y.1 (O.frees y hy e)) O.kind O.names (thn (hi pins s σ H _ I h) fun xv s1 h1=>thn h1 fun itv s2 h2=>?_);obtain⟨it,fp,tn,J,H2,e,I2,T,st2,f2,R⟩:=h2;subst e;refine zH (Q:=Q) (RR:=fun acc C=>compPost (model X.prog X.w) X.A X.xe none (EP X pins σ Q) acc C) hcalm O rfl hg hk ht he I2 T st2 f2 R ?_;intro D C s' H' I' ⟨m,hm⟩ c1 c2 c3 c4 c5 q;refine⟨m,hm,fun h' hsb=>?_⟩;exact⟨.ref D,H',I'.turned (it:=C) (t':=s'.toks) (fun b o hb e=>hsb.extBut b o hb e) c1 c2 (.inr c3) c4 c5,rfl,q⟩
end
end L2
namespace CW
open PySem L2
inductive PlI (row:List Int) (i:Nat) (stays:List Int):Prop
 | mk (ah:Nat) (h1_:(bG row).drop ah=bG (row.drop i)) (h2_:stays++bW ah (row.drop i)=bW 0 row) (h3_:∀ z∈(bG row).take ah,∀ y∈row.drop i,z<y):PlI row i stays
theorem PlI.init (row:List Int):PlI row 0 []:=⟨0,rfl,rfl,fun z hz=>by simp at hz⟩
theorem vO {α:Type} {l:List α} {i:Nat} {x:α} (h:l[i]?=some x):l.drop i=x :: l.drop (i+1):=by
 obtain⟨hi,ex⟩:=aCF.mp h;rw[List.drop_eq_getElem_cons hi,ex]
theorem PlI.step {row stays:List Int} {i:Nat} {x:Int} (hr:Row row) (hx:row[i]?=some x) (h:PlI row i stays) :
 (x∈bG row/\PlI row (i+1) stays)\/(x∉bG row/\PlI row (i+1) (stays++[x - 2 * (((bG row).filter fun z=>decide (z<x)).length:Int)])):=by
 obtain⟨ah,h1,h2,h3⟩:=h;have hd:=vO hx;have hrd:Row (row.drop i):=List.Pairwise.sublist (List.drop_sublist i row) hr;have hlt:∀ y∈row.drop (i+1),x<y:=by
  rw[hd]at hrd;exact(List.pairwise_cons.mp hrd).1
 have hxm:x∈row.drop i:=by rw[hd];exact aB6
 obtain⟨q,hq,hs⟩:=C2 hr hx h1 h2;rcases hs with ⟨e,k1,k2⟩ | ⟨ne,k1,k2⟩
 ·left
  refine⟨by rw[e];exact aBf hq,ah+1,k1,k2,fun z hz y hy=>?_⟩;rw[List.take_add_one,hq]at hz;rcases aCH.mp hz with h | h
  ·exact h3 z h y (by rw[hd];exact aB7 _ hy)
  ·have:z=q:=by simpa using h
   rw[this,<- e];exact hlt y hy
 ·right
  have hge:∀ z∈(bG row).drop ah,x<z:=by
   rw[k1];intro z hz;cases ht:row.drop (i+1)with
   | nil=>rw[ht]at hz;cases hz
   | cons y r =>
    rw[ht]at hz hlt;have hry:Row (y :: r):=by rw[<- ht];exact List.Pairwise.sublist (List.drop_sublist _ row) hr
    have:=pT r y hry z hz;have:=hlt y aB6;omega
  have hsplit:=List.take_append_drop ah (bG row);have hal:ah<=(bG row).length:=Nat.le_of_lt (aCF.mp hq).1;have hcount:((bG row).filter fun z=>decide (z<x)).length=ah:=by
   rw[<- hsplit,List.filter_append,aBd];have e1:((bG row).take ah).filter (fun z=>decide (z<x))=(bG row).take ah:=List.filter_eq_self.mpr fun z hz=>aBq (h3 z hz x hxm);have e2:((bG row).drop ah).filter (fun z=>decide (z<x))=[]:=List.filter_eq_nil_iff.mpr fun z hz=>by
    have:=hge z hz;simp;omega
   rw[e1,e2,aBk];simp;omega
  rw[hcount];refine⟨fun hm=>?_,ah,k1,k2,fun z hz y hy=>h3 z hz y (by rw[hd];exact aB7 _ hy)⟩;rw[<- hsplit]at hm;rcases aCH.mp hm with h | h
  ·exact absurd (h3 x h x hxm) (Int.lt_irrefl _)
  ·exact absurd (hge x h) (Int.lt_irrefl _)
theorem PlI.done {row stays:List Int} {i:Nat} (hi:row.length<=i) (h:PlI row i stays):stays=bW 0 row:=by
 obtain⟨ah,h1,h2,_⟩:=h;rw[List.drop_eq_nil_of_le hi]at h2;rw[<- h2];exact(List.append_nil _).symm
def oV:Nat->List Int->Int->List (Int×Int)
 | 0,_,_=>[]
 | _+1,[],_=>[]
 | k+1,x :: st,n=>(x,n) :: oV k st (n+1)
def eE:List Int->List Int->Int->List (Int×Int)
 | [],st,n=>oV st.length st n
 | p :: r,st,n=>oV (min st.length (p - n).toNat) st n++eE r (p :: st.drop (min st.length (p - n).toNat)) (p+1)
def kG (row:List Int):List (Int×Int):=eE row [] 0
theorem K4 {p:Int} {r st:List Int} {n:Int} (h:st=[]\/p<=n):eE (p :: r) st n=eE r (p :: st) (p+1):=by
 have e:min st.length (p - n).toNat=0:=by
  rcases h with h | h
  ·subst h;simp
  ·omega
 simp only[eE,e,oV,List.nil_append,List.drop_zero]
theorem K5 {p x:Int} {r st:List Int} {n:Int} (h:n<p):eE (p :: r) (x :: st) n=(x,n) :: eE (p :: r) st (n+1):=by
 have e:min (x :: st).length (p - n).toNat=min st.length (p - (n+1)).toNat+1:=by rw[aBx];omega
 rw[eE,eE,e,oV,List.drop_succ_cons];rfl
theorem K6 (x:Int) (st:List Int) (n:Int):eE [] (x :: st) n=(x,n) :: eE [] st (n+1):=rfl
theorem rJ:∀ (k:Nat) (st:List Int) (n:Int),k<=st.length->(oV k st n).map (·.2)=(List.range k).map fun(j:Nat)=>n+(j:Int)
 | 0,_,_,_=>rfl
 | k+1,[],_,h=>by simp at h
 | k+1,x :: st,n,h=>by
  rw[oV,aBt,rJ k st (n+1) (by simpa using h),fE]
theorem tP {c:Int}:∀ (row st:List Int) (n:Int),((st.length+row.length:Nat):Int)<=c->(eE row st n).map (·.2)=goM c row st.length n
 | [],st,n,_=>by rw[eE,rJ _ _ _ (Nat.le_refl _)];rfl
 | p :: r,st,n,h=>by
  have hk:min st.length (p - n).toNat<=st.length:=Nat.min_le_left _ _;rw[eE,aBj,rJ _ _ _ hk,goM];rw[aBx]at h;rw[if_pos (by omega)]
  congr 1
  have e:(p :: st.drop (min st.length (p - n).toNat)).length=st.length - min st.length (p - n).toNat+1:=by rw[aBx,List.length_drop]
  rw[tP (c:=c) r _ (p+1) (by rw[e];omega),e]
theorem K7 {row:List Int} {c:Int} (h:(row.length:Int)<=c):(kG row).map (·.2)=cK row c:=tP row [] 0 (by simpa using h)
theorem K8 (row:List Int):(kG row).length=row.length:=by
 have e:=K7 (row:=row) (c:=row.length) (Int.le_refl _);have:=congrArg List.length e;rw[aB4,gX]at this;exact this
inductive kA (vs:List V) (H:Hp) (Q:VK) (E_:XK):Prop
 | mk (a:Addr) (row:List Int) (h0_:vs=[.ref a]) (h1_:H a=some (.lst (row.map V.int))) (h2_:Row row) (h3_:row.length<=60) (h4_:∀ qs:List (Int×Int),qs.Perm (kG row)->qs.Pairwise ple->wM H Q qs):kA vs H Q E_
end CW
namespace L2
open PySem PySem.Spec PyProof.Rows
def UpA (xs:Array Nat):Prop:=xs.toList.Pairwise (·<·)
def o8 (m i:Nat):Nat:=(i * 5+1) % (m+1)
def V1 (m:Nat):Nat->Nat->Nat->Nat
 | 0,_,_=>0
 | f+1,i,j=>if i=j then 0 else V1 m f (o8 m i) j+1
def o9 (m:Nat):Prop:=∀ i j:Fin (m+1),i.val≠j.val->V1 m (m+1) i j=V1 m (m+1) (o8 m i) j+1
instance (m:Nat):Decidable (o9 m):=by unfold o9;infer_instance
section
variable {t:SetTable} {h:Int}
end
structure TabG (w:World) (t:SetTable) (n:Nat):Prop where
 plain:t.plain=true
 led:t.led=true\/w.params.followText "set-order"=true
 dum:t.dummies=#[]
 up:UpA t.place
 sz:t.place.size=n
 msk:(t.mask=7/\n<=4)\/(t.mask=31/\n<=18)
theorem TabG.fresh {w:World} {led:Bool} (h:led=true\/w.params.followText "set-order"=true):TabG w (.fresh 0 0 led) 0 :=
 ⟨rfl,h,rfl,.nil,rfl,.inl ⟨rfl,by decide⟩⟩
section
variable {prog:Program} {w:World} {A:Around} {E:Value->Shared->Prop} {s:Shared}
end
section
variable {prog:Program} {w:World} {A:Around} {R:Result->Shared->Prop} {I:Addr} {fp wr:List Addr} {G:Array GenState->Array GenState->Prop} {n:Nat} {P:Nat->Value->Prop} {St:Nat->Shared->Prop}
end
section
variable {prog:Program} {w:World} {A:Around} {E:Value->Shared->Prop} {s:Shared}
end
section
variable {prog:Program} {w:World} {A:Around} {E:Value->Shared->Prop} {s:Shared}
end
section
variable {prog:Program} {w:World} {A:Around} {E:Value->Shared->Prop} {s:Shared}
end
def rK (ns:List Int):List Int:=firstMet (fun i=>ns.getD i 0) ns.length
section
variable {X:Cx}
end
theorem K9 (ns:List Int) (k:Int):k∈rK ns↔k∈ns:=by
 have e:=firstMet_any (fun i=>ns.getD i 0) ns.length k;have h1:k∈rK ns↔(rK ns).any (· == k)=true:=by
  rw[List.any_eq_true];exact⟨fun h=>⟨k,h,by simp⟩,fun⟨x,h,q⟩=>by rw[beq_iff_eq]at q;exact q ▸ h⟩
 rw[h1];show (firstMet (fun i=>ns.getD i 0) ns.length).any (· == k)=true↔_;rw[e,List.any_eq_true]
 constructor
 ·rintro ⟨x,hx,q⟩;rw[beq_iff_eq]at q;obtain⟨i,hi,rfl⟩:=aCI.mp hx;have hi2:=List.mem_range.mp hi;rw[<- q];show ns.getD i 0∈ns;rw[List.getD_eq_getElem?_getD,aBe hi2];exact List.getElem_mem hi2
 ·intro h;obtain⟨i,hi,e⟩:=List.getElem_of_mem h;exact⟨k,aCI.mpr ⟨i,List.mem_range.mpr hi,by show ns.getD i 0=k;rw[List.getD_eq_getElem?_getD,aBe hi];exact e⟩,by simp⟩
section
variable {prog:Program} {w:World} {A:Around} {E:Value->Shared->Prop} {s:Shared}
variable {X:Cx} {e:Expr} {es:List Expr} {t:TA} {x y:Str} {p p2 pos pos2:Pos}
end
def DK {α:Type}:Sem α->Prop
 | .pure _=>True
 | .raise _=>True
 | .unsupported _=>True
 | .finish _=>True
 | .rule _ k=>∀ u,DK (k u)
 | .at _ k=>∀ u,DK (k u)
 | .load _ _ k=>∀ o,DK (k o)
 | .update _ _ f k=>(∀ o,(f o).dict=o.dict/\(f o).cls=o.cls/\(o.isFreed=false->(f o).isFreed=false))/\∀ u,DK (k u)
 | .alloc _ k=>∀ a,DK (k a)
 | .loadIfAlive _ k=>∀ o,DK (k o)
 | .point _ k=>∀ u,DK (k u)
 | .register _ _=>True
 | .fresh k=>∀ t,DK (k t)
 | .ask k=>∀ x,DK (k x)
 | .choose _ _ k=>∀ n,DK (k n)
 | .os _ _ _=>False
 | .call _ _ _ _ _=>False
 | .handled _ k=>∀ h,DK (k h)
 | .newGen _ _=>False
 | .genState _ k=>∀ g,DK (k g)
 | .resume _ _ _ _=>False
 | .yield _ _ _ _=>False
 | .stack k=>∀ l,DK (k l)
 | .fork _ _=>False
 | .thread k=>∀ n,DK (k n)
 | .await _ _ _ _ _=>False
theorem DK.bind {α β:Type} {f:α->Sem β}:∀ {t:Sem α},DK t->(∀ a,DK (f a))->DK (t.bind f):=by
 intro t
 induction t with
 | pure a=>intro _ hf;exact hf a
 | raise e=>intro _ _;trivial
 | unsupported w=>intro _ _;trivial
 | finish e=>intro _ _;trivial
 | rule tag k ih=>intro h hf u;exact ih u (h u) hf
 | «at» pos k ih=>intro h hf u;exact ih u (h u) hf
 | load a part k ih=>intro h hf o;exact ih o (h o) hf
 | update a part g k ih=>intro h hf;exact⟨h.1,fun u=>ih u (h.2 u) hf⟩
 | alloc o k ih=>intro h hf a;exact ih a (h a) hf
 | loadIfAlive a k ih=>intro h hf o;exact ih o (h o) hf
 | point live k ih=>intro h hf u;exact ih u (h u) hf
 | register a k ih=>intro _ _;trivial
 | fresh k ih=>intro h hf t;exact ih t (h t) hf
 | ask k ih=>intro h hf x;exact ih x (h x) hf
 | choose src n k ih=>intro h hf x;exact ih x (h x) hf
 | os req live k ih=>intro h _;exact h.elim
 | call c hd gd live k ih=>intro h _;exact h.elim
 | handled own k ih=>intro h hf x;exact ih x (h x) hf
 | newGen c k ih=>intro h _;exact h.elim
 | genState g k ih=>intro h hf x;exact ih x (h x) hf
 | resume g r live k ih=>intro h _;exact h.elim
 | yield v gd live k ih=>intro h _;exact h.elim
 | stack k ih=>intro h hf x;exact ih x (h x) hf
 | fork c k ih=>intro h _;exact h.elim
 | thread k ih=>intro h hf x;exact ih x (h x) hf
 | await a take timed live k ih=>intro h _;exact h.elim
def HD (h0 h:Heap):Prop:=∀ b o,h0.get? b=some o->∃ o',h.get? b=some o'/\o'.dict=o.dict/\o'.cls=o.cls
theorem HD.refl (h:Heap):HD h h:=fun b o e=>⟨o,e,rfl,rfl⟩
theorem HD.trans {a b c:Heap} (x:HD a b) (y:HD b c):HD a c:=fun d o e=>by
 obtain⟨o1,e1,d1,c1⟩:=x d o e;obtain⟨o2,e2,d2,c2⟩:=y d o1 e1;exact⟨o2,e2,d2.trans d1,c2.trans c1⟩
theorem zI {h:Heap} {a:Addr} {o:Obj} (e:h.get? a=some o):o.isFreed=false:=(Heap.get?_some_iff.mp e).2
theorem HD.update {h:Heap} {a:Addr} {f:Obj->Obj} (hf:∀ o,(f o).dict=o.dict/\(f o).cls=o.cls/\(o.isFreed=false->(f o).isFreed=false)):HD h (h.update a f):=fun b o e=>by
 by_cases q:b=a
 ·subst q;exact⟨f o,aBm f e ((hf o).2.2 (zI e)),(hf o).1,(hf o).2.1⟩
 ·exact⟨o,(Heap.get?_update_ne _ _ _ _ q).trans e,rfl,rfl⟩
theorem ObjOk.there {P:Program} {w:World} {H:Hp} {h:Heap} {a:Addr} {u:HO} (x:ObjOk P w H h a u):∃ o,h.get? a=some o:=by
 cases u with
 | lst xs=>obtain⟨_,_,_,_,e⟩:=x;exact⟨_,e⟩
 | tup xs=>obtain⟨_,_,_,o,e,_⟩:=x;exact⟨_,e⟩
 | dK kvs=>obtain⟨_,_,_,_,o,_,_,e,_⟩:=x;exact⟨_,e⟩
 | dT kvs=>obtain⟨_,_,_,_,o,_,_,e,_⟩:=x;exact⟨_,e⟩
 | set S n=>obtain⟨o,_,_,_,e,_⟩:=x;exact⟨_,e⟩
 | ins C dx fs=>obtain⟨_,_,_,e,_⟩:=x;exact⟨_,e⟩
 | own y=>exact x
 | xd fs=>obtain⟨_,⟨_,_,_,e,_⟩,_⟩:=x;exact⟨_,e⟩
 | rng lo hi=>obtain⟨_,_,_,e⟩:=x;exact⟨_,e⟩
 | frz ob u=>obtain⟨e,_⟩:=x;exact⟨_,e⟩
 | tbl ps=>exact⟨_,show h.get? a=some _ from x⟩
 | met f y=>exact⟨_,show h.get? a=some _ from x⟩
 | ext φ=>obtain⟨_,e,_⟩:=x;exact e
section
variable {X:Cx} {pins:List (Addr×Obj)} {σ:St} {H:Hp} {s:Shared} {E:XK}
structure Body (X:Cx):Prop where
 ex:X.ex=[]
 stk:X.stack=X.env :: X.outer
 fr:X.env.frame=some X.env.locals
theorem Body.mem (b:Body X) {c:Addr}:c∈frs X.stack↔c=X.env.locals\/c∈X.fs:=by
 rw[b.stk];unfold frs;rw[List.filterMap_cons,b.fr,aCG];rfl
end
section
variable {X:Cx}
end
section
variable {X:Cx}
end
section
variable {X:Cx}
end
open PySem.MeetsSeq
section
variable {X:Cx}
end
end L2
namespace L2
open PySem PySem.Spec PyProof.Rows
section
variable {X:Cx}
def CMulB (i j:Int):Prop:=(0<=i/\i<2 ^ 20000)/\(0<=j/\j<2 ^ 20000)
theorem V2 {i:Int} (h0:0<=i) (h1:i<2 ^ 20000):Builtin.Int.intBits i<=2 ^ 20:=by
 unfold Builtin.Int.intBits;split
 ·omega
 ·have h2:i.natAbs<2 ^ 20000:=by
   have e:((i.natAbs:Nat):Int)<((2 ^ 20000:Nat):Int):=by
    rw[Int.natAbs_of_nonneg h0,Int.natCast_pow];exact h1
   exact Int.ofNat_lt.mp e
  have hne:i.natAbs≠0:=fun e=>by
   have:i=0:=Int.natAbs_eq_zero.mp e;subst this
   rename_i q
   exact q rfl
  have:=(Nat.log2_lt hne).mpr h2;have e:(2:Nat) ^ 20=1048576:=by decide
  omega
theorem CMulB.ok {i j:Int} (h:CMulB i j):IntMulOk i j:=.of_bits (V2 h.1.1 h.1.2) (V2 h.2.1 h.2.2)
end
end L2
namespace CW
open PySem L2
structure SzOk (ns:List Int):Prop where
 pos:∀ n∈ns,1<=n
 sum:ns.sum<=60
 len:ns.length<=60
 few:(rK ns).length<=18
structure Dst (ns ms:List Int):Prop where
 perm:ms.Perm (rK ns)
 up:ms.Pairwise (·<·)
theorem Dst.mem {ns ms:List Int} (d:Dst ns ms) {m:Int}:m∈ms↔m∈ns:=d.perm.mem_iff.trans (K9 ns m)
theorem Dst.pos {ns ms:List Int} (d:Dst ns ms) (h:SzOk ns):∀ m∈ms,1<=m:=fun m hm=>h.pos m (d.mem.mp hm)
theorem Dst.len {ns ms:List Int} (d:Dst ns ms) (h:SzOk ns):ms.length<=18:=by rw[d.perm.length_eq];exact h.few
theorem SzOk.nil:SzOk []:=⟨fun n hn=>absurd hn List.not_mem_nil,by decide,by decide,by decide⟩
theorem Dst.nil {ms:List Int} (d:Dst [] ms):ms=[]:=by
 apply List.eq_nil_iff_forall_not_mem.mpr
 intro m hm;have:=d.mem.mp hm;cases this
def hlf (ws:Trs):Trs:=ws.map fun q=>(q.1,q.2 / 3)
end CW
namespace L2
open PySem PySem.Spec PyProof.Rows
open Sem (wp)
section
variable {prog:Program} {w:World} {A:Around} {E:Value->Shared->Prop} {h:Heap} {g:Array GenState} {d:Drawn} {t:Nat} {os:OsState}
variable {nm q:Str} {C N:Addr} {bs bm bmB:List Value} {hdct:Bool} {sn:List Str} {sub:List Value} {ab:Bool} {col:Option Bool} {dd:Option Addr} {k0 k1 k2 k3 k5:Option Value} {B newId initId:String}
end
open Sem (wp)
open Builtin Builtin.ObjectAttr
section
variable {prog:Program} {w:World} {A:Around} {E:Value->Shared->Prop} {h:Heap} {g:Array GenState} {d:Drawn} {t:Nat} {os:OsState} {K:PySem.W.Frag} {C e:Addr} {name:Str} {v:Value} {vs:Array Value}
end
end L2
namespace L2
open PySem PySem.Spec PyProof.Rows
section
variable {X:Cx} {pins:List (Addr×Obj)} {σ:St} {H:Hp} {s:Shared} {h':Heap} {C e dx:Addr} {od:Option Addr} {φ:Heap->Prop}
end
section
variable {X:Cx}
end
section
variable {P:Program} {w:World} {l:List Env} {H:Hp} {s s':Shared} {E:XK} {e:Addr}
structure Fly (P:Program) (w:World) (l:List Env) (H:Hp) (s:Shared) (e:Addr) (cls a0:Value) (od:Option Addr) (H':Hp) (B:Heap) (s':Shared):Prop where
 os:s'.os=s.os
 bare:AllBare s'.gens
 un:Un (frs l) [] H H' s.heap s'.heap
 hok:HOk P w H' s'.heap
 no:H' e=none
 at_:∃ oe,s'.heap.get? e=some oe/\oe.dict=od
 fl:Heap.FlyingW B l e cls a0 s'.heap
 cov:∀ b u,H' b=some u->∃ o,B.get? b=some o
 olds:∀ b o,s.heap.get? b=some o->b∉frs l->∃ o',B.get? b=some o'
variable {cls a0:Value} {od:Option Addr} {H':Hp} {B:Heap}
theorem Fly.frame (f:Fly P w l H s e cls a0 od H' B s') {b:Addr} (hb:b∈frs l) {o:Obj} (ho:s'.heap.get? b=some o):∀ vs,o.data≠.fields vs:=by
 obtain⟨_,o',ho',hnf⟩:=f.fl.2.2.1.mem hb;rw[ho]at ho';cases ho';exact hnf
theorem Fly.fresh (f:Fly P w l H s e cls a0 od H' B s') {b:Addr} {o:Obj} (e1:s.heap.get? b=some o):b≠e:=fun z=>by
 subst z
 by_cases hb:b∈frs l
 ·obtain⟨o',e2⟩:=f.un.there b o e1 (by simp);obtain⟨oe,vs,he,_,hd,_⟩:=f.fl.first
  exact f.frame hb he vs hd
 ·obtain⟨o',eB⟩:=f.olds b o e1 hb;rw[f.fl.2.1]at eB;cases eB
end
section
variable {X:Cx} {pins:List (Addr×Obj)} {σ:St} {H:Hp} {s s':Shared} {e:Addr} {cls a0:Value} {od:Option Addr} {H':Hp} {B:Heap}
end
section
variable {X:Cx} {pins:List (Addr×Obj)} {σ:St} {H:Hp} {s s':Shared} {e:Addr} {cls a0:Value} {od:Option Addr} {H':Hp} {B:Heap}
end
abbrev HR:=Value->Option Addr->Addr->pZ->St->Hp->Prop
section
variable {X:Cx} {x:Str} {c:Value} {np pos:Pos} {b₀:Stmt} {suite:List Stmt} {rest:List ExceptHandler} {ts:TS} {r:HR}
end
section
variable {X:Cx} {pins:List (Addr×Obj)} {σ:St} {H:Hp} {s:Shared}
end
section
variable {X:Cx} {x n:Str} {c:Value} {np pos:Pos} {b₀:Stmt} {suite:List Stmt} {rest:List ExceptHandler} {ts:TS} {r:HR} {i:Nat}
end
section
variable {X:Cx} {x:Str} {j k:Nat} {ps:List Str} {sp:Sp} {t:TA} {e:Expr} {es:List Expr} {p pos:Pos}
end
section
variable {X:Cx}
end
section
variable {prog:Program} {w:World} {A:Around} {E:Value->Shared->Prop} {s:Shared} {K:PySem.W.Frag} {x C:Addr} {ox:Obj} {od:Option Obj} {name:Str} {expr:Bool} {Q:Value->Shared->Prop}
end
section
variable {P:Program} {w:World} {K:PySem.W.Frag} {mg:Str->Option Value} {base:Heap}
end
open Sem (wp)
open Builtin Builtin.ObjectAttr
section
variable {prog:Program} {w:World} {A:Around} {E:Value->Shared->Prop} {h:Heap} {g:Array GenState} {d:Drawn} {t:Nat} {os:OsState} {K:PySem.W.Frag} {C e:Addr} {name:Str} {v:Value} {vs:Array Value}
end
section
variable {X:Cx} {pins:List (Addr×Obj)} {σ:St} {H:Hp} {s:Shared} {h':Heap} {dx:Addr}
end
section
variable {X:Cx}
end
structure FunD (K:PySem.W.Frag) (x qual:Str) (st:Stmt) (f:Addr) (fd:FuncData):Prop where
 ex:∃ (oc:Value) (od:Option Addr) (dV kV doc pm:Value) (an:Option Addr) (cdv ct:Value) (osl:Array (Option Value)),
  fd=PySem.W.fnOf x qual (aP st) (aN st) (aD st) dV kV doc pm an cdv ct/\K.lookup f=some ⟨oc,od,.func fd,osl⟩/\PySem.W.codeIn K cdv qual=true
 kp:PySem.W.keepIn K (.ref f)=true
section
variable {P:Program} {w:World} {K:PySem.W.Frag} {mg:Str->Option Value} {base:Heap}
theorem FunD.ok {x qual:Str} {st:Stmt} {f:Addr} {fd:FuncData} {N ps:List Str} {k:Nat} {sp:Sp} (F:FunD K x qual st f fd) (S:aQ N ps (aD st)) (len:∀ vs H Q E,sp vs H Q E->vs.length=ps.length)
 (hbody:∀ (cdv:Value) (A:Around) (outer:List Env) (s:Shared) (H:Hp) (vs:List V) (Q:VK) (E:XK),Room k (A.deeper (envOfC qual (aD st) s.heap.objs.size f cdv))->sp vs H Q E ->
  ∃ t,PSs (wG CX0 P w K mg base N qual (aD st) f cdv A outer s H E).nox (aN st) t/\t { nx:=fun _ H'=>Q .non H',rt:=Q } (mE N vs) H):FnOk P w K mg base CX0 (k+1) f fd ps sp:=by
 obtain⟨oc,od,dV,kV,doc,pm,an,cdv,ct,osl,rfl,lk,hcd⟩:=F.ex;refine O3 lk hcd S len fun A outer s H vs Q E hr hsp=>?_;obtain⟨t,h,q⟩:=hbody cdv A outer s H vs Q E hr hsp;exact⟨t,h.nox,q⟩
end
end L2
namespace L2
open PySem PySem.Spec PyProof.Rows
open PySem.W PySem.Calls
section
variable {K:PySem.W.Frag} {x t c:Value}
end
section
variable {X:Cx}
end
end L2
namespace CW
open PySem L2
section
variable {P:Program} {w:World} {K:PySem.W.Frag} {mg:Str->Option Value} {base:Heap}
def Rf (E:XK) (C:Addr) (fs:List (Str×V)) (H:Hp):Prop:=∀ dx,H dx=none->E (.ref C) (some dx) (upd H dx (.xd fs))
def Rf0 (E:XK) (C:Addr) (nm:Str) (H:Hp):Prop:=Rf E C [("word",.str nm)] H
def RfI (E:XK) (C:Addr) (nm:Str) (i:Int) (H:Hp):Prop:=Rf E C [("at",.int i),("word",.str nm)] H
def aAP (K:PySem.W.Frag) (C:Addr) (f:Str):Bool:=PySem.W.findIn K (.ref C) "__getattribute__" == some (some (.builtin "BaseException.__getattribute__")) && PySem.W.findIn K (.ref C) "__getattr__" == some none &&
 PySem.W.subIn K (.ref C) (.type "BaseException") == some true && PySem.W.hasDictIn K C && PySem.W.findIn K (.ref C) f == some none
structure e9 (K:PySem.W.Frag) (mg:Str->Option Value) where
 row:Addr
 trains:Addr
 sizes:Addr
 many:Addr
 creel:Addr
 number:Addr
 near:Addr
 bare:Addr
 err:Addr
 m_row:mg "BadRow"=some (.ref row)
 m_trains:mg "BadTrains"=some (.ref trains)
 m_sizes:mg "BadSizes"=some (.ref sizes)
 m_many:mg "TooMany"=some (.ref many)
 m_creel:mg "BadCreel"=some (.ref creel)
 m_number:mg "BadNumber"=some (.ref number)
 m_near:mg "TooNear"=some (.ref near)
 m_bare:mg "Bare"=some (.ref bare)
 m_err:mg "CreelError"=some (.ref err)
def V3 (K:PySem.W.Frag):List Addr->Bool
 | []=>true
 | a :: l=>PySem.W.exmOne K (.ref a) (.ref a) == some true && l.all (fun b=>PySem.W.exmOne K (.ref b) (.ref a) == some false) && V3 K l
structure Sees (X:e9 K mg):Prop where
 met:V3 K [X.row,X.trains,X.sizes,X.many,X.creel,X.number,X.near,X.bare]=true
 g1:aAP K X.row "at"=true
 g2:aAP K X.trains "at"=true
 g3:aAP K X.sizes "at"=true
 e1:PySem.W.exmOne K (.ref X.row) (.ref X.err)=some true
 e4:PySem.W.exmOne K (.ref X.many) (.ref X.err)=some true
theorem Sees.all {X:e9 K mg} (Z:Sees X):PySem.W.exmOne K (.ref X.row) (.ref X.row)=some true/\PySem.W.exmOne K (.ref X.trains) (.ref X.trains)=some true/\PySem.W.exmOne K (.ref X.sizes) (.ref X.sizes)=some true/\PySem.W.exmOne K (.ref X.many) (.ref X.many)=some true/\PySem.W.exmOne K (.ref X.creel) (.ref X.creel)=some true/\PySem.W.exmOne K (.ref X.number) (.ref X.number)=some true/\PySem.W.exmOne K (.ref X.near) (.ref X.near)=some true/\PySem.W.exmOne K (.ref X.bare) (.ref X.bare)=some true/\PySem.W.exmOne K (.ref X.trains) (.ref X.row)=some false/\PySem.W.exmOne K (.ref X.sizes) (.ref X.row)=some false/\PySem.W.exmOne K (.ref X.sizes) (.ref X.trains)=some false/\PySem.W.exmOne K (.ref X.many) (.ref X.row)=some false/\PySem.W.exmOne K (.ref X.many) (.ref X.trains)=some false/\PySem.W.exmOne K (.ref X.many) (.ref X.sizes)=some false/\PySem.W.exmOne K (.ref X.creel) (.ref X.row)=some false/\PySem.W.exmOne K (.ref X.creel) (.ref X.trains)=some false/\PySem.W.exmOne K (.ref X.creel) (.ref X.sizes)=some false/\PySem.W.exmOne K (.ref X.creel) (.ref X.many)=some false/\PySem.W.exmOne K (.ref X.number) (.ref X.row)=some false/\PySem.W.exmOne K (.ref X.number) (.ref X.trains)=some false/\PySem.W.exmOne K (.ref X.number) (.ref X.sizes)=some false/\PySem.W.exmOne K (.ref X.number) (.ref X.many)=some false/\PySem.W.exmOne K (.ref X.number) (.ref X.creel)=some false/\PySem.W.exmOne K (.ref X.near) (.ref X.row)=some false/\PySem.W.exmOne K (.ref X.near) (.ref X.trains)=some false/\PySem.W.exmOne K (.ref X.near) (.ref X.sizes)=some false/\PySem.W.exmOne K (.ref X.near) (.ref X.many)=some false/\PySem.W.exmOne K (.ref X.near) (.ref X.creel)=some false/\PySem.W.exmOne K (.ref X.near) (.ref X.number)=some false/\PySem.W.exmOne K (.ref X.bare) (.ref X.row)=some false/\PySem.W.exmOne K (.ref X.bare) (.ref X.trains)=some false/\PySem.W.exmOne K (.ref X.bare) (.ref X.sizes)=some false/\PySem.W.exmOne K (.ref X.bare) (.ref X.many)=some false/\PySem.W.exmOne K (.ref X.bare) (.ref X.creel)=some false/\PySem.W.exmOne K (.ref X.bare) (.ref X.number)=some false/\PySem.W.exmOne K (.ref X.bare) (.ref X.near)=some false:=by
 have h:=Z.met;simp only[V3,List.all_cons,List.all_nil,Bool.and_eq_true,Bool.and_true,beq_iff_eq]at h;simp only[h,and_self]
def aBZ (row:List Int):Prop:=∀ j,1<=j->j<row.length->row.getD (j - 1) 0<row.getD j 0
def aAu (row:List Int) (i:Nat):Prop:=1<=i/\i<row.length/\row.getD i 0<=row.getD (i - 1) 0/\∀ j,1<=j->j<i->row.getD (j - 1) 0<row.getD j 0
inductive WhyRow (row:List Int):Str->Int->Prop where
 | many:60<row.length->WhyRow row "TooMany" 0
 | good:row.length<=60->aBZ row->WhyRow row "" 0
 | bad {i:Nat}:row.length<=60->aAu row i->WhyRow row "BadRow" i
structure FunC (K:PySem.W.Frag) (x qual:Str) (st:Stmt) (f:Addr) (fd:FuncData) (c:Addr):Prop where
 ex:∃ (oc:Value) (od:Option Addr) (kV doc pm:Value) (an:Option Addr) (ct:Value) (osl:Array (Option Value)),
  fd=PySem.W.fnOf x qual (aP st) (aN st) (aD st) .none kV doc pm an (.ref c) ct/\K.lookup f=some ⟨oc,od,.func fd,osl⟩/\PySem.W.codeIn K (.ref c) qual=true
theorem FunC.ok {x qual:Str} {st:Stmt} {f c:Addr} {fd:FuncData} {N ps:List Str} {k:Nat} {sp:Sp} (F:FunC K x qual st f fd c) (S:aQ N ps (aD st)) (len:∀ vs H Q E,sp vs H Q E->vs.length=ps.length)
 (hbody:∀ (A:Around) (outer:List Env) (s:Shared) (H:Hp) (vs:List V) (Q:VK) (E:XK),Room k (A.deeper (PyProof.Rows.envOfC qual (aD st) s.heap.objs.size f (.ref c)))->sp vs H Q E ->
  ∃ t,PSs (wG CX0 P w K mg base N qual (aD st) f (.ref c) A outer s H E).nox (aN st) t/\t { nx:=fun _ H'=>Q .non H',rt:=Q } (mE N vs) H):FnOk P w K mg base CX0 (k+1) f fd ps sp:=by
 obtain⟨oc,od,kV,doc,pm,an,ct,osl,rfl,lk,hcd⟩:=F.ex;refine O3 lk hcd S len fun A outer s H vs Q E hr hsp=>?_;obtain⟨t,h,q⟩:=hbody A outer s H vs Q E hr hsp;exact⟨t,h.nox,q⟩
def SameP (P:Addr) (H H':Hp):Prop:=∀ b o,b≠P->H b=some o->H' b=some o
theorem SameP.trans {P:Addr} {H H1 H2:Hp} (a:SameP P H H1) (b:SameP P H1 H2):SameP P H H2:=fun c o n h=>b c o n (a c o n h)
theorem SameP.tbl {P:Addr} {H:Hp} {o:HO}:SameP P H (upd H P o):=fun b o n h=>by rw[aG n];exact h
theorem WhyRow.ok {row:List Int} {nm:Str} {i:Int} (W:WhyRow row nm i):PyData.strOk nm=true:=by
 cases W <;> decide +kernel
theorem WhyRow.eqv {row:List Int} {nm:Str} {i:Int} (W:WhyRow row nm i):PyData.eqv (.str nm) (.str "")=decide (nm=""):=by
 cases W <;> decide +kernel
end
inductive Ref where
 | ok | many | row (i:Int) | trains (i:Int) | sizes (i:Int) | creel | number | near | bare
def Ref.nm:Ref->Str
 | .ok=>"" | .many=>"TooMany" | .row _=>"BadRow" | .trains _=>"BadTrains" | .sizes _=>"BadSizes" | .creel=>"BadCreel" | .number=>"BadNumber" | .near=>"TooNear" | .bare=>"Bare"
def Ref.at:Ref->Int
 | .row i=>i | .trains i=>i | .sizes i=>i | _=>0
theorem Ref.strOk (r:Ref):PyData.strOk r.nm=true:=by cases r <;> simp only[Ref.nm] <;> decide +kernel
section
variable {P:Program} {w:World} {K:PySem.W.Frag} {mg:Str->Option Value} {base:Heap}
def Ref.go (X:e9 K mg) (E:XK) (H:Hp):Ref->Prop
 | .ok=>False
 | .many=>Rf0 E X.many "TooMany" H
 | .row i=>RfI E X.row "BadRow" i H
 | .trains i=>RfI E X.trains "BadTrains" i H
 | .sizes i=>RfI E X.sizes "BadSizes" i H
 | .creel=>Rf0 E X.creel "BadCreel" H
 | .number=>Rf0 E X.number "BadNumber" H
 | .near=>Rf0 E X.near "TooNear" H
 | .bare=>Rf0 E X.bare "Bare" H
section
variable {X:e9 K mg} {row:List Int} {c p:Int} {H:Hp} {Q:VK} {lh t0:Addr}
end
end
theorem nP:∀ {a b:List (Int×Int)},a.Perm b->a.Pairwise ple->b.Pairwise ple->a=b
 | [],b,h,_,_=>by rw[h.symm.eq_nil]
 | x :: a,[],h,_,_=>by have:=h.eq_nil;cases this
 | x :: a,y :: b,h,ha,hb=>by
  have ha':=List.pairwise_cons.mp ha;have hb':=List.pairwise_cons.mp hb;have hx:x∈y :: b:=h.mem_iff.mp aB6;have hy:y∈x :: a:=h.mem_iff.mpr aB6;have e:x=y:=by
   rcases aCG.mp hx with q | q
   ·exact q
   ·rcases aCG.mp hy with r | r
    ·exact r.symm
    ·have h1:=ha'.1 y r;have h2:=hb'.1 x q;unfold ple at h1 h2;exact Prod.ext (by omega) (by omega)
  subst e;rw[nP (List.perm_cons x |>.mp h) ha'.2 hb'.2]
section
variable {P:Program} {w:World} {K:PySem.W.Frag} {mg:Str->Option Value} {base:Heap}
end
def kvI (ms:List (Int×Int)):List (Key×V):=ms.map fun m=>((Sum.inl m.1:Key),V.int m.2)
def lkI (ms:List (Int×Int)) (c:Int):Option Int:=(ms.find? fun m=>decide (m.1=c)).map (·.2)
theorem nQ (k:Int):∀ ms:List (Int×Int),cU (kvI ms) (Sum.inl k:Key)=(lkI ms k).map V.int
 | []=>rfl
 | m :: r=>by
  by_cases h:m.1=k
  ·have:cU (kvI (m :: r)) (Sum.inl k:Key)=some (V.int m.2):=cV (p:=((Sum.inl m.1:Key),V.int m.2)) (by rw[h]);rw[this];unfold lkI;rw[List.find?_cons,aBq h];rfl
  ·have:cU (kvI (m :: r)) (Sum.inl k:Key)=cU (kvI r) (Sum.inl k:Key):=cW (p:=((Sum.inl m.1:Key),V.int m.2)) (fun z=>h (Sum.inl.inj z));rw[this,nQ k r];unfold lkI;rw[List.find?_cons,aBp h]
def pH (ms:List (Int×Int)) (k v:Int):List (Int×Int):=if ms.any (fun m=>decide (m.1=k))then ms.map (fun m=>if m.1=k then (m.1,v)else m)else ms++[(k,v)]
theorem C4 (ms:List (Int×Int)) (k v:Int):gR (kvI ms) (Sum.inl k:Key) (V.int v)=kvI (pH ms k v):=by
 have e:(kvI ms).any (fun kv=>decide (kv.1=(Sum.inl k:Key)))=ms.any (fun m=>decide (m.1=k)):=by
  unfold kvI;rw[List.any_map]
  congr 1
  funext m
  simp only[Function.comp]
  by_cases h:m.1=k
  ·rw[aBq h,aBq (by rw[h])]
  ·rw[aBp h,aBp (fun z=>h (Sum.inl.inj z))]
 unfold gR pH;rw[e]
 by_cases h:ms.any (fun m=>decide (m.1=k))=true
 ·rw[if_pos h,if_pos h];unfold kvI;rw[aBy,aBy];refine List.map_congr_left fun m _=>?_;simp only[Function.comp]
  by_cases hm:m.1=k
  ·rw[if_pos hm,if_pos (by rw[hm])]
  ·rw[if_neg hm,if_neg (fun z=>hm (Sum.inl.inj z))]
 ·rw[if_neg h,if_neg h];unfold kvI;rw[aBj];rfl
theorem i0 (ms:List (Int×Int)) (k v c:Int):lkI (pH ms k v) c=if c=k then some v else lkI ms c:=by
 have h:=valV_put (kvI ms) (Sum.inl k:Key) (Sum.inl c:Key) (V.int v);rw[C4,nQ,nQ]at h
 by_cases hc:c=k
 ·subst hc;rw[if_pos rfl]at h ⊢;cases hq:lkI (pH ms c v) c with
  | none=>rw[hq]at h;cases h
  | some x =>
   rw[hq]at h;have:V.int x=V.int v:=Option.some.inj h;cases this;rfl
 ·rw[if_neg (fun z=>hc (Sum.inl.inj z))]at h;rw[if_neg hc];cases hq:lkI (pH ms k v) c with
  | none =>
   rw[hq]at h;cases hr:lkI ms c with
   | none=>rfl
   | some y=>rw[hr]at h;cases h
  | some x =>
   rw[hq]at h;cases hr:lkI ms c with
   | none=>rw[hr]at h;cases h
   | some y =>
    rw[hr]at h;have:V.int x=V.int y:=Option.some.inj h;cases this;rfl
theorem i3 {ms:List (Int×Int)} {k v:Int} (h:(ms.map (·.1)).Nodup):((pH ms k v).map (·.1)).Nodup:=by
 unfold pH
 by_cases ha:ms.any (fun m=>decide (m.1=k))=true
 ·rw[if_pos ha,aBy];have:ms.map ((fun x=>x.1)∘fun m=>if m.1=k then (m.1,v)else m)=ms.map (·.1):=by
   refine List.map_congr_left fun m _=>?_;simp only[Function.comp];split <;> rfl
  rw[this];exact h
 ·rw[if_neg ha,aBj,List.nodup_append];refine⟨h,by simp,fun x hx y hy=>?_⟩;obtain⟨m,hm,rfl⟩:=aCI.mp hx;have hy':y=k:=by simpa using hy
  rw[hy'];intro e;exact ha (List.any_eq_true.mpr ⟨m,hm,by simpa using e⟩)
theorem i5 (ms:List (Int×Int)) (k v:Int):(pH ms k v).length<=ms.length+1:=by
 unfold pH;split
 ·rw[aB4];omega
 ·rw[aBd,List.length_singleton];omega
theorem i6 {ms:List (Int×Int)} {k v:Int} {x:Int×Int} (h:x∈pH ms k v):x.1=k\/x∈ms:=by
 unfold pH at h;split at h
 ·obtain⟨m,hm,rfl⟩:=aCI.mp h
  by_cases hk:m.1=k
  ·rw[if_pos hk];exact .inl hk
  ·rw[if_neg hk];exact .inr hm
 ·rcases aCH.mp h with h | h
  ·exact .inr h
  ·rw[aCA.mp h];exact .inl rfl
theorem i7 {ms:List (Int×Int)} {c m:Int} (h:lkI ms c=some m):(c,m)∈ms:=by
 unfold lkI at h;obtain⟨x,hx,rfl⟩:=aCE.mp h;have h1:=List.mem_of_find?_eq_some hx;have h2:x.1=c:=by simpa using List.find?_some hx
 rw[<- h2];exact h1
theorem C5:∀ {ms:List (Int×Int)} {c m:Int},(ms.map (·.1)).Nodup->(c,m)∈ms->lkI ms c=some m
 | [],_,_,_,h=>by cases h
 | x :: r,c,m,hn,h=>by
  rw[aBt,List.nodup_cons]at hn;unfold lkI;rw[List.find?_cons]
  by_cases hx:x.1=c
  ·rw[aBq hx];rcases aCG.mp h with e | e
   ·rw[<- e];rfl
   ·exact absurd (aCI.mpr ⟨_,e,hx.symm⟩) hn.1
  ·rw[aBp hx];rcases aCG.mp h with e | e
   ·rw[<- e]at hx;exact absurd rfl hx
   ·exact C5 hn.2 e
def nR (n:Int) (q:Int×Int):Int:=if n<q.1 then n else q.1
def zJ (ws:List (Int×Int)) (n c:Int):Int:=((ws.filter fun q=>decide (nR n q=c)).map (·.2)).sum
theorem L0 {ws:List (Int×Int)} {n c:Int} {i:Nat} {q:Int×Int} (h:ws[i]?=some q):zJ (ws.take (i+1)) n c=zJ (ws.take i) n c+if nR n q=c then q.2 else 0:=by
 unfold zJ;rw[aBz,h,List.filter_append,aBj,List.sum_append]
 by_cases hc:nR n q=c
 ·simp[hc]
 ·simp[hc]
def gJ (ws:List (Int×Int)) (n:Int):Nat->List (Int×Int)
 | 0=>[]
 | i+1=>gJ ws n i++(if zJ ws n ((i:Int)+1)=0 then []else [((i:Int)+1,zJ ws n ((i:Int)+1))])
theorem nS {ws:List (Int×Int)} {n:Int}:∀ {i:Nat} {x:Int×Int},x∈gJ ws n i↔(1<=x.1/\x.1<=i)/\x.2=zJ ws n x.1/\x.2≠0
 | 0,x=>⟨fun h=>(nomatch h),fun h=>absurd h.1 (by omega)⟩
 | i+1,x=>by
  unfold gJ;rw[aCH,nS (i:=i)]
  constructor
  ·rintro (⟨h1,h2⟩ | h)
   ·exact⟨⟨h1.1,by omega⟩,h2⟩
   ·split at h
    ·cases h
    ·rename_i hz
     rw[aCA.mp h];exact⟨⟨by show 1<=(i:Int)+1;omega,by show (i:Int)+1<=_;omega⟩,rfl,hz⟩
  ·rintro ⟨h1,h2,h3⟩
   by_cases hx:x.1=(i:Int)+1
   ·right
    rw[if_neg (by rw[<- hx,<- h2];exact h3),aCA];exact Prod.ext hx (by rw[h2,hx])
   ·exact .inl ⟨⟨h1.1,by omega⟩,h2,h3⟩
theorem lF {ws:List (Int×Int)} {n:Int}:∀ i:Nat,(gJ ws n i).Pairwise ple/\(gJ ws n i).Nodup
 | 0=>⟨List.Pairwise.nil,List.Pairwise.nil⟩
 | i+1=>by
  have ih:=lF (ws:=ws) (n:=n) i;unfold gJ;split
  ·rw[List.append_nil];exact ih
  ·refine⟨List.pairwise_append.mpr ⟨ih.1,List.pairwise_singleton _ _,fun a ha b hb=>?_⟩,List.nodup_append.mpr ⟨ih.2,by simp,fun a ha b hb e=>?_⟩⟩
   ·rw[aCA.mp hb];have:=(nS.mp ha).1;exact .inl (by show a.1<(i:Int)+1;omega)
   ·rw[aCA.mp hb]at e;have:=(nS.mp ha).1;rw[e]at this;simp only at this;omega
theorem xQ {ws:List (Int×Int)} {n:Int}:∀ i:Nat,(gJ ws n i).length<=i
 | 0=>Nat.le_refl _
 | i+1=>by
  have ih:=xQ (ws:=ws) (n:=n) i;unfold gJ;rw[aBd];split
  ·simp;omega
  ·simp;omega
theorem sB:∀ {a b:List (Int×Int)},a.Nodup->b.Nodup->(∀ x,x∈a↔x∈b)->a.Perm b:=fun h1 h2 h=>(List.perm_ext_iff_of_nodup h1 h2).mpr h
section
variable {P:Program} {w:World} {K:PySem.W.Frag} {mg:Str->Option Value} {base:Heap}
end
end CW
namespace L2
open PySem PySem.W PySem.Spec PyProof.Rows
section
variable {prog:Program} {w:World} {A:Around} {R:Result->Shared->Prop} {I S:Addr} {fp:List Addr} {P:Nat->Value->Prop} {St:Nat->Heap->Prop} {d:Value} {ns:List Int}
end
section
variable {X:Cx} {e f:Expr} {te tf:TE} {p pos kp:Pos}
end
end L2
namespace L2
open PySem PySem.Spec PyProof.Rows
end L2
namespace CW
open PySem L2
end CW
namespace CW
end CW
namespace L2
open PySem PySem.Spec PyProof.Rows
section
variable {X:Cx} {pins:List (Addr×Obj)} {σ:St} {H:Hp} {s:Shared}
end
section
variable {X:Cx}
end
end L2
namespace CW
open PySem L2
section
variable {P:Program} {w:World} {K:PySem.W.Frag} {mg:Str->Option Value} {base:Heap}
def SameL (PT:Addr) (H H':Hp):Prop:=∀ b o,b≠PT->(∀ φ,o≠.ext φ)->H b=some o->H' b=some o
theorem SameL.trans {PT:Addr} {H H1 H2:Hp} (a:SameL PT H H1) (b:SameL PT H1 H2):SameL PT H H2:=fun c o n x h=>b c o n x (a c o n x h)
end
section
variable {P:Program} {w:World} {K:PySem.W.Frag} {mg:Str->Option Value} {base:Heap}
end
theorem DG.keep {H H':Hp} {d:Addr} {gs:List Grp} (dg:DG H d gs) (s:Same H H'):DG H' d gs:=⟨s _ _ dg.at_,fun g hg=>s _ _ (dg.lst g hg),dg.adr,dg.key⟩
end CW
namespace L2
open PySem PySem.Spec PyProof.Rows
section
variable {X:Cx}
end
section
variable {X:Cx} {pins:List (Addr×Obj)} {σ:St} {H H':Hp} {s:Shared} {h':Heap}
theorem Inv.many {t':Nat} (I:Inv X pins σ H s) (k:∀ b u,s.heap.get? b=some u->h'.get? b=some u) (ext:∀ b o,H b=some o->H' b=some o) (new:∀ b o,H' b=some o->H b=none->s.heap.objs.size<=b) (hok:∀ b o,H' b=some o->H b=none->ObjOk X.prog X.w H' h' b o)
 (old:∀ b o,H b=some o->ObjOk X.prog X.w H' h' b o):Inv X pins σ H' { s with heap:=h',toks:=t' }:=by
 refine I.un (H':=H') ⟨fun b o e n _ _=>k b o e,fun b o e n _ _=>⟨o.slots,k b o e⟩,fun b o e n _=>?_,fun b o e _=>⟨o,k b o e⟩,fun b xs e=>ext b _ e,fun b o u e=>ext b _ e,fun b ps e=>⟨#[],by rw[ext b _ e];simp⟩⟩ (fun b o e=>?_)
 ·cases q:H' b with
  | none=>rfl
  | some o'=>exact absurd (aBa e) (Nat.not_lt.mpr (new b o' q n))
 ·cases q:H b with
  | none=>exact hok b o e q
  | some o' =>
   have:=ext b o' q;rw[e]at this;cases this;exact old b o q
end
section
variable {prog:Program} {w:World} {A:Around} {E:Value->Shared->Prop} {s:Shared}
end
structure TsOk (h:Heap) (b0:Nat) (no:List Addr) (xs ys:Array Value) (Ts:List Addr):Prop where
 at_:∀ (j:Nat) (T:Addr),Ts[j]?=some T->∃ x y,xs[j]?=some x/\ys[j]?=some y/\IsPair h T x y
 new:∀ T∈Ts,b0<=T/\T∉no
 nd:Ts.Nodup
theorem TsOk.keep {h h':Heap} {b0:Nat} {no:List Addr} {xs ys:Array Value} {Ts:List Addr} (t:TsOk h b0 no xs ys Ts) (k:∀ c o,c∉no->h.get? c=some o->h'.get? c=some o):TsOk h' b0 no xs ys Ts :=
 ⟨fun j T e=>let ⟨x,y,h1,h2,h3⟩:=t.at_ j T e;⟨x,y,h1,h2,k T _ (t.new T (aBf e)).2 h3⟩,t.new,t.nd⟩
theorem TsOk.snoc {h:Heap} {b0:Nat} {no:List Addr} {xs ys:Array Value} {Ts:List Addr} {T:Addr} {x y:Value} (t:TsOk h b0 no xs ys Ts) (hx:xs[Ts.length]?=some x) (hy:ys[Ts.length]?=some y) (hT:IsPair h T x y) (hb:b0<=T) (hno:T∉no) (hn:T∉Ts):TsOk h b0 no xs ys (Ts++[T]):=by
 refine⟨fun j T' e=>?_,fun T' e=>?_,?_⟩
 ·rw[List.getElem?_append]at e;split at e
  ·exact t.at_ j T' e
  ·rename_i q
   have:j=Ts.length:=by
    rcases Nat.lt_or_ge (j - Ts.length) 1 with z | z
    ·omega
    ·rw[List.getElem?_eq_none (by simpa using z)]at e;cases e
   subst this;rw[Nat.sub_self]at e;cases e;exact⟨x,y,hx,hy,hT⟩
 ·rcases aCH.mp e with q | q
  ·exact t.new T' q
  ·rw[aCA.mp q];exact⟨hb,hno⟩
 ·rw[List.nodup_append];exact⟨t.nd,by simp,fun a ha b hb' e=>hn (by rw[aCA]at hb';rw[<- hb',<- e];exact ha)⟩
section
variable {prog:Program} {w:World} {A:Around} {R:Result->Shared->Prop}
end
open PySem.W
section
variable {prog:Program} {w:World} {A:Around} {E:Value->Shared->Prop} {R:Result->Shared->Prop} {s:Shared}
end
structure ZS (h:Heap) (z TI TO i1 i2 l1 l2:Addr) (xs ys:Array Value) (a b:Value):Prop where
 hz:IsZip h z TI TO .none
 hTI:IsPair h TI (.ref i1) (.ref i2)
 hTO:IsPair h TO a b
 h1:h.IsListIter i1 l1 0
 h2:h.IsListIter i2 l2 0
 hl1:h.IsList l1 xs
 hl2:h.IsList l2 ys
theorem ZS.keep {h h':Heap} {z TI TO i1 i2 l1 l2 S:Addr} {xs ys:Array Value} {a b:Value} (q:ZS h z TI TO i1 i2 l1 l2 xs ys a b) (hS:S≠z/\S≠TI/\S≠i1/\S≠i2/\S≠l1/\S≠l2) (hTS:S≠TO)
 (k:∀ c o,c≠S->h.get? c=some o->h'.get? c=some o):ZS h' z TI TO i1 i2 l1 l2 xs ys a b :=
 ⟨k _ _ hS.1.symm q.hz,k _ _ hS.2.1.symm q.hTI,k _ _ hTS.symm q.hTO,q.h1.at fun o e=>k _ o hS.2.2.1.symm e,q.h2.at fun o e=>k _ o hS.2.2.2.1.symm e,q.hl1.at fun o e=>k _ o hS.2.2.2.2.1.symm e,q.hl2.at fun o e=>k _ o hS.2.2.2.2.2.symm e⟩
section
variable {prog:Program} {w:World} {A:Around} {E:Value->Shared->Prop} {R:Result->Shared->Prop} {s:Shared}
end
section
variable {X:Cx} {x y:Str} {a b:Expr} {ta:TA} {p p2 pos pos2:Pos}
end
end L2
namespace CW
open PySem L2
section
variable {P:Program} {w:World} {K:PySem.W.Frag} {mg:Str->Option Value} {base:Heap} {CX:CXT}
end
def bal (row:List Int) (x m:Int):Int:=2 * ((cnt row m:Int) - (cnt row (x - 1):Int)) - (m - x+1)
theorem nT {row:List Int} (h:Row row) (x m:Int):bal row x m=bal row x (m - 1)+(if m∈row then 1 else -1):=by
 unfold bal;rw[R0 h m]
 by_cases q:m∈row
 ·rw[if_pos q,if_pos q];omega
 ·rw[if_neg q,if_neg q];omega
theorem xR {row:List Int} (h:Row row) {x:Int} (hx:x∈row):bal row x x=1:=by
 rw[nT h,if_pos hx];unfold bal;omega
structure aB0 (row:List Int) (x n:Int):Prop where
 mem:x∈row
 lt:x<n
 nul:bal row x n=0
 pos:∀ m,x<=m->m<n->0<bal row x m
structure StOk (row st:List Int) (n:Int):Prop where
 ok:∀ (d:Nat) (x:Int),st[d]?=some x->x∈row/\x<n/\bal row x (n - 1)=d+1/\∀ m,x<=m->m<n->0<bal row x m
theorem StOk.nil {row:List Int} {n:Int}:StOk row [] n:=⟨fun d x h=>by simp at h⟩
theorem StOk.pop {row st:List Int} {x n:Int} (hr:Row row) (h:StOk row (x :: st) n) (hn:n∉row):aB0 row x n/\StOk row st (n+1):=by
 refine⟨?_,⟨fun d y hy=>?_⟩⟩
 ·obtain⟨a,b,c,e⟩:=h.ok 0 x rfl;refine⟨a,b,?_,e⟩;rw[nT hr,if_neg hn,c];rfl
 ·obtain⟨a,b,c,e⟩:=h.ok (d+1) y (by simpa using hy);have s:=nT hr y n;rw[if_neg hn,c]at s;refine⟨a,by omega,by rw[show n+1 - 1=n by omega,s];omega,fun m h1 h2=>?_⟩
  by_cases q:m<n
  ·exact e m h1 q
  ·rw[show m=n by omega,s];omega
theorem StOk.push {row st:List Int} {p n:Int} (hr:Row row) (h:StOk row st n) (hp:p∈row) (hst:st=[]\/p=n):StOk row (p :: st) (p+1):=by
 refine⟨fun d y hy=>?_⟩;cases d with
 | zero =>
  have e:p=y:=by simpa using hy
  subst e;refine⟨hp,by omega,by rw[show p+1 - 1=p by omega,xR hr hp];rfl,fun m h1 h2=>?_⟩;rw[show m=p by omega,xR hr hp]
  decide
 | succ d =>
  rcases hst with e | e
  ·subst e;simp at hy
  ·subst e;obtain⟨a,b,c,e⟩:=h.ok d y (by simpa using hy);have s:=nT hr y p;rw[if_pos hp,c]at s;refine⟨a,by omega,by rw[show p+1 - 1=p by omega,s];omega,fun m h1 h2=>?_⟩
   by_cases q:m<p
   ·exact e m h1 q
   ·rw[show m=p by omega,s];omega
end CW
namespace CW
end CW
namespace CW
open PySem L2
def rr (S:Int):Trs->List Int
 | []=>[]
 | q :: B=>rnn (q.2+2 * S+q.1+1) q.1.toNat++rr (S+q.1) B
end CW
namespace L2
open PySem PySem.Spec PyProof.Rows
section
variable {prog:Program} {w:World} {A:Around} {E:Value->Shared->Prop} {s:Shared}
theorem xS {T nid iid:String} {B1 B2:Builtin} {vs:List Value} {kw:List (Str×Value)} {S:PySem.Spec} {Q Q1:Value->Shared->Prop} (ft:TypeCalled T nid iid)
 (h1:checkTypeCall T ⟨vs,kw⟩=pure ()) (h2:checkBuiltinCall nid ⟨.type T :: vs,kw⟩=pure ()) (e1:entryFor table nid=some B1) (e2:entryFor table iid=some B2)
 (g:Meets (B1 ⟨.type T :: vs,kw⟩) S) (h:S A.in1 (wants Q1 E) s)
 (hn:∀ obj t,Q1 obj t->t.TypeIs obj T/\argsOk iid ⟨obj :: vs,kw⟩/\∃ Si,Meets (B2 ⟨obj :: vs,kw⟩) Si/\Si A.in1 (wants (fun r t2=>r=.none/\Q obj t2) E) t):wpAny (model prog w) A (call (.type T) vs kw) Q E s:=by
 obtain⟨c,tl,hmro⟩:=ft.mro;have hmade:=ft.made;have hsub:=ft.sub;refine wpAny_call (codeAny_of_tree (show wpAny _ _ (callAny (.type T) _) _ _ _ from aB3 ⟨Code.quiet_builtin _ (by decide +kernel),codeAny_builtin PySem.F.entry_type_call ?_⟩));rw[Around.under_plain (weight_type_call_type T vs kw) (units_type_call_type T vs kw)];have n1:=ft.notType;have n2:=ft.canCreate
 repeat (any_goals (first | assumption | wp_step))
 refine codeAny_mono (codeAny_call_builtin ft.plain e1 (wpAny_of_eq h2 (g prog w A.in1 _ s h))) fun r t hr=>?_;cases r with
 | error e=>exact hr
 | ok fl =>
  cases fl with
  | ret obj =>
   obtain⟨hT,hok,Si,gi,hsi⟩:=hn _ _ hr;have hli:=ft.init.lookup;have hbi:=ft.init.bind obj
   repeat (any_goals (first | assumption | wp_step))
   refine codeAny_mono (codeAny_call_builtin ft.init.plain e2 (ft.init.check _ _ _ _ _ _ _ _ hT hok (gi prog w A.in1 _ t hsi))) fun r2 t2 hr2=>?_;cases r2 with
   | error e=>exact hr2
   | ok fl2 =>
    cases fl2 with
    | ret r =>
     obtain⟨rfl,hq⟩:=hr2
     repeat (any_goals (first | assumption | wp_step))
    | _=>exact hr2.elim
  | _=>exact hr.elim
theorem V4 {T nid:String} {v:Value} {vs:List Value} {kw:List (Str×Value)} (hl:typeLookup (.type T) "__init__"=pure (some (.builtin "object.__init__"))) (hm:Bind.madeBy (.type T)=pure (some nid)) (hne:(some nid != some "object.__new__")=true) :
 Meets (Builtin.«object.__init__» ⟨v :: vs,kw⟩) (fun _ R t=>t.TypeIs v T/\R (.ok (.ret .none)) t):=by
 refine Meets.of_wp fun prog w A R t ht=>?_;obtain⟨hT,hq⟩:=ht;cases vs with
 | nil =>
  cases kw with
  | nil=>exact aB3 ⟨_,rfl,hq⟩
  | cons a kw =>
   repeat (any_goals (first | assumption | wp_step))
   exact⟨_,rfl,hq⟩
 | cons a vs =>
  repeat (any_goals (first | assumption | wp_step))
  exact⟨_,rfl,hq⟩
theorem i8 (a b:Value):checkTypeCall "enumerate" ⟨[a],[(Str.ofString "start",b)]⟩=pure ():=by kernel_rfl
theorem aAQ (a b:Value):checkBuiltinCall "enumerate.__new__" ⟨[.type "enumerate",a],[(Str.ofString "start",b)]⟩=pure ():=by kernel_rfl
theorem i9 (o a b:Value):argsOk "object.__init__" ⟨[o,a],[(Str.ofString "start",b)]⟩:=by
 unfold argsOk;rw[signature?_of (id:="object.__init__") (n:=['_','_','t','i','n','i','_','_']) (o:=['t','c','e','j','b','o']) (by kernel_rfl) PySem.F.owner_object]
 kernel_rfl
theorem j0 (m:Int) (tm:Tok) (hf:Builtin.SmallTypes.fitsIndex m=true) (l:Addr) (its:Array Value) (n:Nat) (dct:Option Addr) (sl:Array (Option Value)) :
 Meets (Builtin.«enumerate.__new__» ⟨[.type "enumerate",.ref l],[(Str.ofString "start",.int m tm)]⟩) (fun _ R t=>t.heap.get? l=some { cls:=.type "list",dict:=dct,data:=.seq its n,slots:=sl } /\
  R (.ok (.ret (.ref (t.heap.push { cls:=.type "list_iterator",data:=.fields #[.ref l,.int 0 0] }).objs.size)))
   { t with heap:=(t.heap.push { cls:=.type "list_iterator",data:=.fields #[.ref l,.int 0 0] }).push { cls:=.type "enumerate",data:=.fields #[.none,.bool false,.ref t.heap.objs.size,rawInt m,.none,.none] } }) :=
 .of_wp fun prog w A R t h=>by
  obtain⟨hp,g,d,tk,os⟩:=t;obtain⟨hl,h⟩:=h;have hsub:=sub_enumerate;have hL:Heap.IsList (Shared.heap ⟨hp,g,d,tk,os⟩) l its:=⟨_,hl,rfl,n,rfl⟩
  wp_walk using AutoSeq1.wpAny_loadPart' hl
  refine wpAny_stack_any fun st=>aB3 ?_;split
  ·rename_i c _ _ _ _ _
   cases (c == Value.type "enumerate")
   all_goals
    wp_walk using AutoSeq1.wpAny_loadPart' hl,wpAny_pyIter_list hL
    exact⟨_,rfl,h⟩
  ·wp_walk using AutoSeq1.wpAny_loadPart' hl,wpAny_pyIter_list hL
   exact⟨_,rfl,h⟩
theorem V5 {m:Int} {tm:Tok} {l:Addr} {its:Array Value} {Q:Value->Shared->Prop} (hf:Builtin.SmallTypes.fitsIndex m=true) (hL:s.heap.IsList l its)
 (h:∀ h',IsEnum h' (s.heap.objs.size+1) s.heap.objs.size m .none->h'.IsListIter s.heap.objs.size l 0->(∀ b o,s.heap.get? b=some o->h'.get? b=some o)->Q (.ref (s.heap.objs.size+1)) { s with heap:=h' }) :
 wpAny (model prog w) A (call (.type "enumerate") [.ref l] [(Str.ofString "start",.int m tm)]) Q E s:=by
 obtain⟨⟨c,dct,dt,sl⟩,hl,hc,n,hd⟩:=hL;cases (show c=.type "list" from hc);cases (show dt=.seq its n from hd);have hz:(s.heap.push { cls:=.type "list_iterator",data:=.fields #[.ref l,.int 0 0] }).objs.size=s.heap.objs.size+1:=Heap.size_push ..;refine xS (Q1:=fun obj t=>t.TypeIs obj "enumerate"/\Q obj t) PySem.F.called_enumerate (i8 _ _) (aAQ _ _) PySem.F.entry_enumerate_new PySem.F.entry_object_init (j0 m tm hf l its n dct sl) ⟨hl,?_⟩ fun obj t hq=>⟨hq.1,i9 _ _ _,_,V4 PySem.F.called_enumerate.init.lookup PySem.F.called_enumerate.made (by decide),hq.1,rfl,hq.2⟩;show _/\_;rw[hz];have he:IsEnum ((s.heap.push { cls:=.type "list_iterator",data:=.fields #[.ref l,.int 0 0] }).push { cls:=.type "enumerate",data:=.fields #[.none,.bool false,.ref s.heap.objs.size,rawInt m,.none,.none] }) (s.heap.objs.size+1) s.heap.objs.size m .none:=by
  have q:=aBb (s.heap.push { cls:=.type "list_iterator",data:=.fields #[.ref l,.int 0 0] }) (o:={ cls:=.type "enumerate",data:=.fields #[.none,.bool false,.ref s.heap.objs.size,rawInt m,.none,.none] }) rfl;rw[hz]at q;exact q
 exact⟨⟨_,he,rfl⟩,h _ he ⟨_,aB5 _ (aBb _ rfl),rfl,rfl⟩ fun b o x=>aB5 _ (aB5 _ x)⟩
theorem V6 {e it l:Addr} {i:Nat} {m:Int} {its:Array Value} {x old:Value} {Q:Option Value->Shared->Prop} (he:IsEnum s.heap e it m old) (hit:s.heap.IsListIter it l i) (hl:s.heap.IsList l its) (hx:its[i]?=some x) (hne:e≠it)
 (hQ:∀ h',IsEnumOut h' e it (m+1) x s.heap.objs.size->h'.IsListIter it l (i+1)->h'.get? s.heap.objs.size=some { cls:=.type "tuple",data:=.seq #[.int m s.toks,x] } ->
  (∀ b o,b≠e->b≠it->s.heap.get? b=some o->h'.get? b=some o)->Q (some (.ref s.heap.objs.size)) { s with heap:=h',toks:=s.toks+1 }):wpAny (model prog w) A (pyNext (.ref e)) Q E s:=by
 have hT:s.TypeIs (.ref e) "enumerate":=⟨_,he,rfl⟩;unfold pyNext;refine aB2 (wpAny_attempt (wpAny_callSpecial?_slot (name:=Str.ofString "__next__") hT PySem.F.slot_enumerate_next (wpAny_call_entry PySem.F.slot_enumerate_next hT PySem.F.entry_enumerate_next ?_ (PySem.F.args_enumerate_next_1 _))));obtain⟨hp,g,d,tk,os⟩:=s;show wpAny _ _ (field (.ref e) 2 >>= _) _ _ _;refine aB2 (wpAny_field he rfl (x:=.ref it) rfl (aB2 (wpAny_nextOf_list_item hit hl hx fun h1 it1 s1=>?_)))
 replace s1:Heap.SameBut it hp h1:=s1
 have e1:IsEnum h1 e it m old:=(s1.2 e hne).trans he;show wpAny _ _ (field (.ref e) 3 >>= _) _ _ ⟨h1,g,d,tk,os⟩;refine aB2 (wpAny_field e1 rfl (x:=rawInt m) rfl ?_);show wpAny _ _ (field (.ref e) 4 >>= _) _ _ ⟨h1,g,d,tk,os⟩;refine aB2 (wpAny_field e1 rfl (x:=.none) rfl ?_);show wpAny _ _ (mkInt m >>= _) _ _ ⟨h1,g,d,tk,os⟩;refine aB2 (wpAny_mkInt ?_);show wpAny _ _ (setField (.ref e) 3 (rawInt (m+1)) >>= _) _ _ ⟨h1,g,d,tk+1,os⟩;refine aB2 (wpAny_setField_rec e1 (by simp) fun h2 e2 s2=>?_)
 replace s2:Heap.SameBut e h1 h2:=s2
 replace e2:IsEnum h2 e it (m+1) old:=e2
 show wpAny _ _ (setField (.ref e) 4 .none >>= _) _ _ ⟨h2,g,d,tk+1,os⟩;refine aB2 (wpAny_setField_rec e2 (by simp) fun h3 e3 s3=>?_)
 replace s3:Heap.SameBut e h2 h3:=s3
 replace e3:IsEnum h3 e it (m+1) old:=e3
 show wpAny _ _ (newTuple [.int m tk,x] >>= _) _ _ ⟨h3,g,d,tk+1,os⟩;refine aB2 (wpAny_newTuple ?_);have e4:IsEnum (h3.push { cls:=.type "tuple",data:=.seq #[.int m tk,x] }) e it (m+1) old:=aB5 _ e3;generalize z4:h3.push { cls:=.type "tuple",data:=.seq #[.int m tk,x] }=h4 at e4;have hs:h3.objs.size=hp.objs.size:=by rw[s3.1,s2.1,s1.1]
 have lt:e<hp.objs.size:=aBa he;have t4:h4.get? hp.objs.size=some { cls:=.type "tuple",data:=.seq #[.int m tk,x] }:=by
  rw[<- z4,<- hs];exact aBb _ rfl
 have k4:∀ b o,b≠e->b≠it->hp.get? b=some o->h4.get? b=some o:=fun b o n1 n2 hb=>by
  rw[<- z4];exact aB5 _ (s3.extBut b o n1 (s2.extBut b o n1 (s1.extBut b o n2 hb)))
 have i4:h4.IsListIter it l (i+1):=by
  rw[<- z4];obtain⟨o,ho,r⟩:=(it1.extBut s2.extBut (Ne.symm hne)).extBut s3.extBut (Ne.symm hne);exact⟨o,aB5 _ ho,r⟩
 show wpAny _ _ (Builtin.SmallTypes.ownedTupleIsFree (.ref e) >>= _) _ _ ⟨h4,g,d,tk+1,os⟩;rw[hs];clear z4 e3 s3 e2 s2 e1 s1 it1 hs h3 h2 h1;refine aB2 ?_;unfold Builtin.SmallTypes.ownedTupleIsFree;refine aB2 (wpAny_field e4 rfl (x:=.none) rfl (aB3 ?_));simp only[if_true];refine aB2 (wpAny_rule (aB2 (wpAny_field e4 rfl (x:=old) rfl (aB2 (wpAny_setField_rec e4 (by simp) fun h5 e5 s5=>?_)))))
 replace s5:Heap.SameBut e h4 h5:=s5
 replace e5:IsEnum h5 e it (m+1) x:=e5
 show wpAny _ _ (Builtin.SmallTypes.ownedTupleHandOut (.ref e) (.ref hp.objs.size) >>= _) _ _ ⟨h5,g,d,tk+1,os⟩;refine aB2 ?_;unfold Builtin.SmallTypes.ownedTupleHandOut;refine aB2 (wpAny_setField_rec e5 (by simp) fun h6 e6 s6=>?_)
 replace s6:Heap.SameBut e h5 h6:=s6
 replace e6:IsEnumOut h6 e it (m+1) x hp.objs.size:=e6
 refine wpAny_setField_rec e6 (by simp) fun h7 e7 s7=>?_
 replace s7:Heap.SameBut e h6 h7:=s7
 replace e7:IsEnumOut h7 e it (m+1) x hp.objs.size:=e7
 refine aB2 (wpAny_letGo (aB3 ⟨_,rfl,aB3 (hQ h7 e7 ?_ ?_ ?_)⟩))
 ·exact((i4.extBut s5.extBut (Ne.symm hne)).extBut s6.extBut (Ne.symm hne)).extBut s7.extBut (Ne.symm hne)
 ·exact s7.extBut _ _ (aBu lt) (s6.extBut _ _ (aBu lt) (s5.extBut _ _ (aBu lt) t4))
 ·exact fun b o n1 n2 hb=>s7.extBut b o n1 (s6.extBut b o n1 (s5.extBut b o n1 (k4 b o n1 n2 hb)))
theorem V7 {e it l:Addr} {i:Nat} {m:Int} {its:Array Value} {old:Value} {Q:Option Value->Shared->Prop} (hh:A.handled=none) (he:IsEnum s.heap e it m old) (hit:s.heap.IsListIter it l i) (hl:s.heap.IsList l its) (hx:its[i]?=none)
 (hQ:∀ h',Heap.ExtBut it s.heap h'->Q none { s with heap:=h' }):wpAny (model prog w) A (pyNext (.ref e)) Q E s:=by
 have hT:s.TypeIs (.ref e) "enumerate":=⟨_,he,rfl⟩;unfold pyNext;refine aB2 (wpAny_attempt (wpAny_callSpecial?_slot (name:=Str.ofString "__next__") hT PySem.F.slot_enumerate_next (wpAny_call_entry PySem.F.slot_enumerate_next hT PySem.F.entry_enumerate_next ?_ (PySem.F.args_enumerate_next_1 _))));show wpAny _ _ (field (.ref e) 2 >>= _) _ _ _;refine aB2 (wpAny_field he rfl (x:=.ref it) rfl (aB2 (wpAny_nextOf_list_end hh hit hl hx fun h' y he' hy=>?_)));obtain⟨o,ho,hc⟩:=hy;exact aB2 (wpAny_isInstance (T:="StopIteration") (b:=true) ⟨o,ho,hc⟩ isSubtype_stop (aB3 (hQ _ he')))
theorem vP {env:PySem.Env} {pos:Pos} {T:String} {e:Expr} {rest:List Expr} {kws:List Keyword} {Q:Value->Shared->Prop} {M:Model}
 (h:wpAny M A (spliced (backTo pos (starEach (e :: rest) env))) (fun vs t=>wpAny M A (evalAll ((backToKw pos (keywordEach kws env)).map (·.2)))
  (fun kvs t2=>wpAny M A (call (.type T) vs (((backToKw pos (keywordEach kws env)).filterMap (·.1)).zip kvs)) Q E t2) E t) E s)
 (he:backTo pos (starEach (e :: rest) env)=(false,eval e env) :: backTo pos (starEach rest env)) (hplain:(backTo pos (starEach (e :: rest) env)).any (·.1)=false)
 (hall:(backToKw pos (keywordEach kws env)).all (·.1.isSome)=true) (hkw:(backToKw pos (keywordEach kws env)).any (·.1.isNone)=false) :
 wpAny M A (callWith pos (.type T) [] (backTo pos (starEach (e :: rest) env)) (backToKw pos (keywordEach kws env))) Q E s:=by
 unfold callWith;refine aB2 (wpAny_holding (wpAny_mono (Q:=fun a t=>wpAny M A (call (.type T) ([]++a.pos) a.kw) Q E t) ?_ (fun a t h1=>aB2 (wpAny_standAt ?_)) fun _ _ x=>x))
 ·rw[he]at h ⊢;exact evalArgs_kwB hall h
 ·simp only[hplain,hkw,Bool.or_false];exact aB2 (aB3 (aB2 (wpAny_mono h1 (fun r t2 hr=>aB2 (wpAny_holding (wpAny_point (aB3 hr)))) fun _ _ x=>x)))
end
def Its (K:PySem.W.Frag) (m:Int) (a:Addr):It :=
 ⟨fun i H=>∃ xs x,SqL K H a xs/\xs[i]?=some x,fun i H v H'=>∃ t x,v=.ref t/\H t=none/\(∀ xs,SqL K H a xs->xs[i]?=some x)/\H'=upd H t (.tup [.int (m+i),x]),fun i H=>∃ xs,SqL K H a xs/\xs.length<=i⟩
theorem V8 {P:Program} {w:World} {K:PySem.W.Frag} {elts:List Expr} {x1} {pos:Pos} (m:Int) (a e it:Addr) (hne:e≠it):pB P w K (.Tuple elts x1 pos) (Its K m a) [e,it] e (fun i h=>(∃ old,IsEnum h e it (m+i) old)/\h.IsListIter it a i) where
 mem:=by simp
 obj:=fun i h st b hb=>by
  obtain⟨⟨old,he⟩,o,ho,c,d⟩:=st;rcases aCG.mp hb with z | z
  ·subst z;exact⟨_,he,fun v z=>by have z':Data.fields _=Data.cell v:=z;cases z'⟩
  ·have z:b=it:=by simpa using z
   subst z;exact⟨o,ho,fun v z=>by rw[d]at z;cases z⟩
 keep:=fun i h h' st k=>⟨let ⟨old,he⟩:=st.1;⟨old,k e (by simp) _ he⟩,st.2.at fun o e=>k it (by simp) o e⟩
 item:=by
  intro X hP hw hK hc i pins s σ H E I hf st hg;subst hP hw hK;obtain⟨xs,x,hq,hx⟩:=hg;obtain⟨its,rv,p,hz⟩:=I.list hq;obtain⟨u,hu,ru⟩:=rv.get hx;obtain⟨⟨old,he⟩,hit⟩:=st;have le:e<s.heap.objs.size:=aBa he;have li:it<s.heap.objs.size:=by obtain⟨_,z,_⟩:=hit;exact aBa z
  refine V6 he hit p.isList (x:=u) (by simpa using hu) hne fun h' e1 e2 e3 kp=>?_;refine⟨_,rfl,?_⟩;have hn:H s.heap.objs.size=none:=I.hok.fresh (Nat.le_refl _);have k1:∀ b o,b∉[e,it]->s.heap.get? b=some o->h'.get? b=some o:=fun b o hb q=>kp b o (fun z=>hb (by simp[z])) (fun z=>hb (by simp[z])) q;have tupOk:∀ h2:Heap,h2.get? s.heap.objs.size=some { cls:=.type "tuple",data:=.seq #[.int (m+i) s.toks,u] }->ObjOk X.prog X.w (upd H s.heap.objs.size (.tup [.int (m+i),x])) h2 s.heap.objs.size (.tup [.int (m+i),x]):=fun h2 q =>
   ⟨by show 2<=sizeLine;decide,[.int (m+i) s.toks,u],.cons ⟨_,rfl⟩ (.cons ru .nil),_,q,rfl,_,rfl⟩
  refine wpAny_letOwnedTupleGo_enum (i:=m+i+1) e1 fun h2 f1 sb=>?_;have k2:∀ b o,b∉[e,it]->s.heap.get? b=some o->h2.get? b=some o:=fun b o hb q=>sb.extBut b o (fun z=>hb (by simp[z])) (k1 b o hb q);have n1:s.heap.objs.size≠e:=aBu le;refine⟨.ref s.heap.objs.size,_,I.turnLaid (t':=s.toks+1) (h':=h2) (o:=.tup [.int (m+i),x]) k2 hf (Nat.le_refl _) (tupOk _ (sb.extBut _ _ n1 e3)),rfl,⟨_,x,rfl,hn,fun ys hy=>by rw[I.list_inj hy hq];exact hx,rfl⟩,⟨⟨u,?_⟩,?_⟩,fun b hb=>?_⟩
  ·rw[show m+((i+1:Nat):Int)=m+i+1 by omega];exact f1
  ·exact e2.extBut sb.extBut (Ne.symm hne)
  ·have hb':b≠s.heap.objs.size:=by
    rcases aCG.mp hb with z | z
    ·subst z;exact aBr le
    ·have z:b=it:=by simpa using z
     subst z;exact aBr li
   rw[aG hb'];exact(hf b hb).1
 done:=by
  intro X hP hw hK hc i pins s σ H E I hf st hg;subst hP hw hK;obtain⟨xs,hq,hx⟩:=hg;obtain⟨its,rv,p,hz⟩:=I.list hq;have hl:=rv.length;obtain⟨⟨old,he⟩,hit⟩:=st;exact V7 (I.ok.hd hc) he hit p.isList (by simp;omega) fun h' eb=>⟨rfl,I.turnedF (fp:=[e,it]) (t':=s.toks) (fun b o hb e=>eb b o (fun z=>hb (by simp[z])) e) hf⟩
 self:=fun _ _ _ _ _ st h=>let ⟨_,he⟩:=st.1;wpAny_pyIter_enum he h
def aB1 (K:PySem.W.Frag) (m:Int) (ta:TA):TI:=fun σ H R=>ta σ H fun vs H1=>∃ a xs,vs=[.ref a]/\SqL K H1 a xs/\R (Its K m a) H1
theorem aAR {X:Cx} {elts:List Expr} {x1} {tpos:Pos} {a f:Expr} {ta:TA} {p pos kp:Pos} {m:Int} (hg:Gl X "enumerate") (hm:X.mg "enumerate"=none) (ha:PA X [a] ta) (hfv:PE X f (tC (.int m))) (hfit:Builtin.SmallTypes.fitsIndex m=true:=by decide)
 (he1:backTo pos (starEach [a] X.env)=(false,eval a X.env) :: backTo pos (starEach [] X.env):=by rfl) (hp1:(backTo pos (starEach [a] X.env)).any (·.1)=false:=by rfl)
 (ha1:(backToKw pos (keywordEach [⟨some "start",f,kp⟩] X.env)).all (·.1.isSome)=true:=by rfl) (hk1:(backToKw pos (keywordEach [⟨some "start",f,kp⟩] X.env)).any (·.1.isNone)=false:=by rfl) (hks:(backToKw pos (keywordEach [⟨some "start",f,kp⟩] X.env)).filterMap (·.1)=([Str.ofString "start"]:List Str):=by rfl) :
 PI X (.Tuple elts x1 tpos) (.Call (.Name "enumerate" p) [a] [⟨some "start",f,kp⟩] pos) (aB1 X.K m ta):=by
 intro pins s σ H R I h;refine wpAny_Call_Name_kw (jC I hg hm kR ?_);refine vP ?_ he1 hp1 ha1 hk1;refine thn (ha pos pins s σ H _ I h) fun us s1 ⟨vs,H1,I1,r1,q1⟩=>?_;obtain⟨a,xs,e,hq,q⟩:=q1;subst e;refine thn ((uE hfv yG) pos pins s1 σ H1 (fun ks H2=>ks=[.int m]/\H2=H1) I1 ⟨rfl,rfl⟩) fun ws s2 ⟨zs,H2,I2,r2,q2⟩=>?_;obtain⟨rfl,rfl⟩:=q2;obtain⟨u,rfl,rx⟩:=iU r1;obtain⟨v,rfl,rv'⟩:=iU r2;cases rx;obtain⟨tm,rfl⟩:=rv';rw[hks];obtain⟨its,rv,pl,hz⟩:=I2.list hq;refine V5 hfit pl.isList fun h' g1 g2 kp=>?_;have I3:Inv X pins σ H2 { s2 with heap:=h' }:=I2.kept (t':=s2.toks) kp;refine wpAny_pyIter_enum g1 ?_;refine⟨s2.heap.objs.size+1,[s2.heap.objs.size+1,s2.heap.objs.size],_,_,H2,rfl,I3,V8 m a _ _ (aBu (Nat.lt_succ_self _)),⟨⟨_,by rw[show m+((0:Nat):Int)=m by omega];exact g1⟩,g2⟩,fun b hb=>?_,q⟩;have e:s2.heap.objs.size<=b:=by
  rcases aCG.mp hb with z | z
  ·rw[z];exact Nat.le_succ _
  ·have z:b=s2.heap.objs.size:=by simpa using z
   rw[z];exact Nat.le_refl _
 exact I2.fpOk e (I2.hok.fresh e)
theorem j3 {K:PySem.W.Frag} {m:Int} {a:Addr} {xs:List V} {g:TG} {tb:TS} {D:pZ} {σ:St} {H:Hp} (Pv:Nat->St->Hp->Prop) (h0:Pv 0 σ H) (hl:∀ i σ H,i<=xs.length->Pv i σ H->SqL K H a xs)
 (hs:∀ i x σ H t,xs[i]?=some x->Pv i σ H->H t=none->g (.ref t) σ (upd H t (.tup [.int (m+i),x])) fun σ2 H2=>tb { D with nx:=Pv (i+1),ct:=Pv (i+1),bk:=D.nx } σ2 H2) (hd:∀ σ H,Pv xs.length σ H->D.nx σ H) :
 ∃ W:Nat->Nat->St->Hp->Prop,(∃ n,W 0 n σ H)/\∀ i n σ H,W i n σ H ->
  ((Its K m a).stop i H/\D.nx σ H)\/((Its K m a).go i H/\∃ N:St->Hp->Prop,(∀ σ' H',N σ' H'->∃ n',n'<n/\W (i+1) n' σ' H')/\∀ x H',(Its K m a).yld i H x H'->g x σ H' fun σ2 H2=>tb { D with nx:=N,ct:=N,bk:=D.nx } σ2 H2):=by
 refine⟨fun i n σ H=>n=xs.length - i/\i<=xs.length/\Pv i σ H,⟨xs.length,by simp,Nat.zero_le _,h0⟩,?_⟩;rintro i n σ H ⟨rfl,hi,p⟩;have q:=hl i σ H hi p
 by_cases hlt:i<xs.length
 ·refine .inr ⟨⟨xs,xs[i],q,by simp[hlt]⟩,Pv (i+1),fun σ' H' p'=>⟨xs.length - (i+1),by omega,rfl,hlt,p'⟩,fun x H' y=>?_⟩;obtain⟨t,x,rfl,hn,y,rfl⟩:=y;exact hs i x σ _ t (y xs q) p hn
 ·have e:i=xs.length:=by omega
  subst e;exact .inl ⟨⟨xs,q,Nat.le_refl _⟩,hd σ H p⟩
end L2
namespace CW
open PySem L2
inductive Szs (row ss:List Int):Prop
 | mk (ps:Trs) (h0_:Lst row ps) (h1_:ss.Perm (ps.map (·.1))) (h2_:ss.Pairwise (·<=·)):Szs row ss
theorem V9 {a b:List Int} (h:a.Perm b) (k:Int):geN a k=geN b k:=(h.filter _).length_eq
theorem W0 {ss:List Int} {k:Int} (h:geN ss k=0):∀ s∈ss,s<k:=fun s hs=>by
 have e:=List.length_eq_zero_iff.mp h;have:=List.filter_eq_nil_iff.mp e s hs;simp at this;omega
theorem W1 {ss:List Int} {k:Int} (h:∀ s∈ss,s<k):geN ss k=0:=by
 unfold geN;rw[List.filter_eq_nil_iff.mpr fun s hs=>by have:=h s hs;simp;omega];rfl
theorem j4 (ss:List Int) (k:Int):geN ss k<=ss.length:=List.length_filter_le _ _
def eJ (ss:List Int) (n:Nat):List Int:=(List.range n).map fun k:Nat=>(geN ss ((k:Int)+1):Int)
theorem C6 (ss:List Int) {n k:Nat} (h:k<n):(eJ ss n)[k]?=some (geN ss ((k:Int)+1):Int):=by
 unfold eJ;rw[aBs,List.getElem?_range h];rfl
theorem jQ (ss:List Int) (n:Nat):(eJ ss n).length=n:=by unfold eJ;rw[aB4,List.length_range]
theorem C7 (j:Int):∀ ps:Trs,les ps j<=siz ps
 | []=>Int.le_refl _
 | q :: ps=>by
  have ih:=C7 j ps;rw[aZ];unfold siz at *;rw[aBt,aBw];omega
theorem Szs.rowp {row ss:List Int} (h:Szs row ss):Row row:=by
 obtain⟨ps,h,_,_⟩:=h;exact h.rowp
theorem Szs.pos {row ss:List Int} (h:Szs row ss):∀ s∈ss,1<=s:=fun s hs=>by
 obtain⟨ps,h,hp,_⟩:=h;obtain⟨q,hq,rfl⟩:=aCI.mp (hp.mem_iff.mp hs);exact h.pos q hq
theorem Szs.few {row ss:List Int} (h:Szs row ss) (hl:row.length<=60):ss.length<=60:=by
 obtain⟨ps,h,hp,_⟩:=h;rw[hp.length_eq,aB4];exact h.few hl
theorem Szs.up {row ss:List Int} (h:Szs row ss):ss.Pairwise (·<=·):=by
 obtain⟨ps,_,_,h⟩:=h;exact h
theorem W2 {f:Int×Int->Int} (ps:Trs):(ps.map fun q=>(q.1,f q)).map (·.1)=ps.map (·.1):=by
 rw[aBy];rfl
theorem Szs.walk {row ss:List Int} (h:Szs row ss) {c:Int} (hc:1<=c):Szs (cK row c) ss:=by
 obtain⟨ps,h,hp,hs⟩:=h;exact⟨_,h.walks hc,by unfold shn;rw[W2];exact hp,hs⟩
theorem Szs.load {row ss:List Int} (h:Szs row ss) (k:Nat):(uR row ((k:Int)+1):Int)=(eJ ss (k+1)).sum:=by
 obtain⟨ps,h,hp,_⟩:=h;rw[h.car (by omega)];have go:∀ n:Nat,les ps (n:Int)=(eJ ss n).sum:=by
  intro n
  induction n with
  | zero=>exact K1 h.pos
  | succ n ih =>
   have e:=U4 (n:Int) ps;unfold eJ at *;rw[List.range_succ,aBj,List.sum_append,<- ih];show les ps ((n+1:Nat):Int)=les ps n+([(geN ss ((n:Int)+1):Int)]:List Int).sum;rw[aBw,List.sum_nil,V9 hp,<- e,show ((n+1:Nat):Int)=(n:Int)+1 by omega];omega
 rw[<- go,show ((k+1:Nat):Int)=(k:Int)+1 by omega]
theorem tQ (ss:List Int) (k:Nat):eJ ss (k+1)=eJ ss k++[(geN ss ((k:Int)+1):Int)]:=by
 unfold eJ;rw[List.range_succ,aBj];rfl
theorem W3 (ss:List Int) (k:Nat):(eJ ss (k+1)).sum=(eJ ss k).sum+(geN ss ((k:Int)+1):Int):=by
 rw[tQ,List.sum_append];simp
theorem Szs.cap {row ss:List Int} (h:Szs row ss) (k:Nat):(eJ ss (k+1)).sum<=row.length:=by
 rw[<- h.load k];obtain⟨ps,h,_,_⟩:=h;rw[h.car (by omega),<- h.sizx];exact C7 _ _
theorem L1 (ss:List Int):eJ ss 0=[]:=rfl
inductive nU (vs:List V) (H:Hp) (Q:VK) (E_:XK):Prop
 | mk (a:Addr) (ss:List Int) (n:Nat) (h0_:vs=[.ref a]) (h1_:H a=some (.lst ((eJ ss n).map V.int))) (h2_:ss.Pairwise (·<=·)) (h3_:∀ s∈ss,1<=s) (h4_:∀ s∈ss,s<=n) (h5_:ss.length<=60) (h6_:mY H Q ss):nU vs H Q E_
inductive pU (vs:List V) (H:Hp) (Q:VK) (E_:XK):Prop
 | mk (a:Addr) (row ss:List Int) (h0_:vs=[.ref a]) (h1_:H a=some (.lst (row.map V.int))) (h2_:Szs row ss) (h3_:row.length<=60) (h4_:mY H Q ss):pU vs H Q E_
inductive lZ (vs:List V) (H:Hp) (Q:VK) (E_:XK):Prop
 | mk (n:Int) (h0_:vs=[.int n]) (h1_:1<=n/\n<=60) (h2_:Q .non H):lZ vs H Q E_
inductive vQ (vs:List V) (H:Hp) (Q:VK) (E_:XK):Prop
 | mk (a:Addr) (ws:List (Int×Int)) (n:Int) (h0_:vs=[.ref a,.int n]) (h1_:LP H a ws) (h2_:ws.length<=60) (h3_:1<=n/\n<=60) (h4_:Crl ws) (h5_:wM H Q (gJ ws n n.toNat)):vQ vs H Q E_
theorem vR {H0 H:Hp} {l:Addr} (g:Same H0 H) (h:H l=none):H0 l=none:=by
 cases q:H0 l with
 | none=>rfl
 | some o=>have:=g _ _ q;rw[h]at this;cases this
abbrev iL (ns:List Int):PyData:=.list (ns.map PyData.int)
abbrev pL (ps:List (Int×Int)):PyData:=.list (ps.map pD)
def L3 (n:Nat) (row:List Int):List Int:=(List.range n).map fun k=>(stG (bM k row):Int)
abbrev wsM (c:Int):Trs:=[(c,10 ^ 20)]
structure Vd (row:List Int) (c:Int) (qs:Trs) (n:Nat) (rf:List Int):Prop where
 lst:Lst row qs
 srt:qs.Pairwise ple
 pn:bM n row=[]
 pm:∀ k,k<n->bM k row≠[]
 far:∃ ps:Trs,ps.Perm (dA qs (wsM c))/\Lst rf ps
structure Vw (row:List Int) (c:Int) (qs:Trs) (n:Nat) (rf:List Int) (cl:Trs):Prop extends Vd row c qs n rf where
 clp:cl.Perm (kG row)
 cls:cl.Pairwise ple
def W4 (row:List Int) (c:Int) (qs:Trs) (n:Nat) (rf:List Int):List PyData:=[pL (cZ row),iL (mD row),iL (cK row c),iL (nC row c),iL (bW 0 row),iL (L3 n row),pL qs,iL (qs.map (·.1)),iL rf,iL row]
def pI (row:List Int) (c:Int) (qs:Trs) (n:Nat) (rf:List Int) (cl:Trs):List PyData:=W4 row c qs n rf++[pL cl,pL (gJ [(c,2),(70,-2)] 60 60)]
theorem Vd.eq {row:List Int} {c:Int} {qs qs':Trs} {n n':Nat} {rf rf':List Int} (h:Vd row c qs n rf) (h':Vd row c qs' n' rf'):qs=qs'/\n=n'/\rf=rf':=by
 have e1:qs=qs':=qZ (h.lst.uniq h'.lst) h.srt h'.srt;subst e1;have e2:n=n':=by
  rcases Nat.lt_trichotomy n n' with z | z | z
  ·exact absurd h.pn (h'.pm n z)
  ·exact z
  ·exact absurd h'.pn (h.pm n' z)
 obtain⟨ps,p1,p2⟩:=h.far;obtain⟨ps',p1',p2'⟩:=h'.far;exact⟨rfl,e2,p2.row p2' (p1.trans p1'.symm)⟩
theorem Vw.eq {row:List Int} {c:Int} {qs qs':Trs} {n n':Nat} {rf rf':List Int} {cl cl':Trs} (h:Vw row c qs n rf cl) (h':Vw row c qs' n' rf' cl'):pI row c qs n rf cl=pI row c qs' n' rf' cl':=by
 obtain⟨rfl,rfl,rfl⟩:=h.toVd.eq h'.toVd;rw[qZ (h.clp.trans h'.clp.symm) h.cls h'.cls]
def j5 (ds:List PyData):Prop:=∀ d∈ds,(∃ i:Int,d=.int i)\/∃ p:Int×Int,d=pD p
theorem W5 (ns:List Int):j5 (ns.map PyData.int):=fun d hd=>by
 obtain⟨i,_,rfl⟩:=aCI.mp hd;exact .inl ⟨i,rfl⟩
theorem j6 (ps:List (Int×Int)):j5 (ps.map pD):=fun d hd=>by
 obtain⟨i,_,rfl⟩:=aCI.mp hd;exact .inr ⟨i,rfl⟩
def NewD (H0 H:Hp) (v:V) (D:PyData):Prop:=∃ l ws ds,v=.ref l/\H0 l=none/\H l=some (.lst ws)/\Dens H ws ds/\j5 ds/\D=.list ds
theorem NewD.same {H0 H H':Hp} {v:V} {D:PyData} (g:Same H H') (h:NewD H0 H v D):NewD H0 H' v D:=by
 obtain⟨l,ws,ds,e,h0,h1,h2,hf,h3⟩:=h;exact⟨l,ws,ds,e,h0,g _ _ h1,h2.mono g,hf,h3⟩
theorem NewD.ints {H0 H H':Hp} {l:Addr} {ns:List Int} (g0:Same H0 H) (hn:H l=none) (e:H' l=some (.lst (ns.map V.int))):NewD H0 H' (.ref l) (iL ns) :=
 ⟨l,_,_,rfl,vR g0 hn,e,Dens.ints ns,W5 ns,rfl⟩
theorem NewD.prs {H0 H H':Hp} {l:Addr} {vs:List V} {ps:List (Int×Int)} (g0:Same H0 H) (hn:H l=none) (e:H' l=some (.lst vs)) (pr:Prs H' vs ps):NewD H0 H' (.ref l) (pL ps) :=
 ⟨l,_,_,rfl,vR g0 hn,e,pr.dens,j6 ps,rfl⟩
theorem NewD.den {H0 H:Hp} {v:V} {D:PyData} (h:NewD H0 H v D):Den H v D:=by
 obtain⟨l,ws,ds,rfl,_,h1,h2,_,rfl⟩:=h;exact .lst h1 h2
theorem Vd.few {row:List Int} {c:Int} {qs:Trs} {n:Nat} {rf:List Int} (h:Vd row c qs n rf) (hl:row.length<=60):qs.length<=60:=h.lst.few hl
inductive vS (vs:List V) (H:Hp) (Q:VK) (E_:XK):Prop
 | mk (a:Addr) (ns:List Int) (m:Nat) (h0_:vs=[.ref a,.int m]) (h1_:H a=some (.lst (ns.map V.int))) (h2_:E4 ns) (h3_:m+3<=ns.length) (h4_:m<=60) (h5_:∀ row,Row row->row.length<=m->(∀ x∈row,-15<=x/\x<=15+12 * (m:Int))->mY H Q row):vS vs H Q E_
inductive vT (vs:List V) (H:Hp) (Q:VK) (E_:XK):Prop
 | mk (a:Addr) (row:List Int) (c:Int) (h0_:vs=[.ref a,.int c]) (h1_:H a=some (.lst (row.map V.int))) (h2_:Row row) (h3_:row.length<=60) (h4_:1<=c) (h5_:∀ (l:Addr) (us:List V) (qs:Trs) (n:Nat) (rf:List Int) (cl:Trs) (H':Hp),Vw row c qs n rf cl->H l=none->Same H H'->H' l=some (.lst us)->Paired (NewD H H') us (pI row c qs n rf cl)->Q (.ref l) H'):vT vs H Q E_
inductive pV (vs:List V) (H:Hp) (Q:VK) (E_:XK):Prop
 | mk (a:Addr) (row:List Int) (c:Int) (h0_:vs=[.ref a,.int c]) (h1_:H a=some (.lst (row.map V.int))) (h2_:Row row) (h3_:row.length<=60) (h4_:1<=c) (h4b_:Near 100000 row) (h5_:∀ (l:Addr) (qs:Trs) (n:Nat) (rf:List Int) (H':Hp),Vd row c qs n rf->n<=60->Same H H'->Den H' (.ref l) (.list (W4 row c qs n rf))->Q (.ref l) H'):pV vs H Q E_
theorem j7 {qs:Trs} (h:qs.Pairwise ple):(qs.map (·.1)).Pairwise (·<=·):=by
 refine List.pairwise_map.mpr (h.imp fun {x y} hxy=>?_);unfold ple at hxy;omega
end CW
namespace L2
open PySem
theorem sC {X:Cx} (K:PySem.W.Frag) (hK:X.K=K):fW X (.type "list") (fun xs H Q=>∃ p ys,xs=[.ref p]/\(SqL K H p ys\/SqT K H p ys)/\∀ l,H l=none->Q (.ref l) (upd H l (.lst ys))):=by
 subst hK;exact gO
end L2
namespace CW
open PySem L2
theorem W6 {H H':Hp} (ht:∀ t vs,H t=some (.tup vs)->H' t=some (.tup vs)) {v:V} {d:PyData} (h:Den H v d) (hf:(∃ i:Int,d=.int i)\/∃ p:Int×Int,d=pD p):Den H' v d:=by
 rcases hf with ⟨i,rfl⟩ | ⟨p,rfl⟩
 ·cases h;exact .int i
 ·cases h with
  | tup e hs =>
   refine .tup (ht _ _ e) ?_;cases hs with
   | cons a b =>
    cases a;cases b with
    | cons a b=>cases a;cases b;exact .cons (.int _) (.cons (.int _) .nil)
theorem tR {H H':Hp} (ht:∀ t vs,H t=some (.tup vs)->H' t=some (.tup vs)):∀ {ws:List V} {ds:List PyData},Dens H ws ds->j5 ds->Dens H' ws ds
 | _,_,.nil,_=>.nil
 | _,_,.cons h t,hf=>.cons (W6 ht h (hf _ aB6)) (tR ht t fun d hd=>hf d (aB7 _ hd))
theorem NewD.kept {H0 H H':Hp} (e:∀ l o,H l=some o->H0 l=none->H' l=some o) (ht:∀ t vs,H t=some (.tup vs)->H' t=some (.tup vs)) {v:V} {D:PyData} (h:NewD H0 H v D):Den H' v D:=by
 obtain⟨l,ws,ds,rfl,h0,h1,h2,hf,rfl⟩:=h;exact .lst (e _ _ h1 h0) (tR ht h2 hf)
mutual
theorem Den.keep {H H':Hp} {d:Addr} {kvs:List (Key×V)} (hd:H d=some (.dK kvs)) (e:∀ l o,H l=some o->l≠d->H' l=some o):∀ {v:V} {D:PyData},Den H v D->Den H' v D
 | _,_,.non=>.non
 | _,_,.bl b=>.bl b
 | _,_,.int b=>.int b
 | _,_,.str b=>.str b
 | _,_,.lst h s=>.lst (e _ _ h (fun q=>by rw[q,hd]at h;cases h)) (Dens.keep hd e s)
 | _,_,.tup h s=>.tup (e _ _ h (fun q=>by rw[q,hd]at h;cases h)) (Dens.keep hd e s)
theorem Dens.keep {H H':Hp} {d:Addr} {kvs:List (Key×V)} (hd:H d=some (.dK kvs)) (e:∀ l o,H l=some o->l≠d->H' l=some o):∀ {vs:List V} {Ds:List PyData},Dens H vs Ds->Dens H' vs Ds
 | _,_,.nil=>.nil
 | _,_,.cons h s=>.cons (Den.keep hd e h) (Dens.keep hd e s)
end
theorem jA {H:Hp} {F:V->PyData->Prop} (hF:∀ v D,F v D->Den H v D):∀ {us:List V} {Ds:List PyData},Paired F us Ds->Dens H us Ds
 | _,_,.nil=>.nil
 | _,_,.cons h t=>.cons (hF _ _ h) (jA hF t)
theorem mN {α β:Type} {F:α->β->Prop}:∀ {us:List α} {Ds:List β},Paired F us Ds->us.length=Ds.length
 | _,_,.nil=>rfl
 | _,_,.cons h t=>congrArg Nat.succ (mN t)
theorem C8 {α β:Type} {F:α->β->Prop}:∀ (k:Nat) {us:List α} {Ds:List β},Paired F us Ds->Paired F (us.take k) (Ds.take k)
 | 0,_,_,_=>.nil
 | _+1,_,_,.nil=>.nil
 | k+1,_,_,.cons h t=>.cons h (C8 k t)
theorem W7 {α β:Type} {F:α->β->Prop}:∀ {us:List α} {Ds:List β} {i:Nat} {x:α},Paired F us Ds->us[i]?=some x->∃ D,Ds[i]?=some D/\F x D
 | _,_,_,_,.nil,e=>by simp at e
 | _,_,0,_,.cons h t,e=>by simp at e;subst e;exact⟨_,rfl,h⟩
 | _,_,i+1,x,.cons h t,e=>by
  obtain⟨D,h1,h2⟩:=W7 (i:=i) (x:=x) t (by simpa using e);exact⟨D,by simpa using h1,h2⟩
def Fl2 (Ds:List PyData):Prop:=∀ D∈Ds,(∃ ns:List Int,D=iL ns/\ns.length<=60)\/∃ ps:List (Int×Int),D=pL ps/\ps.length<=60
theorem Fl2.one {Ds:List PyData} (h:Fl2 Ds) {D:PyData} (hD:D∈Ds):SeqAt.shaped D=true/\D.depth<=2/\sml D=true:=by
 rcases h D hD with ⟨ns,rfl,hl⟩ | ⟨ps,rfl,hl⟩
 ·exact⟨iW ns,by simp[PyData.depth,qK],Q0 (by omega)⟩
 ·refine⟨jW ps,?_,E6 (by omega)⟩;have:=oO ps;simp[PyData.depth];omega
theorem nV:∀ {Ds:List PyData},(∀ D∈Ds,D.canLay0=true)->PyData.canLayAll0 Ds=true
 | [],_=>rfl
 | D :: Ds,h=>by
  have h1:=h D aB6;have h2:=nV (Ds:=Ds) fun E hE=>h E (aB7 _ hE);simp[PyData.canLayAll0,h1,h2]
theorem oW:∀ {Ds:List PyData} {k:Nat},(∀ D∈Ds,D.depth<=k)->PyData.depthAll Ds<=k
 | [],_,_=>by simp[PyData.depthAll]
 | D :: Ds,k,h=>by
  have h1:=h D aB6;have h2:=oW (Ds:=Ds) (k:=k) fun E hE=>h E (aB7 _ hE);simp only[PyData.depthAll];omega
theorem tS:∀ {Ds:List PyData},(∀ D∈Ds,sml D=true)->iG Ds=true
 | [],_=>rfl
 | D :: Ds,h=>by
  have h1:=h D aB6;have h2:=tS (Ds:=Ds) fun E hE=>h E (aB7 _ hE);simp[iG,h1,h2]
theorem Fl2.depth {Ds:List PyData} (h:Fl2 Ds):(PyData.list Ds).depth<=3:=by
 have:=oW (Ds:=Ds) (k:=2) fun D hD=>(h.one hD).2.1;simp[PyData.depth];omega
theorem Fl2.shaped {Ds:List PyData} (h:Fl2 Ds):SeqAt.shaped (.list Ds)=true:=by
 have h1:=nV (Ds:=Ds) fun D hD=>SeqAt.canLay_of_shaped (h.one hD).1;have h2:=h.depth;unfold SeqAt.shaped;rw[Bool.and_eq_true];refine⟨by simpa[PyData.canLay0]using h1,aBq (by omega)⟩
theorem Fl2.sml {Ds:List PyData} (h:Fl2 Ds) (hl:Ds.length<=12):sml (.list Ds)=true:=by
 have h1:=tS (Ds:=Ds) fun D hD=>(h.one hD).2.2;simp[CW.sml,h1];omega
theorem Vd.fl {row:List Int} {c:Int} {qs:Trs} {n:Nat} {rf:List Int} (h:Vd row c qs n rf) (hl:row.length<=60) (hn:n<=60):Fl2 (W4 row c qs n rf):=by
 have h1:=oC row;have h2:=jL row;have h3:=gX row c;have h4:=E8 row c;have h5:=lD row 0;have h6:(L3 n row).length=n:=by unfold L3;rw[aB4,List.length_range]
 have h7:=h.few hl;obtain⟨ps,p1,p2⟩:=h.far;have h8:=p2.sizx;have h9:=(rB (rF (ws:=wsM c) (h.lst.trn hl)) p1).few;have h10:rf.length<=60:=by unfold siz at h8;unfold szs at h9;omega
 intro D hD;unfold W4 at hD;simp only[aCG,List.not_mem_nil,or_false]at hD;rcases hD with rfl | rfl | rfl | rfl | rfl | rfl | rfl | rfl | rfl | rfl
 ·exact .inr ⟨_,rfl,by omega⟩
 ·exact .inl ⟨_,rfl,by omega⟩
 ·exact .inl ⟨_,rfl,by omega⟩
 ·exact .inl ⟨_,rfl,by omega⟩
 ·exact .inl ⟨_,rfl,by omega⟩
 ·exact .inl ⟨_,rfl,by omega⟩
 ·exact .inr ⟨_,rfl,by omega⟩
 ·exact .inl ⟨_,rfl,by rw[aB4];omega⟩
 ·exact .inl ⟨_,rfl,by omega⟩
 ·exact .inl ⟨_,rfl,by omega⟩
theorem Vw.fl {row:List Int} {c:Int} {qs:Trs} {n:Nat} {rf:List Int} {cl:Trs} (h:Vw row c qs n rf cl) (hl:row.length<=60) (hn:n<=60):Fl2 (pI row c qs n rf cl):=by
 intro D hD;unfold pI at hD;rcases aCH.mp hD with hD | hD
 ·exact h.toVd.fl hl hn D hD
 ·simp only[aCG,List.not_mem_nil,or_false]at hD;rcases hD with rfl | rfl
  ·exact .inr ⟨_,rfl,by rw[h.clp.length_eq,K8];omega⟩
  ·exact .inr ⟨_,rfl,xQ 60⟩
theorem W8 {row:List Int} (h:Row row) (k:Nat):Row (row.take k++row.drop (k+1)):=by
 refine List.Pairwise.sublist ?_ h;have e:(row.take k++row.drop (k+1)).Sublist (row.take k++row.drop k):=List.Sublist.append (List.Sublist.refl _) (by rw[<- List.drop_drop];exact List.drop_sublist _ _)
 rwa [List.take_append_drop]at e
theorem j8 {row:List Int} (h:Row row) (k:Nat):Row ((row.take k).map (fun z=>z - 1)++row.drop k):=by
 unfold Row at h ⊢;rw[<- List.take_append_drop k row,List.pairwise_append]at h;obtain⟨h1,h2,h3⟩:=h;refine List.pairwise_append.mpr ⟨List.pairwise_map.mpr (h1.imp fun {x y} hxy=>by omega),h2,fun x hx y hy=>?_⟩;obtain⟨z,hz,rfl⟩:=aCI.mp hx;have:=h3 z hz y hy;omega
structure aAv (us:List V) (Rs:List (List Int)) (H:Hp):Prop where
 at':∀ w:Nat,w<4->∃ r row,us[w]?=some (.ref r)/\Rs[w]?=some row/\H r=some (.lst (row.map V.int))/\Row row/\row.length<=60/\Near 100000 row
inductive aAw (Rs:List (List Int)) (c:Int) (kvs:List (Key×V)) (H:Hp):Prop
 | mk (h:∀ (w:Nat) (v:V),cU kvs (Sum.inl (w:Int):Key)=some v->∃ row qs n rf cl,Rs[w]?=some row/\Vw row c qs n rf cl/\Den H v (.list (pI row c qs n rf cl))):aAw Rs c kvs H
def top (i:Nat):Stmt:=PySem.Challenge.pw_creelway_k56_asked_by_turns.main.body.getD i (.Pass ⟨0,0,0,0⟩)
section
variable {P:Program} {w:World} {K:PySem.W.Frag} {mg:Str->Option Value} {base:Heap}
abbrev fM:Stmt:=top 9
theorem oX:aQ ["row","at"] ["row"] (aD fM):=⟨rfl,rfl,rfl,by decide +kernel,rfl,by decide +kernel,by decide +kernel⟩
theorem j9 {f:Addr} {fd:FuncData} {tC:Tok} (F:Fun K "look_row" "look_row" fM f fd) (B:Bt mg) (C:Cn mg tC):FnOk P w K mg base CX0 1 f fd ["row"] kN:=by
 refine F.ok oX (fun vs H Q E h=>?_) (fun cdv A outer s H vs Q E hr h=>?_)
 ·obtain⟨a,r,rfl,_⟩:=h;rfl
 ·obtain⟨a,row,rfl,ha,hrow,hlen,k⟩:=h;refine⟨_,(aE (cX (aW kF (aJ bE (by rfl) B.len PySem.boot_len (aA (pv 0) aC)) (uB (v:=.int 60) rfl C.MOST_STONES ⟨_,rfl⟩) (bB _))
 (aH jH)
 cB)
 (aH (cQ PassesOwn.never rfl (sM rfl B.range (aA aF (aA (aJ bE (by rfl) B.len PySem.boot_len (aA (pv 0) aC)) aC))) (aI (i:=1) oX.nd rfl (Or.inl rfl))
 (aH (cX (aW aA8 (cY cC (pv 0) (pv 1) (fun _ _=>rfl)) (cY cC (pv 0) (aK bV (pv 1) aF) (fun _ _=>rfl)) (bB _))
 (aH jH)
 cB))))),?_⟩
  refine⟨_,rfl,a,_,rfl,.inl (SqL.of ha),_,_,rfl,rfl,_,rfl,iC (by rw[aB4];omega) ?_⟩;refine⟨_,rfl,a,_,rfl,.inl (SqL.of ha),_,_,rfl,⟨by decide,by decide,by omega,by rw[aB4];omega⟩,jJ (lo:=1) (fun i σ H2=>∃ v,σ=[some (.ref a),v]/\H2=H) ⟨none,rfl,rfl⟩ ?_ ?_⟩
  ·rintro i σ H2 hi ⟨v,rfl,rfl⟩;rw[aB4]at hi;obtain⟨x,_,hx,ex⟩:=jF (ns:=row) (i:=1+(i:Int)) (by omega) (by omega);obtain⟨y,_,hy,ey⟩:=jF (ns:=row) (i:=1+(i:Int) - 1) (by omega) (by omega);refine⟨_,rfl,_,rfl,a,_,_,_,rfl,rfl,SqL.of ha,ex,_,rfl,_,rfl,_,_,rfl,rfl,a,_,_,_,rfl,rfl,SqL.of ha,ey,_,_,rfl,rfl,_,rfl,iC ?_ ⟨_,rfl,rfl⟩⟩;have:=hrow.lt (show (1+(i:Int) - 1).toNat<(1+(i:Int)).toNat by omega) hy hx;omega
  ·rintro σ H2 ⟨v,rfl,rfl⟩;exact k
abbrev eU:Stmt:=top 10
theorem kB:aQ ["row","pairs","place"] ["row"] (aD eU):=⟨rfl,rfl,rfl,by decide +kernel,rfl,by decide +kernel,by decide +kernel⟩
theorem vU {f:Addr} {fd:FuncData} (F:Fun K "stretches" "stretches" eU f fd) (B:Bt mg) (F_look_row:aX P w K mg base "look_row" 1 ["row"] kN):FnOk P w K mg base CX0 2 f fd ["row"] eT:=by
 refine F.ok kB (fun vs H Q E h=>?_) (fun cdv A outer s H vs Q E hr h=>?_)
 ·obtain⟨a,r,rfl,_⟩:=h;rfl
 ·obtain⟨a,row,rfl,ha,hrow,hlen,k⟩:=h;refine⟨_,(aE (aR (aU F_look_row hr rfl (aA (pv 0) aC)))
 (aE (aM (i:=1) kB.nd rfl (Or.inl rfl) (bL aC))
 (aE (cQ PassesOwn.never rfl (bH (pv 0)) (aI (i:=2) kB.nd rfl (Or.inl rfl))
 (aH (cX (PW.pt (qA (hX (pv 1) (fun _=>rfl)) (mQ (aW kL (cY qF (cY cC (pv 1) (gK eF aF) (fun _ _=>rfl)) aF (fun _ _=>rfl)) (aK bV (pv 2) aF) (bB _)))))
 (aH (qC (cJ (aA (cY qF (cY cC (pv 1) (gK eF aF) (fun _ _=>rfl)) aF (fun _ _=>rfl)) (aA (pv 2) aC))) (uC (pv 1) (gK eF aF) mT)))
 (aH (aR (cT aCB aCC aCD bC (pv 1) (aA (cJ (aA (pv 2) (aA (pv 2) aC))) aC)))))))
 (aH (bF (pv 1)))))),?_⟩
  refine⟨_,rfl,a,row,rfl,ha,hrow,hlen,by decide,fun l hl=>?_⟩;refine⟨_,rfl,a,rfl,⟨_,SqL.of (Same.upd hl _ _ ha)⟩,cN (K:=K) (a:=a) (xs:=row.map V.int) (fun i σ H2=>∃ (us:List V) (v:Option V),σ=[some (.ref a),some (.ref l),v]/\Same H H2/\H2 l=some (.lst us)/\Prs H2 us (cZ (row.take i))/\us.length<=i)
   ⟨[],none,rfl,Same.upd hl,aB,.nil,Nat.le_refl _⟩ (fun i σ H2 _ ⟨us,v,_,sm,_⟩=>SqL.of (sm _ _ ha)) ?_ ?_⟩
  ·rintro i x σ H2 hi ⟨us,v,rfl,sm,el,pr,hu⟩;have hil:i<row.length:=by
    have:=(aCF.mp hi).1;simpa using this
   obtain⟨z,rfl,hz⟩:=eO hi;rcases List.eq_nil_or_concat (cZ (row.take i))with e | ⟨ps,q,e⟩
   ·have eu:us=[]:=by rw[e]at pr;cases pr;rfl
    refine⟨_,rfl,false,.inl ⟨us,SqL.of el,by rw[eu];rfl⟩,?_⟩;refine⟨_,rfl,.inl ⟨rfl,_,SqL.of el⟩,_,rfl,_,rfl,(show 2<=sizeLine by decide),fun t ht=>?_⟩;have el':(upd H2 t (.tup [.int z,.int z])) l=some (.lst us):=by rw[aG (aV el ht)];exact el
    refine⟨l,us,_,rfl,rfl,el',aL (by omega),us++[.ref t],_,rfl,Same.upd' hl (Same.upd' (sm.free ht) sm),aB,?_,by simp;omega⟩;rw[<- gY hz,e,sX,eu];exact .cons ⟨t,rfl,by rw[aG (Ne.symm (aV el ht)),aB]⟩ .nil
   ·rw[List.concat_eq_append]at e;have pr':=pr;rw[e]at pr';obtain⟨us',u,eu,pr1,t0,ru,ht0⟩:=Paired.split_last pr';subst eu ru
    by_cases hq:q.2=z - 1
    ·refine⟨_,rfl,true,.inl ⟨_,SqL.of el,by simp⟩,_,rfl,_,rfl,l,_,_,_,rfl,rfl,SqL.of el,hZ _ _,t0,_,_,_,rfl,rfl,SqT.of ht0,rfl,_,rfl,_,_,rfl,rfl,_,_,rfl,rfl,_,rfl,sW hq ?_⟩;refine⟨_,rfl,_,rfl,l,_,_,_,rfl,rfl,SqL.of el,hZ _ _,t0,_,_,_,rfl,rfl,SqT.of ht0,rfl,_,rfl,(show 2<=sizeLine by decide),fun t ht=>?_⟩;have el':(upd H2 t (.tup [.int q.1,.int z])) l=some (.lst (us'++[.ref t0])):=by rw[aG (aV el ht)];exact el
     refine⟨_,rfl,_,rfl,l,_,_,_,rfl,rfl,el',pO _ _,?_⟩;rw[nA];refine⟨us'++[.ref t],_,rfl,Same.upd' hl (Same.upd' (sm.free ht) sm),aB,?_,by simp at hu ⊢;omega⟩;rw[<- gY hz,e,fK,if_pos hq];exact Paired.append' (Prs.mono (TupS.trans (TupS.new ht) (TupS.lst el')) pr1) (.cons ⟨t,rfl,by rw[aG (Ne.symm (aV el ht)),aB]⟩ .nil)
    ·refine⟨_,rfl,true,.inl ⟨_,SqL.of el,by simp⟩,_,rfl,_,rfl,l,_,_,_,rfl,rfl,SqL.of el,hZ _ _,t0,_,_,_,rfl,rfl,SqT.of ht0,rfl,_,rfl,_,_,rfl,rfl,_,_,rfl,rfl,_,rfl,iC hq ?_⟩;refine⟨_,rfl,.inl ⟨rfl,_,SqL.of el⟩,_,rfl,_,rfl,(show 2<=sizeLine by decide),fun t ht=>?_⟩;have el':(upd H2 t (.tup [.int z,.int z])) l=some (.lst (us'++[.ref t0])):=by rw[aG (aV el ht)];exact el
     refine⟨l,us'++[.ref t0],_,rfl,rfl,el',aL (by omega),us'++[.ref t0]++[.ref t],_,rfl,Same.upd' hl (Same.upd' (sm.free ht) sm),aB,?_,by simp at hu ⊢;omega⟩;rw[<- gY hz,e,fK,if_neg hq,<- e];exact Paired.append' (Prs.mono (TupS.trans (TupS.new ht) (TupS.lst el')) pr) (.cons ⟨t,rfl,by rw[aG (Ne.symm (aV el ht)),aB]⟩ .nil)
  ·rintro σ H2 ⟨us,v,rfl,sm,el,pr,hu⟩;rw[aB4,aBi]at pr;exact⟨_,rfl,k l us H2 hl sm el pr⟩
abbrev eP:Stmt:=top 11
theorem xT:aQ ["row"] ["row"] (aD eP):=⟨rfl,rfl,rfl,by decide +kernel,rfl,by decide +kernel,by decide +kernel⟩
theorem xU {f:Addr} {fd:FuncData} (F:Fun K "mirrored" "mirrored" eP f fd) (B:Bt mg) (F_look_row:aX P w K mg base "look_row" 1 ["row"] kN):FnOk P w K mg base CX0 2 f fd ["row"] iD:=by
 refine F.ok xT (fun vs H Q E h=>?_) (fun cdv A outer s H vs Q E hr h=>?_)
 ·obtain⟨a,r,rfl,_⟩:=h;rfl
 ·obtain⟨a,row,rfl,ha,hrow,hlen,k⟩:=h;refine⟨_,(aE (aR (aU F_look_row hr rfl (aA (pv 0) aC)))
 (aH (bF (bX ["place"] [] [] rfl (.of (show cA (aD eP) _ ["row"] [] []=true by decide +kernel)) (z5 rfl B.reversed (aA (pv 0) aC)) (fun _ _ _=>(aI (i:=0) (show (["place"]:List Str).Nodup by decide +kernel) rfl (Or.inl rfl))) (fB (by decide)) (fun _ _ _=>cD) (fun _ _ _=>(gK eF (pv 0))))))),?_⟩
  refine⟨_,rfl,a,row,rfl,ha,hrow,hlen,_,rfl,a,_,rfl,SqL.of ha,P4 (xs:=row.map V.int) (fun i ys H2=>H2=H/\ys=((row.reverse.take i).map (fun z=>-z)).map V.int) ⟨rfl,rfl⟩ ?_ ?_ ?_⟩
  ·rintro i ys H2 hi ⟨rfl,rfl⟩;exact⟨SqL.of ha,mZ _ _ (by rw[aB4]at hi;omega) _⟩
  ·rintro i x ys H2 hi ⟨rfl,rfl⟩;rw[<- List.map_reverse]at hi;obtain⟨z,rfl,hz⟩:=eO hi;exact⟨_,rfl,_,rfl,rfl,qI _ hz⟩
  ·rintro ys H2 ⟨rfl,rfl⟩ D hD;refine k D _ hD (Same.upd hD) ?_;rw[aB,aB4,<- List.length_reverse,aBi];rfl
abbrev fN:Stmt:=top 12
theorem dB:aQ ["row","pairs","waiting","niche","place"] ["row"] (aD fN):=⟨rfl,rfl,rfl,by decide +kernel,rfl,by decide +kernel,by decide +kernel⟩
theorem xV {f:Addr} {fd:FuncData} (F:Fun K "closings" "closings" fN f fd) (B:Bt mg) (F_look_row:aX P w K mg base "look_row" 1 ["row"] kN):FnOk P w K mg base CX0 2 f fd ["row"] kA:=by
 refine F.ok dB (fun vs H Q E h=>?_) (fun cdv A outer s H vs Q E hr h=>?_)
 ·obtain⟨a,r,rfl,_⟩:=h;rfl
 ·obtain⟨a,row,rfl,ha,hrow,hlen,k⟩:=h;refine⟨_,(aE (aR (aU F_look_row hr rfl (aA (pv 0) aC)))
 (aE (aM (i:=1) dB.nd rfl (Or.inl rfl) (bL aC))
 (aE (aM (i:=2) dB.nd rfl (Or.inl rfl) (bL aC))
 (aE (aM (i:=3) dB.nd rfl (Or.inl rfl) aF)
 (aE (cQ PassesOwn.never rfl (bH (pv 0)) (aI (i:=4) dB.nd rfl (Or.inl rfl))
 (aE (eZ PassesOwn.never (PW.pt (qA (hX (pv 2) (fun _=>rfl)) (mQ (aW kH (pv 3) (pv 4) (bB _)))))
 (aE (aR (cT aCB aCC aCD bC (pv 1) (aA (cJ (aA (uI aCB PySem.F.slot_list_pop PySem.F.type_list_pop yJ (pv 2)) (aA (pv 3) aC))) aC)))
 (aH (jD (i:=3) dB.nd rfl (Or.inl rfl) aF mI))))
 (aE (aR (cT aCB aCC aCD bC (pv 2) (aA (pv 4) aC)))
 (aH (aM (i:=3) dB.nd rfl (Or.inl rfl) (aK bS (pv 4) aF))))))
 (aE (eZ PassesOwn.never (hX (pv 2) (fun _=>rfl))
 (aE (aR (cT aCB aCC aCD bC (pv 1) (aA (cJ (aA (uI aCB PySem.F.slot_list_pop PySem.F.type_list_pop yJ (pv 2)) (aA (pv 3) aC))) aC)))
 (aH (jD (i:=3) dB.nd rfl (Or.inl rfl) aF mI))))
 (aH (bF (aJ dW (by rfl) B.sorted cO (aA (pv 1) aC)))))))))),?_⟩
  refine⟨_,rfl,a,row,rfl,ha,hrow,hlen,by decide,fun lp hlp=>?_⟩;have g1:=Same.upd (o:=.lst []) hlp;have elp:(upd H lp (.lst [])) lp=some (.lst []):=aB;generalize upd H lp (.lst [])=H1 at g1 elp ⊢;refine⟨by decide,fun lw hlw=>?_⟩;have hlw0:H lw=none:=g1.free hlw;have hne:lp≠lw:=aV elp hlw;have pop:∀ {H3:Hp} {us:List V} {ps:List (Int×Int)} {st:List Int} {x n:Int} {i:Nat} {Qn:Hp->List V->Prop},Same H H3->H3 lp=some (.lst us)->H3 lw=some (.lst ((x :: st).reverse.map V.int))->Prs H3 us ps->ps.length+st.length<60 ->
   (∀ H4 us',Same H H4->H4 lp=some (.lst us')->H4 lw=some (.lst (st.reverse.map V.int))->Prs H4 us' (ps++[(x,n)])->Qn H4 us') ->
   ∃ y,((x :: st).reverse.map V.int)[((x :: st).reverse.map V.int).length - 1]?=some y/\y=.int x/\∀ t,(upd H3 lw (.lst ((x :: st).reverse.map V.int).dropLast)) t=none ->
    (upd (upd H3 lw (.lst ((x :: st).reverse.map V.int).dropLast)) t (.tup [.int x,.int n])) lp=some (.lst us)/\us.length<sizeLine/\Qn (upd (upd (upd H3 lw (.lst ((x :: st).reverse.map V.int).dropLast)) t (.tup [.int x,.int n])) lp (.lst (us++[.ref t]))) (us++[.ref t]):=by
   intro H3 us ps st x n i Qn sm3 el3 ew3 pr3 hl3 hq;have e1:(x :: st).reverse.map V.int=st.reverse.map V.int++[V.int x]:=by rw[List.reverse_cons,aBj];rfl
   have e2:((x :: st).reverse.map V.int).dropLast=st.reverse.map V.int:=by rw[e1,List.dropLast_concat]
   refine⟨.int x,by rw[e1];simp,rfl,fun t ht=>?_⟩;rw[e2]at ht ⊢;have g5:Same H (upd H3 lw (.lst (st.reverse.map V.int))):=Same.upd' hlw0 sm3;have el5:(upd H3 lw (.lst (st.reverse.map V.int))) lp=some (.lst us):=by rw[aG hne];exact el3
   have ew5:(upd H3 lw (.lst (st.reverse.map V.int))) lw=some (.lst (st.reverse.map V.int)):=aB;have pr5:Prs (upd H3 lw (.lst (st.reverse.map V.int))) us ps:=pr3.mono (TupS.lst ew3);generalize upd H3 lw (.lst (st.reverse.map V.int))=H5 at ht g5 el5 ew5 pr5 ⊢;have el6:(upd H5 t (.tup [.int x,.int n])) lp=some (.lst us):=by rw[aG (aV el5 ht)];exact el5
   have ew6:(upd H5 t (.tup [.int x,.int n])) lw=some (.lst (st.reverse.map V.int)):=by rw[aG (aV ew5 ht)];exact ew5
   refine⟨el6,aL (by rw[pr5.len];omega),hq _ _ (Same.upd' hlp (g5.trans (Same.upd ht))) aB (by rw[aG hne.symm];exact ew6) ?_⟩;exact Paired.append' (Prs.mono (TupS.trans (TupS.new ht) (TupS.lst el6)) pr5) (.cons ⟨t,rfl,by rw[aG (Ne.symm (aV el5 ht)),aB]⟩ .nil)
  refine⟨_,rfl,a,rfl,⟨_,SqL.of ((g1.trans (Same.upd hlw)) _ _ ha)⟩,cN (K:=K) (a:=a) (xs:=row.map V.int) (fun i σ H2=>∃ (us:List V) (ps:List (Int×Int)) (st:List Int) (n:Int) (v:Option V),σ=[some (.ref a),some (.ref lp),some (.ref lw),some (.int n),v]/\Same H H2/\H2 lp=some (.lst us)/\H2 lw=some (.lst (st.reverse.map V.int))/\Prs H2 us ps /\
   ps++eE (row.drop i) st n=kG row/\ps.length+st.length=i)
   ⟨[],[],[],0,none,rfl,g1.trans (Same.upd hlw),by rw[aG hne];exact elp,aB,.nil,rfl,rfl⟩ (fun i σ H2 _ ⟨us,ps,st,n,v,_,sm,_⟩=>SqL.of (sm _ _ ha)) ?_ ?_⟩
  ·rintro i z σ H2 hi ⟨us,ps,st,n,v,rfl,sm,el,ew,pr,eq,hb⟩;have hil:i<row.length:=by
    have:=(aCF.mp hi).1;simpa using this
   obtain⟨p,rfl,hz⟩:=eO hi;have hd:row.drop i=p :: row.drop (i+1):=by
    obtain⟨h1,rfl⟩:=aCF.mp hz;exact List.drop_eq_getElem_cons h1
   rw[hd]at eq;refine mR (fun σ H3=>∃ (us:List V) (ps:List (Int×Int)) (st:List Int) (n:Int),σ=[some (.ref a),some (.ref lp),some (.ref lw),some (.int n),some (.int p)]/\Same H H3/\H3 lp=some (.lst us)/\H3 lw=some (.lst (st.reverse.map V.int))/\Prs H3 us ps /\
    ps++eE (p :: row.drop (i+1)) st n=kG row/\ps.length+st.length=i)
    (fun _ H3=>match H3 lw with | some (.lst xs)=>xs.length | _=>0) ⟨us,ps,st,n,rfl,sm,el,ew,pr,eq,hb⟩ ?_ ?_
   ·rintro σ H3 ⟨us,ps,st,n,rfl,sm3,el3,ew3,pr3,eq3,hb3⟩;have go:∀ (h:st=[]\/p<=n),∃ v,[some (V.ref a),some (V.ref lp),some (V.ref lw),some (V.int n),some (V.int p)][2]?=some (some v)/\v=.ref lw/\(upd H3 lw (.lst (st.reverse.map V.int++[V.int p]))) lw=some (.lst ((p :: st).reverse.map V.int))/\ps++eE (row.drop (i+1)) (p :: st) (p+1)=kG row:=fun h=>by
     rw[K4 h]at eq3;exact⟨_,rfl,rfl,by rw[aB,List.reverse_cons,aBj];rfl,eq3⟩
    have fin:∀ (h:st=[]\/p<=n),∃ (us':List V) (ps':List (Int×Int)) (st':List Int) (n':Int) (v:Option V),([some (V.ref a),some (V.ref lp),some (V.ref lw),some (V.int (p+1)),some (V.int p)]:St)=[some (.ref a),some (.ref lp),some (.ref lw),some (.int n'),v]/\Same H (upd H3 lw (.lst (st.reverse.map V.int++[V.int p])))/\(upd H3 lw (.lst (st.reverse.map V.int++[V.int p]))) lp=some (.lst us') /\
     (upd H3 lw (.lst (st.reverse.map V.int++[V.int p]))) lw=some (.lst (st'.reverse.map V.int))/\Prs (upd H3 lw (.lst (st.reverse.map V.int++[V.int p]))) us' ps'/\ps'++eE (row.drop (i+1)) st' n'=kG row/\ps'.length+st'.length=i+1:=fun h=>by
     obtain⟨v,_,_,e1,e2⟩:=go h;exact⟨us,ps,p :: st,p+1,_,rfl,Same.upd' hlw0 sm3,by rw[aG hne];exact el3,e1,pr3.mono (TupS.lst ew3),e2,by rw[aBx];omega⟩
    cases st with
    | nil =>
     refine⟨_,rfl,false,.inl ⟨_,SqL.of ew3,rfl⟩,?_⟩;refine⟨_,rfl,.inl ⟨rfl,_,SqL.of ew3⟩,_,rfl,lw,_,_,rfl,rfl,ew3,(by decide),?_⟩;exact⟨_,rfl,_,_,rfl,rfl,fin (.inl rfl)⟩
    | cons x st =>
     refine⟨_,rfl,true,.inl ⟨_,SqL.of ew3,by simp⟩,_,rfl,_,rfl,_,_,rfl,rfl,_,rfl,iB (fun h1=>?_) (fun h1=>?_)⟩
     ·rw[K5 h1]at eq3;rw[aBx]at hb3;obtain⟨y,y1,rfl,y2⟩:=pop (n:=n) (i:=i) (Qn:=fun H4 us'=>(∃ (us:List V) (ps:List (Int×Int)) (st':List Int) (n':Int),([some (V.ref a),some (V.ref lp),some (V.ref lw),some (V.int (n+1)),some (V.int p)]:St)=[some (.ref a),some (.ref lp),some (.ref lw),some (.int n'),some (.int p)]/\Same H H4/\H4 lp=some (.lst us)/\H4 lw=some (.lst (st'.reverse.map V.int))/\Prs H4 us ps /\
       ps++eE (p :: row.drop (i+1)) st' n'=kG row/\ps.length+st'.length=i)/\(match H4 lw with | some (.lst xs)=>xs.length | _=>0)<(match H3 lw with | some (.lst xs)=>xs.length | _=>0)) sm3 el3 ew3 pr3 (by omega)
       (fun H4 us' a1 a2 a3 a4=>⟨⟨us',ps++[(x,n)],st,n+1,rfl,a1,a2,a3,a4,by rw[List.append_assoc];exact eq3,by simp;omega⟩,by rw[a3,ew3];simp⟩)
      refine⟨_,rfl,.inl ⟨rfl,_,SqL.of el3⟩,_,rfl,.inl ⟨rfl,_,SqL.of ew3⟩,lw,_,_,rfl,rfl,ew3,y1,_,rfl,(show 2<=sizeLine by decide),fun t ht=>?_⟩;obtain⟨z1,z2,z3⟩:=y2 t ht;exact⟨lp,us,_,rfl,rfl,z1,z2,_,rfl,_,_,rfl,rfl,z3⟩
     ·refine⟨_,rfl,.inl ⟨rfl,_,SqL.of ew3⟩,_,rfl,lw,_,_,rfl,rfl,ew3,(by rw[aB4,List.length_reverse];exact aL (by omega)),?_⟩;exact⟨_,rfl,_,_,rfl,rfl,fin (.inr (by omega))⟩
   ·intro σ H3 Q1 Q2 hq h;obtain⟨x,e,b1,e1,h⟩:=h;refine⟨x,e,b1,e1,?_⟩;cases b1 with
    | false=>exact hq _ _ h
    | true =>
     obtain⟨x,e,y,e',i2,j2,e4,e5,b2,e6,h⟩:=h;exact⟨x,e,y,e',i2,j2,e4,e5,b2,e6,hq _ _ h⟩
  ·rintro σ H2 ⟨us,ps,st,n,v,rfl,sm,el,ew,pr,eq,hb⟩;rw[aB4]at eq hb;rw[List.drop_length]at eq;dsimp only[aAZ];refine mR (fun σ H3=>∃ (us:List V) (ps:List (Int×Int)) (st:List Int) (n:Int),σ=[some (.ref a),some (.ref lp),some (.ref lw),some (.int n),v]/\Same H H3/\H3 lp=some (.lst us)/\H3 lw=some (.lst (st.reverse.map V.int))/\Prs H3 us ps /\
    ps++eE [] st n=kG row/\ps.length+st.length=row.length)
    (fun _ H3=>match H3 lw with | some (.lst xs)=>xs.length | _=>0) ⟨us,ps,st,n,rfl,sm,el,ew,pr,eq,hb⟩ ?_ ?_
   ·rintro σ H3 ⟨us,ps,st,n,rfl,sm3,el3,ew3,pr3,eq3,hb3⟩;cases st with
    | nil =>
     refine⟨_,rfl,false,.inl ⟨_,SqL.of ew3,rfl⟩,?_⟩;have eps:ps=kG row:=by rw[<- eq3];simp[eE,oV]
     refine⟨_,rfl,lp,us,ps,rfl,el3,pr3,by rw[List.length_nil]at hb3;omega,fun l us' qs hl pr' hp hs=>?_⟩;refine k qs (by rw[<- eps];exact hp) hs l us' _ (sm3.free hl) (sm3.trans (Same.upd hl)) aB (pr'.mono (TupS.new hl))
    | cons x st =>
     rw[K6]at eq3;rw[aBx]at hb3;refine⟨_,rfl,true,.inl ⟨_,SqL.of ew3,by simp⟩,?_⟩;obtain⟨y,y1,rfl,y2⟩:=pop (n:=n) (i:=0) (Qn:=fun H4 us'=>(∃ (us:List V) (ps:List (Int×Int)) (st':List Int) (n':Int),([some (V.ref a),some (V.ref lp),some (V.ref lw),some (V.int (n+1)),v]:St)=[some (.ref a),some (.ref lp),some (.ref lw),some (.int n'),v]/\Same H H4/\H4 lp=some (.lst us)/\H4 lw=some (.lst (st'.reverse.map V.int))/\Prs H4 us ps /\
      ps++eE [] st' n'=kG row/\ps.length+st'.length=row.length)/\(match H4 lw with | some (.lst xs)=>xs.length | _=>0)<(match H3 lw with | some (.lst xs)=>xs.length | _=>0)) sm3 el3 ew3 pr3 (by omega)
      (fun H4 us' a1 a2 a3 a4=>⟨⟨us',ps++[(x,n)],st,n+1,rfl,a1,a2,a3,a4,by rw[List.append_assoc];exact eq3,by simp;omega⟩,by rw[a3,ew3];simp⟩)
     refine⟨_,rfl,.inl ⟨rfl,_,SqL.of el3⟩,_,rfl,.inl ⟨rfl,_,SqL.of ew3⟩,lw,_,_,rfl,rfl,ew3,y1,_,rfl,(show 2<=sizeLine by decide),fun t ht=>?_⟩;obtain⟨z1,z2,z3⟩:=y2 t ht;exact⟨lp,us,_,rfl,rfl,z1,z2,_,rfl,_,_,rfl,rfl,z3⟩
   ·intro σ H3 Q1 Q2 hq h;obtain⟨x,e,b1,e1,h⟩:=h;exact⟨x,e,b1,e1,hq _ _ h⟩
abbrev cS:Stmt:=top 14
theorem fG:aQ ["trains","at","size","offset"] ["trains"] (aD cS):=⟨rfl,rfl,rfl,by decide +kernel,rfl,by decide +kernel,by decide +kernel⟩
theorem rL {f:Addr} {fd:FuncData} {tC:Tok} (F:Fun K "look_trains" "look_trains" cS f fd) (B:Bt mg) (C:Cn mg tC):FnOk P w K mg base CX0 1 f fd ["trains"] nD:=by
 refine F.ok fG (fun vs H Q E h=>?_) (fun cdv A outer s H vs Q E hr h=>?_)
 ·obtain⟨a,r,rfl,_⟩:=h;rfl
 ·obtain⟨a,ps,rfl,⟨us,ha,pr⟩,ht,k⟩:=h;have hul:us.length<=60:=by rw[pr.len];exact ht.len
  refine⟨_,(aE (cQ PassesOwn.never rfl (Z0 rfl B.enumerate (aA (pv 0) aC)) (jU rfl (aO (aI (i:=1) fG.nd rfl (Or.inl rfl)) (aO (jU rfl (aO (aI (i:=2) fG.nd rfl (Or.inl rfl)) (aO (aI (i:=3) fG.nd rfl (Or.inl rfl)) bR))) bR)))
 (aH (cX (aW kH (pv 2) aF (bB _))
 (aH jH)
 cB)))
 (aH (cX (aW kF (aJ (fZ rfl) (by rfl) B.sum fY (aA (bX ["size","offset"] [] [] rfl (.of (show cA (aD cS) _ ["trains","at","size","offset"] [] []=true by decide +kernel)) (bH (pv 0)) (fun _ _ _=>(dD (n:=2) K rfl rfl (aO (aI (i:=0) (show (["size","offset"]:List Str).Nodup by decide +kernel) rfl (Or.inl rfl)) (aO (aI (i:=1) (show (["size","offset"]:List Str).Nodup by decide +kernel) rfl (Or.inl rfl)) bR)))) (eN (bA (by decide) (bA (by decide) dC))) (fun _ _ _=>cD) (fun _ _ _=>(pv 0))) aC)) (uB (v:=.int 60) rfl C.MOST_STONES ⟨_,rfl⟩) (bB _))
 (aH jH)
 cB))),?_⟩
  refine⟨_,rfl,a,_,rfl,SqL.of ha,Q6 (K:=K) (a:=a) (xs:=us) (fun i σ H2=>∃ v1 v2 v3,σ=[some (.ref a),v1,v2,v3]/\Same H H2) ⟨none,none,none,rfl,Same.refl _⟩ (fun i σ H2 _ ⟨_,_,_,_,sm⟩=>SqL.of (sm _ _ ha)) ?_ ?_⟩
  ·rintro i x σ H2 t hi ⟨v1,v2,v3,rfl,sm⟩ hn;obtain⟨p,t',hp,rfl,et⟩:=bQ pr hi;have sm2:Same H (upd H2 t (.tup [.int i,.ref t'])):=sm.trans (Same.upd hn);have e1:=sm2 _ _ et;refine⟨t,_,rfl,SqT.of aB,rfl,_,_,rfl,_,_,rfl,⟨t',_,rfl,SqT.of e1,rfl,_,_,rfl,_,_,rfl,rfl,rfl,?_⟩⟩;have:=ht.pos p (aBf hp);exact⟨_,rfl,_,_,rfl,rfl,_,rfl,iC (by omega) ⟨_,_,_,rfl,sm2⟩⟩
  ·rintro σ H2 ⟨v1,v2,v3,rfl,sm⟩;refine⟨_,rfl,a,rfl,⟨_,SqL.of (sm _ _ ha)⟩,bP (K:=K) (a:=a) (xs:=us) (fun i ys H3=>H3=H2/\ys=((ps.take i).map (·.1)).map V.int) ⟨rfl,rfl⟩ ?_ ?_ ?_⟩
   ·rintro i ys H3 hi ⟨rfl,rfl⟩;exact⟨SqL.of (sm _ _ ha),mZ _ _ (by omega) _⟩
   ·rintro i x ys H3 hi ⟨rfl,rfl⟩;obtain⟨p,t',hp,rfl,et⟩:=bQ pr hi;exact⟨t',_,rfl,SqT.of (sm _ _ et),rfl,_,_,rfl,_,_,rfl,rfl,_,rfl,rfl,dM (·.1) hp⟩
   ·rintro ys H3 ⟨rfl,rfl⟩ D hD;have e:us.length=ps.length:=pr.len;refine⟨D,szs ps,rfl,by rw[aB,e,aBi];rfl,_,_,rfl,rfl,_,rfl,iC ?_ (k _ (sm.trans (Same.upd hD)))⟩;have:=ht.few;omega
abbrev hJ:Stmt:=top 15
theorem kC:aQ ["trains","offsets","size","offset"] ["trains"] (aD hJ):=⟨rfl,rfl,rfl,by decide +kernel,rfl,by decide +kernel,by decide +kernel⟩
inductive rM (H:Hp) (a:Addr) (d:Addr) (l:Addr) (us':List V) (qs:Trs) (i:Nat) (σ:St) (H3:Hp):Prop
 | mk (gs:List Grp) (v1 v2:Option V) (k0_:σ=[some (.ref a),some (.ref d),v1,v2]) (k1_:Same H H3) (k2_:H3 l=some (.lst us')) (k3_:Prs H3 us' qs) (k4_:DG H3 d gs) (k5_:(∀ g∈gs,H g.2.1=none/\g.2.1≠l/\g.2.1≠d)) (k6_:((bJ gs).Perm (qs.take i)/\Asc gs)) (k7_:gs.length<=i) (k8_:∀ g∈gs,g.2.2.length<=i/\g.2.2≠[]):rM H a d l us' qs i σ H3
theorem zK {f:Addr} {fd:FuncData} (F:Fun K "by_size" "by_size" hJ f fd) (B:Bt mg):FnOk P w K mg base CX0 1 f fd ["trains"] lX:=by
 refine F.ok kC (fun vs H Q E h=>?_) (fun cdv A outer s H vs Q E hr h=>?_)
 ·obtain⟨a,r,rfl,_⟩:=h;rfl
 ·obtain⟨a,ps,rfl,⟨us,ha,pr⟩,hpl,k⟩:=h;refine⟨_,(aE (aM (i:=1) kC.nd rfl (Or.inl rfl) kX)
 (aE (cQ PassesOwn.never rfl (bH (aJ dW (by rfl) B.sorted cO (aA (pv 0) aC))) (jU rfl (aO (aI (i:=2) kC.nd rfl (Or.inl rfl)) (aO (aI (i:=3) kC.nd rfl (Or.inl rfl)) bR)))
 (aH (aR (cT aCB aCC aCD bC (A6 (pv 1) (pv 2) (bL aC) ⟨rfl,rfl,rfl,rfl⟩) (aA (pv 3) aC)))))
 (aH (bF (pv 1))))),?_⟩
  refine fun d hd=>?_;have g1:=Same.upd (o:=.dK []) hd;have ed:(upd H d (.dK [])) d=some (.dK (kvG [])):=aB;generalize upd H d (.dK [])=H1 at g1 ed ⊢;refine⟨_,rfl,a,us,ps,rfl,g1 _ _ ha,pr.mono (TupS.same g1),by omega,fun l us' qs hl pr' hperm hsort=>?_⟩;have g2:=Same.upd (o:=.lst us') hl;have el:(upd H1 l (.lst us')) l=some (.lst us'):=aB;have pr2:=pr'.mono (TupS.same g2);have ed2:=g2 _ _ ed;generalize upd H1 l (.lst us')=H2 at g2 el pr2 ed2 ⊢;have eu:us'.length=ps.length:=by rw[pr2.len,hperm.length_eq]
  have hld:l≠d:=fV el ed2 (by intro z;cases z);have g12:=g1.trans g2;have hHl:H l=none:=g1.free hl;refine⟨l,rfl,⟨_,SqL.of el⟩,cN (K:=K) (a:=l) (xs:=us') (rM H a d l us' qs)
   ⟨[],none,none,rfl,g12,el,pr2,⟨ed2,fun g hg=>(nomatch hg),List.Pairwise.nil,List.Pairwise.nil⟩,fun g hg=>(nomatch hg),⟨.refl _,fun g hg=>(nomatch hg)⟩,Nat.le_refl _,fun g hg=>(nomatch hg)⟩ (fun i σ H3 _ z_=>by obtain⟨_,_,_,_,_,e,_⟩:=z_;exact SqL.of e) ?_ ?_⟩
  ·rintro i x σ H3 hi ⟨gs,v1,v2,rfl,sm,el3,pr3,dg,hfr,⟨hw,hac⟩,hgl,hgn⟩;obtain⟨p,t',hp,rfl,et⟩:=bQ pr3 hi;have hple:∀ q∈bJ gs,q.1=p.1->q.2<=p.2:=fun q hq e=>by
    obtain⟨k',hk',hqk⟩:=List.mem_iff_getElem.mp (hw.mem_iff.mp hq);have hki:k'<i:=by rw[aBk]at hk';omega
    have hkq:k'<qs.length:=by rw[aBk]at hk';omega
    have hpi:=(aCF.mp hp);have h3:=List.pairwise_iff_getElem.mp hsort k' i hkq hpi.1 hki;rw[hpi.2]at h3;rw[List.getElem_take]at hqk;rw[hqk]at h3;unfold ple at h3;omega
   have htk:∀ l:Trs,l.Perm (p :: bJ gs)->l.Perm (qs.take (i+1)):=fun l hl=>by
    rw[aBz,hp];refine hl.trans ((hw.cons p).trans ?_);exact(List.perm_append_comm (l₁:=qs.take i) (l₂:=[p])).symm
   have hil:i<us'.length:=(aCF.mp hi).1;refine⟨t',_,rfl,SqT.of et,rfl,_,_,rfl,_,_,rfl,rfl,_,rfl,d,rfl,.inl ⟨_,.inl dg.at_⟩,_,rfl,by decide,fun z hz=>?_⟩;have g4:=Same.upd (o:=.lst []) hz;have ez:(upd H3 z (.lst [])) z=some (.lst []):=aB;have hHz:H z=none:=sm.free hz;have nzl:z≠l:=fun e=>by rw[e,el3]at hz;cases hz
   have nzd:z≠d:=fun e=>by rw[e,dg.at_]at hz;cases hz
   generalize upd H3 z (.lst [])=H4 at g4 ez ⊢;have sm4:=sm.trans g4;have el4:=g4 _ _ el3;have pr4:=pr3.mono (TupS.same g4);have lst4:∀ g∈gs,H4 g.2.1=some (.lst (g.2.2.map V.int)):=fun g hg=>g4 _ _ (dg.lst g hg);have nz:∀ g∈gs,g.2.1≠z:=fun g hg e=>by have:=dg.lst g hg;rw[e,hz]at this;cases this
   refine⟨kvG gs,Sum.inl p.1,g4 _ _ dg.at_,rfl,by simp only[kvG,aB4];exact aL (by omega),fun v hv=>?_,fun hv=>?_⟩
   ·-- the size is there
    rw[fF]at hv;obtain⟨g,hg,rfl⟩:=aCE.mp hv;have hgm:=List.mem_of_find?_eq_some hg;have hgk:g.1=p.1:=by simpa using List.find?_some hg
    have eg:=lst4 g hgm;have hgo:=hfr g hgm;refine⟨.inl ⟨rfl,_,SqL.of eg⟩,_,rfl,g.2.1,_,_,rfl,rfl,eg,(by rw[aB4];exact aL (by have:=(hgn g hgm).1;omega)),?_⟩;have hmem:∀ g'∈eY p.1 p.2 gs,∃ g0∈gs,g'.2.1=g0.2.1/\g'.1=g0.1/\(g'.2.2=if g0.1=p.1 then g0.2.2++[p.2]else g0.2.2):=fun g' hg'=>by
     obtain⟨g0,h0,rfl⟩:=aCI.mp hg';refine⟨g0,h0,?_⟩
     by_cases hk:g0.1=p.1
     ·rw[if_pos hk,if_pos hk];exact⟨rfl,rfl,rfl⟩
     ·rw[if_neg hk,if_neg hk];exact⟨rfl,rfl,rfl⟩
    have hpu:qT H4 p.1 p.2 gs (eY p.1 p.2 gs):=.inl ⟨⟨g,hgm,hgk⟩,rfl⟩;have uniq:∀ g0∈gs,g0.2.1=g.2.1->g0=g:=fun g0 h0 e=>cG (f:=fun g:Grp=>g.2.1) dg.adr h0 hgm e;refine⟨eY p.1 p.2 gs,_,_,rfl,Same.upd' hgo.1 sm4,by rw[aG (Ne.symm hgo.2.1)];exact el4,pr4.mono (TupS.lst eg),⟨by rw[wX,aG (Ne.symm hgo.2.2)];exact g4 _ _ dg.at_,fun g' hg'=>?_,by rw[wY];exact dg.adr,by rw[wZ];exact dg.key⟩,fun g' hg'=>?_,⟨htk _ (gZ dg.key hpu),hac.puts hpu hple⟩,by rw[R8];omega,fun g' hg'=>?_⟩
    ·obtain⟨g0,h0,e1,e2,e3⟩:=hmem g' hg';rw[e1]
     by_cases hadr:g0.2.1=g.2.1
     ·have:=uniq g0 h0 hadr;subst this;rw[aB,e3,if_pos hgk,aBj];rfl
     ·have hk:g0.1≠p.1:=fun e=>hadr (by rw[cG (f:=fun g:Grp=>g.1) dg.key h0 hgm (e.trans hgk.symm)]);rw[aG hadr,e3,if_neg hk];exact lst4 g0 h0
    ·obtain⟨g0,h0,e1,_,_⟩:=hmem g' hg';rw[e1];exact hfr g0 h0
    ·obtain⟨g0,h0,_,_,e3⟩:=hmem g' hg';have:=hgn g0 h0;rw[e3];split
     ·exact⟨by rw[aBd,List.length_singleton];omega,by simp⟩
     ·exact⟨by omega,this.2⟩
   ·-- the size is new
    rw[fF]at hv;have hno:∀ g∈gs,g.1≠p.1:=fun g hg e=>by
     have:=List.find?_eq_none.mp (Option.map_eq_none_iff.mp hv) g hg;exact this (by simpa using e)
    have hpu:qT H3 p.1 p.2 gs (gs++[(p.1,z,[p.2])]):=.inr ⟨hno,z,hz,rfl⟩;rw[wT (V.ref z) (by rw[fF];exact hv)];have ez5:(upd H4 d (.dK (kvG gs++[((Sum.inl p.1:Key),V.ref z)]))) z=some (.lst []):=by rw[aG nzd];exact ez
    refine⟨.inl ⟨rfl,_,SqL.of ez5⟩,_,rfl,z,_,_,rfl,rfl,ez5,(show 0<sizeLine by decide),?_⟩;have hk6:∀ b o,b≠d->b≠z->H4 b=some o->(upd (upd H4 d (.dK (kvG gs++[((Sum.inl p.1:Key),V.ref z)]))) z (.lst ([]++[V.int p.2]))) b=some o:=fun b o n1 n2 e=>by rw[aG n2,aG n1];exact e
    refine⟨gs++[(p.1,z,[p.2])],_,_,rfl,Same.upd' hHz (Same.upd' hd sm4),hk6 _ _ hld (Ne.symm nzl) el4,pr4.mono (fun t xs e=>hk6 _ _ (fV e (g4 _ _ dg.at_) (by intro z;cases z)) (fV e ez (by intro z;cases z)) e),⟨?_,fun g hg=>?_,?_,?_⟩,fun g hg=>?_,⟨htk _ (gZ dg.key hpu),hac.puts hpu hple⟩,by rw[aBd,List.length_singleton];omega,fun g hg=>?_⟩
    ·rw[aG (Ne.symm nzd),aB];unfold kvG;rw[aBj];rfl
    ·rcases aCH.mp hg with h | h
     ·exact hk6 _ _ (hfr g h).2.2 (nz g h) (lst4 g h)
     ·rw[aCA.mp h];exact aB
    ·rw[aBj,List.nodup_append];refine⟨dg.adr,by simp,fun x hx y hy=>?_⟩;obtain⟨g,hg,rfl⟩:=aCI.mp hx;have hy':y=z:=by simpa using hy
     rw[hy'];exact nz g hg
    ·rw[aBj,List.nodup_append];refine⟨dg.key,by simp,fun x hx y hy=>?_⟩;obtain⟨g,hg,rfl⟩:=aCI.mp hx;have hy':y=p.1:=by simpa using hy
     rw[hy'];exact hno g hg
    ·rcases aCH.mp hg with h | h
     ·exact hfr g h
     ·rw[aCA.mp h];exact⟨hHz,nzl,nzd⟩
    ·rcases aCH.mp hg with h | h
     ·have:=hgn g h;exact⟨by omega,this.2⟩
     ·rw[aCA.mp h];exact⟨by show 1<=i+1;omega,by simp⟩
  ·rintro σ H3 ⟨gs,v1,v2,rfl,sm,el3,pr3,dg,hfr,⟨hw,hac⟩,hgl,hgn⟩;refine⟨_,rfl,k d gs H3 hd sm dg ?_ hac fun g hg=>⟨(hgn g hg).2,(hfr g hg).1⟩⟩;rw[show us'.length=qs.length from pr3.len,aBi]at hw;exact hw.trans hperm
abbrev kD:Stmt:=top 16
theorem W9:aQ ["offsets","size"] ["offsets","size"] (aD kD):=⟨rfl,rfl,rfl,by decide +kernel,rfl,by decide +kernel,by decide +kernel⟩
theorem X0 {f:Addr} {fd:FuncData} (F:Fun K "crowd" "crowd" kD f fd) (B:Bt mg):FnOk P w K mg base CX0 1 f fd ["offsets","size"] nJ:=by
 refine F.ok W9 (fun vs H Q E h=>?_) (fun cdv A outer s H vs Q E hr h=>?_)
 ·obtain⟨d,r,j,rfl,_⟩:=h;rfl
 ·obtain⟨d,gs,j,rfl,dg,hl,hgn,k⟩:=h;refine⟨_,(aH (bF (aK cR aF (aJ (fZ rfl) (by rfl) B.sum fY (aA (uX (bX ["other","some"] ["size"] [1] rfl (.of (show cA (aD kD) _ ["offsets","size"] [1] ["size"]=true by decide +kernel)) (nF (pv 0)) (fun _ _ _=>(dD (n:=2) K rfl rfl (aO (aI (i:=0) (show (["other","some","size"]:List Str).Nodup by decide +kernel) rfl (Or.inl rfl)) (aO (aI (i:=1) (show (["other","some","size"]:List Str).Nodup by decide +kernel) rfl (Or.inl rfl)) bR)))) (eN (bA (by decide) (bA (by decide) dC))) (fun _ _ _=>cD) (fun _ _ _=>(aK cR (aJ (jK rfl) (by rfl) B.min iA (aA (pv 2) (aA (pv 0) aC))) (aJ (jE K rfl) (by rfl) B.len PySem.boot_len (aA (pv 1) aC)))))) aC))))),?_⟩;refine⟨d,kvG gs,dg.at_,_,rfl,d,kvG gs,rfl,dg.at_,fun od=>?_⟩;have gd:SameD d H (upd H d (.frz od (.dK (kvG gs)))):=fun b o n e=>by rw[aG n];exact e
  have ed:(upd H d (.frz od (.dK (kvG gs)))) d=some (.frz od (.dK (kvG gs))):=aB;have hlst:∀ g∈gs,(upd H d (.frz od (.dK (kvG gs)))) g.2.1=some (.lst (g.2.2.map V.int)):=fun g hg=>gd _ _ (fV (dg.lst g hg) dg.at_ (by intro z;cases z)) (dg.lst g hg);generalize upd H d (.frz od (.dK (kvG gs)))=H1 at gd ed hlst ⊢;have hkl:(kvG gs).length=gs.length:=by simp[kvG]
  refine jX (d:=d) (od:=od) (kvs:=kvG gs) (fun i ys H2=>Same H1 H2/\ys=((gs.take i).map (fun g:Grp=>gS j g.1 * (g.2.2.length:Int))).map V.int) ⟨Same.refl _,rfl⟩ ?_ ?_ ?_
  ·rintro i ys H2 hi ⟨g2,rfl⟩;exact⟨g2 _ _ ed,by simp only[aB4,aBk];exact aL (by omega)⟩
  ·rintro i ky x ys H2 t hx ⟨g2,rfl⟩ ht;obtain⟨g,hg,hgx⟩:∃ g,gs[i]?=some g/\((Sum.inl g.1:Key),V.ref g.2.1)=(ky,x):=by
    unfold kvG at hx;rw[aBs]at hx;obtain⟨g,h1,h2⟩:=aCE.mp hx;exact⟨g,h1,h2⟩
   cases hgx;have hgm:=aBf hg;have g3:=g2.trans (Same.upd (o:=.tup [kV (Sum.inl g.1),V.ref g.2.1]) ht);refine⟨t,_,rfl,SqT.of aB,rfl,_,_,rfl,_,_,rfl,rfl,_,rfl,_,rfl,_,_,rfl,_,rfl,g.2.1,_,rfl,.inl (SqL.of (g3 _ _ (hlst g hgm))),_,_,rfl,rfl,.inr ⟨?_,?_⟩,g3,?_⟩
   ·have:=hgn g hgm;rw[aB4];omega
   ·have:=hgn g hgm;rw[aB4];omega
   ·rw[aBz,hg];simp[gS]
  ·rintro ys H2 ⟨g2,rfl⟩ D hD;have hnD:D≠d:=fun z=>by rw[z,g2 _ _ ed]at hD;cases hD
   refine⟨od,by rw[aG (Ne.symm hnD)];exact g2 _ _ ed,D,gs.map (fun g:Grp=>gS j g.1 * (g.2.2.length:Int)),rfl,by rw[aG hnD,aB,hkl,aBi],_,_,rfl,rfl,.inl ⟨by decide,by decide⟩,k _ fun b o e=>?_⟩
   by_cases hb:b=d
   ·subst hb;rw[aB,<- dg.at_];exact e
   ·rw[aG hb];exact(g2.trans (Same.upd hD)) _ _ (gd b o hb e)
abbrev iK:Stmt:=top 17
theorem dX:aQ ["offsets","found","longer","total","below","size"] ["offsets"] (aD iK):=⟨rfl,rfl,rfl,by decide +kernel,rfl,by decide +kernel,by decide +kernel⟩
inductive tT (H:Hp) (d:Addr) (e:Addr) (l:Addr) (gs:List Grp) (ms:List Int) (i:Nat) (σ:St) (H6:Hp):Prop
 | mk (kvs:List (Key×V)) (b:Int) (v:Option V) (k0_:σ=[some (.ref d),some (.ref e),some (.int (lng b gs)),some (.int (2 * wgt (gS b) gs)),some (.int b),v]) (k1_:Same H H6) (k2_:H6 l=some (.lst (ms.map V.int))) (k3_:H6 e=some (.dK kvs)) (k4_:kvs.length<=i) (k5_:(∀ g∈gs,b<g.1->g.1∈ms.drop i)) (k6_:(∀ m∈ms.drop i,b<m)) (k7_:∀ m∈ms.take i,cU kvs (Sum.inl m:Key)=some (.int (2 * wgt (gS m) gs))):tT H d e l gs ms i σ H6
theorem L4 {f:Addr} {fd:FuncData} (F:Fun K "crowds" "crowds" iK f fd) (B:Bt mg):FnOk P w K mg base CX0 1 f fd ["offsets"] jP:=by
 refine F.ok dX (fun vs H Q E h=>?_) (fun cdv A outer s H vs Q E hr h=>?_)
 ·obtain⟨d,gs,rfl,_⟩:=h;rfl
 ·obtain⟨d,gs,rfl,dg,gd0,hl,hgn,k⟩:=h;have hu1:=qG hr;refine⟨_,(aE (aM (i:=1) dX.nd rfl (Or.inl rfl) kX)
 (aE (aM (i:=2) dX.nd rfl (Or.inl rfl) (aJ (fZ rfl) (by rfl) B.sum fY (aA (uX (bX ["some"] [] [] rfl (.of (show cA (aD iK) _ ["offsets","found","longer","total","below","size"] [] []=true by decide +kernel)) (I0 (pv 0)) (fun _ _ _=>(aI (i:=0) (show (["some"]:List Str).Nodup by decide +kernel) rfl (Or.inl rfl))) (fB (by decide)) (fun _ _ _=>cD) (fun _ _ _=>(aJ (jE K rfl) (by rfl) B.len PySem.boot_len (aA (pv 0) aC))))) aC)))
 (aE (aM (i:=3) dX.nd rfl (Or.inl rfl) aF)
 (aE (aM (i:=4) dX.nd rfl (Or.inl rfl) aF)
 (aE (cQ PassesOwn.never rfl (bH (aJ (nG rfl) (by rfl) B.sorted cO (aA (pv 0) aC))) (aI (i:=5) dX.nd rfl (Or.inl rfl))
 (aE (jD (i:=3) dX.nd rfl (Or.inl rfl) (aK cR (aK cR aF (pv 2)) (aK bV (pv 5) (pv 4))) mI)
 (aE (uV hu1 (pv 1) (pv 5) (pv 3) rfl)
 (aE (jD (i:=2) dX.nd rfl (Or.inl rfl) (aJ bE (by rfl) B.len PySem.boot_len (aA (lU hu1 (pv 0) (pv 5) (fun _ _=>rfl)) aC)) yB)
 (aH (aM (i:=4) dX.nd rfl (Or.inl rfl) (pv 5)))))))
 (aH (bF (pv 1)))))))),?_⟩
  refine fun e he=>?_;have g1:=Same.upd (o:=.dK []) he;have ee:(upd H e (.dK [])) e=some (.dK []):=aB;have hed:e≠d:=fun z=>by rw[z,dg.at_]at he;cases he
  generalize upd H e (.dK [])=H1 at g1 ee ⊢;have dg1:DG H1 d gs:=⟨g1 _ _ dg.at_,fun g hg=>g1 _ _ (dg.lst g hg),dg.adr,dg.key⟩;refine⟨d,kvG gs,dg1.at_,_,rfl,d,kvG gs,rfl,dg1.at_,fun od=>?_⟩;have gd:SameD d H1 (upd H1 d (.frz od (.dK (kvG gs)))):=fun b o n e=>by rw[aG n];exact e
  have ed:(upd H1 d (.frz od (.dK (kvG gs)))) d=some (.frz od (.dK (kvG gs))):=aB;have hlst:∀ g∈gs,(upd H1 d (.frz od (.dK (kvG gs)))) g.2.1=some (.lst (g.2.2.map V.int)):=fun g hg=>gd _ _ (fV (dg1.lst g hg) dg1.at_ (by intro z;cases z)) (dg1.lst g hg);generalize upd H1 d (.frz od (.dK (kvG gs)))=H2 at gd ed hlst ⊢;have hkl:(kvG gs).length=gs.length:=by simp[kvG]
  refine xE (d:=d) (od:=od) (kvs:=kvG gs) (fun i ys H3=>H3=H2/\ys=((gs.take i).map (fun g:Grp=>(g.2.2.length:Int))).map V.int) ⟨rfl,rfl⟩ ?_ ?_ ?_
  ·rintro i ys H3 hi ⟨rfl,rfl⟩;exact⟨ed,by simp only[aB4,aBk];exact aL (by omega)⟩
  ·rintro i ky x ys H3 hx ⟨rfl,rfl⟩;obtain⟨g,hg,hgx⟩:∃ g,gs[i]?=some g/\((Sum.inl g.1:Key),V.ref g.2.1)=(ky,x):=by
    unfold kvG at hx;rw[aBs]at hx;obtain⟨g,h1,h2⟩:=aCE.mp hx;exact⟨g,h1,h2⟩
   cases hgx;have hgm:=aBf hg;refine⟨_,rfl,g.2.1,_,rfl,.inl (SqL.of (hlst g hgm)),rfl,?_⟩;rw[aBz,hg];simp
  ·rintro ys H3 ⟨rfl,rfl⟩ D hD;have hnD:D≠d:=fun z=>by rw[z,ed]at hD;cases hD
   refine⟨od,by rw[aG (Ne.symm hnD)];exact ed,D,gs.map (fun g:Grp=>(g.2.2.length:Int)),rfl,by rw[aG hnD,aB,hkl,aBi],?_⟩;have g4:Same H1 (upd (upd H3 D (.lst (((gs.take (kvG gs).length).map (fun g:Grp=>(g.2.2.length:Int))).map V.int))) d (.dK (kvG gs))):=fun b o q=>by
    by_cases hb:b=d
    ·subst hb;rw[aB,<- dg1.at_];exact q
    ·rw[aG hb];exact(Same.upd hD) _ _ (gd b o hb q)
   generalize upd (upd H3 D (.lst (((gs.take (kvG gs).length).map (fun g:Grp=>(g.2.2.length:Int))).map V.int))) d (.dK (kvG gs))=H4 at g4 ⊢;have hks:xC (kvG gs) (gs.map (·.1)):=by unfold xC kvG;simp[Function.comp]
   have dg4:DG H4 d gs:=⟨g4 _ _ dg1.at_,fun g hg=>g4 _ _ (dg1.lst g hg),dg.adr,dg.key⟩;have ee4:=g4 _ _ ee;have sm4:=g1.trans g4;have hL0:=S6 gd0;rw[<- hL0];refine⟨_,rfl,d,kvG gs,gs.map (·.1),rfl,dg4.at_,hks,by rw[aB4];omega,fun l ms hnl hp hs=>?_⟩;have g5:=Same.upd (o:=.lst (ms.map V.int)) hnl;have el:(upd H4 l (.lst (ms.map V.int))) l=some (.lst (ms.map V.int)):=aB;have hHl:H l=none:=sm4.free hnl;have nle:l≠e:=fun z=>by rw[z,ee4]at hnl;cases hnl
   generalize upd H4 l (.lst (ms.map V.int))=H5 at g5 el ⊢;have sm5:=sm4.trans g5;have ee5:=g5 _ _ ee4;have hml:ms.length=gs.length:=by rw[hp.length_eq,aB4]
   have hst:=tM hp hs dg.key;refine⟨l,rfl,⟨_,SqL.of el⟩,cN (K:=K) (a:=l) (xs:=ms.map V.int) (tT H d e l gs ms)
    ⟨[],0,none,by rw[S7 gd0];rfl,sm5,el,ee5,Nat.le_refl _,fun g hg _=>hp.mem_iff.mpr (aCI.mpr ⟨g,hg,rfl⟩),fun m hm=>by
     obtain⟨g,hg,e⟩:=aCI.mp (hp.mem_iff.mp hm);have:=(gd0 g hg).1;have e':g.1=m:=e;omega,fun m hm=>by simp at hm⟩ (fun i σ H6 _ z_=>by obtain⟨_,_,_,_,_,q,_⟩:=z_;exact SqL.of q) ?_ ?_⟩
   ·rintro i x σ H6 hi ⟨kvs,b,v,rfl,sm6,el6,ee6,hkl6,hin,hab,hall⟩;rw[aBs]at hi;obtain⟨m,hm,rfl⟩:=aCE.mp hi;have hil:i<ms.length:=(aCF.mp hm).1;obtain⟨g,hg,hgm⟩:=aCI.mp (hp.mem_iff.mp (aBf hm));have hgm:g.1=m:=hgm;subst hgm;have hdr:ms.drop i=g.1 :: ms.drop (i+1):=by
     rw[List.drop_eq_getElem_cons hil];rw[aBe hil]at hm;rw[Option.some.inj hm]
    have hbm:b<g.1:=hab g.1 (by rw[hdr];exact aB6);have hstd:(g.1 :: ms.drop (i+1)).Pairwise (·<·):=by rw[<- hdr];exact hst.sublist (List.drop_sublist _ _)
    have hnx:∀ x∈gs,b<x.1->g.1<=x.1:=fun x hx hb=>by
     have:=hin x hx hb;rw[hdr]at this;rcases aCG.mp this with e | e
     ·omega
     ·have:=(List.pairwise_cons.mp hstd).1 _ e;omega
    have e1:=yV (Int.le_of_lt hbm) hnx;have e2:=S5 hbm hnx dg.key hg rfl;obtain⟨hb1,hb2⟩:=T0 (b:=b) hgn;have dg6:DG H6 d gs:=⟨sm6 _ _ dg.at_,fun g hg=>sm6 _ _ (dg.lst g hg),dg.adr,dg.key⟩;have e3:2 * wgt (gS b) gs+2 * lng b gs * (g.1 - b)=2 * wgt (gS g.1) gs:=by
     rw[e1,Int.mul_add,Int.mul_assoc,Int.mul_comm (lng b gs)]
    refine⟨_,rfl,_,rfl,_,_,rfl,rfl,.inl ⟨by decide,by decide⟩,_,rfl,_,rfl,_,_,rfl,rfl,_,_,rfl,rfl,.inl ⟨by omega,by omega⟩,?_⟩;refine⟨_,_,rfl,rfl,?_⟩;refine⟨_,rfl,_,rfl,_,rfl,e,_,rfl,DPut.k (k:=Sum.inl g.1) ee6 (aL (by omega)),?_⟩;have dg7:DG (upd H6 e (.dK (gR kvs (Sum.inl g.1:Key) (V.int (2 * wgt (gS b) gs+2 * lng b gs * (g.1 - b)))))) d gs:=⟨by rw[aG (Ne.symm hed)];exact dg6.at_,fun x hx=>by rw[aG (fV (dg6.lst x hx) ee6 (by intro z;cases z))];exact dg6.lst x hx,dg.adr,dg.key⟩;refine⟨_,rfl,_,rfl,_,rfl,d,_,rfl,dg7.get hg,g.2.1,_,rfl,.inl (SqL.of (dg7.lst g hg)),?_⟩;refine⟨_,_,rfl,rfl,?_⟩;refine⟨_,rfl,?_⟩;refine⟨gR kvs (Sum.inl g.1:Key) (V.int (2 * wgt (gS b) gs+2 * lng b gs * (g.1 - b))),g.1,_,by rw[e2,<- e3,<- aB4 (as:=g.2.2) V.int];rfl,Same.upd' he sm6,by rw[aG nle];exact el6,aB,Nat.le_trans (gC ..) (by omega),fun x hx hgt=>?_,fun m' hm'=>(List.pairwise_cons.mp hstd).1 m' hm',fun m' hm'=>?_⟩
    ·have:=hin x hx (by omega);rw[hdr]at this;rcases aCG.mp this with e | e
     ·omega
     ·exact e
    rw[valV_put]
    by_cases hmk:(Sum.inl m':Key)=Sum.inl g.1
    ·rw[if_pos hmk,e3];rw[Sum.inl.inj hmk]
    ·rw[if_neg hmk];rw[aBz,hm]at hm';rcases aCH.mp hm' with h | h
     ·exact hall m' h
     ·exact absurd (by have:m'=g.1:=by simpa using h
                       rw[this]) hmk
   ·rintro σ H6 ⟨kvs,b,v,rfl,sm6,el6,ee6,hkl6,_,_,hall⟩;refine⟨_,rfl,k e kvs H6 he sm6 ee6 fun g hg=>?_⟩;rw[aB4,aBi]at hall;rw[hall g.1 (hp.mem_iff.mpr (aCI.mpr ⟨g,hg,rfl⟩)),uZ]
abbrev eV:Stmt:=top 21
theorem vV:aQ ["offsets","size"] ["offsets","size"] (aD eV):=⟨rfl,rfl,rfl,by decide +kernel,rfl,by decide +kernel,by decide +kernel⟩
theorem vW {f:Addr} {fd:FuncData} (F:Fun K "drop_last" "drop_last" eV f fd) (B:Bt mg):FnOk P w K mg base CX0 1 f fd ["offsets","size"] iH:=by
 refine F.ok vV (fun vs H Q E h=>?_) (fun cdv A outer s H vs Q E hr h=>?_)
 ·obtain⟨d,gs,g,rfl,_⟩:=h;rfl
 ·obtain⟨d,gs,g,rfl,dg,hg,hne,k⟩:=h;have hu1:=qG hr;refine⟨_,(aE (aR (uI aCB PySem.F.slot_list_pop PySem.F.type_list_pop yJ (lU hu1 (pv 0) (pv 1) (fun _ _=>rfl))))
 (aH (cX (N0 (hX (lU hu1 (pv 0) (pv 1) (fun _ _=>rfl)) (fun _=>rfl)))
 (aH (Z8 (pv 0) (pv 1)))
 cB))),?_⟩
  have hnn:g.2.2.map V.int≠[]:=by simpa using hne
  have hlast:(g.2.2.map V.int)[(g.2.2.map V.int).length - 1]?=some ((g.2.2.map V.int).getLast hnn):=by rw[<- List.getLast?_eq_getElem?];exact List.getLast?_eq_getLast hnn
  refine⟨_,rfl,_,rfl,d,_,rfl,dg.get hg,.inl ⟨rfl,_,SqL.of (dg.lst g hg)⟩,g.2.1,_,_,rfl,rfl,dg.lst g hg,hlast,?_⟩;rw[<- List.map_dropLast];have dg2:=dg.pops hg;have st2:StayG d gs H (upd H g.2.1 (.lst (g.2.2.dropLast.map V.int))):=fun b o _ n e=>by rw[aG (n g hg)];exact e
  generalize upd H g.2.1 (.lst (g.2.2.dropLast.map V.int))=H2 at dg2 st2 ⊢;have hg':(g.1,g.2.1,g.2.2.dropLast)∈pops g.1 gs:=aCI.mpr ⟨g,hg,if_pos rfl⟩;have hget:DGet H2 d (.int g.1) (some (.ref g.2.1)):=dg2.get (g:=(g.1,g.2.1,g.2.2.dropLast)) hg';have hls:H2 g.2.1=some (.lst (g.2.2.dropLast.map V.int)):=dg2.lst (g.1,g.2.1,g.2.2.dropLast) hg';refine⟨_,rfl,_,rfl,d,_,rfl,hget,_,.inl ⟨_,SqL.of hls,rfl⟩,?_⟩;have hany:((pops g.1 gs).any (fun x=>decide (x.1=g.1) && x.2.2.isEmpty))=g.2.2.dropLast.isEmpty:=by
   cases hE:g.2.2.dropLast.isEmpty with
   | true=>exact List.any_eq_true.mpr ⟨_,hg',by simp[hE]⟩
   | false =>
    rw[List.any_eq_false];intro x hx;simp only[Bool.and_eq_true,decide_eq_true_eq,not_and];intro e;have:x=(g.1,g.2.1,g.2.2.dropLast):=cG (f:=fun g:Grp=>g.1) dg2.key hx hg' e;rw[this];simp[hE]
  have hm:(g.2.2.dropLast.map V.int).isEmpty=g.2.2.dropLast.isEmpty:=by rw[List.isEmpty_map]
  simp only[hm];cases hE:g.2.2.dropLast.isEmpty with
  | true =>
   refine⟨_,rfl,_,rfl,d,_,Sum.inl g.1,rfl,dg2.at_,rfl,?_,k _ (fun b o n1 n2 e=>by rw[aG n1];exact st2 b o n1 n2 e) ?_⟩
   ·rw[fF,nI dg2.key hg'];rfl
   ·unfold shr;rw[hany,hE,if_pos rfl];exact dg2.outs g.1
  | false =>
   refine k _ st2 ?_;unfold shr;rw[hany,hE,if_neg aBh];exact dg2
abbrev eW:Stmt:=top 22
theorem nW:aQ ["offsets","size","place","offset"] ["offsets","size","place"] (aD eW):=⟨rfl,rfl,rfl,by decide +kernel,rfl,by decide +kernel,by decide +kernel⟩
theorem vX {f:Addr} {fd:FuncData} (F:Fun K "add_train" "add_train" eW f fd) (B:Bt mg) (F_crowd:aX P w K mg base "crowd" 1 ["offsets","size"] nJ):FnOk P w K mg base CX0 2 f fd ["offsets","size","place"] gF:=by
 refine F.ok nW (fun vs H Q E h=>?_) (fun cdv A outer s H vs Q E hr h=>?_)
 ·obtain⟨d,gs,k,p,rfl,_⟩:=h;rfl
 ·obtain⟨d,gs,k,p,rfl,dg,hl,hgn,kk⟩:=h;refine⟨_,(aE (aM (i:=3) nW.nd rfl (Or.inl rfl) (aK bV (aK bV (pv 2) (aU F_crowd hr rfl (aA (pv 0) (aA (pv 1) aC)))) (aK cR aF (pv 1))))
 (aH (aR (cT aCB aCC aCD bC (A6 (pv 0) (pv 1) (bL aC) ⟨rfl,rfl,rfl,rfl⟩) (aA (pv 3) aC))))),?_⟩
  refine⟨_,rfl,_,rfl,_,rfl,d,gs,k,rfl,dg,hl,hgn,fun H3 sm=>?_⟩;refine⟨_,_,rfl,rfl,_,rfl,_,_,rfl,rfl,.inl ⟨by decide,by decide⟩,_,_,rfl,rfl,?_⟩;have dg3:DG H3 d gs:=⟨sm _ _ dg.at_,fun g hg=>sm _ _ (dg.lst g hg),dg.adr,dg.key⟩;refine⟨_,rfl,d,rfl,.inl ⟨_,.inl dg3.at_⟩,_,rfl,by decide,fun z hz=>?_⟩;have g4:=Same.upd (o:=.lst []) hz;have ez:(upd H3 z (.lst [])) z=some (.lst []):=aB;have hHz:H z=none:=sm.free hz;have nzd:z≠d:=fun e=>by rw[e,dg3.at_]at hz;cases hz
  generalize upd H3 z (.lst [])=H4 at g4 ez ⊢;have sm4:=sm.trans g4;have lst4:∀ g∈gs,H4 g.2.1=some (.lst (g.2.2.map V.int)):=fun g hg=>g4 _ _ (dg3.lst g hg);have nz:∀ g∈gs,g.2.1≠z:=fun g hg e=>by have:=dg3.lst g hg;rw[e,hz]at this;cases this
  have hgd:∀ g∈gs,g.2.1≠d:=fun g hg=>fV (dg3.lst g hg) dg3.at_ (by intro z;cases z);refine⟨kvG gs,Sum.inl k,g4 _ _ dg3.at_,rfl,by simp only[kvG,aB4];exact aL (by omega),fun v hv=>?_,fun hv=>?_⟩
  ·rw[fF]at hv;obtain⟨g,hg,rfl⟩:=aCE.mp hv;have hgm:=List.mem_of_find?_eq_some hg;have hgk:g.1=k:=by simpa using List.find?_some hg
   have eg:=lst4 g hgm;refine⟨.inl ⟨rfl,_,SqL.of eg⟩,_,rfl,g.2.1,_,_,rfl,rfl,eg,(by rw[aB4];exact aL (by have:=hgn g hgm;omega)),?_⟩;have hmem:∀ g'∈eY k (p - 2 * wgt (gS k) gs - 2 * k) gs,∃ g0∈gs,g'.2.1=g0.2.1/\g'.1=g0.1/\(g'.2.2=if g0.1=k then g0.2.2++[(p - 2 * wgt (gS k) gs - 2 * k)]else g0.2.2):=fun g' hg'=>by
    obtain⟨g0,h0,rfl⟩:=aCI.mp hg';refine⟨g0,h0,?_⟩
    by_cases hk:g0.1=k
    ·rw[if_pos hk,if_pos hk];exact⟨rfl,rfl,rfl⟩
    ·rw[if_neg hk,if_neg hk];exact⟨rfl,rfl,rfl⟩
   have uniq:∀ g0∈gs,g0.2.1=g.2.1->g0=g:=fun g0 h0 e=>cG (f:=fun g:Grp=>g.2.1) dg.adr h0 hgm e;refine kk (eY k (p - 2 * wgt (gS k) gs - 2 * k) gs) _ (fun b u n1 n2 e=>by rw[aG (n2 g hgm)];exact sm4 b u e) ⟨by rw[wX,aG (Ne.symm (hgd g hgm))];exact g4 _ _ dg3.at_,fun g' hg'=>?_,by rw[wY];exact dg.adr,by rw[wZ];exact dg.key⟩ (.inl ⟨⟨g,hgm,hgk⟩,rfl⟩);obtain⟨g0,h0,e1,e2,e3⟩:=hmem g' hg';rw[e1]
   by_cases hadr:g0.2.1=g.2.1
   ·have:=uniq g0 h0 hadr;subst this;rw[aB,e3,if_pos hgk,aBj];rfl
   ·have hk:g0.1≠k:=fun e=>hadr (by rw[cG (f:=fun g:Grp=>g.1) dg.key h0 hgm (e.trans hgk.symm)]);rw[aG hadr,e3,if_neg hk];exact lst4 g0 h0
  ·rw[fF]at hv;have hno:∀ g∈gs,g.1≠k:=fun g hg e=>by
    have:=List.find?_eq_none.mp (Option.map_eq_none_iff.mp hv) g hg;exact this (by simpa using e)
   rw[wT (V.ref z) (by rw[fF];exact hv)];have ez5:(upd H4 d (.dK (kvG gs++[((Sum.inl k:Key),V.ref z)]))) z=some (.lst []):=by rw[aG nzd];exact ez
   refine⟨.inl ⟨rfl,_,SqL.of ez5⟩,_,rfl,z,_,_,rfl,rfl,ez5,(show 0<sizeLine by decide),?_⟩;have hk6:∀ b u,b≠d->b≠z->H4 b=some u->(upd (upd H4 d (.dK (kvG gs++[((Sum.inl k:Key),V.ref z)]))) z (.lst ([]++[V.int (p - 2 * wgt (gS k) gs - 2 * k)]))) b=some u:=fun b u n1 n2 e=>by rw[aG n2,aG n1];exact e
   refine kk (gs++[(k,z,[(p - 2 * wgt (gS k) gs - 2 * k)])]) _ (fun b u n1 n2 e=>hk6 b u n1 (fun e'=>by rw[e',hHz]at e;cases e) (sm4 b u e)) ⟨?_,fun g hg=>?_,?_,?_⟩ (.inr ⟨hno,z,hHz,rfl⟩)
   ·rw[aG (Ne.symm nzd),aB];unfold kvG;rw[aBj];rfl
   ·rcases aCH.mp hg with h | h
    ·exact hk6 _ _ (hgd g h) (nz g h) (lst4 g h)
    ·rw[aCA.mp h];exact aB
   ·rw[aBj,List.nodup_append];refine⟨dg.adr,by simp,fun x hx y hy=>?_⟩;obtain⟨g,hg,rfl⟩:=aCI.mp hx;have hy':y=z:=by simpa using hy
    rw[hy'];exact nz g hg
   ·rw[aBj,List.nodup_append];refine⟨dg.key,by simp,fun x hx y hy=>?_⟩;obtain⟨g,hg,rfl⟩:=aCI.mp hx;have hy':y=k:=by simpa using hy
    rw[hy'];exact hno g hg
abbrev dQ:Stmt:=top 20
theorem gU:aQ ["offsets","place","crowded","ready","size"] ["offsets","place"] (aD dQ):=⟨rfl,rfl,rfl,by decide +kernel,rfl,by decide +kernel,by decide +kernel⟩
theorem vY {f:Addr} {fd:FuncData} (F:Fun K "add_stone" "add_stone" dQ f fd) (B:Bt mg) (F_crowds:aX P w K mg base "crowds" 1 ["offsets"] jP)
 (F_drop_last:aX P w K mg base "drop_last" 1 ["offsets","size"] iH) (F_add_train:aX P w K mg base "add_train" 2 ["offsets","size","place"] gF):FnOk P w K mg base CX0 3 f fd ["offsets","place"] jY:=by
 refine F.ok gU (fun vs H Q E h=>?_) (fun cdv A outer s H vs Q E hr h=>?_)
 ·obtain⟨d,gs,p,H0,rfl,_⟩:=h;rfl
 ·obtain⟨d,gs,p,H0,rfl,dg,gd,ac,hsto,bd,smH,hHd,hfr,k⟩:=h;have hu1:=qG hr;obtain⟨hb1,hb2⟩:=GoodG.bound gd;refine⟨_,(aE (aM (i:=2) gU.nd rfl (Or.inr rfl) (aU F_crowds hr rfl (aA (pv 0) aC)))
 (aE (d6 (uJ (i:=3) ["size","some"] ["place","crowded"] [1,2] rfl gU.nd rfl rfl (.of (show cA (aD dQ) _ ["offsets","place","crowded","ready","size"] [1,2] ["place","crowded"]=true by decide +kernel)) (nF (pv 0)) (fun _ _ _=>(dD (n:=2) K rfl rfl (aO (aI (i:=0) (show (["size","some","place","crowded"]:List Str).Nodup by decide +kernel) rfl (Or.inl rfl)) (aO (aI (i:=1) (show (["size","some","place","crowded"]:List Str).Nodup by decide +kernel) rfl (Or.inl rfl)) bR)))) (eN (bA (by decide) (bA (by decide) dC))) (fun _ _ _=>jV (aW kL (cY (wL K rfl) (pv 1) (gK eF aF) (fun _ _=>rfl)) (aK bV (aK bV (pv 2) aF) (lU hu1 (pv 3) (pv 0) (fun _ _=>rfl))) (bB _))) (fun _ _ _=>(pv 0)) (by first | rfl | decide +kernel)))
 (aE (aM (i:=4) gU.nd rfl (Or.inl rfl) (oD rfl rfl B.max (pv 3) aF))
 (pN (cX (aW kF (pv 4) aF (bB _))
 (aH (aR (aU F_drop_last hr rfl (aA (pv 0) (aA (pv 4) aC)))))
 cB)
 (aH (aR (aU F_add_train hr rfl (aA (pv 0) (aA (aK bS (pv 4) aF) (aA (pv 1) aC)))))))))),?_⟩
  refine⟨_,rfl,d,gs,rfl,dg,gd,by omega,fun g hg=>by have:=hb2 g hg;omega,fun e kvs H5 he sm5 ee hall=>?_⟩;have dg5:DG H5 d gs:=⟨sm5 _ _ dg.at_,fun g hg=>sm5 _ _ (dg.lst g hg),dg.adr,dg.key⟩;have hed:e≠d:=fun z=>by rw[z,dg.at_]at he;cases he
  refine⟨d,kvG gs,dg5.at_,_,rfl,d,kvG gs,rfl,dg5.at_,fun od=>?_⟩;have sd:SameD d H5 (upd H5 d (.frz od (.dK (kvG gs)))):=fun b o n e=>by rw[aG n];exact e
  have ed:(upd H5 d (.frz od (.dK (kvG gs)))) d=some (.frz od (.dK (kvG gs))):=aB;have hlst:∀ g∈gs,(upd H5 d (.frz od (.dK (kvG gs)))) g.2.1=some (.lst (g.2.2.map V.int)):=fun g hg=>sd _ _ (fV (dg5.lst g hg) dg5.at_ (by intro z;cases z)) (dg5.lst g hg);have ee6:(upd H5 d (.frz od (.dK (kvG gs)))) e=some (.dK kvs):=sd _ _ hed ee;generalize upd H5 d (.frz od (.dK (kvG gs)))=H6 at sd ed hlst ee6 ⊢;have hkl:(kvG gs).length=gs.length:=by simp[kvG]
  refine jX (d:=d) (od:=od) (kvs:=kvG gs) (fun i ys H7=>Same H6 H7/\ys.length<=i/\∃ ns:List Int,ys=ns.map V.int/\(∀ n∈ns,∃ g∈gs,∃ hne:g.2.2≠[],n=g.1/\g.2.2.getLast hne=p - 1 - 2 * les (bJ gs) g.1)/\(∀ g∈gs.take i,∀ hne:g.2.2≠[],g.2.2.getLast hne=p - 1 - 2 * les (bJ gs) g.1->g.1∈ns)) ⟨Same.refl _,Nat.le_refl _,[],rfl,fun n hn=>(nomatch hn),fun g hg=>by simp at hg⟩ ?_ ?_ ?_
  ·rintro i ys H7 hi ⟨g7,hyl,_⟩;exact⟨g7 _ _ ed,aL (by omega)⟩
  ·rintro i ky x ys H7 t hx ⟨g7,hyl,ns,rfl,hn1,hn2⟩ htn;obtain⟨g,hg,hgx⟩:∃ g,gs[i]?=some g/\((Sum.inl g.1:Key),V.ref g.2.1)=(ky,x):=by
    unfold kvG at hx;rw[aBs]at hx;obtain⟨g,h1,h2⟩:=aCE.mp hx;exact⟨g,h1,h2⟩
   cases hgx;have hgm:=aBf hg;have g8:=g7.trans (Same.upd (o:=.tup [kV (Sum.inl g.1),V.ref g.2.1]) htn);have et8:(upd H7 t (.tup [kV (Sum.inl g.1),V.ref g.2.1])) t=some (.tup [kV (Sum.inl g.1),V.ref g.2.1]):=aB;generalize upd H7 t (.tup [kV (Sum.inl g.1),V.ref g.2.1])=H8 at g8 et8 ⊢;refine⟨t,_,rfl,SqT.of et8,rfl,_,_,rfl,_,_,rfl,rfl,?_⟩;have hne2:g.2.2≠[]:=(gd g hgm).2;have hv:atI (g.2.2.map V.int) (-1)=some (V.int (g.2.2.getLast hne2)):=B4 hne2;have hget:DGet H8 e (.int g.1) (some (.int (2 * les (bJ gs) g.1))):=by rw[<- hall g hgm];exact DGet.k (k:=(Sum.inl g.1:Key)) (g8 _ _ ee6)
   refine⟨_,rfl,_,rfl,g.2.1,_,_,_,rfl,rfl,SqL.of (g8 _ _ (hlst g hgm)),hv,_,rfl,_,_,rfl,rfl,_,rfl,_,rfl,e,_,rfl,hget,_,_,rfl,rfl,_,_,rfl,rfl,_,rfl,?_⟩;have htk:∀ x∈gs.take (i+1),x∈gs.take i\/x=g:=fun x hx=>by
    rw[aBz,hg]at hx;rcases aCH.mp hx with h | h
    ·exact .inl h
    ·exact .inr (by simpa using h)
   refine iB (fun hc=>?_) (fun hc=>?_)
   ·refine⟨_,rfl,g8,by rw[aBd,List.length_singleton];omega,ns++[g.1],by rw[aBj];rfl,fun n hn=>?_,fun x hx hne hl=>?_⟩
    ·rcases aCH.mp hn with h | h
     ·exact hn1 n h
     ·exact⟨g,hgm,hne2,by simpa using h,by omega⟩
    ·rcases htk x hx with h | h
     ·exact aBn _ (hn2 x h hne hl)
     ·rw[h];exact aB8 _ (by simp)
   ·refine⟨g8,by omega,ns,rfl,hn1,fun x hx hne hl=>?_⟩;rcases htk x hx with h | h
    ·exact hn2 x h hne hl
    ·subst h;exact absurd (by omega) hc
  ·rintro ys H7 ⟨g7,hyl,ns,rfl,hn1,hn2⟩ D hD;have hnD:D≠d:=fun z=>by rw[z,g7 _ _ ed]at hD;cases hD
   have edD:(upd H7 D (.lst (ns.map V.int))) d=some (.frz od (.dK (kvG gs))):=by rw[aG (Ne.symm hnD)];exact g7 _ _ ed
   have eD:(upd (upd H7 D (.lst (ns.map V.int))) d (.dK (kvG gs))) D=some (.lst (ns.map V.int)):=by rw[aG hnD,aB]
   have sm9:Same H5 (upd (upd H7 D (.lst (ns.map V.int))) d (.dK (kvG gs))):=fun b o q=>by
    by_cases hb:b=d
    ·subst hb;rw[aB,<- dg5.at_];exact q
    ·rw[aG hb];exact(g7.trans (Same.upd hD)) _ _ (sd b o hb q)
   refine⟨od,edD,?_⟩;generalize upd (upd H7 D (.lst (ns.map V.int))) d (.dK (kvG gs))=H9 at eD sm9 ⊢;have dg9:DG H9 d gs:=⟨sm9 _ _ dg5.at_,fun g hg=>sm9 _ _ (dg5.lst g hg),dg.adr,dg.key⟩;have smH9:=(smH.trans sm5).trans sm9;rw[hkl,aBi]at hn2;obtain⟨s0,es,hs0,hcase,htop⟩:=J3 gd hn1 hn2;refine⟨_,rfl,D,ns,rfl,SqL.of eD,?_⟩;rw[es];refine⟨fun σ' H'=>∃ gs1,σ'=[some (.ref d),some (.int p),some (.ref e),some (.ref D),some (.int s0)]/\Same H0 H'/\DG H' d gs1/\GoodG gs1/\sto gs1<=59/\(∀ g∈gs1,H0 g.2.1=none)/\(s0=0/\gs1=gs\/1<=s0/\∃ g∈gs,∃ hne:g.2.2≠[],g.1=s0/\g.2.2.getLast hne=p - 1 - 2 * les (bJ gs) s0/\gs1=shr s0 gs),?_,?_⟩
   ·refine⟨_,rfl,_,_,rfl,rfl,_,rfl,?_⟩;refine iB (fun hc=>?_) (fun hc=>?_)
    ·rcases hcase with hz | ⟨hz,g,hg,hne,e1,e2⟩
     ·omega
     ·subst e1;refine⟨_,rfl,_,rfl,d,gs,g,rfl,dg9,hg,hne,fun H11 st11 dg11=>⟨shr g.1 gs,rfl,fun b o q=>st11 b o (fun z=>by rw[z,hHd]at q;cases q) (fun x hx z=>by rw[z,hfr x hx]at q;cases q) (smH9 b o q),dg11,gd.shr _,?_,fun x hx=>?_,.inr ⟨hz,g,hg,hne,rfl,e2,rfl⟩⟩⟩
      ·have:sto (shr g.1 gs)=sto gs - g.1:=A7 _ dg.key hg hne;omega
      ·obtain⟨y,hy,ez⟩:=A8 hx;rw[ez];exact hfr y hy
    ·rcases hcase with hz | ⟨hz,_⟩
     ·exact⟨gs,rfl,smH9,dg9,gd,hsto,hfr,.inl ⟨hz,rfl⟩⟩
     ·omega
   ·rintro σ' H10 ⟨gs1,rfl,sm10,dg10,gd10,hst10,hfr10,hs⟩;obtain⟨hc1,hc2⟩:=GoodG.bound gd10;refine⟨_,rfl,_,rfl,_,_,rfl,rfl,_,rfl,d,gs1,s0+1,p,rfl,dg10,by omega,fun x hx=>by have:=hc2 x hx;omega,fun gs' H12 st12 dg12 hpu=>?_⟩;rw[uZ]at hpu;obtain⟨ha,hA,hG⟩:=yU dg.key gd ac bd hs htop hpu;refine k gs' H12 (fun b o q=>st12 b o (fun z=>by rw[z,hHd]at q;cases q) (fun x hx z=>by rw[z,hfr10 x hx]at q;cases q) (sm10 b o q)) dg12 hG hA ha fun x hx=>?_;rcases xH hpu hx with ⟨y,hy,ez⟩ | hz
    ·rw[ez];exact hfr10 y hy
    ·exact sm10.free hz
abbrev fO:Stmt:=top 19
theorem mO:aQ ["row","offsets","place"] ["row"] (aD fO):=⟨rfl,rfl,rfl,by decide +kernel,rfl,by decide +kernel,by decide +kernel⟩
inductive rN (H:Hp) (a:Addr) (d:Addr) (row:List Int) (i:Nat) (σ:St) (H3:Hp):Prop
 | mk (gs:List Grp) (v:Option V) (k0_:σ=[some (.ref a),some (.ref d),v]) (k1_:Same H H3) (k2_:DG H3 d gs) (k3_:GoodG gs) (k4_:Asc gs) (k5_:Lst (row.take i) (bJ gs)) (k6_:∀ g∈gs,H g.2.1=none):rN H a d row i σ H3
theorem zL {f:Addr} {fd:FuncData} (F:Fun K "list_of" "list_of" fO f fd) (B:Bt mg) (F_look_row:aX P w K mg base "look_row" 1 ["row"] kN) (F_add_stone:aX P w K mg base "add_stone" 3 ["offsets","place"] jY):FnOk P w K mg base CX0 4 f fd ["row"] gG:=by
 refine F.ok mO (fun vs H Q E h=>?_) (fun cdv A outer s H vs Q E hr h=>?_)
 ·obtain⟨a,row,rfl,_⟩:=h;rfl
 ·obtain⟨a,row,rfl,ha,hrow,hrl,k⟩:=h;have hu1:=qG hr;refine⟨_,(aE (aR (aU F_look_row hr rfl (aA (pv 0) aC)))
 (aE (aM (i:=1) mO.nd rfl (Or.inr rfl) kX)
 (aE (cQ PassesOwn.never rfl (bH (pv 0)) (aI (i:=2) mO.nd rfl (Or.inl rfl))
 (aH (aR (aU F_add_stone hr rfl (aA (pv 1) (aA (pv 2) aC))))))
 (aH (bF (S8 ["size"] ["offset"] ["offsets"] [1] rfl (.of (show cA (aD fO) _ ["row","offsets","place"] [1] ["offsets"]=true by decide +kernel)) (bH (aJ (nG rfl) (by rfl) B.sorted cO (aA (pv 1) aC))) (fun _ _ _=>(aI (i:=0) (show (["size","offset","offsets"]:List Str).Nodup by decide +kernel) rfl (Or.inl rfl))) (fB (by decide)) (fun _ _ _=>cD) (fun _ _ _=>(xN K rfl (lU hu1 (pv 2) (pv 0) (fun _ _=>rfl)))) (fun _ _ _=>(aI (i:=1) (show (["size","offset","offsets"]:List Str).Nodup by decide +kernel) rfl (Or.inl rfl))) (d5 (by decide) (by decide)) (fun _ _ _=>cD) (fun _ _ _=>(cJ (aA (pv 0) (aA (pv 1) aC)))))))))),?_⟩
  refine⟨_,rfl,a,row,rfl,ha,hrow,hrl,?_⟩;refine fun d hd=>?_;have g1:=Same.upd (o:=.dK []) hd;have ed:(upd H d (.dK [])) d=some (.dK (kvG [])):=aB;generalize upd H d (.dK [])=H1 at g1 ed ⊢;refine⟨_,rfl,a,rfl,⟨_,SqL.of (g1 _ _ ha)⟩,cN (K:=K) (a:=a) (xs:=row.map V.int) (rN H a d row)
   ⟨[],none,rfl,g1,⟨ed,fun g hg=>(nomatch hg),List.Pairwise.nil,List.Pairwise.nil⟩,fun g hg=>(nomatch hg),fun g hg=>(nomatch hg),.nil,fun g hg=>(nomatch hg)⟩ (fun i σ H3 _ z_=>by obtain⟨_,_,_,sm,_⟩:=z_;exact SqL.of (sm _ _ ha)) ?_ ?_⟩
  ·rintro i x σ H3 hi ⟨gs,v,rfl,sm,dg,gd,ac,hl,hfr⟩;obtain⟨z,rfl,hz⟩:=eO hi;have hil:i<row.length:=(aCF.mp hz).1;have htk:row.take (i+1)=row.take i++[z]:=by rw[aBz,hz];rfl
   have hlt:∀ x∈row.take i,x<z:=fun x hx=>by
    have hp:(row.take i++[z]).Pairwise (·<·):=by rw[<- htk];exact List.Pairwise.sublist (List.take_sublist _ _) hrow
    exact(List.pairwise_append.mp hp).2.2 x hx z (by simp)
   have hsz:sto gs=(i:Int):=by
    rw[pR,hl.sizx,aBk];omega
   refine⟨_,rfl,_,rfl,d,gs,z,H,rfl,dg,gd,ac,by omega,hl.bd fun x hx=>by have:=hlt x hx;omega,sm,hd,hfr,fun gs' H' sm' dg' gd' ac' hadd hfr'=>?_⟩;exact⟨gs',_,rfl,sm',dg',gd',ac',by rw[htk];exact .snoc hl hlt hadd,hfr'⟩
  ·rintro σ H3 ⟨gs,v,rfl,sm,dg,gd,ac,hl,hfr⟩;rw[aB4,aBi]at hl;obtain⟨hb1,hb2⟩:=GoodG.bound gd;have hsz:sto gs=(row.length:Int):=by rw[pR,hl.sizx]
   have hks:xC (kvG gs) (gs.map (·.1)):=by unfold xC kvG;simp[Function.comp]
   refine⟨_,rfl,d,kvG gs,gs.map (·.1),rfl,dg.at_,hks,by rw[aB4];omega,fun l ms hnl hp hs=>?_⟩;have g5:=Same.upd (o:=.lst (ms.map V.int)) hnl;have el:(upd H3 l (.lst (ms.map V.int))) l=some (.lst (ms.map V.int)):=aB;generalize upd H3 l (.lst (ms.map V.int))=H5 at g5 el ⊢;have hst:=tM hp hs dg.key;have dg5:DG H5 d gs:=⟨g5 _ _ dg.at_,fun g hg=>g5 _ _ (dg.lst g hg),dg.adr,dg.key⟩;have hsize:∀ i,(laid (ms.take i) gs).length<=60:=fun i=>by
    have h1:(laid (ms.take i) gs).length<=(laid ms gs).length:=by
     conv=>rhs;rw[<- List.take_append_drop i ms,oS,aBd]
     omega
    have h2:=(tK gs hp).length_eq;rw[tL dg.key]at h2;have h3:=dL hl.pos;have h4:(szs (bJ gs)).sum=siz (bJ gs):=rfl;have h5:=pR gs;omega
   refine⟨l,rfl,⟨_,SqL.of el⟩,yZ (K:=K) (a:=l) (xs:=ms.map V.int) (fun i ys H6=>Same H5 H6/\Prs H6 ys (laid (ms.take i) gs)) ⟨Same.refl _,.nil⟩ ?_ ?_ ?_⟩
   ·rintro i ys H6 hi ⟨sm6,pr6⟩;exact⟨SqL.of (sm6 _ _ el),by rw[pr6.len];exact aL (by have:=hsize i;omega)⟩
   ·rintro i x ys H6 hi ⟨sm6,pr6⟩;obtain⟨m,rfl,hm⟩:=eO hi;obtain⟨g,hg,hgm⟩:=aCI.mp (hp.mem_iff.mp (aBf hm));have hgm:g.1=m:=hgm;subst hgm;have dg6:DG H6 d gs:=⟨sm6 _ _ dg5.at_,fun g hg=>sm6 _ _ (dg5.lst g hg),dg.adr,dg.key⟩;have htk:laid (ms.take (i+1)) gs=laid (ms.take i) gs++g.2.2.map fun o=>(g.1,o):=by
     rw[aBz,hm,oS]
     congr 1
     exact T1 dg.key hg
    have hgl:=hsize (i+1);rw[htk,aBd,aB4]at hgl;refine⟨_,rfl,_,rfl,d,_,rfl,dg6.get hg,g.2.1,rfl,⟨_,SqL.of (dg6.lst g hg)⟩,zA (K:=K) (a:=g.2.1) (xs:=g.2.2.map V.int) (fun j ys H7=>Same H6 H7/\Prs H7 ys (laid (ms.take i) gs++(g.2.2.take j).map fun o=>(g.1,o))) ⟨Same.refl _,by rw[List.take_zero,List.map_nil,List.append_nil];exact pr6⟩ ?_ ?_ ?_⟩
    ·rintro j ys H7 hj ⟨sm7,pr7⟩;refine⟨SqL.of (sm7 _ _ (dg6.lst g hg)),?_⟩;rw[pr7.len,aBd,aB4,aBk];exact aL (by omega)
    ·rintro j x ys H7 hj ⟨sm7,pr7⟩;obtain⟨o,rfl,ho⟩:=eO hj;refine⟨_,rfl,_,rfl,(show 2<=sizeLine by decide),fun t ht=>⟨sm7.trans (Same.upd ht),?_⟩⟩;rw[aBz,ho,aBj,<- List.append_assoc];exact Paired.append' (pr7.mono (TupS.new ht)) (.cons ⟨t,rfl,aB⟩ .nil)
    ·rintro ys H7 ⟨sm7,pr7⟩;rw[aB4,aBi]at pr7;rw[htk];exact⟨sm6.trans sm7,pr7⟩
   ·rintro ys H6 ⟨sm6,pr6⟩ D hD;rw[aB4,aBi]at pr6;have hpm:(laid ms gs).Perm (bJ gs):=by rw[<- tL dg.key];exact tK gs hp
    have sm36:=(sm.trans g5).trans sm6;exact k (laid ms gs) (hl.perm hpm.symm) (oT ac hst) D ys _ (sm36.free hD) (sm36.trans (Same.upd hD)) aB (pr6.mono (TupS.new hD))
abbrev jR:Stmt:=top 18
theorem L5:aQ ["row"] ["row"] (aD jR):=⟨rfl,rfl,rfl,by decide +kernel,rfl,by decide +kernel,by decide +kernel⟩
theorem L6 {f:Addr} {fd:FuncData} (F:Fun K "trains" "trains" jR f fd) (B:Bt mg) (F_list_of:aX P w K mg base "list_of" 4 ["row"] gG):FnOk P w K mg base CX0 5 f fd ["row"] gG:=by
 refine F.ok L5 (fun vs H Q E h=>?_) (fun cdv A outer s H vs Q E hr h=>?_)
 ·obtain⟨a,row,rfl,_⟩:=h;rfl
 ·obtain⟨a,row,rfl,ha,hrow,hrl,k⟩:=h;refine⟨_,(aH (bF (aU F_list_of hr rfl (aA (pv 0) aC)))),?_⟩;exact⟨_,rfl,a,row,rfl,ha,hrow,hrl,fun qs h1 h2 l vs H' a b c d=>k qs h1 h2 l vs H' a b c d⟩
abbrev iM:Stmt:=top 23
theorem fP:aQ ["trains","offsets","row","crowded","place","shortest","size"] ["trains"] (aD iM):=⟨rfl,rfl,rfl,by decide +kernel,rfl,by decide +kernel,by decide +kernel⟩
theorem L7 {f:Addr} {fd:FuncData} (F:Fun K "row_of" "row_of" iM f fd) (B:Bt mg) (F_look_trains:aX P w K mg base "look_trains" 1 ["trains"] nD) (F_by_size:aX P w K mg base "by_size" 1 ["trains"] lX) (F_crowds:aX P w K mg base "crowds" 1 ["offsets"] jP)
 (F_drop_last:aX P w K mg base "drop_last" 1 ["offsets","size"] iH) (F_add_train:aX P w K mg base "add_train" 2 ["offsets","size","place"] gF):FnOk P w K mg base CX0 3 f fd ["trains"] lB:=by
 refine F.ok fP (fun vs H Q E h=>?_) (fun cdv A outer s H vs Q E hr h=>?_)
 ·obtain⟨a,ps,rfl,_⟩:=h;rfl
 ·obtain⟨a,ps,rfl,hps,ht,k⟩:=h;have hu1:=qG hr;have hu:=hr.units;refine⟨_,(aE (aR (aU F_look_trains hr rfl (aA (pv 0) aC)))
 (aE (aM (i:=1) fP.nd rfl (Or.inl rfl) (aU F_by_size hr rfl (aA (pv 0) aC)))
 (aE (aM (i:=2) fP.nd rfl (Or.inl rfl) (bL aC))
 (aE (eZ PassesOwn.never (J1 (pv 1) (fun _=>rfl))
 (aE (aM (i:=3) fP.nd rfl (Or.inr rfl) (aU F_crowds hr rfl (aA (pv 1) aC)))
 (aE (qC (aJ (J0 rfl hu) (by rfl) B.max qH (aA (uX (bX ["size","some"] ["crowded"] [3] rfl (.of (show cA (aD iM) _ ["trains","offsets","row","crowded","place","shortest","size"] [3] ["crowded"]=true by decide +kernel)) (nF (pv 1)) (fun _ _ _=>(dD (n:=2) K rfl rfl (aO (aI (i:=0) (show (["size","some","crowded"]:List Str).Nodup by decide +kernel) rfl (Or.inl rfl)) (aO (aI (i:=1) (show (["size","some","crowded"]:List Str).Nodup by decide +kernel) rfl (Or.inl rfl)) bR)))) (eN (bA (by decide) (bA (by decide) dC))) (fun _ _ _=>cD) (fun _ _ _=>(cJ (aA (aK bS (cY (wL K rfl) (pv 1) (gK eF aF) (fun _ _=>rfl)) (lU hu1 (pv 2) (pv 0) (fun _ _=>rfl))) (aA (gK eF (pv 0)) aC)))))) aC)) (jU rfl (aO (aI (i:=4) fP.nd rfl (Or.inl rfl)) (aO (aI (i:=5) fP.nd rfl (Or.inl rfl)) bR))))
 (aE (aM (i:=6) fP.nd rfl (Or.inl rfl) (gK eF (pv 5)))
 (aE (aR (cT aCB aCC aCD bC (pv 2) (aA (pv 4) aC)))
 (aE (aR (aU F_drop_last hr rfl (aA (pv 1) (aA (pv 6) aC))))
 (aH (cX (aW kF (pv 6) aF (bB _))
 (aH (aR (aU F_add_train hr rfl (aA (pv 1) (aA (aK bV (pv 6) aF) (aA (aK bV (pv 4) aF) aC))))))
 cB))))))))
 (aH (bF (aJ uT (by rfl) B.sorted cO (aA (pv 2) aC)))))))),?_⟩
  refine⟨_,rfl,a,ps,rfl,hps,ht,fun H1 g1=>?_⟩;refine⟨_,rfl,a,ps,rfl,hps.mono g1,ht.len,fun d gs H2 hd sm2 dg hfp hac hne=>?_⟩;refine⟨by decide,fun r hrn=>?_⟩;have g3:=Same.upd (o:=.lst []) hrn;have er:(upd H2 r (.lst [])) r=some (.lst []):=aB;have sm3:=(g1.trans sm2).trans g3;have hHr:H r=none:=(g1.trans sm2).free hrn;have hHd:H d=none:=g1.free hd;generalize upd H2 r (.lst [])=H3 at g3 er sm3 ⊢;have dg3:DG H3 d gs:=⟨g3 _ _ dg.at_,fun g hg=>g3 _ _ (dg.lst g hg),dg.adr,dg.key⟩;have gd:GoodG gs:=fun g hg=>⟨by
   have hm:=List.getLast_mem (hne g hg).1;exact ht.pos (g.1,g.2.2.getLast (hne g hg).1) (hfp.mem_iff.mp (gE.mpr ⟨g,hg,rfl,hm⟩)),(hne g hg).1⟩
  have hst:sto gs=(szs ps).sum:=by rw[pR,kZ hfp];rfl
  have hlo:0<=sto gs:=by have:=(GoodG.bound gd).1;omega
  refine⟨aAK H ps a d r,⟨(sto gs).toNat,gs,[],_,_,_,_,rfl,sm3,dg3,gd,hac,er,fun g hg=>⟨g1.free (hne g hg).2,fun e=>?_⟩,by omega,by have:=ht.few;simp only[List.length_nil];omega,fun r' hr'=>by simpa using hr'.perm hfp⟩,?_⟩
  ·have:=dg.lst g hg;rw[e,hrn]at this;cases this
  clear hst hlo gd dg3 sm3 er g3 hne hfp hac dg sm2 g1;rintro m σ H4 ⟨gs,row,v3,v4,v5,v6,rfl,sm,dg,gd,ac,er,hfr,hm,hcount,fin⟩;obtain⟨hb1,hb2⟩:=GoodG.bound gd;have hpos:∀ q∈bJ gs,1<=q.1:=fun q hq=>by
   obtain⟨x,hx,e1,_⟩:=gE.mp hq;rw[<- e1];exact(gd x hx).1
  refine⟨_,rfl,d,kvG gs,rfl,dg.at_,?_⟩
  by_cases hgs:gs=[]
  ·subst hgs;have hfin:Lst row.reverse ps:=by simpa using fin [] .nil
   refine⟨_,rfl,r,row,rfl,er,by omega,fun l ms hl hpm hsm=>?_⟩;have em:=zB hpm hsm hfin.rowp;subst em;exact k row.reverse hfin l _ (sm.free hl) (sm.trans (Same.upd hl)) aB
  have hne:(!(kvG gs).isEmpty)=true:=by
   cases gs with
   | nil=>exact absurd rfl hgs
   | cons _ _=>rfl
  rw[hne];show (if true=true then _ else _);rw[if_pos rfl];refine⟨fun σ' H'=>∃ m',m'<m/\aAK H ps a d r m' σ' H',fun _ _ h=>h,?_⟩;refine⟨_,rfl,d,gs,rfl,dg,gd,by omega,fun g hg=>by have:=hb2 g hg;omega,fun e kvs H5 he sm5 ee hall=>?_⟩;have dg5:DG H5 d gs:=⟨sm5 _ _ dg.at_,fun g hg=>sm5 _ _ (dg.lst g hg),dg.adr,dg.key⟩;refine⟨d,kvG gs,dg5.at_,_,rfl,d,kvG gs,rfl,dg5.at_,fun od=>?_⟩;have hed:e≠d:=fun z=>by rw[z,dg.at_]at he;cases he
  have sd:SameD d H5 (upd H5 d (.frz od (.dK (kvG gs)))):=fun b o n e=>by rw[aG n];exact e
  have ed:(upd H5 d (.frz od (.dK (kvG gs)))) d=some (.frz od (.dK (kvG gs))):=aB;have hlst:∀ g∈gs,(upd H5 d (.frz od (.dK (kvG gs)))) g.2.1=some (.lst (g.2.2.map V.int)):=fun g hg=>sd _ _ (fV (dg5.lst g hg) dg5.at_ (by intro z;cases z)) (dg5.lst g hg);have ee6:(upd H5 d (.frz od (.dK (kvG gs)))) e=some (.dK kvs):=sd _ _ hed ee;generalize upd H5 d (.frz od (.dK (kvG gs)))=H6 at sd ed hlst ee6 ⊢;have hkl:(kvG gs).length=gs.length:=by simp[kvG]
  refine jX (d:=d) (od:=od) (kvs:=kvG gs) (fun i ys H7=>Same H6 H7/\ys.length=i/\∃ qs:List (Int×Int),Prs H7 ys qs/\(∀ q∈qs,∃ g∈gs,∃ hne:g.2.2≠[],q=(g.2.2.getLast hne+2 * les (bJ gs) g.1,-g.1))/\∀ g∈gs.take i,∀ hne:g.2.2≠[],(g.2.2.getLast hne+2 * les (bJ gs) g.1,-g.1)∈qs) ⟨Same.refl _,rfl,[],.nil,fun q hq=>(nomatch hq),fun g hg=>by simp at hg⟩ ?_ ?_ ?_
  ·rintro i ys H7 hi ⟨g7,hyl,_⟩;exact⟨g7 _ _ ed,aL (by omega)⟩
  ·rintro i ky x ys H7 t hx ⟨g7,hyl,qs,pr,hq,hq2⟩ htn;obtain⟨g,hg,hgx⟩:∃ g,gs[i]?=some g/\((Sum.inl g.1:Key),V.ref g.2.1)=(ky,x):=by
    unfold kvG at hx;rw[aBs]at hx;obtain⟨g,h1,h2⟩:=aCE.mp hx;exact⟨g,h1,h2⟩
   cases hgx;have hgm:=aBf hg;have g8:=g7.trans (Same.upd (o:=.tup [kV (Sum.inl g.1),V.ref g.2.1]) htn);have pr8:=pr.mono (TupS.same (Same.upd (o:=.tup [kV (Sum.inl g.1),V.ref g.2.1]) htn));have et8:(upd H7 t (.tup [kV (Sum.inl g.1),V.ref g.2.1])) t=some (.tup [kV (Sum.inl g.1),V.ref g.2.1]):=aB;generalize upd H7 t (.tup [kV (Sum.inl g.1),V.ref g.2.1])=H8 at g8 pr8 et8 ⊢;refine⟨t,_,rfl,SqT.of et8,rfl,_,_,rfl,_,_,rfl,rfl,?_⟩;have hne2:g.2.2≠[]:=(gd g hgm).2;have hv:atI (g.2.2.map V.int) (-1)=some (V.int (g.2.2.getLast hne2)):=B4 hne2;have hget:DGet H8 e (.int g.1) (some (.int (2 * les (bJ gs) g.1))):=by rw[<- hall g hgm];exact DGet.k (k:=(Sum.inl g.1:Key)) (g8 _ _ ee6)
   refine⟨_,rfl,_,rfl,g.2.1,_,_,_,rfl,rfl,SqL.of (g8 _ _ (hlst g hgm)),hv,_,rfl,_,rfl,e,_,rfl,hget,_,_,rfl,rfl,_,rfl,_,rfl,by show 2<=sizeLine;decide,fun t2 ht2=>?_⟩;refine⟨g8.trans (Same.upd ht2),by rw[aBd,hyl];rfl,qs++[(g.2.2.getLast hne2+2 * les (bJ gs) g.1,-g.1)],Paired.snoc (pr8.mono (TupS.same (Same.upd ht2))) ⟨t2,rfl,aB⟩,fun q hq'=>?_,fun x hx hnx=>?_⟩
   ·rcases aCH.mp hq' with h | h
    ·exact hq q h
    ·rw[aCA.mp h];exact⟨g,hgm,hne2,rfl⟩
   ·rw[aBz,hg]at hx;rcases aCH.mp hx with h | h
    ·exact aBn _ (hq2 x h hnx)
    ·have:x=g:=by simpa using h
     subst this;exact aB8 _ (by simp)
  ·rintro ys H7 ⟨g7,hyl,qs,pr,hq,hq2⟩ D hD;rw[hkl,aBi]at hq2;have hnD:D≠d:=fun z=>by rw[z,g7 _ _ ed]at hD;cases hD
   have edD:(upd H7 D (.lst ys)) d=some (.frz od (.dK (kvG gs))):=by rw[aG (Ne.symm hnD)];exact g7 _ _ ed
   have eD:(upd (upd H7 D (.lst ys)) d (.dK (kvG gs))) D=some (.lst ys):=by rw[aG hnD,aB]
   have pr9:Prs (upd (upd H7 D (.lst ys)) d (.dK (kvG gs))) ys qs:=(pr.mono (TupS.same (Same.upd hD))).mono fun t xs q=>by
    rw[aG (fV q edD (by intro z;cases z))];exact q
   have sm9:Same H5 (upd (upd H7 D (.lst ys)) d (.dK (kvG gs))):=fun b o q=>by
    by_cases hb:b=d
    ·subst hb;rw[aB,<- dg5.at_];exact q
    ·rw[aG hb];exact(g7.trans (Same.upd hD)) _ _ (sd b o hb q)
   refine⟨od,edD,D,ys,qs,rfl,eD,pr9,fun z=>?_,fun j x htop hx=>?_⟩
   ·rw[z]at hyl;rw[hkl]at hyl;exact hgs (List.length_eq_zero_iff.mp hyl.symm)
   generalize upd (upd H7 D (.lst ys)) d (.dK (kvG gs))=H9 at pr9 sm9 ⊢;obtain⟨p,t',hp,rfl,et⟩:=bQ pr9 hx;obtain⟨g,hg,hgne,hpg,hplace,hbest⟩:=zC gd htop hp hq hq2;have dg9:DG H9 d gs:=⟨sm9 _ _ dg5.at_,fun g hg=>sm9 _ _ (dg5.lst g hg),dg.adr,dg.key⟩;have er9:=sm9 _ _ (sm5 _ _ er);have smH:=(sm.trans sm5).trans sm9;refine⟨t',_,rfl,SqT.of et,rfl,_,_,rfl,_,_,rfl,rfl,?_⟩;refine⟨_,rfl,_,rfl,?_⟩;refine⟨_,rfl,.inl ⟨rfl,_,SqL.of er9⟩,_,rfl,r,_,_,rfl,rfl,er9,by rw[aB4];exact aL (by omega),?_⟩;have hrd:r≠d:=fV er9 dg9.at_ (by intro z;cases z);have dg10:DG (upd H9 r (.lst (row.map V.int++[V.int p.1]))) d gs:=⟨by rw[aG (Ne.symm hrd)];exact dg9.at_,fun g hg=>by rw[aG (hfr g hg).2];exact dg9.lst g hg,dg.adr,dg.key⟩;have er10:(upd H9 r (.lst (row.map V.int++[V.int p.1]))) r=some (.lst ((row++[p.1]).map V.int)):=by rw[aB,aBj];rfl
   have sm10:Same H (upd H9 r (.lst (row.map V.int++[V.int p.1]))):=Same.upd' hHr smH;generalize upd H9 r (.lst (row.map V.int++[V.int p.1]))=H10 at dg10 er10 sm10 ⊢;have hg1:=(gd g hg).1;have hnn:-p.2=g.1:=by omega
   refine⟨_,rfl,_,rfl,d,gs,g,by show [V.ref d,V.int (-p.2)]=_;rw[hnn],dg10,hg,hgne,fun H11 st11 dg11=>?_⟩;have sm11:Same H H11:=st11.same sm10 hHd hfr;have er11:=st11 _ _ hrd (fun x hx z=>(hfr x hx).2 z.symm) er10;have gd11:GoodG (shr g.1 gs):=gd.shr g.1;have hw11:sto (shr g.1 gs)=sto gs - g.1:=A7 _ dg.key hg hgne;have hfr11:∀ x∈shr g.1 gs,H x.2.1=none/\x.2.1≠r:=fun x hx=>by
    obtain⟨y,hy,e⟩:=A8 hx;rw[e];exact hfr y hy
   obtain⟨hc1,hc2⟩:=GoodG.bound gd11;refine⟨_,rfl,_,_,rfl,rfl,_,rfl,?_⟩
   by_cases h1:1<g.1
   ·have hd1:decide ((1:Int) < -p.2)=true:=by rw[hnn];exact aBq h1
    show (if decide ((1:Int) < -p.2)=true then _ else _);rw[hd1,if_pos rfl];refine⟨_,rfl,_,rfl,_,_,rfl,rfl,_,rfl,_,_,rfl,rfl,d,shr g.1 gs,-p.2 - 1,p.1 - 1,rfl,dg11,by omega,fun x hx=>by have:=hc2 x hx;omega,fun gs' H12 st12 dg12 hputs=>?_⟩;rw[uZ,hnn]at hputs;have hpu:qT H11 (g.1 - 1) (p.1 - 1 - 2 * les (bJ (shr g.1 gs)) (g.1 - 1) - 2 * (g.1 - 1)) (shr g.1 gs) gs':=hputs;obtain⟨hTak,hAsc,hGood⟩:=qW dg.key gd ac hg hgne hplace hbest (.inr ⟨by omega,hpu⟩);have hw12:sto gs'=sto (shr g.1 gs)+(g.1 - 1):=S4 _ dg11.key hpu;have er12:=st12 _ _ hrd (fun x hx z=>(hfr11 x hx).2 z.symm) er11;refine⟨m - 1,by omega,gs',row++[p.1],_,_,_,_,rfl,st12.same sm11 hHd hfr11,dg12,hGood,hAsc,er12,fun x hx=>?_,by omega,by rw[aBd,List.length_singleton];omega,by rw[List.reverse_append];exact rA hTak hpos fin⟩;rcases xH hpu hx with ⟨y,hy,e⟩ | hz
    ·rw[e];exact hfr11 y hy
    ·exact⟨sm11.free hz,fun e=>by rw[e,er11]at hz;cases hz⟩
   ·have hd1:decide ((1:Int) < -p.2)=false:=by rw[hnn];exact aBp h1
    show (if decide ((1:Int) < -p.2)=true then _ else _);rw[hd1,if_neg aBh];obtain⟨hTak,hAsc,hGood⟩:=qW (H:=H11) dg.key gd ac hg hgne hplace hbest (.inl ⟨by omega,rfl⟩);exact⟨m - 1,by omega,shr g.1 gs,row++[p.1],_,_,_,_,rfl,sm11,dg11,gd11,hAsc,er11,hfr11,by omega,by rw[aBd,List.length_singleton];omega,by rw[List.reverse_append];exact rA hTak hpos fin⟩
abbrev dY:Stmt:=top 25
theorem sD:aQ ["creel"] ["creel"] (aD dY):=⟨rfl,rfl,rfl,by decide +kernel,rfl,by decide +kernel,by decide +kernel⟩
theorem sE {f:Addr} {fd:FuncData} (F:Fun K "look_creel" "look_creel" dY f fd) (B:Bt mg):FnOk P w K mg base CX0 1 f fd ["creel"] fX:=by
 refine F.ok sD (fun vs H Q E h=>?_) (fun cdv A outer s H vs Q E hr h=>?_)
 ·obtain⟨c,rfl,_⟩:=h;rfl
 ·obtain⟨c,rfl,hc,k⟩:=h;refine⟨_,(aH (cX (aW kH (pv 0) aF (bB _))
 (aH jH)
 cB)),?_⟩
  exact⟨_,rfl,_,_,rfl,rfl,_,rfl,iC (by omega) k⟩
abbrev dZ:Stmt:=top 26
theorem jG:aQ ["walks","creel","count"] ["walks"] (aD dZ):=⟨rfl,rfl,rfl,by decide +kernel,rfl,by decide +kernel,by decide +kernel⟩
theorem sF {f:Addr} {fd:FuncData} (F:Fun K "look_walks" "look_walks" dZ f fd) (B:Bt mg) (F_look_creel:aX P w K mg base "look_creel" 1 ["creel"] fX):FnOk P w K mg base CX0 2 f fd ["walks"] nM:=by
 refine F.ok jG (fun vs H Q E h=>?_) (fun cdv A outer s H vs Q E hr h=>?_)
 ·obtain⟨a,r,rfl,_⟩:=h;rfl
 ·obtain⟨a,ws,rfl,⟨us,ha,pr⟩,hc,k⟩:=h;refine⟨_,(aH (cQ PassesOwn.never rfl (bH (pv 0)) (jU rfl (aO (aI (i:=1) jG.nd rfl (Or.inl rfl)) (aO (aI (i:=2) jG.nd rfl (Or.inl rfl)) bR)))
 (aH (aR (aU F_look_creel hr rfl (aA (pv 1) aC)))))),?_⟩
  refine⟨_,rfl,a,rfl,⟨_,SqL.of ha⟩,cN (K:=K) (a:=a) (xs:=us) (fun i σ H2=>∃ v1 v2,σ=[some (.ref a),v1,v2]/\H2=H) ⟨none,none,rfl,rfl⟩ (fun i σ H2 _ ⟨_,_,_,e⟩=>by rw[e];exact SqL.of ha) ?_ ?_⟩
  ·rintro i x σ H2 hi ⟨v1,v2,rfl,rfl⟩;obtain⟨p,t',hp,rfl,et⟩:=bQ pr hi;exact⟨t',_,rfl,SqT.of et,rfl,_,_,rfl,_,_,rfl,rfl,_,rfl,_,rfl,hc p (aBf hp),_,_,rfl,rfl⟩
  ·rintro σ H2 ⟨v1,v2,rfl,rfl⟩;exact k
abbrev iO:Stmt:=top 27
theorem eA:aQ ["row","creel","behind","held","niche","place"] ["row","creel"] (aD iO):=⟨rfl,rfl,rfl,by decide +kernel,rfl,by decide +kernel,by decide +kernel⟩
inductive tU (H:Hp) (a:Addr) (l:Addr) (c:Int) (row:List Int) (i:Nat) (σ:St) (H2:Hp):Prop
 | mk (bs:List Int) (h:Nat) (n:Int) (v:Option V) (k0_:σ=[some (.ref a),some (.int c),some (.ref l),some (.int h),some (.int n),v]) (k1_:Same H H2) (k2_:H2 l=some (.lst (bs.map V.int))) (k3_:bs++goM c (row.drop i) h n=cK row c) (k4_:bs.length+h=i):tU H a l c row i σ H2
inductive tV (H:Hp) (a:Addr) (l:Addr) (c:Int) (row:List Int) (i:Nat) (p:Int) (σ:St) (H3:Hp):Prop
 | mk (bs:List Int) (h:Nat) (n:Int) (k0_:σ=[some (.ref a),some (.int c),some (.ref l),some (.int h),some (.int n),some (.int p)]) (k1_:Same H H3) (k2_:H3 l=some (.lst (bs.map V.int))) (k3_:bs++goM c (p :: row.drop (i+1)) h n=cK row c) (k4_:bs.length+h=i):tV H a l c row i p σ H3
inductive tW (H:Hp) (a:Addr) (l:Addr) (c:Int) (row:List Int) (i:Nat) (p:Int) (n:Int) (σ:St) (H4:Hp):Prop
 | mk (bs:List Int) (h:Nat) (k0_:σ=[some (.ref a),some (.int c),some (.ref l),some (.int h),some (.int n),some (.int p)]) (k1_:Same H H4) (k2_:H4 l=some (.lst (bs.map V.int))) (k3_:bs++goM c (row.drop (i+1)) h (p+1)=cK row c) (k4_:bs.length+h=i+1):tW H a l c row i p n σ H4
inductive tX (H:Hp) (a:Addr) (l:Addr) (c:Int) (row:List Int) (i:Nat) (p:Int) (n:Int) (σ:St) (H4:Hp):Prop
 | mk (bs:List Int) (h:Nat) (k0_:σ=[some (.ref a),some (.int c),some (.ref l),some (.int h),some (.int n),some (.int p)]) (k1_:Same H H4) (k2_:H4 l=some (.lst (bs.map V.int))) (k3_:bs++goM c (row.drop (i+1)) h (p+1)=cK row c) (k4_:bs.length+h=i+1):tX H a l c row i p n σ H4
theorem L8 {f:Addr} {fd:FuncData} (F:Fun K "walked" "walked" iO f fd) (B:Bt mg) (F_look_row:aX P w K mg base "look_row" 1 ["row"] kN) (F_look_creel:aX P w K mg base "look_creel" 1 ["creel"] fX):FnOk P w K mg base CX0 2 f fd ["row","creel"] jM:=by
 refine F.ok eA (fun vs H Q E h=>?_) (fun cdv A outer s H vs Q E hr h=>?_)
 ·obtain⟨a,r,c,rfl,_⟩:=h;rfl
 ·obtain⟨a,row,c,rfl,ha,hrow,hlen,hc,k⟩:=h;refine⟨_,(aE (aR (aU F_look_row hr rfl (aA (pv 0) aC)))
 (aE (aR (aU F_look_creel hr rfl (aA (pv 1) aC)))
 (aE (aM (i:=2) eA.nd rfl (Or.inl rfl) (bL aC))
 (aE (aM (i:=3) eA.nd rfl (Or.inl rfl) aF)
 (aE (aM (i:=4) eA.nd rfl (Or.inr rfl) aF)
 (aE (cQ PassesOwn.never rfl (bH (pv 0)) (aI (i:=5) eA.nd rfl (Or.inl rfl))
 (aE (eZ PassesOwn.never (PW.pt (qA (aW kF (pv 3) aF (bB _)) (mQ (aW kH (pv 4) (pv 5) (bB _)))))
 (aE (aR (cT aCB aCC aCD bC (pv 2) (aA (pv 4) aC)))
 (aE (jD (i:=3) eA.nd rfl (Or.inl rfl) aF yB)
 (aH (jD (i:=4) eA.nd rfl (Or.inr rfl) aF mI)))))
 (pN (cX (aW kH (pv 3) (pv 1) (bB _))
 (aH (jD (i:=3) eA.nd rfl (Or.inl rfl) aF mI))
 (aH (aR (cT aCB aCC aCD bC (pv 2) (aA (pv 5) aC)))))
 (aH (aM (i:=4) eA.nd rfl (Or.inr rfl) (aK bS (pv 5) aF))))))
 (aH (bF (aK kJ (pv 2) (bX ["more"] ["niche"] [4] rfl (.of (show cA (aD iO) _ ["row","creel","behind","held","niche","place"] [4] ["niche"]=true by decide +kernel)) (jI rfl B.range (aA (pv 3) aC)) (fun _ _ _=>(aI (i:=0) (show (["more","niche"]:List Str).Nodup by decide +kernel) rfl (Or.inl rfl))) (fB (by decide)) (fun _ _ _=>cD) (fun _ _ _=>(aK bS (pv 1) (pv 0))))))))))))),?_⟩
  refine⟨_,rfl,a,row,rfl,ha,hrow,hlen,_,rfl,c,rfl,hc,by decide,fun l hl=>?_⟩;refine⟨_,rfl,a,rfl,⟨_,SqL.of (Same.upd hl _ _ ha)⟩,cN (K:=K) (a:=a) (xs:=row.map V.int) (tU H a l c row)
   ⟨[],0,0,none,rfl,Same.upd hl,aB,rfl,rfl⟩ (fun i σ H2 _ z_=>by obtain⟨bs,h,n,v,_,sm,_⟩:=z_;exact SqL.of (sm _ _ ha)) ?_ ?_⟩
  ·rintro i x σ H2 hi ⟨bs,h,n,v,rfl,sm,el,eq,hb⟩;have hil:i<row.length:=by
    have:=(aCF.mp hi).1;simpa using this
   obtain⟨p,rfl,hz⟩:=eO hi;have hd:row.drop i=p :: row.drop (i+1):=by
    obtain⟨h1,rfl⟩:=aCF.mp hz;exact List.drop_eq_getElem_cons h1
   rw[hd]at eq;refine mR (tV H a l c row i p)
    (fun σ _=>match σ with | [_,_,_,some (.int h),_,_]=>h.toNat | _=>0) ⟨bs,h,n,rfl,sm,el,eq,hb⟩ ?_ ?_
   ·rintro σ H3 ⟨bs,h,n,rfl,sm3,el3,eq3,hb3⟩;refine⟨_,rfl,_,_,rfl,rfl,_,rfl,iB (fun h0=>?_) (fun h0=>?_)⟩
    ·refine⟨_,rfl,_,rfl,_,_,rfl,rfl,_,rfl,iB (fun h1=>?_) (fun h1=>?_)⟩
     ·obtain⟨h',rfl⟩:∃ h',h=h'+1:=⟨h - 1,by omega⟩;refine⟨_,rfl,.inl ⟨rfl,_,SqL.of el3⟩,_,rfl,l,_,_,rfl,rfl,el3,(by rw[aB4];exact aL (by omega)),?_⟩;refine⟨_,rfl,_,_,rfl,rfl,_,rfl,_,_,rfl,rfl,?_⟩;rw[uL h1]at eq3;refine⟨⟨bs++[n],h',n+1,?_,Same.upd' hl sm3,by rw[aB,aBj];rfl,by rw[List.append_assoc];exact eq3,by simp;omega⟩,?_⟩
      ·have e1:((h'+1:Nat):Int) - 1=(h':Int):=by omega
       show [some (V.ref a),some (V.int c),some (V.ref l),some (V.int (((h'+1:Nat):Int) - 1)),some (V.int (n+1)),some (V.int p)]=_;rw[e1]
      ·show (((h'+1:Nat):Int) - 1).toNat<((h'+1:Nat):Int).toNat;omega
     ·rw[lR (.inr (by omega))]at eq3;refine⟨tW H a l c row i p n,?_,?_⟩
      ·refine⟨_,rfl,_,rfl,_,_,rfl,rfl,_,rfl,iB (fun h2=>?_) (fun h2=>?_)⟩
       ·rw[if_pos h2]at eq3;exact⟨_,rfl,_,_,rfl,rfl,bs,h+1,rfl,sm3,el3,eq3,by omega⟩
       ·rw[if_neg h2]at eq3;refine⟨_,rfl,.inl ⟨rfl,_,SqL.of el3⟩,_,rfl,l,_,_,rfl,rfl,el3,(by rw[aB4];exact aL (by omega)),?_⟩;exact⟨bs++[p],h,rfl,Same.upd' hl sm3,by rw[aB,aBj];rfl,by rw[List.append_assoc];exact eq3,by simp;omega⟩
      ·rintro σ H4 ⟨bs,h,rfl,sm4,el4,eq4,hb4⟩;exact⟨_,rfl,_,_,rfl,rfl,bs,h,p+1,_,rfl,sm4,el4,eq4,hb4⟩
    ·have h00:h=0:=by omega
     rw[lR (.inl h00)]at eq3;refine⟨tX H a l c row i p n,?_,?_⟩
     ·refine⟨_,rfl,_,rfl,_,_,rfl,rfl,_,rfl,iB (fun h2=>?_) (fun h2=>?_)⟩
      ·rw[if_pos h2]at eq3;exact⟨_,rfl,_,_,rfl,rfl,bs,h+1,rfl,sm3,el3,eq3,by omega⟩
      ·rw[if_neg h2]at eq3;refine⟨_,rfl,.inl ⟨rfl,_,SqL.of el3⟩,_,rfl,l,_,_,rfl,rfl,el3,(by rw[aB4];exact aL (by omega)),?_⟩;exact⟨bs++[p],h,rfl,Same.upd' hl sm3,by rw[aB,aBj];rfl,by rw[List.append_assoc];exact eq3,by simp;omega⟩
     ·rintro σ H4 ⟨bs,h,rfl,sm4,el4,eq4,hb4⟩;exact⟨_,rfl,_,_,rfl,rfl,bs,h,p+1,_,rfl,sm4,el4,eq4,hb4⟩
   ·intro σ H3 Q1 Q2 hq h;obtain⟨x,e,i1,j1,e1,e2,b1,e3,h⟩:=h;refine⟨x,e,i1,j1,e1,e2,b1,e3,?_⟩;cases b1 with
    | false=>exact hq _ _ h
    | true =>
     obtain⟨x,e,y,e',i2,j2,e4,e5,b2,e6,h⟩:=h;exact⟨x,e,y,e',i2,j2,e4,e5,b2,e6,hq _ _ h⟩
  ·rintro σ H2 ⟨bs,h,n,v,rfl,sm,el,eq,hb⟩;rw[aB4]at eq hb;rw[List.drop_length]at eq;refine⟨_,rfl,_,rfl,_,rfl,by omega,by omega,mJ (lo:=0) (n:=h) (fun i ys H3=>H3=H2/\ys=((List.range i).map (fun(k:Nat)=>n+(k:Int))).map V.int) ⟨rfl,rfl⟩ ?_ ?_ ?_⟩
   ·rintro i ys H3 hi ⟨rfl,rfl⟩;simp only[aB4,List.length_range];exact aL (by omega)
   ·rintro i ys H3 hi ⟨rfl,rfl⟩;refine⟨_,rfl,_,rfl,_,_,rfl,rfl,rfl,?_⟩;rw[List.range_succ,aBj,aBj];simp
   ·rintro ys H3 ⟨rfl,rfl⟩ D hD;have smD:=Same.upd (o:=.lst (((List.range h).map (fun(k:Nat)=>n+(k:Int))).map V.int)) hD;refine⟨l,D,_,_,rfl,rfl,smD _ _ el,aB,?_,fun q hq=>?_⟩
    ·simp only[aB4,List.length_range];exact uO (by omega)
    ·rw[<- aBj];have smH:=sm.trans smD;refine k q _ (smH.free hq) (Same.upd' (smH.free hq) smH) ?_;rw[aB,<- eq];rfl
abbrev dG:Stmt:=top 28
theorem rO:aQ ["row","creel"] ["row","creel"] (aD dG):=⟨rfl,rfl,rfl,by decide +kernel,rfl,by decide +kernel,by decide +kernel⟩
theorem rP {f:Addr} {fd:FuncData} (F:Fun K "walked_back" "walked_back" dG f fd) (B:Bt mg) (F_mirrored:aX P w K mg base "mirrored" 2 ["row"] iD) (F_walked:aX P w K mg base "walked" 2 ["row","creel"] jM):FnOk P w K mg base CX0 3 f fd ["row","creel"] uQ:=by
 refine F.ok rO (fun vs H Q E h=>?_) (fun cdv A outer s H vs Q E hr h=>?_)
 ·obtain⟨a,r,c,rfl,_⟩:=h;rfl
 ·obtain⟨a,row,c,rfl,ha,hrow,hlen,hc,k⟩:=h;refine⟨_,(aH (bF (aU F_mirrored hr rfl (aA (aU F_walked hr rfl (aA (aU F_mirrored hr rfl (aA (pv 0) aC)) (aA (pv 1) aC))) aC)))),?_⟩;refine⟨_,rfl,a,row,rfl,ha,hrow,hlen,fun q1 H1 hq1 s1 e1=>?_⟩;refine⟨_,rfl,q1,mD row,c,rfl,e1,qN hrow,by rw[jL];exact hlen,hc,fun q2 H2 hq2 s2 e2=>?_⟩;refine⟨q2,_,rfl,e2,E7 (qN hrow),by rw[gX,jL];exact hlen,fun q3 H3 hq3 s3 e3=>?_⟩;exact k q3 H3 ((s1.trans s2).free hq3) ((s1.trans s2).trans s3) e3
abbrev fQ:Stmt:=top 29
theorem zM:aQ ["row","creel"] ["row","creel"] (aD fQ):=⟨rfl,rfl,rfl,by decide +kernel,rfl,by decide +kernel,by decide +kernel⟩
theorem zN {f:Addr} {fd:FuncData} (F:Fun K "carried" "carried" fQ f fd) (B:Bt mg) (F_walked:aX P w K mg base "walked" 2 ["row","creel"] jM):FnOk P w K mg base CX0 3 f fd ["row","creel"] lT:=by
 refine F.ok zM (fun vs H Q E h=>?_) (fun cdv A outer s H vs Q E hr h=>?_)
 ·obtain⟨a,r,c,rfl,_⟩:=h;rfl
 ·obtain⟨a,row,c,rfl,ha,hrow,hl,hc,k⟩:=h;refine⟨_,(aH (bF (aJ bE (by rfl) B.len PySem.boot_len (aA (bX ["place"] ["row"] [0] rfl (.of (show cA (aD fQ) _ ["row","creel"] [0] ["row"]=true by decide +kernel)) (bH (aU F_walked hr rfl (aA (pv 0) (aA (pv 1) aC)))) (fun _ _ _=>(aI (i:=0) (show (["place","row"]:List Str).Nodup by decide +kernel) rfl (Or.inl rfl))) (fB (by decide)) (fun _ _ _=>jV (aW (mG K rfl) (pv 0) (pv 1) (by with_unfolding_all rfl))) (fun _ _ _=>(pv 0))) aC)))),?_⟩;refine⟨_,rfl,_,rfl,a,row,c,rfl,ha,hrow,hl,hc,fun l H1 hl1 g1 el=>?_⟩;have ha1:=g1 _ _ ha;refine⟨l,rfl,⟨_,SqL.of el⟩,bP (K:=K) (a:=l) (xs:=(cK row c).map V.int) (fun i ys H3=>H3=H1/\ys=(((cK row c).take i).filter fun x=>decide (x∉row)).map V.int) ⟨rfl,rfl⟩ ?_ ?_ ?_⟩
  ·rintro i ys H3 hi ⟨rfl,rfl⟩;refine⟨SqL.of el,?_⟩;rw[aB4];have h1:=List.length_filter_le (fun x=>decide (x∉row)) ((cK row c).take i);exact aL (by rw[aBk,gX]at h1;omega)
  ·rintro i x ys H3 hi ⟨rfl,rfl⟩;obtain⟨z,rfl,hz⟩:=eO hi;have sn:=oP (fun x=>decide (x∉row)) hz;refine⟨_,rfl,_,rfl,a,_,rfl,.inl (SqL.of ha1),rfl,jN _,_,rfl,?_⟩;rw[show (if true=true then !inV (V.int z) (row.map V.int)else inV (V.int z) (row.map V.int))=!decide (z∈row)by rw[if_pos rfl,kQ]]
   by_cases hq:z∈row
   ·rw[aBq hq];rw[if_neg (by simpa using hq),List.append_nil]at sn;exact⟨rfl,sn.symm⟩
   ·rw[aBp hq];rw[if_pos (aBq hq)]at sn;exact⟨_,rfl,rfl,sn.symm⟩
  ·rintro ys H3 ⟨rfl,rfl⟩ D hD;refine⟨D,_,rfl,.inl (SqL.of aB),?_⟩;rw[aB4,aB4,aBi];exact k _ (g1.trans (Same.upd hD))
abbrev mP:Stmt:=top 32
theorem n4:aQ ["walks","size"] ["walks","size"] (aD mP):=⟨rfl,rfl,rfl,by decide +kernel,rfl,by decide +kernel,by decide +kernel⟩
theorem n5 {f:Addr} {fd:FuncData} (F:Fun K "gain" "gain" mP f fd) (B:Bt mg):FnOk P w K mg base CX0 1 f fd ["walks","size"] vC:=by
 refine F.ok n4 (fun vs H Q E h=>?_) (fun cdv A outer s H vs Q E hr h=>?_)
 ·obtain⟨a,r,j,rfl,_⟩:=h;rfl
 ·obtain⟨a,ws,j,rfl,⟨us,ha,pr⟩,hl,hc,hj0,hj1,k⟩:=h;have e:us.length=ws.length:=pr.len;refine⟨_,(aH (bF (aJ (fZ rfl) (by rfl) B.sum fY (aA (bX ["creel","count"] ["size"] [1] rfl (.of (show cA (aD mP) _ ["walks","size"] [1] ["size"]=true by decide +kernel)) (bH (pv 0)) (fun _ _ _=>(dD (n:=2) K rfl rfl (aO (aI (i:=0) (show (["creel","count","size"]:List Str).Nodup by decide +kernel) rfl (Or.inl rfl)) (aO (aI (i:=1) (show (["creel","count","size"]:List Str).Nodup by decide +kernel) rfl (Or.inl rfl)) bR)))) (eN (bA (by decide) (bA (by decide) dC))) (fun _ _ _=>cD) (fun _ _ _=>(aK cR (pv 1) (aJ (jK rfl) (by rfl) B.min iA (aA (pv 0) (aA (pv 2) aC)))))) aC)))),?_⟩;refine⟨_,rfl,a,rfl,⟨_,SqL.of ha⟩,bP (K:=K) (a:=a) (xs:=us) (fun i ys H3=>H3=H/\ys=((ws.take i).map (iX j)).map V.int) ⟨rfl,rfl⟩ ?_ ?_ ?_⟩
  ·rintro i ys H3 hi ⟨rfl,rfl⟩;exact⟨SqL.of ha,by simp only[aB4,aBk];exact aL (by omega)⟩
  ·rintro i x ys H3 hi ⟨rfl,rfl⟩;obtain⟨p,t',hp,rfl,et⟩:=bQ pr hi;have h1:=hc p (aBf hp);refine⟨t',_,rfl,SqT.of et,rfl,_,_,rfl,_,_,rfl,rfl,_,rfl,_,rfl,_,rfl,_,_,rfl,_,_,rfl,rfl,.inr ⟨?_,?_⟩,rfl,dM (iX j) hp⟩
   ·split <;> omega
   ·split <;> omega
  ·rintro ys H3 ⟨rfl,rfl⟩ D hD;exact⟨D,ws.map (iX j),rfl,by rw[aB,e,aBi],k _ (Same.upd hD)⟩
abbrev kE:Stmt:=top 31
theorem X1:aQ ["trains","walks"] ["trains","walks"] (aD kE):=⟨rfl,rfl,rfl,by decide +kernel,rfl,by decide +kernel,by decide +kernel⟩
theorem X2 {f:Addr} {fd:FuncData} (F:Fun K "added" "added" kE f fd) (B:Bt mg) (F_look_trains:aX P w K mg base "look_trains" 1 ["trains"] nD) (F_look_walks:aX P w K mg base "look_walks" 2 ["walks"] nM) (F_gain:aX P w K mg base "gain" 1 ["walks","size"] vC):FnOk P w K mg base CX0 3 f fd ["trains","walks"] pS:=by
 refine F.ok X1 (fun vs H Q E h=>?_) (fun cdv A outer s H vs Q E hr h=>?_)
 ·obtain⟨a,b,r,j,rfl,_⟩:=h;rfl
 ·obtain⟨a,b,ps,ws,rfl,hps,ht,hws,hwl,hc,k⟩:=h;refine⟨_,(aE (aR (aU F_look_trains hr rfl (aA (pv 0) aC)))
 (aE (aR (aU F_look_walks hr rfl (aA (pv 1) aC)))
 (aH (bF (aJ dW (by rfl) B.sorted cO (aA (bX ["size","offset"] ["walks"] [1] rfl (.of (show cA (aD kE) _ ["trains","walks"] [1] ["walks"]=true by decide +kernel)) (bH (pv 0)) (fun _ _ _=>(dD (n:=2) K rfl rfl (aO (aI (i:=0) (show (["size","offset","walks"]:List Str).Nodup by decide +kernel) rfl (Or.inl rfl)) (aO (aI (i:=1) (show (["size","offset","walks"]:List Str).Nodup by decide +kernel) rfl (Or.inl rfl)) bR)))) (eN (bA (by decide) (bA (by decide) dC))) (fun _ _ _=>cD) (fun _ _ _=>(cJ (aA (pv 0) (aA (aK bS (pv 1) (aU F_gain hr rfl (aA (pv 2) (aA (pv 0) aC)))) aC))))) aC)))))),?_⟩
  refine⟨_,rfl,a,ps,rfl,hps,ht,fun H1 g1=>?_⟩;have hws1:=hws.mono g1;refine⟨_,rfl,b,ws,rfl,hws1,hc,?_⟩;obtain⟨us,ha,pr⟩:=hps.mono g1;have e:us.length=ps.length:=pr.len;have hpl:=ht.len;refine⟨_,rfl,a,rfl,⟨_,SqL.of ha⟩,bP (K:=K) (a:=a) (xs:=us) (fun i ys H3=>Same H1 H3/\Prs H3 ys ((dA ps ws).take i)) ⟨Same.refl _,.nil⟩ ?_ ?_ ?_⟩
  ·rintro i ys H3 hi ⟨g3,pr3⟩;refine⟨SqL.of (g3 _ _ ha),aL ?_⟩;rw[pr3.len];simp only[aBk,dA,aB4];omega
  ·rintro i x ys H3 hi ⟨g3,pr3⟩;obtain⟨p,t',hp,rfl,et⟩:=bQ pr hi;have hpm:=aBf hp;have h1:=ht.pos p hpm;have h2:=T9 ht hpm;refine⟨t',_,rfl,SqT.of (g3 _ _ et),rfl,_,_,rfl,_,_,rfl,rfl,_,rfl,_,rfl,_,rfl,_,rfl,b,ws,p.1,rfl,hws1.mono g3,hwl,hc,by omega,by omega,fun H4 g4=>?_⟩;refine⟨_,_,rfl,rfl,(show 2<=sizeLine by decide),fun t ht'=>⟨g3.trans (g4.trans (Same.upd ht')),?_⟩⟩;have ei:(dA ps ws).take (i+1)=(dA ps ws).take i++[(p.1,p.2+B6 ws p.1)]:=by
    rw[aBz];unfold dA;rw[aBs,hp];rfl
   rw[ei];exact Paired.append' (Prs.mono (TupS.same (g4.trans (Same.upd ht'))) pr3) (.cons ⟨t,rfl,aB⟩ .nil)
  ·rintro ys H3 ⟨g3,pr3⟩ D hD;rw[e,show ps.length=(dA ps ws).length by simp[dA],aBi]at pr3;have gD:=Same.upd (o:=.lst ys) hD;refine⟨D,ys,dA ps ws,rfl,aB,Prs.mono (TupS.same gD) pr3,by simp[dA];omega,fun l us' qs hl pr' hperm hs=>?_⟩;have gA:=(g1.trans g3).trans gD;exact k qs hperm hs l us' _ (gA.free hl) (Same.upd' (gA.free hl) gA) aB (Prs.mono (TupS.new hl) pr')
abbrev tY:Stmt:=top 33
theorem aAS:aQ ["row","walks"] ["row","walks"] (aD tY):=⟨rfl,rfl,rfl,by decide +kernel,rfl,by decide +kernel,by decide +kernel⟩
theorem aAT {f:Addr} {fd:FuncData} (F:Fun K "far" "far" tY f fd) (B:Bt mg) (F_list_of:aX P w K mg base "list_of" 4 ["row"] gG) (F_added:aX P w K mg base "added" 3 ["trains","walks"] pS) (F_row_of:aX P w K mg base "row_of" 3 ["trains"] lB):FnOk P w K mg base CX0 5 f fd ["row","walks"] B7:=by
 refine F.ok aAS (fun vs H Q E h=>?_) (fun cdv A outer s H vs Q E hr h=>?_)
 ·obtain⟨a,b,row,ws,rfl,_⟩:=h;rfl
 ·obtain⟨a,b,row,ws,rfl,ha,hrow,hrl,hb,hwl,hc,k⟩:=h;refine⟨_,(aH (bF (aU F_row_of hr rfl (aA (aU F_added hr rfl (aA (aU F_list_of hr rfl (aA (pv 0) aC)) (aA (pv 1) aC))) aC)))),?_⟩;refine⟨_,rfl,a,row,rfl,ha,hrow,hrl,fun qs hq1 hq2 l1 us1 H1 hl1 g1 el1 pr1=>?_⟩;refine⟨_,rfl,l1,b,qs,ws,rfl,⟨us1,el1,pr1⟩,hq1.trn hrl,hb.mono g1,hwl,hc,fun rs hr1 hr2 l2 us2 H2 hl2 g2 el2 pr2=>?_⟩;have hT:=rB (rF (ws:=ws) (hq1.trn hrl)) hr1;refine⟨l2,rs,rfl,⟨us2,el2,pr2⟩,hT,fun r hr l3 H3 hl3 g3 el3=>?_⟩;exact k r qs hq1 (hr.perm hr1) l3 H3 ((g1.trans g2).free hl3) ((g1.trans g2).trans g3) el3
abbrev dH:Stmt:=top 35
theorem rQ:aQ ["stones"] ["stones"] (aD dH):=⟨rfl,rfl,rfl,by decide +kernel,rfl,by decide +kernel,by decide +kernel⟩
theorem pJ {f:Addr} {fd:FuncData} {tC:Tok} (F:Fun K "look_stones" "look_stones" dH f fd) (B:Bt mg) (C:Cn mg tC):FnOk P w K mg base CX0 1 f fd ["stones"] lZ:=by
 refine F.ok rQ (fun vs H Q E h=>?_) (fun cdv A outer s H vs Q E hr h=>?_)
 ·obtain⟨n,rfl,_⟩:=h;rfl
 ·obtain⟨n,rfl,h1,k⟩:=h;refine⟨_,(aH (cX (PW.pt (M9 (aW kH (pv 0) aF (bB _)) (yA (aW kF (pv 0) (uB (v:=.int 60) rfl C.MOST_STONES ⟨_,rfl⟩) (bB _)))))
 (aH jH)
 cB)),?_⟩
  exact⟨_,rfl,_,_,rfl,rfl,_,rfl,iC (by omega) ⟨_,rfl,_,_,rfl,rfl,_,rfl,iC (by omega) k⟩⟩
abbrev iP:Stmt:=top 36
theorem jS:aQ ["walks","stones","sums","creel","count","useful"] ["walks","stones"] (aD iP):=⟨rfl,rfl,rfl,by decide +kernel,rfl,by decide +kernel,by decide +kernel⟩
theorem zO {f:Addr} {fd:FuncData} (F:Fun K "tidied" "tidied" iP f fd) (B:Bt mg) (F_look_stones:aX P w K mg base "look_stones" 1 ["stones"] lZ) (F_look_walks:aX P w K mg base "look_walks" 2 ["walks"] nM):FnOk P w K mg base CX0 3 f fd ["walks","stones"] vQ:=by
 refine F.ok jS (fun vs H Q E h=>?_) (fun cdv A outer s H vs Q E hr h=>?_)
 ·obtain⟨a,ws,n,rfl,_⟩:=h;rfl
 ·obtain⟨a,ws,n,rfl,hlp,hwl,h160,hc,k1⟩:=h;have hu1:=qG hr;refine⟨_,(aE (aR (aU F_look_stones hr rfl (aA (pv 1) aC)))
 (aE (aR (aU F_look_walks hr rfl (aA (pv 0) aC)))
 (aE (aM (i:=2) jS.nd rfl (Or.inl rfl) kX)
 (aE (cQ PassesOwn.never rfl (bH (pv 0)) (jU rfl (aO (aI (i:=3) jS.nd rfl (Or.inl rfl)) (aO (aI (i:=4) jS.nd rfl (Or.inl rfl)) bR)))
 (aE (aM (i:=5) jS.nd rfl (Or.inl rfl) (aJ (jK rfl) (by rfl) B.min iA (aA (pv 3) (aA (pv 1) aC))))
 (aH (uV hu1 (pv 2) (pv 5) (aK bS (wW hu1 (pv 2) (pv 5) aF ⟨rfl,rfl,rfl,rfl⟩) (pv 4)) rfl))))
 (aH (bF (aJ dW (by rfl) B.sorted cO (aA (bX ["creel","count"] [] [] rfl (.of (show cA (aD iP) _ ["walks","stones","sums","creel","count","useful"] [] []=true by decide +kernel)) (nF (pv 2)) (fun _ _ _=>(dD (n:=2) K rfl rfl (aO (aI (i:=0) (show (["creel","count"]:List Str).Nodup by decide +kernel) rfl (Or.inl rfl)) (aO (aI (i:=1) (show (["creel","count"]:List Str).Nodup by decide +kernel) rfl (Or.inl rfl)) bR)))) (eN (bA (by decide) (bA (by decide) dC))) (fun _ _ _=>jV (aW z6 (pv 1) aF (bB _))) (fun _ _ _=>(cJ (aA (pv 0) (aA (pv 1) aC))))) aC)))))))),?_⟩
  refine⟨_,rfl,n,rfl,h160,?_⟩;refine⟨_,rfl,a,ws,rfl,hlp,hc,?_⟩;refine fun d hd=>?_;have g1:=Same.upd (o:=.dK []) hd;have ed:(upd H d (.dK [])) d=some (.dK (kvI [])):=aB;generalize upd H d (.dK [])=H1 at g1 ed ⊢;obtain⟨us,ha,pr⟩:=hlp;have eu:us.length=ws.length:=pr.len;refine⟨_,rfl,a,rfl,⟨_,SqL.of (g1 _ _ ha)⟩,cN (K:=K) (a:=a) (xs:=us) (fun i σ H2=>∃ (ms:List (Int×Int)) (v1 v2 v3:Option V),σ=[some (.ref a),some (.int n),some (.ref d),v1,v2,v3]/\Same H H2/\H2 d=some (.dK (kvI ms))/\(ms.map (·.1)).Nodup/\(∀ c,(lkI ms c).getD 0=zJ (ws.take i) n c)/\(∀ m∈ms,1<=m.1/\m.1<=n)/\ms.length<=i)
   ⟨[],none,none,none,rfl,g1,ed,List.Pairwise.nil,fun c=>rfl,fun m hm=>(nomatch hm),Nat.le_refl _⟩ (fun i σ H2 _ ⟨_,_,_,_,_,sm,_⟩=>SqL.of (sm _ _ ha)) ?_ ?_⟩
  ·rintro i x σ H2 hi ⟨ms,v1,v2,v3,rfl,sm,ed2,hnd,hlk,hkb,hml⟩;obtain⟨q,t',hq,rfl,et⟩:=bQ pr hi;have hil:i<us.length:=(aCF.mp hi).1;have hq1:=hc q (aBf hq);refine⟨t',_,rfl,SqT.of (sm _ _ et),rfl,_,_,rfl,_,_,rfl,rfl,_,rfl,_,rfl,_,_,rfl,_,rfl,d,rfl,.inl ⟨_,.inl ed2⟩,_,rfl,_,DGet.k (k:=Sum.inl (nR n q)) ed2,_,rfl,?_⟩;rw[nQ];have hv:((lkI ms (nR n q)).map V.int).getD (V.int 0)=V.int ((lkI ms (nR n q)).getD 0):=by cases lkI ms (nR n q) <;> rfl
   rw[hv];refine⟨_,_,rfl,rfl,_,rfl,_,rfl,d,_,rfl,DPut.k (k:=Sum.inl (nR n q)) ed2 (by simp only[kvI,aB4];exact aL (by omega)),?_⟩;refine⟨pH ms (nR n q) ((lkI ms (nR n q)).getD 0+q.2),_,_,_,rfl,Same.upd' hd sm,by rw[aB,C4],i3 hnd,fun c=>?_,fun m hm=>?_,by have:=i5 ms (nR n q) ((lkI ms (nR n q)).getD 0+q.2);omega⟩
   ·rw[i0,L0 hq]
    by_cases hcu:c=nR n q
    ·rw[if_pos hcu,if_pos hcu.symm,hcu,<- hlk];rfl
    ·rw[if_neg hcu,if_neg (fun z=>hcu z.symm),hlk];omega
   ·rcases i6 hm with h | h
    ·rw[h];unfold nR;split <;> omega
    ·exact hkb m h
  ·rintro σ H2 ⟨ms,v1,v2,v3,rfl,sm,ed2,hnd,hlk,hkb,hml⟩;rw[eu,aBi]at hlk;refine⟨_,rfl,d,kvI ms,rfl,ed2,fun od=>?_⟩;have g3:Same H (upd H2 d (.frz od (.dK (kvI ms)))):=Same.upd' hd sm;have ed3:(upd H2 d (.frz od (.dK (kvI ms)))) d=some (.frz od (.dK (kvI ms))):=aB;generalize upd H2 d (.frz od (.dK (kvI ms)))=H3 at g3 ed3 ⊢;have hkl:(kvI ms).length=ms.length:=by simp[kvI]
   refine jX (d:=d) (od:=od) (kvs:=kvI ms) (fun i ys H4=>Same H3 H4/\Prs H4 ys ((ms.take i).filter fun m=>decide (m.2≠0))) ⟨Same.refl _,.nil⟩ ?_ ?_ ?_
   ·rintro i ys H4 hi ⟨g4,pr4⟩;refine⟨g4 _ _ ed3,aL ?_⟩;rw[pr4.len];have:=List.length_filter_le (fun m:Int×Int=>decide (m.2≠0)) (ms.take i);rw[aBk]at this;omega
   ·rintro i ky x ys H4 t hx ⟨g4,pr4⟩ ht;obtain⟨m,hm,hmx⟩:∃ m,ms[i]?=some m/\((Sum.inl m.1:Key),V.int m.2)=(ky,x):=by
     unfold kvI at hx;rw[aBs]at hx;obtain⟨m,h1,h2⟩:=aCE.mp hx;exact⟨m,h1,h2⟩
    cases hmx;have g5:=Same.upd (o:=.tup [kV (Sum.inl m.1),V.int m.2]) ht;have hts:(ms.take (i+1)).filter (fun m=>decide (m.2≠0))=(ms.take i).filter (fun m=>decide (m.2≠0))++(if m.2≠0 then [m]else []):=by
     rw[aBz,hm,List.filter_append]
     congr 1
     by_cases h0:m.2≠0
     ·simp[h0]
     ·have h0':m.2=0:=by omega
      simp[h0']
    have et:(upd H4 t (.tup [kV (Sum.inl m.1),V.int m.2])) t=some (.tup [V.int m.1,V.int m.2]):=aB;generalize upd H4 t (.tup [kV (Sum.inl m.1),V.int m.2])=H5 at g5 et ⊢;refine⟨t,_,rfl,SqT.of et,rfl,_,_,rfl,_,_,rfl,rfl,_,rfl,_,_,rfl,rfl,_,rfl,?_⟩
    by_cases h0:m.2=0
    ·rw[aBq h0];refine⟨g4.trans g5,?_⟩;rw[hts,if_neg (fun z=>z h0),List.append_nil];exact pr4.mono (TupS.same g5)
    ·rw[aBp h0];refine⟨_,rfl,_,rfl,(show 2<=sizeLine by decide),fun t2 ht2=>⟨(g4.trans g5).trans (Same.upd ht2),?_⟩⟩;rw[hts,if_pos h0];exact Paired.append' (pr4.mono (TupS.same (g5.trans (Same.upd ht2)))) (.cons ⟨t2,rfl,aB⟩ .nil)
   ·rintro ys H4 ⟨g4,pr4⟩ D hD;rw[hkl,aBi]at pr4;have gD:=Same.upd (o:=.lst ys) hD;have hfl:=List.length_filter_le (fun m:Int×Int=>decide (m.2≠0)) ms;refine⟨D,ys,_,rfl,aB,pr4.mono (TupS.same gD),by omega,fun l us' qs hl pr' hperm hs=>?_⟩;have hnm:ms.Nodup:=List.Pairwise.imp (fun h e=>h (by rw[e])) (List.pairwise_map.mp hnd);have heq:qs=gJ ws n n.toNat:=by
     refine nP (hperm.trans (sB (List.Pairwise.filter _ hnm) (lF _).2 fun x=>?_)) hs (lF _).1;rw[aCJ,nS]
     constructor
     ·rintro ⟨hx,h0⟩;have hb:=hkb x hx;have hl2:=C5 hnd (c:=x.1) (m:=x.2) hx;have:=hlk x.1;rw[hl2]at this;exact⟨⟨hb.1,by omega⟩,this,by simpa using h0⟩
     ·rintro ⟨hb,hsum,h0⟩;have:=hlk x.1;cases hq:lkI ms x.1 with
      | none=>rw[hq]at this;exact absurd (hsum.trans this.symm) h0
      | some m =>
       rw[hq]at this;have hm:m=x.2:=this.trans hsum.symm;have hx:=i7 hq;rw[hm]at hx;exact⟨hx,by simpa using h0⟩
    subst heq;have gA:=(g3.trans g4).trans gD;exact k1 l us' _ (gA.free hl) (Same.upd' (gA.free hl) gA) aB (Prs.mono (TupS.new hl) pr')
abbrev iQ:Stmt:=top 38
theorem hU:aQ ["row","lasts","stays","ahead","place"] ["row"] (aD iQ):=⟨rfl,rfl,rfl,by decide +kernel,rfl,by decide +kernel,by decide +kernel⟩
theorem L9 {f:Addr} {fd:FuncData} (F:Fun K "peeled" "peeled" iQ f fd) (B:Bt mg) (F_stretches:aX P w K mg base "stretches" 2 ["row"] eT):FnOk P w K mg base CX0 3 f fd ["row"] gH:=by
 refine F.ok hU (fun vs H Q E h=>?_) (fun cdv A outer s H vs Q E hr h=>?_)
 ·obtain⟨a,r,rfl,_⟩:=h;rfl
 ·obtain⟨a,row,rfl,ha,hrow,hlen,k⟩:=h;refine⟨_,(aE (uJ (i:=1) ["first","last"] [] [] rfl hU.nd rfl rfl (.of (show cA (aD iQ) _ ["row","lasts","stays","ahead","place"] [] []=true by decide +kernel)) (bH (aU F_stretches hr rfl (aA (pv 0) aC))) (fun _ _ _=>(dD (n:=2) K rfl rfl (aO (aI (i:=0) (show (["first","last"]:List Str).Nodup by decide +kernel) rfl (Or.inl rfl)) (aO (aI (i:=1) (show (["first","last"]:List Str).Nodup by decide +kernel) rfl (Or.inl rfl)) bR)))) (eN (bA (by decide) (bA (by decide) dC))) (fun _ _ _=>cD) (fun _ _ _=>(pv 1)) (by first | rfl | decide +kernel))
 (aE (aM (i:=2) hU.nd rfl (Or.inl rfl) (bL aC))
 (aE (aM (i:=3) hU.nd rfl (Or.inl rfl) aF)
 (aE (cQ PassesOwn.never rfl (bH (pv 0)) (aI (i:=4) hU.nd rfl (Or.inl rfl))
 (aH (cX (aW kL (pv 4) (cY cC (pv 1) (pv 3) (fun _ _=>rfl)) (bB _))
 (aH (jD (i:=3) hU.nd rfl (Or.inl rfl) aF mI))
 (aH (aR (cT aCB aCC aCD bC (pv 2) (aA (aK bV (pv 4) (aK cR aF (pv 3))) aC)))))))
 (aH (bF (pv 2))))))),?_⟩
  refine⟨_,rfl,a,row,rfl,ha,hrow,hlen,fun l us H1 hl g1 el pr=>?_⟩;have e:us.length=(cZ row).length:=pr.len;have hrn:=oC row;refine⟨l,rfl,⟨_,SqL.of el⟩,bP (K:=K) (a:=l) (xs:=us) (fun j ys H2=>H2=H1/\ys=(((cZ row).take j).map (·.2)).map V.int) ⟨rfl,rfl⟩ ?_ ?_ ?_⟩
  ·rintro j ys H2 hj ⟨rfl,rfl⟩;exact⟨SqL.of el,by rw[aB4,aB4,aBk];exact aL (by omega)⟩
  ·rintro j x ys H2 hj ⟨rfl,rfl⟩;obtain⟨q,t2,hq,rfl,et2⟩:=bQ pr hj;exact⟨t2,_,rfl,SqT.of et2,rfl,_,_,rfl,_,_,rfl,rfl,_,rfl,rfl,dM (·.2) hq⟩
  rintro ys H2 ⟨rfl,rfl⟩ ll hll;rw[e,aBi,oI];have g2:=Same.upd (o:=.lst ((bG row).map V.int)) hll;have ell:(upd H2 ll (.lst ((bG row).map V.int))) ll=some (.lst ((bG row).map V.int)):=aB;generalize upd H2 ll (.lst ((bG row).map V.int))=H3 at g2 ell ⊢;refine⟨by decide,fun ls hls=>?_⟩;have g3:=Same.upd (o:=.lst []) hls;have els:(upd H3 ls (.lst [])) ls=some (.lst (([]:List Int).map V.int)):=aB;have nls:ls≠ll:=fun z=>by rw[z,ell]at hls;cases hls
  have hH3:H3 ls=none:=hls;generalize upd H3 ls (.lst [])=H4 at g3 els ⊢;have s13:=g1.trans g2;have s4:=s13.trans g3;refine⟨_,rfl,a,rfl,⟨_,SqL.of (s4 _ _ ha)⟩,cN (K:=K) (a:=a) (xs:=row.map V.int) (fun i σ H5=>∃ (ah:Nat) (st:List Int) (v4:Option V),σ=[some (.ref a),some (.ref ll),some (.ref ls),some (.int (ah:Int)),v4]/\Same H3 H5/\H5 ls=some (.lst (st.map V.int))/\(bG row).drop ah=bG (row.drop i)/\st++bW ah (row.drop i)=bW 0 row/\st.length<=i/\ah<=i)
   ⟨0,[],none,rfl,g3,els,rfl,rfl,Nat.le_refl _,Nat.le_refl _⟩ (fun i σ H5 _ ⟨_,_,_,_,sm,_⟩=>SqL.of ((s13.trans sm) _ _ ha)) ?_ ?_⟩
  ·rintro i x σ H5 hi ⟨ah,st,v4,rfl,sm,els5,h1,h2,h3,h4⟩;have hil:i<row.length:=by
    have:=(aCF.mp hi).1;simpa using this
   obtain⟨z,rfl,hz⟩:=eO hi;obtain⟨q,hq,hstep⟩:=C2 hrow hz h1 h2;have hat:atI ((bG row).map V.int) (ah:Int)=some (V.int q):=iV (by rw[aBs,hq];rfl);refine⟨_,rfl,_,rfl,_,rfl,ll,_,_,_,rfl,rfl,SqL.of (sm _ _ ell),hat,_,_,rfl,rfl,_,rfl,iB (fun c=>?_) (fun c=>?_)⟩
   ·rcases hstep with ⟨_,k1,k2⟩ | ⟨ne,_⟩
    ·exact⟨_,rfl,_,_,rfl,rfl,ah+1,st,_,rfl,sm,els5,k1,k2,by omega,by omega⟩
    ·exact absurd c ne
   ·rcases hstep with ⟨e,_⟩ | ⟨_,k1,k2⟩
    ·exact absurd e c
    ·refine⟨_,rfl,.inl ⟨rfl,_,SqL.of els5⟩,_,rfl,_,rfl,_,_,rfl,rfl,.inl ⟨by decide,by decide⟩,_,_,rfl,rfl,ls,_,_,rfl,rfl,els5,by rw[aB4];exact aL (by omega),?_⟩;exact⟨ah,st++[z - 2 * (ah:Int)],_,rfl,Same.upd' hH3 sm,by rw[aB,aBj];rfl,k1,k2,by simp;omega,by omega⟩
  ·rintro σ H5 ⟨ah,st,v4,rfl,sm,els5,h1,h2,h3,h4⟩;rw[aB4,List.drop_length]at h2;rw[show st++bW (ah:Int) []=st from List.append_nil st]at h2;rw[h2]at els5;exact⟨_,rfl,k ls H5 (s13.free hH3) (s13.trans sm) els5⟩
abbrev jT:Stmt:=top 39
theorem mB:aQ ["row","found","rest"] ["row"] (aD jT):=⟨rfl,rfl,rfl,by decide +kernel,rfl,by decide +kernel,by decide +kernel⟩
inductive rdW (H0:Hp) (row:List Int) (a l:Addr) (m:Nat) (σ:St) (Hx:Hp):Prop
 | mk (n:Nat) (rl:Addr) (h0_:σ=[some (.ref a),some (.ref l),some (.ref rl)]) (h1_:Same H0 Hx) (h2_:Hx rl=some (.lst ((bM n row).map V.int))) (h3_:rl≠l) (h4_:Hx l=some (.lst (((List.range n).map fun k=>(stG (bM k row):Int)).map V.int))) (h5_:∀ k,k<n->bM k row≠[]) (h6_:m=(bM n row).length) (h7_:m+n<=60):rdW H0 row a l m σ Hx
theorem M0 {f:Addr} {fd:FuncData} (F:Fun K "rounds" "rounds" jT f fd) (B:Bt mg) (F_stretches:aX P w K mg base "stretches" 2 ["row"] eT) (F_peeled:aX P w K mg base "peeled" 3 ["row"] gH):FnOk P w K mg base CX0 4 f fd ["row"] nO:=by
 refine F.ok mB (fun vs H Q E h=>?_) (fun cdv A outer s H vs Q E hr h=>?_)
 ·obtain⟨a,r,rfl,_⟩:=h;rfl
 ·obtain⟨a,row,rfl,ha,hrow,hlen,k⟩:=h;refine⟨_,(aE (aM (i:=1) mB.nd rfl (Or.inl rfl) (bL aC))
 (aE (aM (i:=2) mB.nd rfl (Or.inl rfl) (pv 0))
 (aE (eZ PassesOwn.never (hX (pv 2) (fun _=>rfl))
 (aE (aR (cT aCB aCC aCD bC (pv 1) (aA (aJ bE (by rfl) B.len PySem.boot_len (aA (aU F_stretches hr rfl (aA (pv 2) aC)) aC)) aC)))
 (aH (aM (i:=2) mB.nd rfl (Or.inl rfl) (aU F_peeled hr rfl (aA (pv 2) aC))))))
 (aH (bF (pv 1)))))),?_⟩
  refine⟨by decide,fun l hl=>?_⟩;have g1:=Same.upd (o:=.lst []) hl;have el:(upd H l (.lst [])) l=some (.lst []):=aB;have nal:a≠l:=fun e=>by rw[e,hl]at ha;cases ha
  generalize upd H l (.lst [])=H1 at g1 el ⊢;refine⟨_,rfl,?_⟩;refine⟨rdW H row a l,⟨row.length,0,a,rfl,g1,g1 _ _ ha,nal,el,fun k hk=>absurd hk (Nat.not_lt_zero _),rfl,by omega⟩,?_⟩;rintro m σ H2 ⟨n,rl,rfl,sm,erl,nrl,el2,hne,rfl,hm⟩;have hrn:=oJ hrow n
  by_cases hz:bM n row=[]
  ·refine⟨_,rfl,false,.inl ⟨_,SqL.of erl,by rw[hz];rfl⟩,?_⟩;exact⟨_,rfl,k n hz hne l H2 hl sm el2⟩
  ·refine⟨_,rfl,true,.inl ⟨_,SqL.of erl,by cases e:bM n row with | nil=>exact absurd e hz | cons x r=>rfl⟩,?_⟩;have hst:1<=stG (bM n row):=by
    cases e:bM n row with
    | nil=>exact absurd e hz
    | cons x r=>exact zG r x
   have hpl:=lD (bM n row) 0;refine⟨fun σ' H'=>∃ m',m'<(bM n row).length/\rdW H row a l m' σ' H',fun σ' H' h=>h,?_⟩;refine⟨_,rfl,.inl ⟨rfl,_,SqL.of el2⟩,_,rfl,rl,_,rfl,erl,hrn,by omega,fun l2 us2 H3 hl2 g3 el3 pr3=>?_⟩;have el23:=g3 _ _ el2;have hul:us2.length=stG (bM n row):=by rw[pr3.len,B9]
   refine⟨l2,_,rfl,.inl (SqL.of el3),l,_,_,rfl,rfl,el23,by rw[aB4,aB4,List.length_range];exact aL (by omega),?_⟩;have erl4:(upd H3 l (.lst (((List.range n).map fun k=>(stG (bM k row):Int)).map V.int++[V.int (us2.length:Int)]))) rl=some (.lst ((bM n row).map V.int)):=by rw[aG nrl];exact g3 _ _ erl
   have el4:(upd H3 l (.lst (((List.range n).map fun k=>(stG (bM k row):Int)).map V.int++[V.int (us2.length:Int)]))) l=some (.lst (((List.range (n+1)).map fun k=>(stG (bM k row):Int)).map V.int)):=by
    rw[aB,hul,List.range_succ,aBj,aBj];rfl
   have s4:Same H (upd H3 l (.lst (((List.range n).map fun k=>(stG (bM k row):Int)).map V.int++[V.int (us2.length:Int)]))):=Same.upd' hl (sm.trans g3);generalize upd H3 l (.lst (((List.range n).map fun k=>(stG (bM k row):Int)).map V.int++[V.int (us2.length:Int)]))=H4 at erl4 el4 s4 ⊢;refine⟨_,rfl,rl,_,rfl,erl4,hrn,by omega,fun l3 H5 hl3 g5 el5=>?_⟩;refine⟨(bW 0 (bM n row)).length,by omega,n+1,l3,rfl,s4.trans g5,el5,(fun e=>by rw[e,el4]at hl3;cases hl3),g5 _ _ el4,fun j hj=>?_,rfl,by omega⟩
   by_cases e:j=n
   ·rw[e];exact hz
   ·exact hne j (by omega)
abbrev cE:Stmt:=top 41
theorem cL:aQ ["counts","sizes","size","many","longer"] ["counts"] (aD cE):=⟨rfl,rfl,rfl,by decide +kernel,rfl,by decide +kernel,by decide +kernel⟩
theorem M3 {f:Addr} {fd:FuncData} (F:Fun K "sizes_by_counts" "sizes_by_counts" cE f fd) (B:Bt mg):FnOk P w K mg base CX0 1 f fd ["counts"] nU:=by
 refine F.ok cL (fun vs H Q E h=>?_) (fun cdv A outer s H vs Q E hr h=>?_)
 ·obtain⟨a,ss,n,rfl,_⟩:=h;rfl
 ·obtain⟨a,ss,n,rfl,ha,hup,hpos,htop,hl60,k⟩:=h;refine⟨_,(aE (aM (i:=1) cL.nd rfl (Or.inl rfl) (bL aC))
 (aE (cQ PassesOwn.never rfl (aAR rfl B.enumerate (aA (pv 0) aC) aF) (jU rfl (aO (aI (i:=2) cL.nd rfl (Or.inl rfl)) (aO (aI (i:=3) cL.nd rfl (Or.inl rfl)) bR)))
 (aE (aM (i:=4) cL.nd rfl (Or.inl rfl) (yL (qB (aW kH (pv 2) (aJ bE (by rfl) B.len PySem.boot_len (aA (pv 0) aC)) (bB _)) (cY cC (pv 0) (pv 2) (fun _ _=>rfl)) aF)))
 (aH (aR (cT aCB PySem.F.slot_list_extend PySem.F.type_list_extend D9 (pv 1) (aA (aK x9 (bL (aA (pv 2) aC)) (aK bV (pv 3) (pv 4))) aC))))))
 (aH (bF (pv 1))))),?_⟩
  refine⟨by decide,fun l hl=>?_⟩;have g1:=Same.upd (o:=.lst []) hl;have el:(upd H l (.lst [])) l=some (.lst []):=aB;generalize upd H l (.lst [])=H1 at g1 el ⊢;have e0:ss.filter (fun s=>decide (s<=((0:Nat):Int)))=[]:=List.filter_eq_nil_iff.mpr fun x hx=>by have:=hpos x hx;simp;omega
  refine⟨_,rfl,a,_,rfl,SqL.of (g1 _ _ ha),j3 (K:=K) (m:=1) (a:=a) (xs:=(eJ ss n).map V.int) (fun i σ H2=>∃ (v2 v3 v4:Option V),σ=[some (.ref a),some (.ref l),v2,v3,v4]/\Same H H2/\H2 l=some (.lst ((ss.filter fun s=>decide (s<=(i:Int))).map V.int)))
   ⟨none,none,none,rfl,g1,by rw[e0];exact el⟩ (fun i σ H2 _ ⟨_,_,_,_,sm,_⟩=>SqL.of (sm _ _ ha)) ?_ ?_⟩
  ·rintro i x σ H2 t hx ⟨v2,v3,v4,rfl,sm,el2⟩ ht;have hin:i<n:=by
    have:=(aCF.mp hx).1;rw[aB4,jQ]at this;exact this
   rw[aBs,C6 ss hin]at hx;obtain rfl:V.int (geN ss ((i:Int)+1))=x:=by simpa using hx
   have g3:=Same.upd (o:=.tup [V.int (1+(i:Int)),V.int (geN ss ((i:Int)+1))]) ht;have et:(upd H2 t (.tup [V.int (1+(i:Int)),V.int (geN ss ((i:Int)+1))])) t=some (.tup [V.int (1+(i:Int)),V.int (geN ss ((i:Int)+1))]):=aB;generalize upd H2 t (.tup [V.int (1+(i:Int)),V.int (geN ss ((i:Int)+1))])=H3 at g3 et ⊢;have sm3:=sm.trans g3;have ha3:=sm3 _ _ ha;have el3:=g3 _ _ el2;refine⟨t,_,rfl,SqT.of et,rfl,_,_,rfl,_,_,rfl,rfl,?_⟩;refine⟨fun v H4=>v=.int (geN ss ((i:Int)+2))/\H4=H3,?_,?_⟩
   ·refine⟨_,rfl,_,rfl,a,_,rfl,.inl (SqL.of ha3),_,_,rfl,rfl,_,rfl,iB (fun c=>?_) (fun c=>?_)⟩
    ·rw[aB4,jQ]at c;have e:atI ((eJ ss n).map V.int) (((i+1:Nat):Int))=some (V.int (geN ss (((i+1:Nat):Int)+1))):=iV (by rw[aBs,C6 ss (by omega)];rfl);rw[show ((i+1:Nat):Int)=1+(i:Int)by omega,show 1+(i:Int)+1=(i:Int)+2 by omega]at e;exact⟨_,rfl,_,rfl,a,_,_,_,rfl,rfl,SqL.of ha3,e,rfl,rfl⟩
    ·rw[aB4,jQ]at c;refine⟨?_,rfl⟩;rw[W1 fun s hs=>by have:=htop s hs;omega];rfl
   rintro v H4 ⟨rfl,rfl⟩;have hle:=U6 ss ((i:Int)+1);rw[show (i:Int)+1+1=(i:Int)+2 by omega]at hle;have hgl:=j4 ss ((i:Int)+1);refine⟨_,rfl,.inl ⟨rfl,_,SqL.of el3⟩,_,rfl,(show 1<=sizeLine by decide),fun p hp=>?_⟩;have g5:=Same.upd (o:=.lst [V.int (1+(i:Int))]) hp;have ep:(upd H4 p (.lst [V.int (1+(i:Int))])) p=some (.lst [V.int (1+(i:Int))]):=aB;generalize upd H4 p (.lst [V.int (1+(i:Int))])=H5 at g5 ep ⊢;have ek:((geN ss ((i:Int)+1):Int) - (geN ss ((i:Int)+2):Int)).toNat=geN ss ((i:Int)+1) - geN ss ((i:Int)+2):=by omega
   refine⟨_,rfl,_,rfl,_,_,rfl,rfl,p,_,_,rfl,rfl,ep,by omega,by omega,by rw[ek,List.length_singleton,Nat.one_mul];exact uO (by omega),fun r hrn=>?_⟩;rw[ek];have er:(List.replicate (geN ss ((i:Int)+1) - geN ss ((i:Int)+2)) [V.int (1+(i:Int))]).flatten=(List.replicate (geN ss ((i:Int)+1) - geN ss ((i:Int)+2)) ((i:Int)+1)).map V.int:=by
    rw[List.map_replicate,List.flatten_replicate_singleton,Int.add_comm]
   rw[er];have g6:=Same.upd (o:=.lst ((List.replicate (geN ss ((i:Int)+1) - geN ss ((i:Int)+2)) ((i:Int)+1)).map V.int)) hrn;have err:(upd H5 r (.lst ((List.replicate (geN ss ((i:Int)+1) - geN ss ((i:Int)+2)) ((i:Int)+1)).map V.int))) r=some (.lst ((List.replicate (geN ss ((i:Int)+1) - geN ss ((i:Int)+2)) ((i:Int)+1)).map V.int)):=aB;generalize upd H5 r (.lst ((List.replicate (geN ss ((i:Int)+1) - geN ss ((i:Int)+2)) ((i:Int)+1)).map V.int))=H6 at g6 err ⊢;have s46:=g5.trans g6;have hcut:=K2 hup (i:Int);have hfl:=List.length_filter_le (fun s=>decide (s<=(i:Int)+1)) ss;rw[hcut,aBd,aBo]at hfl;refine⟨l,r,_,_,rfl,rfl,s46 _ _ el3,err,by rw[aB4,aB4,aBo];exact uO (by omega),?_⟩;refine⟨_,_,_,rfl,Same.upd' hl (sm3.trans s46),?_⟩;rw[aB,<- aBj,show ((i+1:Nat):Int)=(i:Int)+1 by omega,hcut]
  ·rintro σ H2 ⟨v2,v3,v4,rfl,sm,el2⟩;rw[aB4,jQ,List.filter_eq_self.mpr fun x hx=>by have:=htop x hx;simp;omega]at el2;exact⟨_,rfl,k l H2 hl sm el2⟩
abbrev cH:Stmt:=top 40
theorem dJ:aQ ["row","counts","load"] ["row"] (aD cH):=⟨rfl,rfl,rfl,by decide +kernel,rfl,by decide +kernel,by decide +kernel⟩
inductive ldW (H0:Hp) (row ss:List Int) (a l:Addr) (m:Nat) (σ:St) (Hx:Hp):Prop
 | mk (n:Nat) (h0_:σ=[some (.ref a),some (.ref l),some (.int ((eJ ss (n+1)).sum))]) (h1_:Same H0 Hx) (h2_:Hx l=some (.lst ((eJ ss n).map V.int))) (h3_:(m:Int)=row.length - (eJ ss n).sum) (h4_:n+m<=60):ldW H0 row ss a l m σ Hx
theorem rR {f:Addr} {fd:FuncData} (F:Fun K "sizes_by_loads" "sizes_by_loads" cH f fd) (B:Bt mg) (F_carried:aX P w K mg base "carried" 3 ["row","creel"] lT) (F_sizes_by_counts:aX P w K mg base "sizes_by_counts" 1 ["counts"] nU):FnOk P w K mg base CX0 4 f fd ["row"] pU:=by
 refine F.ok dJ (fun vs H Q E h=>?_) (fun cdv A outer s H vs Q E hr h=>?_)
 ·obtain⟨a,r,ss,rfl,_⟩:=h;rfl
 ·obtain⟨a,row,ss,rfl,ha,hz,hlen,k⟩:=h;refine⟨_,(aE (aM (i:=1) dJ.nd rfl (Or.inl rfl) (bL aC))
 (aE (aM (i:=2) dJ.nd rfl (Or.inl rfl) (aU F_carried hr rfl (aA (pv 0) (aA aF aC))))
 (aE (eZ PassesOwn.never (aW kF (pv 2) (aJ (fZ rfl) (by rfl) B.sum fY (aA (pv 1) aC)) (bB _))
 (aE (aR (cT aCB aCC aCD bC (pv 1) (aA (aK bV (pv 2) (aJ (fZ rfl) (by rfl) B.sum fY (aA (pv 1) aC))) aC)))
 (aH (aM (i:=2) dJ.nd rfl (Or.inl rfl) (aU F_carried hr rfl (aA (pv 0) (aA (aK bS (aJ bE (by rfl) B.len PySem.boot_len (aA (pv 1) aC)) aF) aC)))))))
 (aH (bF (aU F_sizes_by_counts hr rfl (aA (pv 1) aC))))))),?_⟩
  refine⟨by decide,fun l hl=>?_⟩;have g1:=Same.upd (o:=.lst []) hl;have el:(upd H l (.lst [])) l=some (.lst []):=aB;generalize upd H l (.lst [])=H1 at g1 el ⊢;refine⟨_,rfl,a,row,1,rfl,g1 _ _ ha,hz.rowp,hlen,by decide,fun H2 g2=>?_⟩;have e1:=hz.load 0;rw[show ((0:Nat):Int)+1=1 from rfl]at e1;rw[e1];refine⟨ldW H row ss a l,⟨row.length,0,rfl,g1.trans g2,g2 _ _ el,by rw[L1];simp,by omega⟩,?_⟩;rintro m σ H3 ⟨n,rfl,sm,el3,hm,hn⟩;have es:=W3 ss n;have hcap:=hz.cap n;refine⟨_,rfl,_,rfl,l,_,rfl,el3,_,_,rfl,rfl,_,rfl,iB (fun c=>?_) (fun c=>?_)⟩
  ·refine⟨fun σ' H'=>∃ m',m'<m/\ldW H row ss a l m' σ' H',fun σ' H' h=>h,?_⟩;refine⟨_,rfl,.inl ⟨rfl,_,SqL.of el3⟩,_,rfl,_,rfl,l,_,rfl,el3,_,_,rfl,rfl,l,_,_,rfl,rfl,el3,by rw[aB4,jQ];exact aL (by omega),?_⟩;have ev:(eJ ss (n+1)).sum - (eJ ss n).sum=(geN ss ((n:Int)+1):Int):=by omega
   have el4:(upd H3 l (.lst ((eJ ss n).map V.int++[V.int ((eJ ss (n+1)).sum - (eJ ss n).sum)]))) l=some (.lst ((eJ ss (n+1)).map V.int)):=by
    rw[aB,ev,tQ,aBj];rfl
   have s4:Same H (upd H3 l (.lst ((eJ ss n).map V.int++[V.int ((eJ ss (n+1)).sum - (eJ ss n).sum)]))):=Same.upd' hl sm;generalize upd H3 l (.lst ((eJ ss n).map V.int++[V.int ((eJ ss (n+1)).sum - (eJ ss n).sum)]))=H4 at el4 s4 ⊢;refine⟨_,rfl,_,rfl,l,_,rfl,.inl (SqL.of el4),_,_,rfl,rfl,a,row,((n+1:Nat):Int)+1,by rw[aB4,jQ];rfl,s4 _ _ ha,hz.rowp,hlen,by omega,fun H5 g5=>?_⟩;rw[hz.load (n+1)];exact⟨m - geN ss ((n:Int)+1),by omega,n+1,rfl,s4.trans g5,g5 _ _ el4,by omega,by omega⟩
  ·have hg:geN ss ((n:Int)+1)=0:=by omega
   refine⟨_,rfl,l,ss,n,rfl,el3,hz.up,hz.pos,fun s hs=>?_,hz.few hlen,fun l2 H4 hl2 g4 el4=>k l2 H4 (sm.free hl2) (sm.trans g4) el4⟩;have:=W0 hg s hs;omega
abbrev dI:Stmt:=top 43
theorem bT:aQ ["_law_script","_law_many","_law_row_here","_law_seed","_law_cell","_law_rest","_law_k"] ["_law_script","_law_many"] (aD dI):=⟨rfl,rfl,rfl,by decide +kernel,rfl,by decide +kernel,by decide +kernel⟩
inductive lG (H:Hp) (a:Addr) (l:Addr) (p:Addr) (m:Nat) (ms:List Int) (i:Nat) (σ:St) (H2:Hp):Prop
 | mk (seed:Int) (xs:List Int) (v1 v2 v3:Option V) (k0_:σ=[some (.ref a),some (.int m),some (.ref l),some (.int seed),v1,v2,v3]) (k1_:Same H H2) (k2_:H2 p=some (.lst (ms.map V.int))) (k3_:H2 l=some (.lst (xs.map V.int))) (k4_:E4 xs) (k5_:xs.length<=61 * i) (k6_:0<=seed) (k7_:seed<2147483629):lG H a l p m ms i σ H2
inductive lH (H:Hp) (a:Addr) (l:Addr) (p:Addr) (m:Nat) (ms:List Int) (i:Nat) (seed:Int) (z:Int) (v3:Option V) (σ:St) (H3:Hp):Prop
 | mk (ys:List Int) (k0_:σ=[some (.ref a),some (.int m),some (.ref l),some (.int (sd1 seed z)),some (.int z),some (.int (rs1 z)),v3]) (k1_:Same H H3) (k2_:H3 p=some (.lst (ms.map V.int))) (k3_:H3 l=some (.lst (ys.map V.int))) (k4_:E4 ys) (k5_:ys.length<=61 * i+1):lH H a l p m ms i seed z v3 σ H3
inductive lI (H:Hp) (a:Addr) (l:Addr) (p:Addr) (m:Nat) (ms:List Int) (i:Nat) (seed:Int) (z:Int) (j:Nat) (σ:St) (H4:Hp):Prop
 | mk (r:Int) (ys:List Int) (v:Option V) (k0_:σ=[some (.ref a),some (.int m),some (.ref l),some (.int (sd1 seed z)),some (.int z),some (.int r),v]) (k1_:Same H H4) (k2_:H4 p=some (.lst (ms.map V.int))) (k3_:H4 l=some (.lst (ys.map V.int))) (k4_:E4 ys) (k5_:ys.length<=61 * i+1+j):lI H a l p m ms i seed z j σ H4
inductive lJ (H:Hp) (a:Addr) (l:Addr) (m:Nat) (v1:Option V) (v2:Option V) (v3:Option V) (σ:St) (H3:Hp):Prop
 | mk (seed:Int) (ys:List Int) (k0_:σ=[some (.ref a),some (.int m),some (.ref l),some (.int seed),v1,v2,v3]) (k1_:Same H H3) (k2_:H3 l=some (.lst (ys.map V.int))) (k3_:E4 ys) (k4_:ys.length<=5000) (k5_:0<=seed) (k6_:seed<2147483629):lJ H a l m v1 v2 v3 σ H3
theorem zP {f:Addr} {fd:FuncData} (F:Fun K "_law_numbers" "_law_numbers" dI f fd) (B:Bt mg):FnOk P w K mg base CX0 1 f fd ["_law_script","_law_many"] (lS K):=by
 refine F.ok bT (fun vs H Q E h=>?_) (fun cdv A outer s H vs Q E hr h=>?_)
 ·obtain⟨a,sc,m,rfl,_⟩:=h;rfl
 ·obtain⟨a,sc,m,rfl,hS,hlen,hm,k⟩:=h;refine⟨_,(aY (aM (i:=2) bT.nd rfl (Or.inl rfl) (bL aC))
 (aY (aM (i:=3) bT.nd rfl (Or.inl rfl) aF)
 (aY (cQ PassesOwn.never rfl (bH (fA gN (pv 0) gL (gM aF))) (aI (i:=4) bT.nd rfl (Or.inl rfl))
 (aY (aM (i:=3) bT.nd rfl (Or.inl rfl) (aK eM (aK bS (aK bS (aK cR (pv 3) aF) (aK eM (pv 4) aF)) aF) aF))
 (aY (aM (i:=5) bT.nd rfl (Or.inl rfl) (aK bV (pv 4) (aK yD aF aF)))
 (pN (cX (aW kH (pv 5) aF (bB _))
 (aH (aR (cT aCB aCC aCD bC (pv 2) (aA (aK eM (pv 4) aF) aC))))
 cB)
 (aH (cQ PassesOwn.never rfl (jI rfl B.range (aA aF aC)) (aI (i:=6) bT.nd rfl (Or.inl rfl))
 (aH (cX (aW kF (pv 5) aF (bB _))
 (aY (aR (cT aCB aCC aCD bC (pv 2) (aA (aK eM (pv 5) aF) aC)))
 (aH (aM (i:=5) bT.nd rfl (Or.inl rfl) (aK uD (pv 5) aF))))
 cB))))))))
 (aE (eZ PassesOwn.never (aW kH (aJ bE (by rfl) B.len PySem.boot_len (aA (pv 2) aC)) (pv 1) (bB _))
 (aY (aM (i:=3) bT.nd rfl (Or.inl rfl) (aK eM (aK bS (aK bS (aK bS (aK cR (pv 3) (pv 3)) (aK cR aF (pv 3))) (aK cR aF (aJ bE (by rfl) B.len PySem.boot_len (aA (pv 2) aC)))) aF) aF))
 (aH (aR (cT aCB aCC aCD bC (pv 2) (aA (aK eM (aK uD (pv 3) aF) aF) aC))))))
 (aH (bF (fA gN (pv 2) gL (gM (pv 1))))))))),?_⟩
  refine fun M1 hM1=>?_;refine⟨by decide,fun l hl=>?_⟩;refine hM1 [some (.ref a),some (.int m),some (.ref l),none,none,none,none] _ ?_;clear hM1 M1;refine fun M1 hM1=>?_;refine hM1 [some (.ref a),some (.int m),some (.ref l),some (.int 59),none,none,none] _ ?_;clear hM1 M1;refine fun M1 hM1=>?_;refine⟨_,rfl,_,rfl,a,sc.map V.int,rfl,(Same.upd hl).seq hS,fun p hp=>?_⟩;obtain⟨ms,ec,hml,hmm⟩:=E5 sc none (some 63);rw[ec];have hpl:p≠l:=fun e=>by subst e;rw[aB]at hp;cases hp
  have hHp:H p=none:=by rw[<- hp,aG hpl]
  refine⟨p,rfl,⟨_,SqL.of aB⟩,cN (K:=K) (a:=p) (xs:=ms.map V.int) (lG H a l p m ms) ?_ ?_ ?_ ?_⟩
  ·exact⟨59,[],none,none,none,rfl,Same.upd' hHp (Same.upd hl),aB,by rw[aG (Ne.symm hpl),aB];rfl,fun _ h=>(by cases h),Nat.le_refl _,by decide,by decide⟩
  ·rintro i σ H2 _ ⟨seed,xs,v1,v2,v3,_,_,e,_⟩;exact SqL.of e
  ·rintro i x σ H2 hi ⟨seed,xs,v1,v2,v3,rfl,sm,ep,el,nx,lx,s0,s1⟩;have hil:i<ms.length:=by
    have:=(aCF.mp hi).1;simpa using this
   obtain⟨z,rfl⟩:∃ z,x=V.int z:=by
    rw[aBs]at hi;cases e:ms[i]? with
    | none=>rw[e]at hi;cases hi
    | some z=>rw[e]at hi;exact⟨z,(Option.some.inj hi).symm⟩
   clear hM1;refine fun M2 hM2=>?_;refine⟨_,rfl,_,_,rfl,rfl,.inr ⟨by decide,by decide⟩,_,rfl,_,_,rfl,rfl,(by show (0:Int)<999983;decide),_,_,rfl,rfl,_,_,rfl,rfl,_,_,rfl,rfl,(by show (0:Int)<2147483563;decide),?_⟩;have t0:0<=sd1 seed z:=Int.emod_nonneg _ (by decide);have t1:sd1 seed z<2147483563:=Int.emod_lt_of_pos _ (by decide);refine hM2 [some (.ref a),some (.int m),some (.ref l),some (.int (sd1 seed z)),some (.int z),v2,v3] _ ?_;clear hM2 M2;refine fun M2 hM2=>?_;refine⟨_,rfl,_,_,rfl,rfl,⟨by decide,by decide,by decide⟩,_,_,rfl,rfl,?_⟩;refine hM2 [some (.ref a),some (.int m),some (.ref l),some (.int (sd1 seed z)),some (.int z),some (.int (rs1 z)),v3] _ ?_;clear hM2 M2;refine⟨lH H a l p m ms i seed z v3,?_,?_⟩
   ·refine⟨_,rfl,_,_,rfl,rfl,_,rfl,iB (fun _=>?_) (fun _=>⟨xs,rfl,sm,ep,el,nx,by omega⟩)⟩;refine⟨_,rfl,.inl ⟨rfl,_,SqL.of el⟩,_,rfl,_,_,rfl,rfl,(by show (0:Int)<9967;decide),l,_,_,rfl,rfl,el,(by rw[aB4];exact aL (by omega)),?_⟩;refine⟨xs++[z % 9967],rfl,Same.upd' hl sm,by rw[aG hpl];exact ep,by rw[aB];simp,?_,by simp;omega⟩;intro n hn;rcases aCH.mp hn with h | h
    ·exact nx n h
    ·rw[aCA.mp h];exact⟨Int.emod_nonneg _ (by decide),Int.emod_lt_of_pos _ (by decide)⟩
   ·rintro σ H3 ⟨ys,rfl,sm3,ep3,el3,nx3,lx3⟩;refine⟨60,rfl,by decide,by decide,jJ (lo:=0) (n:=60) (lI H a l p m ms i seed z)
     ⟨rs1 z,ys,v3,rfl,sm3,ep3,el3,nx3,by omega⟩ ?_ ?_⟩
    ·rintro j σ H4 hj ⟨r,ys,v,rfl,sm4,ep4,el4,nx4,lx4⟩;refine⟨_,rfl,_,_,rfl,rfl,_,rfl,iB (fun hr0=>?_) (fun _=>⟨r,ys,_,rfl,sm4,ep4,el4,nx4,by omega⟩)⟩;refine fun M2 hM2=>?_;refine⟨_,rfl,.inl ⟨rfl,_,SqL.of el4⟩,_,rfl,_,_,rfl,rfl,(by show (0:Int)<1013;decide),l,_,_,rfl,rfl,el4,(by rw[aB4];exact aL (by omega)),?_⟩;refine hM2 [some (.ref a),some (.int m),some (.ref l),some (.int (sd1 seed z)),some (.int z),some (.int r),some (.int (0+(j:Int)))] _ ?_;clear hM2 M2;refine⟨_,rfl,_,_,rfl,rfl,⟨by decide,by decide⟩,?_⟩;refine⟨r / 1013,ys++[r % 1013],_,rfl,Same.upd' hl sm4,by rw[aG hpl];exact ep4,by rw[aB];simp,?_,by simp;omega⟩;intro n hn;rcases aCH.mp hn with h | h
     ·exact nx4 n h
     ·rw[aCA.mp h];have a1:=Int.emod_nonneg r (show (1013:Int)≠0 by decide);have a2:=Int.emod_lt_of_pos r (show (0:Int)<1013 by decide);exact⟨a1,by omega⟩
    ·rintro σ H4 ⟨r,ys,v,rfl,sm4,ep4,el4,nx4,lx4⟩;exact⟨sd1 seed z,ys,_,_,_,rfl,sm4,ep4,el4,nx4,by omega,t0,by omega⟩
  ·rintro σ H2 ⟨seed,xs,v1,v2,v3,rfl,sm,ep,el,nx,lx,s0,s1⟩;have lx':xs.length<=61 * 63:=by
    have:(ms.map V.int).length<=63:=by rw[aB4];omega
    omega
   refine hM1 [some (.ref a),some (.int m),some (.ref l),some (.int seed),v1,v2,v3] _ ?_;clear hM1 M1;refine mR (lJ H a l m v1 v2 v3)
    (fun _ H3=>match H3 l with | some (.lst ys)=>m - ys.length | _=>0) ⟨seed,xs,rfl,sm,el,nx,by omega,s0,s1⟩ ?_ ?_
   ·rintro σ H3 ⟨seed,ys,rfl,sm3,el3,nx3,lx3,q0,q1⟩;refine⟨_,rfl,l,_,rfl,.inl (SqL.of el3),_,rfl,_,_,rfl,rfl,_,rfl,iB (fun hc=>?_) (fun hc=>?_)⟩
    ·rw[aB4]at hc;refine fun M1 hM1=>?_;refine⟨_,rfl,_,rfl,_,_,rfl,rfl,.inl ⟨by omega,by omega⟩,_,rfl,_,_,rfl,rfl,.inl ⟨by decide,by decide⟩,_,_,rfl,rfl,_,rfl,l,_,rfl,.inl (SqL.of el3),_,_,rfl,rfl,.inl ⟨by decide,by decide⟩,_,_,rfl,rfl,_,_,rfl,rfl,_,_,rfl,rfl,(by show (0:Int)<2147483629;decide),?_⟩;refine hM1 [some (.ref a),some (.int m),some (.ref l),some (.int (sd2 seed ys)),v1,v2,v3] _ ?_;clear hM1 M1;have t0:0<=sd2 seed ys:=Int.emod_nonneg _ (by decide);have t1:sd2 seed ys<2147483629:=Int.emod_lt_of_pos _ (by decide);refine⟨_,rfl,.inl ⟨rfl,_,SqL.of el3⟩,_,rfl,_,_,rfl,rfl,⟨by decide,by decide⟩,_,_,rfl,rfl,(by show (0:Int)<9967;decide),l,_,_,rfl,rfl,el3,(by rw[aB4];exact aL (by omega)),?_⟩;refine⟨⟨sd2 seed ys,ys++[sd2 seed ys / 1019 % 9967],rfl,Same.upd' hl sm3,by rw[aB,aBj];rfl,?_,by simp;omega,t0,t1⟩,?_⟩
     ·intro n hn;rcases aCH.mp hn with h | h
      ·exact nx3 n h
      ·rw[aCA.mp h];exact⟨Int.emod_nonneg _ (by decide),Int.emod_lt_of_pos _ (by decide)⟩
     ·simp only[aB,el3,aBd,aB4,List.length_singleton];omega
    ·rw[aB4]at hc;refine⟨_,rfl,_,rfl,_,rfl,l,_,rfl,SqL.of el3,fun p2 hp2=>?_⟩;rw[yM ys m (by omega)];exact k p2 (ys.take m) _ (by simp;omega) (fun n hn=>nx3 n (List.mem_of_mem_take hn)) (sm3.free hp2) (Same.upd' (sm3.free hp2) sm3) aB
   ·intro σ H3 Q1 Q2 hq h;obtain⟨x,e,p2,ys,e2,hq2,z,e3,i,j,e4,e5,b,e6,q⟩:=h;exact⟨x,e,p2,ys,e2,hq2,z,e3,i,j,e4,e5,b,e6,hq _ _ q⟩
abbrev dR:Stmt:=top 44
theorem xW:aQ ["_law_found","_law_due_here"] ["_law_found","_law_due_here"] (aD dR):=⟨rfl,rfl,rfl,by decide +kernel,rfl,by decide +kernel,by decide +kernel⟩
theorem tZ {f:Addr} {fd:FuncData} {n k:Nat} {spR:Sp} (F:Fun K "_law_same" "_law_same" dR f fd) (B:Bt mg) (F_law_same:aX P w K mg base "_law_same" k ["_law_found","_law_due_here"] spR)
 (hsp:∀ m,m+1=n->∀ vs H Q E,oB m vs H Q E->spR vs H Q E):FnOk P w K mg base CX0 (k+1) f fd ["_law_found","_law_due_here"] (oB n):=by
 refine F.ok xW (fun vs H Q E h=>?_) (fun cdv A outer s H vs Q E hr h=>?_)
 ·obtain⟨x,y,d,rfl,_⟩:=h;rfl
 ·obtain⟨x,y,d,rfl,h1,h2,hdep,hsh,hsm,kk⟩:=h;have hu:=hr.units;refine⟨_,(aE (cX (aW O2 (pv 1) M8 (bB _))
 (aH (bF (pK O2 (pv 0) M8 (bB _))))
 cB)
 (aE (cX (hX (aJ E3 (by rfl) B.isinstance bI (aA (pv 1) (aA (cJ (aA (eL (v:=.ty "list") rfl B.list fJ rfl) (aA (eL (v:=.ty "tuple") rfl B.tuple mK rfl) aC))) aC))) (fun _=>rfl))
 (aE (cX (PW.pt (M9 (aW zW (aJ eI (by rfl) B.isinstance bI (aA (pv 0) (aA (eL (v:=.ty "list") rfl B.list fJ rfl) aC))) (aJ eI (by rfl) B.isinstance bI (aA (pv 1) (aA (eL (v:=.ty "list") rfl B.list fJ rfl) aC))) (bB _)) (yA (aW zW (aJ eI (by rfl) B.isinstance bI (aA (pv 0) (aA (eL (v:=.ty "tuple") rfl B.tuple mK rfl) aC))) (aJ eI (by rfl) B.isinstance bI (aA (pv 1) (aA (eL (v:=.ty "tuple") rfl B.tuple mK rfl) aC))) (bB _)))))
 (aH (bF wE))
 cB)
 (aH (bF (N8 (pK kL (aJ bE (by rfl) B.len PySem.boot_len (aA (pv 0) aC)) (aJ bE (by rfl) B.len PySem.boot_len (aA (pv 1) aC)) (bB _)) (N7 (aJ (P0 rfl) (by rfl) B.all P5 (aA (bX ["_law_k"] ["_law_found","_law_due_here"] [0,1] rfl (.of (show cA (aD dR) _ ["_law_found","_law_due_here"] [0,1] ["_law_found","_law_due_here"]=true by decide +kernel)) (jI rfl B.range (aA (aJ bE (by rfl) B.len PySem.boot_len (aA (pv 1) aC)) aC)) (fun _ _ _=>(aI (i:=0) (show (["_law_k","_law_found","_law_due_here"]:List Str).Nodup by decide +kernel) rfl (Or.inl rfl))) (fB (by decide)) (fun _ _ _=>cD) (fun _ _ _=>(aU F_law_same hr rfl (aA (cY (A0 K rfl) (pv 1) (pv 0) (fun _ _=>rfl)) (aA (cY (A0 K rfl) (pv 2) (pv 0) (fun _ _=>rfl)) aC)) (hj:=Nat.le_refl _)))) aC)))))))
 cB)
 (aE (cX (PW.pt (M9 (aW zW (aJ eI (by rfl) B.isinstance bI (aA (pv 0) (aA (eL (v:=.ty "bool") rfl B.bool sV rfl) aC))) (aJ eI (by rfl) B.isinstance bI (aA (pv 1) (aA (eL (v:=.ty "bool") rfl B.bool sV rfl) aC))) (bB _)) (yA (aW zW (aJ eI (by rfl) B.isinstance bI (aA (pv 0) (aA (eL (v:=.ty "str") rfl B.str wJ rfl) aC))) (aJ eI (by rfl) B.isinstance bI (aA (pv 1) (aA (eL (v:=.ty "str") rfl B.str wJ rfl) aC))) (bB _)))))
 (aH (bF wE))
 cB)
 (aH (bF (N8 (pK aA7 (aJ eI (by rfl) B.isinstance bI (aA (pv 0) (aA (eL (v:=.ty "int") rfl B.int wK rfl) aC))) (aJ eI (by rfl) B.isinstance bI (aA (pv 1) (aA (eL (v:=.ty "int") rfl B.int wK rfl) aC))) (bB _)) (N7 (pK (y8 hu) (pv 0) (pv 1) (bB _))))))))),?_⟩
  cases h1 with
  | non =>
   cases h2;exact⟨_,rfl,rfl,_,rfl,sW rfl ⟨_,rfl,rfl,kk H (Same.refl H)⟩⟩
  | bl b =>
   cases h2;refine⟨_,rfl,rfl,_,rfl,iC (by intro h;cases h) ?_⟩;refine⟨_,rfl,(show 2<=sizeLine by decide),fun tp htp=>⟨_,tp,["list","tuple"],.bool b,false,rfl,aB,.bl b,rfl,false,rfl,?_⟩⟩;refine⟨_,rfl,_,"bool",.bool b,true,rfl,.bl b,rfl,_,rfl,_,"bool",.bool b,true,rfl,.bl b,rfl,rfl,_,rfl,?_⟩;refine⟨_,rfl,_,"str",.bool b,false,rfl,.bl b,rfl,_,rfl,_,"str",.bool b,false,rfl,.bl b,rfl,rfl,_,rfl,?_⟩;refine⟨_,rfl,_,"int",.bool b,true,rfl,.bl b,rfl,_,rfl,_,"int",.bool b,true,rfl,.bl b,rfl,rfl,_,rfl,?_⟩;refine⟨_,rfl,_,rfl,_,_,.bl b,.bl b,hsh,hsh,?_⟩;rw[nB hsh];exact kk _ (Same.upd htp)
  | int b =>
   cases h2;refine⟨_,rfl,rfl,_,rfl,iC (by intro h;cases h) ?_⟩;refine⟨_,rfl,(show 2<=sizeLine by decide),fun tp htp=>⟨_,tp,["list","tuple"],.int b,false,rfl,aB,.int b,rfl,false,rfl,?_⟩⟩;refine⟨_,rfl,_,"bool",.int b,false,rfl,.int b,rfl,_,rfl,_,"bool",.int b,false,rfl,.int b,rfl,rfl,_,rfl,?_⟩;refine⟨_,rfl,_,"str",.int b,false,rfl,.int b,rfl,_,rfl,_,"str",.int b,false,rfl,.int b,rfl,rfl,_,rfl,?_⟩;refine⟨_,rfl,_,"int",.int b,true,rfl,.int b,rfl,_,rfl,_,"int",.int b,true,rfl,.int b,rfl,rfl,_,rfl,?_⟩;refine⟨_,rfl,_,rfl,_,_,.int b,.int b,hsh,hsh,?_⟩;rw[nB hsh];exact kk _ (Same.upd htp)
  | str b =>
   cases h2;refine⟨_,rfl,rfl,_,rfl,iC (by intro h;cases h) ?_⟩;refine⟨_,rfl,(show 2<=sizeLine by decide),fun tp htp=>⟨_,tp,["list","tuple"],.str b,false,rfl,aB,.str b,rfl,false,rfl,?_⟩⟩;refine⟨_,rfl,_,"bool",.str b,false,rfl,.str b,rfl,_,rfl,_,"bool",.str b,false,rfl,.str b,rfl,rfl,_,rfl,?_⟩;refine⟨_,rfl,_,"str",.str b,true,rfl,.str b,rfl,_,rfl,_,"str",.str b,true,rfl,.str b,rfl,rfl,_,rfl,?_⟩;refine⟨_,rfl,_,"int",.str b,false,rfl,.str b,rfl,_,rfl,_,"int",.str b,false,rfl,.str b,rfl,rfl,_,rfl,?_⟩;refine⟨_,rfl,_,rfl,_,_,.str b,.str b,hsh,hsh,?_⟩;rw[nB hsh];exact kk _ (Same.upd htp)
  | @lst a1 us ds ea ta =>
   cases h2 with
   | @lst a2 ws _ eb tb =>
    have hlu:=ta.length;have hlw:=tb.length;have hsm':=hsm;simp only[sml,Bool.and_eq_true,decide_eq_true_eq]at hsm';have hlen2:ws.length<=5000:=by omega
    have hln:(5000:Nat)<sizeLine:=by decide
    refine⟨_,rfl,rfl,_,rfl,iC (by intro h;cases h) ?_⟩;refine⟨_,rfl,(show 2<=sizeLine by decide),fun tp htp=>?_⟩;have sm0:=Same.upd (o:=.tup [V.ty "list",V.ty "tuple"]) htp;refine⟨_,tp,["list","tuple"],.list ds,true,rfl,aB,(Den.lst eb tb).mono sm0,rfl,true,rfl,?_⟩;generalize upd H tp (.tup [V.ty "list",V.ty "tuple"])=H0 at sm0 ⊢;have d1:=(Den.lst ea ta).mono sm0;have d2:=(Den.lst eb tb).mono sm0;refine⟨_,rfl,_,"list",.list ds,true,rfl,d1,rfl,_,rfl,_,"list",.list ds,true,rfl,d2,rfl,rfl,_,rfl,?_⟩;refine⟨_,rfl,_,"tuple",.list ds,false,rfl,d1,rfl,_,rfl,_,"tuple",.list ds,false,rfl,d2,rfl,rfl,_,rfl,?_⟩;refine⟨_,rfl,a1,_,rfl,.inl (SqL.of (sm0 _ _ ea)),_,rfl,a2,_,rfl,.inl (SqL.of (sm0 _ _ eb)),_,_,rfl,rfl,_,rfl,sW (by omega) ?_⟩;refine⟨_,rfl,a2,_,rfl,.inl (SqL.of (sm0 _ _ eb)),_,rfl,by omega,by omega,mJ (lo:=0) (fun i ys H2=>Same H0 H2/\ys=List.replicate i (V.bl true)) ⟨Same.refl _,rfl⟩ ?_ ?_ ?_⟩
    ·rintro i ys H2 hi ⟨sm,rfl⟩;rw[aBo];omega
    ·rintro i ys H2 hi ⟨sm,rfl⟩;have hi':i<ds.length:=by omega
     obtain⟨v1,e1,q1⟩:=ta.get (i:=i) (d:=ds[i]) (by simp[hi']);obtain⟨v2,e2,q2⟩:=tb.get (i:=i) (d:=ds[i]) (by simp[hi']);have em:ds[i]∈ds:=List.getElem_mem hi';have sm1:Same H H2:=sm0.trans sm;have ez:(0:Int)+(i:Int)=(i:Int):=by omega
     refine⟨_,rfl,_,rfl,.inl ⟨a1,_,_,_,rfl,rfl,SqL.of (sm1 _ _ ea),(by rw[ez];exact iV e1),_,rfl,_,rfl,.inl ⟨a2,_,_,_,rfl,rfl,SqL.of (sm1 _ _ eb),(by rw[ez];exact iV e2),?_⟩⟩⟩;have hd1:=sY em;have hdd:PyData.depthAll ds+1<=n:=hdep;refine hsp (n - 1) (by omega) _ _ _ _ ⟨v1,v2,ds[i],rfl,q1.mono sm1,q2.mono sm1,by omega,?_,A3 em hsm'.2,fun H3 sm3=>⟨sm.trans sm3,by rw[List.replicate_succ']⟩⟩;have c1:PyData.canLayAll0 ds=true:=SeqAt.canLay_of_shaped hsh;have c2:=SeqAt.depth_of_shaped hsh;have c3:PyData.depthAll ds+1<=64:=c2;simp only[SeqAt.shaped,qM em c1,Bool.true_and];exact aBq (by omega)
    ·rintro ys H2 ⟨sm,rfl⟩ D hD;refine⟨D,List.replicate _ true,rfl,by rw[aB,List.map_replicate],?_⟩;have:∀ k:Nat,(List.replicate k true).all id=true:=fun k=>by simp
     rw[this];exact kk _ ((sm0.trans sm).trans (Same.upd hD))
  | @tup a1 us ds ea ta =>
   cases h2 with
   | @tup a2 ws _ eb tb =>
    have hlu:=ta.length;have hlw:=tb.length;have hsm':=hsm;simp only[sml,Bool.and_eq_true,decide_eq_true_eq]at hsm';have hlen2:ws.length<=5000:=by omega
    have hln:(5000:Nat)<sizeLine:=by decide
    refine⟨_,rfl,rfl,_,rfl,iC (by intro h;cases h) ?_⟩;refine⟨_,rfl,(show 2<=sizeLine by decide),fun tp htp=>?_⟩;have sm0:=Same.upd (o:=.tup [V.ty "list",V.ty "tuple"]) htp;refine⟨_,tp,["list","tuple"],.tuple ds,true,rfl,aB,(Den.tup eb tb).mono sm0,rfl,true,rfl,?_⟩;generalize upd H tp (.tup [V.ty "list",V.ty "tuple"])=H0 at sm0 ⊢;have d1:=(Den.tup ea ta).mono sm0;have d2:=(Den.tup eb tb).mono sm0;refine⟨_,rfl,_,"list",.tuple ds,false,rfl,d1,rfl,_,rfl,_,"list",.tuple ds,false,rfl,d2,rfl,rfl,_,rfl,?_⟩;refine⟨_,rfl,_,"tuple",.tuple ds,true,rfl,d1,rfl,_,rfl,_,"tuple",.tuple ds,true,rfl,d2,rfl,rfl,_,rfl,?_⟩;refine⟨_,rfl,a1,_,rfl,.inr (SqT.of (sm0 _ _ ea)),_,rfl,a2,_,rfl,.inr (SqT.of (sm0 _ _ eb)),_,_,rfl,rfl,_,rfl,sW (by omega) ?_⟩;refine⟨_,rfl,a2,_,rfl,.inr (SqT.of (sm0 _ _ eb)),_,rfl,by omega,by omega,mJ (lo:=0) (fun i ys H2=>Same H0 H2/\ys=List.replicate i (V.bl true)) ⟨Same.refl _,rfl⟩ ?_ ?_ ?_⟩
    ·rintro i ys H2 hi ⟨sm,rfl⟩;rw[aBo];omega
    ·rintro i ys H2 hi ⟨sm,rfl⟩;have hi':i<ds.length:=by omega
     obtain⟨v1,e1,q1⟩:=ta.get (i:=i) (d:=ds[i]) (by simp[hi']);obtain⟨v2,e2,q2⟩:=tb.get (i:=i) (d:=ds[i]) (by simp[hi']);have em:ds[i]∈ds:=List.getElem_mem hi';have sm1:Same H H2:=sm0.trans sm;have ez:(0:Int)+(i:Int)=(i:Int):=by omega
     refine⟨_,rfl,_,rfl,.inr (.inl ⟨a1,_,_,_,rfl,rfl,SqT.of (sm1 _ _ ea),(by rw[ez];exact iV e1),_,rfl,_,rfl,.inr (.inl ⟨a2,_,_,_,rfl,rfl,SqT.of (sm1 _ _ eb),(by rw[ez];exact iV e2),?_⟩)⟩)⟩;have hd1:=sY em;have hdd:PyData.depthAll ds+1<=n:=hdep;refine hsp (n - 1) (by omega) _ _ _ _ ⟨v1,v2,ds[i],rfl,q1.mono sm1,q2.mono sm1,by omega,?_,A3 em hsm'.2,fun H3 sm3=>⟨sm.trans sm3,by rw[List.replicate_succ']⟩⟩;have c1:PyData.canLayAll0 ds=true:=SeqAt.canLay_of_shaped hsh;have c2:=SeqAt.depth_of_shaped hsh;have c3:PyData.depthAll ds+1<=64:=c2;simp only[SeqAt.shaped,qM em c1,Bool.true_and];exact aBq (by omega)
    ·rintro ys H2 ⟨sm,rfl⟩ D hD;refine⟨D,List.replicate _ true,rfl,by rw[aB,List.map_replicate],?_⟩;have:∀ k:Nat,(List.replicate k true).all id=true:=fun k=>by simp
     rw[this];exact kk _ ((sm0.trans sm).trans (Same.upd hD))
theorem n6 {f:Addr} {fd:FuncData} (F:Fun K "_law_same" "_law_same" dR f fd) (B:Bt mg) (hmg:mg "_law_same"=some (.ref f)) (hb:Binds K fd ["_law_found","_law_due_here"] []) :
 ∀ n,FnOk P w K mg base CX0 (n+1) f fd ["_law_found","_law_due_here"] (oB n):=by
 intro n
 induction n with
 | zero =>
  refine tZ (k:=0) (spR:=fun _ _ _ _=>False) F B ⟨f,fd,⟨fun _ _ _ _ h=>h.elim,fun _ _ _ _ _ _ _ _ _ _ _ _ _ h=>h.elim⟩,hmg,F.kp,hb⟩ fun m hm=>?_;omega
 | succ n ih =>
  refine tZ F B ⟨f,fd,ih,hmg,F.kp,hb⟩ fun m hm vs H Q E h=>?_;obtain rfl:m=n:=by omega
  exact h
abbrev hW:Stmt:=top 45
theorem fR:aQ ["_law_d","_law_most","_law_place","_law_row_here","_law_k","_law_step"] ["_law_d","_law_most"] (aD hW):=⟨rfl,rfl,rfl,by decide +kernel,rfl,by decide +kernel,by decide +kernel⟩
inductive rS (H:Hp) (a:Addr) (l:Addr) (m:Nat) (i:Nat) (σ:St) (H2:Hp):Prop
 | mk (place:Int) (row:List Int) (v1 v2:Option V) (k0_:σ=[some (.ref a),some (.int m),some (.int place),some (.ref l),v1,v2]) (k1_:Same H H2) (k2_:H2 l=some (.lst (row.map V.int))) (k3_:Row row) (k4_:row.length=i) (k5_:-15<=place) (k6_:place<=15+12 * i) (k7_:∀ x∈row,-15<=x/\x<=place):rS H a l m i σ H2
theorem aAU {f:Addr} {fd:FuncData} (F:Fun K "_law_row" "_law_row" hW f fd) (B:Bt mg):FnOk P w K mg base CX0 1 f fd ["_law_d","_law_most"] vS:=by
 refine F.ok fR (fun vs H Q E h=>?_) (fun cdv A outer s H vs Q E hr h=>?_)
 ·obtain⟨a,ns,m,rfl,_⟩:=h;rfl
 ·obtain⟨a,ns,m,rfl,ha,hns,hlen,hm,k⟩:=h;refine⟨_,(aE (aM (i:=2) fR.nd rfl (Or.inl rfl) (aK bV (aK eM (cY cC (pv 0) aF (fun _ _=>rfl)) aF) aF))
 (aE (aM (i:=3) fR.nd rfl (Or.inl rfl) (bL aC))
 (aE (cQ PassesOwn.never rfl (jI rfl B.range (aA (aK eM (cY cC (pv 0) aF (fun _ _=>rfl)) (aK bS (pv 1) aF)) aC)) (aI (i:=4) fR.nd rfl (Or.inl rfl))
 (aE (aM (i:=5) fR.nd rfl (Or.inl rfl) (cY cC (pv 0) (aK bS aF (pv 4)) (fun _ _=>rfl)))
 (aE (aM (i:=2) fR.nd rfl (Or.inl rfl) (aK bS (aK bS (pv 2) aF) (yL (qB (aW kL (aK eM (pv 5) aF) aF (bB _)) aF (aK eM (aK uD (pv 5) aF) (cY cC (bL (aA aF (aA aF (aA aF (aA aF aC))))) (aK eM (cY cC (pv 0) aF (fun _ _=>rfl)) aF) (fun _ _=>rfl)))))))
 (aH (aR (cT aCB aCC aCD bC (pv 3) (aA (pv 2) aC)))))))
 (aH (bF (pv 3)))))),?_⟩
  obtain⟨n0,m0,_,e0⟩:=jF (ns:=ns) (i:=0) (by omega) (by omega);obtain⟨n1,m1,_,e1⟩:=jF (ns:=ns) (i:=1) (by omega) (by omega);obtain⟨n2,m2,_,e2⟩:=jF (ns:=ns) (i:=2) (by omega) (by omega);have p1:(0:Int)<(m:Int)+1:=by omega
  have q1:=Int.emod_nonneg n1 (show ((m:Int)+1)≠0 by omega);have q2:=Int.emod_lt_of_pos n1 p1;have r1:=Int.emod_nonneg n0 (show (31:Int)≠0 by decide);have r2:=Int.emod_lt_of_pos n0 (show (0:Int)<31 by decide);refine⟨_,rfl,a,_,_,_,rfl,rfl,SqL.of ha,e0,_,_,rfl,rfl,(by show (0:Int)<31;decide),_,_,rfl,rfl,by decide,fun l hl=>?_⟩;have ha':=Same.upd (o:=.lst []) hl _ _ ha;refine⟨_,rfl,a,_,_,_,rfl,rfl,SqL.of ha',e1,_,rfl,_,_,rfl,rfl,_,_,rfl,rfl,p1,_,rfl,by omega,by omega,
   jJ (lo:=0) (n:=(n1 % ((m:Int)+1)).toNat) (rS H a l m) ⟨_,[],none,none,rfl,Same.upd hl,aB,List.Pairwise.nil,rfl,by omega,by omega,fun x hx=>by cases hx⟩ ?_ ?_⟩
  ·rintro i σ H2 hi ⟨place,row,v1,v2,rfl,sm,el,hrow,hrl,h1,h2,hx⟩;obtain⟨st,ms,_,es⟩:=jF (ns:=ns) (i:=3+(0+(i:Int))) (by omega) (by omega);refine⟨_,rfl,_,rfl,_,_,rfl,rfl,a,_,_,_,rfl,rfl,SqL.of (sm _ _ ha),es,?_⟩;refine⟨_,rfl,_,_,rfl,rfl,fun v H3=>∃ d:Int,v=.int d/\0<=d/\d<=11/\(H3=H2\/∃ p xs,H2 p=none/\H3=upd H2 p (.lst xs)),?_,?_⟩
   ·refine⟨_,rfl,_,_,rfl,rfl,(by show (0:Int)<3;decide),_,_,rfl,rfl,_,rfl,iB (fun _=>⟨0,rfl,by decide,by decide,.inl rfl⟩) (fun _=>?_)⟩;refine⟨_,rfl,_,_,rfl,rfl,⟨by decide,by decide⟩,(by show 4<=sizeLine;decide),fun p hp=>?_⟩;obtain⟨w',mw,_,ew⟩:=jF (ns:=[2,3,5,12]) (i:=n2 % 4) (Int.emod_nonneg _ (by decide)) (Int.emod_lt_of_pos _ (by decide));refine⟨_,rfl,a,_,_,_,rfl,rfl,SqL.of ((Same.upd hp) _ _ (sm _ _ ha)),e2,_,_,rfl,rfl,(by show (0:Int)<4;decide),p,_,_,_,rfl,rfl,SqL.of aB,ew,_,_,rfl,rfl,?_,_,rfl,?_,?_,.inr ⟨p,_,hp,rfl⟩⟩
    ·simp at mw;omega
    ·exact Int.emod_nonneg _ (by simp at mw;omega)
    ·have:=Int.emod_lt_of_pos (st / 3) (show (0:Int)<w' by simp at mw;omega);simp at mw;show st / 3 % w'<=11;omega
   ·rintro v H3 ⟨d,rfl,d0,d1,hH3⟩;have sm3:Same H H3:=by
     rcases hH3 with e | ⟨p,xs,hp,e⟩
     ·rw[e];exact sm
     ·rw[e];exact Same.upd' (sm.free hp) sm
    have el3:H3 l=some (.lst (row.map V.int)):=by
     rcases hH3 with e | ⟨p,xs,hp,e⟩
     ·rw[e];exact el
     ·rw[e,aG (aV el hp)];exact el
    refine⟨_,_,rfl,rfl,_,rfl,.inl ⟨rfl,_,SqL.of el3⟩,_,rfl,l,_,_,rfl,rfl,el3,(by rw[aB4];exact aL (by omega)),?_⟩;refine⟨place+1+d,row++[place+1+d],_,_,rfl,Same.upd' hl sm3,by rw[aB,aBj];rfl,qL hrow fun y hy=>?_,by simp[hrl],by omega,by omega,fun x hx'=>?_⟩
    ·have:=hx y hy;omega
    ·rcases aCH.mp hx' with h | h
     ·have:=hx x h;omega
     ·rw[aCA.mp h];omega
  ·rintro σ H2 ⟨place,row,v1,v2,rfl,sm,el,hrow,hrl,h1,h2,hx⟩;exact⟨_,rfl,k row hrow (by omega) (fun x h=>by have:=hx x h;refine⟨this.1,?_⟩;omega) l H2 hl sm el⟩
abbrev dE:Stmt:=top 46
theorem sG:aQ ["_law_row_here"] ["_law_row_here"] (aD dE):=⟨rfl,rfl,rfl,by decide +kernel,rfl,by decide +kernel,by decide +kernel⟩
theorem M4 {f:Addr} {fd:FuncData} (F:Fun K "_law_turned" "_law_turned" dE f fd) (B:Bt mg):FnOk P w K mg base CX0 1 f fd ["_law_row_here"] kO:=by
 refine F.ok sG (fun vs H Q E h=>?_) (fun cdv A outer s H vs Q E hr h=>?_)
 ·obtain⟨a,r,rfl,_⟩:=h;rfl
 ·obtain⟨a,row,rfl,ha,hlen,k⟩:=h;refine⟨_,(aH (bF (bX ["_law_place"] [] [] rfl (.of (show cA (aD dE) _ ["_law_row_here"] [] []=true by decide +kernel)) (bH (P2 (pv 0))) (fun _ _ _=>(aI (i:=0) (show (["_law_place"]:List Str).Nodup by decide +kernel) rfl (Or.inl rfl))) (fB (by decide)) (fun _ _ _=>cD) (fun _ _ _=>(gK eF (pv 0)))))),?_⟩;refine⟨_,rfl,a,_,rfl,SqL.of ha,fun p hp=>⟨p,rfl,⟨_,SqL.of aB⟩,bP (xs:=row.reverse.map V.int) (fun i ys H2=>H2=upd H p (.lst (row.reverse.map V.int))/\ys=((row.reverse.take i).map (fun z=>-z)).map V.int) ⟨by rw[List.map_reverse],rfl⟩ ?_ ?_ ?_⟩⟩
  ·rintro i ys H2 hi ⟨rfl,rfl⟩;exact⟨SqL.of aB,mZ _ _ (by rw[aB4,List.length_reverse]at hi;omega) _⟩
  ·rintro i x ys H2 hi ⟨rfl,rfl⟩;obtain⟨z,rfl,hz⟩:=eO hi;exact⟨_,rfl,_,rfl,rfl,qI _ hz⟩
  ·rintro ys H2 ⟨rfl,rfl⟩ D hD;have hpD:D≠p:=fun e=>by rw[e,aB]at hD;cases hD
   have hHD:H D=none:=by rw[aG hpD]at hD;exact hD
   refine k D _ hHD (Same.upd' hHD (Same.upd hp)) ?_;rw[aB,aB4,aBi];rfl
abbrev eX:Stmt:=top 47
theorem eC:aQ ["_law_row_here","_law_creel","_law_fresh","_law_load","_law_niche"] ["_law_row_here","_law_creel"] (aD eX):=⟨rfl,rfl,rfl,by decide +kernel,rfl,by decide +kernel,by decide +kernel⟩
inductive nX (H:Hp) (a:Addr) (l:Addr) (c:Int) (row:List Int) (i:Nat) (σ:St) (H2:Hp):Prop
 | mk (fs:List Int) (ld:Nat) (v:Option V) (k0_:σ=[some (.ref a),some (.int c),some (.ref l),some (.int ld),v]) (k1_:Same H H2) (k2_:H2 l=some (.lst (fs.map V.int))) (k3_:Mid row c (loM row+i) fs ld) (k4_:(ld=0\/(ld:Int)+(loM row+i)<=hiM row+1+row.length)):nX H a l c row i σ H2
theorem X3 {f:Addr} {fd:FuncData} (F:Fun K "_law_plain" "_law_plain" eX f fd) (B:Bt mg):FnOk P w K mg base CX0 1 f fd ["_law_row_here","_law_creel"] lC:=by
 refine F.ok eC (fun vs H Q E h=>?_) (fun cdv A outer s H vs Q E hr h=>?_)
 ·obtain⟨a,r,c,rfl,_⟩:=h;rfl
 ·obtain⟨a,row,c,rfl,ha,hrow,hlen,hb,k⟩:=h;refine⟨_,(aE (aM (i:=2) eC.nd rfl (Or.inl rfl) (bL aC))
 (aE (aM (i:=3) eC.nd rfl (Or.inl rfl) aF)
 (aE (cQ PassesOwn.never rfl (sM rfl B.range (aA (G3 rfl rfl B.min (pv 0) aF) (aA (aK bS (aK bS (oD rfl rfl B.max (pv 0) aF) (aJ bE (by rfl) B.len PySem.boot_len (aA (pv 0) aC))) aF) aC))) (aI (i:=4) eC.nd rfl (Or.inl rfl))
 (aH (cX (PW.pt (qA (aW sR (pv 4) (pv 0) (by with_unfolding_all rfl)) (mQ (aW kH (pv 3) (pv 1) (bB _)))))
 (aH (jD (i:=3) eC.nd rfl (Or.inl rfl) aF mI))
 (aH (cX (aW sR (pv 4) (pv 0) (by with_unfolding_all rfl))
 (aH (aR (cT aCB aCC aCD bC (pv 2) (aA (pv 4) aC))))
 (aH (cX (aW kF (pv 3) aF (bB _))
 (aE (jD (i:=3) eC.nd rfl (Or.inl rfl) aF yB)
 (aH (aR (cT aCB aCC aCD bC (pv 2) (aA (pv 4) aC)))))
 cB)))))))
 (aH (bF (pv 2)))))),?_⟩
  obtain⟨b1,b2,b3,b4,b5⟩:=aAk hb (by decide);refine⟨by decide,fun l hl=>?_⟩;have ha':=Same.upd (o:=.lst []) hl _ _ ha;refine⟨_,rfl,a,row,rfl,SqL.of ha',_,rfl,a,row,rfl,SqL.of ha',_,rfl,a,_,rfl,.inl (SqL.of ha'),?_⟩;rw[z8,z9];refine⟨_,_,rfl,rfl,_,_,rfl,rfl,_,_,rfl,⟨by omega,by omega,by rw[aB4];omega,by rw[aB4];omega⟩,
   jJ (lo:=loM row) (nX H a l c row)
   ⟨[],0,none,rfl,Same.upd hl,aB,G4 _ _ _ (fun x hx=>by have:=b1 x hx;omega),.inl rfl⟩ ?_ ?_⟩
  ·rintro i σ H2 hi ⟨fs,ld,v,rfl,sm,el,md,hd⟩;have hle:=Q5 md;have en:loM row+((i+1:Nat):Int)=loM row+(i:Int)+1:=by omega
   have hbnd:∀ ld':Nat,loM row+(i:Int)∈row->ld'<=row.length->(ld'=0\/(ld':Int)+(loM row+((i+1:Nat):Int))<=hiM row+1+row.length):=fun ld' hin hl'=>by
    have:=b1 _ hin;exact .inr (by omega)
   refine⟨_,rfl,_,rfl,a,_,rfl,.inl (SqL.of (sm _ _ ha)),rfl,jN _,_,rfl,?_⟩;rw[show (if false=true then !inV (V.int (loM row+(i:Int))) (row.map V.int)else inV (V.int (loM row+(i:Int))) (row.map V.int))=decide (loM row+(i:Int)∈row) from kQ _ _];refine iB (fun hin=>?_) (fun hout=>?_)
   ·have mi:=aAA md hrow hin;refine⟨_,rfl,_,rfl,_,_,rfl,rfl,_,rfl,iB (fun hc=>?_) (fun hc=>?_)⟩
    ·rw[if_pos hc]at mi;refine⟨_,rfl,_,_,rfl,rfl,fs,ld+1,_,rfl,sm,el,by rw[en];exact mi,hbnd _ hin (by have:=Q5 mi;omega)⟩
    ·rw[if_neg hc]at mi;refine⟨_,rfl,_,rfl,a,_,rfl,.inl (SqL.of (sm _ _ ha)),rfl,jN _,_,rfl,?_⟩;rw[show (if false=true then !inV (V.int (loM row+(i:Int))) (row.map V.int)else inV (V.int (loM row+(i:Int))) (row.map V.int))=decide (loM row+(i:Int)∈row) from kQ _ _];refine sW hin ?_;refine⟨_,rfl,.inl ⟨rfl,_,SqL.of el⟩,_,rfl,l,_,_,rfl,rfl,el,(by rw[aB4];exact aL (by omega)),?_⟩;exact⟨fs++[loM row+(i:Int)],ld,_,rfl,Same.upd' hl sm,by rw[aB,aBj];rfl,by rw[en];exact mi,hbnd _ hin (by omega)⟩
   ·have mo:=Y8 md hout;refine⟨_,rfl,_,rfl,a,_,rfl,.inl (SqL.of (sm _ _ ha)),rfl,jN _,_,rfl,?_⟩;rw[show (if false=true then !inV (V.int (loM row+(i:Int))) (row.map V.int)else inV (V.int (loM row+(i:Int))) (row.map V.int))=decide (loM row+(i:Int)∈row) from kQ _ _];refine iC hout ?_;refine⟨_,rfl,_,_,rfl,rfl,_,rfl,iB (fun h0=>?_) (fun h0=>?_)⟩
    ·obtain⟨ld',rfl⟩:∃ ld',ld=ld'+1:=⟨ld - 1,by omega⟩;refine⟨_,rfl,_,_,rfl,rfl,?_⟩;refine⟨_,rfl,.inl ⟨rfl,_,SqL.of el⟩,_,rfl,l,_,_,rfl,rfl,el,(by rw[aB4];exact aL (by omega)),?_⟩;refine⟨fs++[loM row+(i:Int)],ld',some (.int (loM row+(i:Int))),?_,Same.upd' hl sm,by rw[aB,aBj];rfl,by rw[en];exact mo,by omega⟩;have e1:((ld'+1:Nat):Int) - 1=(ld':Int):=by omega
     show [some (V.ref a),some (V.int c),some (V.ref l),some (V.int (((ld'+1:Nat):Int) - 1)),some (V.int (loM row+(i:Int)))]=_;rw[e1]
    ·have h00:ld=0:=by omega
     subst h00;exact⟨fs,0,_,rfl,sm,el,by rw[en];exact mo,.inl rfl⟩
  ·rintro σ H2 ⟨fs,ld,v,rfl,sm,el,md,hd⟩;rw[aB4]at md hd;have h0:ld=0:=by omega
   subst h0;have e:=Y9 md (fun x hx=>by have:=b1 x hx;omega);rw[e]at el;exact⟨_,rfl,k l H2 hl sm el⟩
abbrev cI:Stmt:=top 48
theorem nY:aQ ["_law_row_here","_law_creel"] ["_law_row_here","_law_creel"] (aD cI):=⟨rfl,rfl,rfl,by decide +kernel,rfl,by decide +kernel,by decide +kernel⟩
theorem sH {f:Addr} {fd:FuncData} (F:Fun K "_law_plain_back" "_law_plain_back" cI f fd) (B:Bt mg) (F_law_turned:aX P w K mg base "_law_turned" 1 ["_law_row_here"] kO) (F_law_plain:aX P w K mg base "_law_plain" 1 ["_law_row_here","_law_creel"] lC):FnOk P w K mg base CX0 2 f fd ["_law_row_here","_law_creel"] gT:=by
 refine F.ok nY (fun vs H Q E h=>?_) (fun cdv A outer s H vs Q E hr h=>?_)
 ·obtain⟨a,r,c,rfl,_⟩:=h;rfl
 ·obtain⟨a,row,c,rfl,ha,hrow,hlen,hc,hb,k⟩:=h;refine⟨_,(aH (bF (aU F_law_turned hr rfl (aA (aU F_law_plain hr rfl (aA (aU F_law_turned hr rfl (aA (pv 0) aC)) (aA (pv 1) aC))) aC)))),?_⟩;refine⟨_,rfl,a,row,rfl,ha,hlen,fun q1 H1 hq1 s1 e1=>?_⟩;refine⟨_,rfl,q1,mD row,c,rfl,e1,qN hrow,by rw[jL];exact hlen,hb.mir,fun q2 H2 hq2 s2 e2=>?_⟩;refine⟨q2,_,rfl,e2,by rw[gX,jL];exact hlen,fun q3 H3 hq3 s3 e3=>?_⟩;exact k q3 H3 ((s1.trans s2).free hq3) ((s1.trans s2).trans s3) e3
abbrev fS:Stmt:=top 49
theorem lK:aQ ["_law_row_here","_law_found","_law_place"] ["_law_row_here"] (aD fS):=⟨rfl,rfl,rfl,by decide +kernel,rfl,by decide +kernel,by decide +kernel⟩
theorem n8 {f:Addr} {fd:FuncData} (F:Fun K "_law_runs" "_law_runs" fS f fd) (B:Bt mg):FnOk P w K mg base CX0 1 f fd ["_law_row_here"] qJ:=by
 refine F.ok lK (fun vs H Q E h=>?_) (fun cdv A outer s H vs Q E hr h=>?_)
 ·obtain⟨a,r,rfl,_⟩:=h;rfl
 ·obtain⟨a,row,rfl,ha,hlen,k⟩:=h;have hu:=hr.units;refine⟨_,(aE (aM (i:=1) lK.nd rfl (Or.inl rfl) (bL aC))
 (aE (cQ PassesOwn.never rfl (bH (pv 0)) (aI (i:=2) lK.nd rfl (Or.inl rfl))
 (aH (cX (PW.pt (qA (aW (uK hu) (pv 1) (bL aC) (bB _)) (mQ (aW kL (cY qF (cY cC (pv 1) (gK eF aF) (fun _ _=>rfl)) aF (fun _ _=>rfl)) (aK bV (pv 2) aF) (bB _)))))
 (aH (qC (cJ (aA (cY qF (cY cC (pv 1) (gK eF aF) (fun _ _=>rfl)) aF (fun _ _=>rfl)) (aA (pv 2) aC))) (uC (pv 1) (gK eF aF) mT)))
 (aH (aR (cT aCB aCC aCD bC (pv 1) (aA (cJ (aA (pv 2) (aA (pv 2) aC))) aC)))))))
 (aH (bF (pv 1))))),?_⟩
  refine⟨by decide,fun l hl=>?_⟩;refine⟨_,rfl,a,rfl,⟨_,SqL.of (Same.upd hl _ _ ha)⟩,cN (K:=K) (a:=a) (xs:=row.map V.int) (fun i σ H2=>∃ (us:List V) (v:Option V),σ=[some (.ref a),some (.ref l),v]/\Same H H2/\H2 l=some (.lst us)/\Prs H2 us (cZ (row.take i))/\us.length<=i)
   ⟨[],none,rfl,Same.upd hl,aB,.nil,Nat.le_refl _⟩ (fun i σ H2 _ ⟨us,v,_,sm,_⟩=>SqL.of (sm _ _ ha)) ?_ ?_⟩
  ·rintro i x σ H1 hi ⟨us,v,rfl,sm1,el1,pr1,hul⟩;have hil:i<row.length:=by
    have:=(aCF.mp hi).1;simpa using this
   obtain⟨z,rfl,hz⟩:=eO hi;refine⟨_,rfl,by decide,fun p0 hp0=>?_⟩;have sm:Same H (upd H1 p0 (.lst [])):=Same.upd' (sm1.free hp0) sm1;have el:(upd H1 p0 (.lst [])) l=some (.lst us):=by rw[aG (aV el1 hp0)];exact el1
   have pr:Prs (upd H1 p0 (.lst [])) us (cZ (row.take i)):=Prs.mono (TupS.new hp0) pr1;have e0:(upd H1 p0 (.lst [])) p0=some (.lst []):=aB;generalize upd H1 p0 (.lst [])=H2 at sm el pr e0;refine⟨_,_,.lst el pr.dens,.lst e0 .nil,jW _,rfl,_,rfl,?_⟩;rcases List.eq_nil_or_concat (cZ (row.take i))with e | ⟨ps,q,e⟩
   ·have eu:us=[]:=by rw[e]at pr;cases pr;rfl
    rw[e];refine⟨_,rfl,.inl ⟨rfl,_,SqL.of el⟩,_,rfl,_,rfl,(show 2<=sizeLine by decide),fun t ht=>?_⟩;have el':(upd H2 t (.tup [.int z,.int z])) l=some (.lst us):=by rw[aG (aV el ht)];exact el
    refine⟨l,us,_,rfl,rfl,el',aL (by omega),us++[.ref t],_,rfl,Same.upd' hl (Same.upd' (sm.free ht) sm),aB,?_,by simp;omega⟩;rw[<- gY hz,e,sX,eu];exact .cons ⟨t,rfl,by rw[aG (Ne.symm (aV el ht)),aB]⟩ .nil
   ·rw[List.concat_eq_append]at e;have pr':=pr;rw[e]at pr';obtain⟨us',u,eu,pr1',t0,ru,ht0⟩:=Paired.split_last pr';subst eu ru;have ne:PyData.eqv (.list ((cZ (row.take i)).map pD)) (.list [])=false:=by
     rw[e];cases ps <;> rfl
    rw[ne]
    by_cases hq:q.2=z - 1
    ·refine⟨_,rfl,_,rfl,l,_,_,_,rfl,rfl,SqL.of el,hZ _ _,t0,_,_,_,rfl,rfl,SqT.of ht0,rfl,_,rfl,_,_,rfl,rfl,_,_,rfl,rfl,_,rfl,sW hq ?_⟩;refine⟨_,rfl,_,rfl,l,_,_,_,rfl,rfl,SqL.of el,hZ _ _,t0,_,_,_,rfl,rfl,SqT.of ht0,rfl,_,rfl,(show 2<=sizeLine by decide),fun t ht=>?_⟩;have el':(upd H2 t (.tup [.int q.1,.int z])) l=some (.lst (us'++[.ref t0])):=by rw[aG (aV el ht)];exact el
     refine⟨_,rfl,_,rfl,l,_,_,_,rfl,rfl,el',pO _ _,?_⟩;rw[nA];refine⟨us'++[.ref t],_,rfl,Same.upd' hl (Same.upd' (sm.free ht) sm),aB,?_,by simp at hul ⊢;omega⟩;rw[<- gY hz,e,fK,if_pos hq];exact Paired.append' (Prs.mono (TupS.trans (TupS.new ht) (TupS.lst el')) pr1') (.cons ⟨t,rfl,by rw[aG (Ne.symm (aV el ht)),aB]⟩ .nil)
    ·refine⟨_,rfl,_,rfl,l,_,_,_,rfl,rfl,SqL.of el,hZ _ _,t0,_,_,_,rfl,rfl,SqT.of ht0,rfl,_,rfl,_,_,rfl,rfl,_,_,rfl,rfl,_,rfl,iC hq ?_⟩;refine⟨_,rfl,.inl ⟨rfl,_,SqL.of el⟩,_,rfl,_,rfl,(show 2<=sizeLine by decide),fun t ht=>?_⟩;have el':(upd H2 t (.tup [.int z,.int z])) l=some (.lst (us'++[.ref t0])):=by rw[aG (aV el ht)];exact el
     refine⟨l,us'++[.ref t0],_,rfl,rfl,el',aL (by omega),us'++[.ref t0]++[.ref t],_,rfl,Same.upd' hl (Same.upd' (sm.free ht) sm),aB,?_,by simp at hul ⊢;omega⟩;rw[<- gY hz,e,fK,if_neg hq,<- e];exact Paired.append' (Prs.mono (TupS.trans (TupS.new ht) (TupS.lst el')) pr) (.cons ⟨t,rfl,by rw[aG (Ne.symm (aV el ht)),aB]⟩ .nil)
  ·rintro σ H2 ⟨us,v,rfl,sm,el,pr,hu⟩;rw[aB4,aBi]at pr;exact⟨_,rfl,k l us H2 hl sm el pr⟩
abbrev dF:Stmt:=top 50
theorem sI:aQ ["_law_found","_law_size"] ["_law_found","_law_size"] (aD dF):=⟨rfl,rfl,rfl,by decide +kernel,rfl,by decide +kernel,by decide +kernel⟩
theorem M6 {f:Addr} {fd:FuncData} (F:Fun K "_law_lesser" "_law_lesser" dF f fd) (B:Bt mg):FnOk P w K mg base CX0 1 f fd ["_law_found","_law_size"] kT:=by
 refine F.ok sI (fun vs H Q E h=>?_) (fun cdv A outer s H vs Q E hr h=>?_)
 ·obtain⟨a,r,j,rfl,_⟩:=h;rfl
 ·obtain⟨a,ps,j,rfl,⟨us,ha,pr⟩,hl,k⟩:=h;have e:us.length=ps.length:=pr.len;refine⟨_,(aH (bF (aJ (fZ rfl) (by rfl) B.sum fY (aA (bX ["_law_own","_law_offset"] ["_law_size"] [1] rfl (.of (show cA (aD dF) _ ["_law_found","_law_size"] [1] ["_law_size"]=true by decide +kernel)) (bH (pv 0)) (fun _ _ _=>(dD (n:=2) K rfl rfl (aO (aI (i:=0) (show (["_law_own","_law_offset","_law_size"]:List Str).Nodup by decide +kernel) rfl (Or.inl rfl)) (aO (aI (i:=1) (show (["_law_own","_law_offset","_law_size"]:List Str).Nodup by decide +kernel) rfl (Or.inl rfl)) bR)))) (eN (bA (by decide) (bA (by decide) dC))) (fun _ _ _=>cD) (fun _ _ _=>(aJ (jK rfl) (by rfl) B.min iA (aA (pv 2) (aA (pv 0) aC))))) aC)))),?_⟩;refine⟨_,rfl,a,rfl,⟨_,SqL.of ha⟩,bP (K:=K) (a:=a) (xs:=us) (fun i ys H3=>H3=H/\ys=((ps.take i).map (Z1 j)).map V.int) ⟨rfl,rfl⟩ ?_ ?_ ?_⟩
  ·rintro i ys H3 hi ⟨rfl,rfl⟩;exact⟨SqL.of ha,by simp only[aB4,aBk];exact aL (by omega)⟩
  ·rintro i x ys H3 hi ⟨rfl,rfl⟩;obtain⟨p,t',hp,rfl,et⟩:=bQ pr hi;exact⟨t',_,rfl,SqT.of et,rfl,_,_,rfl,_,_,rfl,rfl,_,rfl,_,rfl,_,_,rfl,rfl,dM (Z1 j) hp⟩
  ·rintro ys H3 ⟨rfl,rfl⟩ D hD;exact⟨D,ps.map (Z1 j),rfl,by rw[aB,e,aBi],k _ (Same.upd hD)⟩
abbrev eQ:Stmt:=top 51
theorem gI:aQ ["_law_row_here","_law_found","_law_place","_law_ripe","_law_size"] ["_law_row_here"] (aD eQ):=⟨rfl,rfl,rfl,by decide +kernel,rfl,by decide +kernel,by decide +kernel⟩
inductive oY (H:Hp) (a:Addr) (r:Addr) (row:List Int) (i:Nat) (σ:St) (H3:Hp):Prop
 | mk (us:List V) (ps:Trs) (v2 v3 v4:Option V) (k0_:σ=[some (.ref a),some (.ref r),v2,v3,v4]) (k1_:Same H H3) (k2_:H3 r=some (.lst us)) (k3_:Prs H3 us ps) (k4_:Lst (row.take i) ps):oY H a r row i σ H3
inductive oZ (H:Hp) (a:Addr) (r:Addr) (z:Int) (D:Addr) (s0:Int) (ps:Trs) (σ':St) (H':Hp):Prop
 | mk (us1:List V) (ps1:Trs) (k0_:σ'=[some (.ref a),some (.ref r),some (.int z),some (.ref D),some (.int s0)]) (k1_:Same H H') (k2_:H' r=some (.lst us1)) (k3_:Prs H' us1 ps1) (k4_:us1.length<=60) (k5_:(s0=0/\ps1=ps\/1<=s0/\(s0,z - 1 - 2 * les ps s0)∈ps/\ps1=ps.erase (s0,z - 1 - 2 * les ps s0))):oZ H a r z D s0 ps σ' H'
theorem xX {f:Addr} {fd:FuncData} (F:Fun K "_law_list" "_law_list" eQ f fd) (B:Bt mg) (F_law_lesser:aX P w K mg base "_law_lesser" 1 ["_law_found","_law_size"] kT):FnOk P w K mg base CX0 2 f fd ["_law_row_here"] lW:=by
 refine F.ok gI (fun vs H Q E h=>?_) (fun cdv A outer s H vs Q E hr h=>?_)
 ·obtain⟨a,r,rfl,_⟩:=h;rfl
 ·obtain⟨a,row,rfl,ha,hrow,hrl,k⟩:=h;have hu:=hr.units;refine⟨_,(aE (aM (i:=1) gI.nd rfl (Or.inr rfl) (bL aC))
 (aE (cQ PassesOwn.never rfl (bH (pv 0)) (aI (i:=2) gI.nd rfl (Or.inr rfl))
 (aY (uJ (i:=3) ["_law_size","_law_offset"] ["_law_place","_law_found"] [2,1] rfl gI.nd rfl rfl (.of (show cA (aD eQ) _ ["_law_row_here","_law_found","_law_place","_law_ripe","_law_size"] [2,1] ["_law_place","_law_found"]=true by decide +kernel)) (bH (pv 1)) (fun _ _ _=>(dD (n:=2) K rfl rfl (aO (aI (i:=0) (show (["_law_size","_law_offset","_law_place","_law_found"]:List Str).Nodup by decide +kernel) rfl (Or.inl rfl)) (aO (aI (i:=1) (show (["_law_size","_law_offset","_law_place","_law_found"]:List Str).Nodup by decide +kernel) rfl (Or.inl rfl)) bR)))) (eN (bA (by decide) (bA (by decide) dC))) (fun _ _ _=>jV (aW kL (pv 1) (aK bV (aK bV (pv 2) aF) (aK cR aF (aU F_law_lesser hr rfl (aA (pv 3) (aA (pv 0) aC))))) (bB _))) (fun _ _ _=>(pv 0)) (by first | rfl | decide +kernel))
 (aE (aM (i:=4) gI.nd rfl (Or.inl rfl) (oD rfl rfl B.max (pv 3) aF))
 (pN (cX (aW kF (pv 4) aF (bB _))
 (aH (aR (cT aCB PySem.F.slot_list_remove PySem.F.type_list_remove (qY hu) (pv 1) (aA (cJ (aA (pv 4) (aA (aK bV (aK bV (pv 2) aF) (aK cR aF (aU F_law_lesser hr rfl (aA (pv 1) (aA (pv 4) aC))))) aC))) aC))))
 cB)
 (aY (aR (cT aCB aCC aCD bC (pv 1) (aA (cJ (aA (aK bS (pv 4) aF) (aA aF aC))) aC)))
 (aH (qC (cJ (aA (aK bS (pv 4) aF) (aA (aK bV (pv 2) (aK cR aF (aU F_law_lesser hr rfl (aA (pv 1) (aA (aK bS (pv 4) aF) aC))))) aC))) (uC (pv 1) (gK eF aF) mT))))))))
 (aH (bF (aJ dW (by rfl) B.sorted cO (aA (pv 1) aC)))))),?_⟩
  refine⟨by decide,fun r hrn=>?_⟩;have g1:=Same.upd (o:=.lst []) hrn;have er:(upd H r (.lst [])) r=some (.lst []):=aB;generalize upd H r (.lst [])=H1 at g1 er ⊢;refine⟨_,rfl,a,rfl,⟨_,SqL.of (g1 _ _ ha)⟩,cN (K:=K) (a:=a) (xs:=row.map V.int) (oY H a r row)
   ⟨[],[],none,none,none,rfl,g1,er,.nil,.nil⟩ (fun i σ H3 _ z_=>by obtain⟨_,_,_,_,_,_,sm,_⟩:=z_;exact SqL.of (sm _ _ ha)) ?_ ?_⟩
  ·rintro i x σ H3 hi ⟨us,ps,v2,v3,v4,rfl,sm,er3,pr,hl⟩;obtain⟨z,rfl,hz⟩:=eO hi;have hil:i<row.length:=(aCF.mp hz).1;have htk:row.take (i+1)=row.take i++[z]:=by rw[aBz,hz];rfl
   have hlt:∀ x∈row.take i,x<z:=fun x hx=>by
    have hp:(row.take i++[z]).Pairwise (·<·):=by rw[<- htk];exact List.Pairwise.sublist (List.take_sublist _ _) hrow
    exact(List.pairwise_append.mp hp).2.2 x hx z (by simp)
   have hpl:ps.length<=60:=by
    have h3:=dL hl.pos;have h4:(szs ps).sum=siz ps:=rfl;have h5:=hl.sizx;rw[aBk]at h5;omega
   have eul:us.length=ps.length:=pr.len;refine fun M1 hM1=>?_;refine⟨_,rfl,r,rfl,⟨_,SqL.of er3⟩,bP (K:=K) (a:=r) (xs:=us) (fun j ys H4=>Same H3 H4/\ys.length<=j/\∃ ns:List Int,ys=ns.map V.int/\(∀ n∈ns,∃ q∈ps,n=q.1/\q.2=z - 1 - 2 * les ps q.1)/\(∀ q∈ps.take j,q.2=z - 1 - 2 * les ps q.1->q.1∈ns)) ⟨Same.refl _,Nat.le_refl _,[],rfl,fun n hn=>(nomatch hn),fun q hq=>by simp at hq⟩ ?_ ?_ ?_⟩
   ·rintro j ys H4 hj ⟨sm4,hyl,_⟩;exact⟨SqL.of (sm4 _ _ er3),aL (by omega)⟩
   ·rintro j x ys H4 hj ⟨sm4,hyl,ns,rfl,hn1,hn2⟩;obtain⟨q,t',hq,rfl,et⟩:=bQ (pr.mono (TupS.same sm4)) hj;have hqm:=aBf hq;refine⟨t',_,rfl,SqT.of et,rfl,_,_,rfl,_,_,rfl,rfl,?_⟩;refine⟨_,rfl,_,rfl,_,_,rfl,rfl,_,rfl,_,rfl,r,ps,q.1,rfl,⟨us,sm4 _ _ er3,pr.mono (TupS.same sm4)⟩,by omega,fun H5 g5=>?_⟩;refine⟨_,_,rfl,rfl,.inl ⟨by decide,by decide⟩,_,_,rfl,rfl,_,_,rfl,rfl,_,rfl,?_⟩;have htj:∀ x∈ps.take (j+1),x∈ps.take j\/x=q:=fun x hx=>by
     rw[aBz,hq]at hx;rcases aCH.mp hx with h | h
     ·exact .inl h
     ·exact .inr (by simpa using h)
    have hle:=iI ps q.1;refine iB (fun hc=>?_) (fun hc=>?_)
    ·refine⟨_,rfl,sm4.trans g5,by rw[aBd,List.length_singleton];omega,ns++[q.1],by rw[aBj];rfl,fun n hn=>?_,fun x hx he=>?_⟩
     ·rcases aCH.mp hn with h | h
      ·exact hn1 n h
      ·exact⟨q,hqm,by simpa using h,by omega⟩
     ·rcases htj x hx with h | h
      ·exact aBn _ (hn2 x h he)
      ·rw[h];exact aB8 _ (by simp)
    ·refine⟨sm4.trans g5,by omega,ns,rfl,hn1,fun x hx he=>?_⟩;rcases htj x hx with h | h
     ·exact hn2 x h he
     ·subst h;exact absurd (by omega) hc
   rintro ys H4 ⟨sm4,hyl,ns,rfl,hn1,hn2⟩ D hD;rw[eul,aBi]at hn2;have g5:=Same.upd (o:=.lst (ns.map V.int)) hD;have eD:(upd H4 D (.lst (ns.map V.int))) D=some (.lst (ns.map V.int)):=aB;generalize upd H4 D (.lst (ns.map V.int))=H5 at g5 eD ⊢;have sm35:=sm4.trans g5;have er5:=sm35 _ _ er3;have pr5:=pr.mono (TupS.same sm35);have sm5:=sm.trans sm35;obtain⟨s0,es,hs0,hcase,htop⟩:=T4 hl.pos hn1 hn2;refine hM1 _ _ ?_;refine⟨_,rfl,D,ns,rfl,SqL.of eD,?_⟩;rw[es];refine⟨oZ H a r z D s0 ps,?_,?_⟩
   ·refine⟨_,rfl,_,_,rfl,rfl,_,rfl,?_⟩;refine iB (fun hc=>?_) (fun hc=>?_)
    ·rcases hcase with hz0 | ⟨hz1,hmem⟩
     ·omega
     ·refine⟨_,rfl,.inl ⟨rfl,_,SqL.of er5⟩,_,rfl,_,rfl,_,_,rfl,rfl,_,rfl,_,rfl,r,ps,s0,rfl,⟨us,er5,pr5⟩,by omega,fun H6 g6=>?_⟩;refine⟨_,_,rfl,rfl,.inl ⟨by decide,by decide⟩,_,_,rfl,rfl,(show 2<=sizeLine by decide),fun t ht=>?_⟩;have er6:=g6 _ _ er5;have g7:=Same.upd (o:=.tup [V.int s0,V.int (z - 1 - 2 * wR ps s0)]) ht;have et:(upd H6 t (.tup [V.int s0,V.int (z - 1 - 2 * wR ps s0)])) t=some (.tup [V.int s0,V.int (z - 1 - 2 * wR ps s0)]):=aB;rw[iI]at g7 et ⊢;generalize upd H6 t (.tup [V.int s0,V.int (z - 1 - 2 * les ps s0)])=H7 at g7 et ⊢;have er7:=g7 _ _ er6;refine⟨r,us,ps,t,(s0,z - 1 - 2 * les ps s0),rfl,rfl,er7,pr5.mono (TupS.same (g6.trans g7)),et,hmem,fun us' pr' hul=>?_⟩;exact⟨us',_,rfl,Same.upd' hrn ((sm5.trans g6).trans g7),aB,pr'.mono (TupS.lst er7),by omega,.inr ⟨hz1,hmem,rfl⟩⟩
    ·rcases hcase with hz0 | ⟨hz1,_⟩
     ·exact⟨us,ps,rfl,sm5,er5,pr5,by omega,.inl ⟨hz0,rfl⟩⟩
     ·omega
   ·rintro σ' H8 ⟨us1,ps1,rfl,sm8,er8,pr8,hul,hs⟩;have hadd:=add_list hs0 hs htop;have hpl1:us1.length=ps1.length:=pr8.len;refine fun M2 hM2=>?_;refine⟨_,rfl,.inl ⟨rfl,_,SqL.of er8⟩,_,rfl,_,_,rfl,rfl,(show 2<=sizeLine by decide),fun t ht=>?_⟩;have g9:=Same.upd (o:=.tup [V.int (s0+1),V.int 0]) ht;have et:(upd H8 t (.tup [V.int (s0+1),V.int 0])) t=some (.tup [V.int (s0+1),V.int 0]):=aB;generalize upd H8 t (.tup [V.int (s0+1),V.int 0])=H9 at g9 et ⊢;have er9:=g9 _ _ er8;refine⟨r,us1,_,rfl,rfl,er9,aL (by omega),?_⟩;have sm9:Same H (upd H9 r (.lst (us1++[V.ref t]))):=Same.upd' hrn (sm8.trans g9);have er10:(upd H9 r (.lst (us1++[V.ref t]))) r=some (.lst (us1++[V.ref t])):=aB;have pr10:Prs (upd H9 r (.lst (us1++[V.ref t]))) us1 ps1:=(pr8.mono (TupS.same g9)).mono (TupS.lst er9);have et10:(upd H9 r (.lst (us1++[V.ref t]))) t=some (.tup [V.int (s0+1),V.int 0]):=TupS.lst er9 _ _ et;generalize upd H9 r (.lst (us1++[V.ref t]))=H10 at sm9 er10 pr10 et10 ⊢;have prA:Prs H10 (us1++[V.ref t]) (ps1++[(s0+1,0)]):=Paired.append' pr10 (.cons ⟨t,rfl,et10⟩ .nil);refine hM2 _ _ ?_;refine⟨_,rfl,_,_,rfl,rfl,_,rfl,_,rfl,_,rfl,_,_,rfl,rfl,r,ps1++[(s0+1,0)],s0+1,rfl,⟨_,er10,prA⟩,by rw[aBd,List.length_singleton];omega,fun H11 g11=>?_⟩;refine⟨_,_,rfl,rfl,.inl ⟨by decide,by decide⟩,_,_,rfl,rfl,(show 2<=sizeLine by decide),fun t2 ht2=>?_⟩;rw[iI];have er11:=g11 _ _ er10;have g12:=Same.upd (o:=.tup [V.int (s0+1),V.int (z - 2 * les (ps1++[(s0+1,0)]) (s0+1))]) ht2;have et2:(upd H11 t2 (.tup [V.int (s0+1),V.int (z - 2 * les (ps1++[(s0+1,0)]) (s0+1))])) t2=some (.tup [V.int (s0+1),V.int (z - 2 * les (ps1++[(s0+1,0)]) (s0+1))]):=aB;generalize upd H11 t2 (.tup [V.int (s0+1),V.int (z - 2 * les (ps1++[(s0+1,0)]) (s0+1))])=H12 at g12 et2 ⊢;have er12:=g12 _ _ er11;refine⟨_,rfl,_,rfl,r,_,_,_,rfl,rfl,er12,pO _ _,?_⟩;rw[nA];refine⟨us1++[V.ref t2],ps1++[(s0+1,z - 2 * les (ps1++[(s0+1,0)]) (s0+1))],_,_,_,rfl,Same.upd' hrn ((sm9.trans g11).trans g12),aB,?_,by rw[htk];exact .snoc hl hlt hadd⟩;exact Paired.append' ((pr10.mono (TupS.same (g11.trans g12))).mono (TupS.lst er12)) (.cons ⟨t2,rfl,TupS.lst er12 _ _ et2⟩ .nil)
  ·rintro σ H3 ⟨us,ps,v2,v3,v4,rfl,sm,er3,pr,hl⟩;rw[aB4,aBi]at hl;have hpl:ps.length<=60:=by
    have h3:=dL hl.pos;have h4:(szs ps).sum=siz ps:=rfl;have h5:=hl.sizx;omega
   refine⟨_,rfl,r,us,ps,rfl,er3,pr,by omega,fun l us' qs hl' pr' hperm hsort=>?_⟩;exact k qs (hl.perm hperm.symm) hsort l us' _ (sm.free hl') (sm.trans (Same.upd hl')) aB (pr'.mono (TupS.new hl'))
abbrev cP:Stmt:=top 52
theorem eK:aQ ["_law_pairs","_law_left","_law_row_here","_law_place","_law_size"] ["_law_pairs"] (aD cP):=⟨rfl,rfl,rfl,by decide +kernel,rfl,by decide +kernel,by decide +kernel⟩
inductive stW (H0:Hp) (ps0:Trs) (a l r:Addr) (m:Nat) (σ:St) (Hx:Hp):Prop
 | mk (us:List V) (ps:Trs) (row:List Int) (v3 v4:Option V) (h0_:σ=[some (.ref a),some (.ref l),some (.ref r),v3,v4]) (h1_:Same H0 Hx) (h2_:Hx l=some (.lst us)) (h3_:Prs Hx us ps) (h4_:(∀ q∈ps,1<=q.1)) (h5_:Hx r=some (.lst (row.map V.int))) (h6_:siz ps=(m:Int)) (h7_:m+row.length<=60) (h8_:∀ r',Lst r' ps->Lst (r'++row.reverse) ps0):stW H0 ps0 a l r m σ Hx
theorem sJ {f:Addr} {fd:FuncData} (F:Fun K "_law_stones" "_law_stones" cP f fd) (B:Bt mg) (F_law_lesser:aX P w K mg base "_law_lesser" 1 ["_law_found","_law_size"] kT):FnOk P w K mg base CX0 2 f fd ["_law_pairs"] nL:=by
 refine F.ok eK (fun vs H Q E h=>?_) (fun cdv A outer s H vs Q E hr h=>?_)
 ·obtain⟨a,r,rfl,_⟩:=h;rfl
 ·obtain⟨a,ps0,rfl,⟨us0,ha,pr0⟩,hT,k⟩:=h;have hu:=hr.units;refine⟨_,(aY (aM (i:=1) eK.nd rfl (Or.inr rfl) (lN gO (by rfl) B.list fJ (aA (pv 0) aC)))
 (aY (aM (i:=2) eK.nd rfl (Or.inl rfl) (bL aC))
 (aE (eZ PassesOwn.never (aW (uK hu) (pv 1) (bL aC) (bB _))
 (aY (aM (i:=3) eK.nd rfl (Or.inr rfl) (aJ (J9 rfl) (by rfl) B.max qH (aA (bX ["_law_size","_law_offset"] ["_law_left"] [1] rfl (.of (show cA (aD cP) _ ["_law_pairs","_law_left","_law_row_here","_law_place","_law_size"] [1] ["_law_left"]=true by decide +kernel)) (bH (pv 1)) (fun _ _ _=>(dD (n:=2) K rfl rfl (aO (aI (i:=0) (show (["_law_size","_law_offset","_law_left"]:List Str).Nodup by decide +kernel) rfl (Or.inl rfl)) (aO (aI (i:=1) (show (["_law_size","_law_offset","_law_left"]:List Str).Nodup by decide +kernel) rfl (Or.inl rfl)) bR)))) (eN (bA (by decide) (bA (by decide) dC))) (fun _ _ _=>cD) (fun _ _ _=>(aK bS (pv 1) (aK cR aF (aU F_law_lesser hr rfl (aA (pv 2) (aA (pv 0) aC))))))) aC)))
 (aY (aM (i:=4) eK.nd rfl (Or.inl rfl) (aJ (K0 rfl) (by rfl) B.min iA (aA (bX ["_law_own","_law_offset"] ["_law_place","_law_left"] [3,1] rfl (.of (show cA (aD cP) _ ["_law_pairs","_law_left","_law_row_here","_law_place","_law_size"] [3,1] ["_law_place","_law_left"]=true by decide +kernel)) (bH (pv 1)) (fun _ _ _=>(dD (n:=2) K rfl rfl (aO (aI (i:=0) (show (["_law_own","_law_offset","_law_place","_law_left"]:List Str).Nodup by decide +kernel) rfl (Or.inl rfl)) (aO (aI (i:=1) (show (["_law_own","_law_offset","_law_place","_law_left"]:List Str).Nodup by decide +kernel) rfl (Or.inl rfl)) bR)))) (eN (bA (by decide) (bA (by decide) dC))) (fun _ _ _=>jV (aW kL (aK bS (pv 1) (aK cR aF (aU F_law_lesser hr rfl (aA (pv 3) (aA (pv 0) aC))))) (pv 2) (bB _))) (fun _ _ _=>(pv 0))) aC)))
 (aY (aR (cT aCB PySem.F.slot_list_remove PySem.F.type_list_remove (qY hu) (pv 1) (aA (cJ (aA (pv 4) (aA (aK bV (pv 3) (aK cR aF (aU F_law_lesser hr rfl (aA (pv 1) (aA (pv 4) aC))))) aC))) aC)))
 (aY (cX (aW kF (pv 4) aF (bB _))
 (aY (aR (cT aCB aCC aCD bC (pv 1) (aA (cJ (aA (aK bV (pv 4) aF) (aA aF aC))) aC)))
 (aH (qC (cJ (aA (aK bV (pv 4) aF) (aA (aK bV (aK bV (pv 3) aF) (aK cR aF (aU F_law_lesser hr rfl (aA (pv 1) (aA (aK bV (pv 4) aF) aC))))) aC))) (uC (pv 1) (gK eF aF) mT))))
 cB)
 (aH (aR (cT aCB aCC aCD bC (pv 2) (aA (pv 3) aC)))))))))
 (aH (bF (P2 (pv 2))))))),?_⟩
  refine fun M1 hM1=>?_;refine⟨_,rfl,a,us0,rfl,.inl (SqL.of ha),fun l hl=>hM1 [some (.ref a),some (.ref l),none,none,none] _ ?_⟩;clear hM1 M1;have g1:=Same.upd (o:=.lst us0) hl;have el:(upd H l (.lst us0)) l=some (.lst us0):=aB;have pr1:=pr0.mono (TupS.new (o:=.lst us0) hl);generalize upd H l (.lst us0)=H1 at g1 el pr1 ⊢;refine fun M1 hM1=>?_;refine⟨by decide,fun r hrn=>hM1 [some (.ref a),some (.ref l),some (.ref r),none,none] _ ?_⟩;clear hM1 M1;have g2:=Same.upd (o:=.lst []) hrn;have er:(upd H1 r (.lst [])) r=some (.lst []):=aB;have el2:=g2 _ _ el;have pr2:=pr1.mono (TupS.new (o:=.lst []) hrn);have hHr:H r=none:=g1.free hrn;have hnlr:l≠r:=fun e=>by rw[e,hrn]at el;cases el
  generalize upd H1 r (.lst [])=H2 at g2 er el2 pr2 ⊢;have hsz0:siz ps0=(szs ps0).sum:=rfl;have hf:=hT.few;have hlo:=B5 hT.pos;refine⟨stW H ps0 a l r,⟨(siz ps0).toNat,us0,ps0,[],none,none,rfl,g1.trans g2,el2,pr2,hT.pos,er,by omega,by simp only[List.length_nil];omega,fun r' hr'=>by simpa using hr'⟩,?_⟩;clear el2 pr2 er g2 el pr1 g1 hlo hf hsz0 pr0 ha;rintro m σ H3 ⟨us,ps,row,v3,v4,rfl,sm,el,pr,hpos,er,hm,hcount,fin⟩;have hpl:=B5 hpos;have eul:us.length=ps.length:=pr.len;refine⟨_,rfl,by decide,fun z0 hz0=>?_⟩;have g3:=Same.upd (o:=.lst []) hz0;have ez0:(upd H3 z0 (.lst [])) z0=some (.lst []):=aB;have LP3:LP (upd H3 z0 (.lst [])) l ps:=LP.mono g3 ⟨us,el,pr⟩;refine⟨_,_,LP3.den,Den.ints (ns:=[]) ez0,jW _,iW [],_,rfl,?_⟩;have sm3:=sm.trans g3;have el3:=g3 _ _ el;have er3:=g3 _ _ er;have pr3:=pr.mono (TupS.new (o:=.lst []) hz0);generalize upd H3 z0 (.lst [])=H4 at sm3 el3 er3 pr3;clear g3 ez0 LP3
  by_cases hps:ps=[]
  ·subst hps;have hfin:Lst row.reverse ps0:=by simpa using fin [] .nil
   show (if (!PyData.eqv (.list []) (.list []))=true then _ else _);rw[if_neg (by decide)];refine⟨_,rfl,r,_,rfl,SqL.of er3,fun p hp=>?_⟩;rw[<- List.map_reverse];exact k row.reverse hfin p _ (sm3.free hp) (sm3.trans (Same.upd hp)) aB
  have hne:(!PyData.eqv (.list (ps.map pD)) (.list (([]:List Int).map PyData.int)))=true:=by
   cases ps with
   | nil=>exact absurd rfl hps
   | cons q t=>rfl
  rw[hne];show (if true=true then _ else _);rw[if_pos rfl];refine⟨fun σ' H'=>∃ m',m'<m/\stW H ps0 a l r m' σ' H',fun _ _ h=>h,?_⟩;refine fun M1 hM1=>?_;refine⟨_,rfl,l,rfl,⟨_,SqL.of el3⟩,bP (K:=K) (a:=l) (xs:=us) (fun j ys H5=>Same H4 H5/\ys=((ps.take j).map fun q=>q.2+2 * les ps q.1).map V.int) ⟨Same.refl _,rfl⟩ ?_ ?_ ?_⟩
  ·rintro j ys H5 hj ⟨sm5,rfl⟩;exact⟨SqL.of (sm5 _ _ el3),by simp only[aB4,aBk];exact aL (by omega)⟩
  ·rintro j x ys H5 hj ⟨sm5,rfl⟩;obtain⟨q,t',hq,rfl,et⟩:=bQ (pr3.mono (TupS.same sm5)) hj;refine⟨t',_,rfl,SqT.of et,rfl,_,_,rfl,_,_,rfl,rfl,?_⟩;refine⟨_,rfl,_,rfl,_,rfl,l,ps,q.1,rfl,⟨us,sm5 _ _ el3,pr3.mono (TupS.same sm5)⟩,by omega,fun H6 g6=>?_⟩;refine⟨_,_,rfl,rfl,.inl ⟨by decide,by decide⟩,_,_,rfl,rfl,sm5.trans g6,?_⟩;rw[<- dM (fun q=>q.2+2 * les ps q.1) hq];simp only[iI]
  rintro ys H5 ⟨sm5,rfl⟩ D hD;rw[eul,aBi];have g6:=Same.upd (o:=.lst ((ps.map fun q=>q.2+2 * les ps q.1).map V.int)) hD;have eD:(upd H5 D (.lst ((ps.map fun q=>q.2+2 * les ps q.1).map V.int))) D=some (.lst ((ps.map fun q=>q.2+2 * les ps q.1).map V.int)):=aB;generalize upd H5 D (.lst ((ps.map fun q=>q.2+2 * les ps q.1).map V.int))=H6 at g6 eD ⊢;obtain⟨p0,ep0,hp0m,hp0⟩:=T7 (ns:=ps.map fun q=>q.2+2 * les ps q.1) (by simpa using hps);refine⟨D,_,rfl,eD,by simpa using hps,?_⟩;rw[ep0];have sm6:=(sm3.trans sm5).trans g6;have s46:=sm5.trans g6;have el6:=s46 _ _ el3;have er6:=s46 _ _ er3;have pr6:=pr3.mono (TupS.same s46);refine hM1 [some (.ref a),some (.ref l),some (.ref r),some (.int p0),v4] _ ?_;clear hM1 M1 s46 sm5 g6 eD hD hne;have hp0':∀ q∈ps,q.2+2 * les ps q.1<=p0:=fun q hq=>hp0 _ (aCI.mpr ⟨q,hq,rfl⟩);refine fun M1 hM1=>?_;refine⟨_,rfl,l,rfl,⟨_,SqL.of el6⟩,bP (K:=K) (a:=l) (xs:=us) (fun j ys H7=>Same H6 H7/\ys=(((ps.take j).filter fun q=>decide (q.2+2 * les ps q.1=p0)).map (·.1)).map V.int) ⟨Same.refl _,rfl⟩ ?_ ?_ ?_⟩
  ·rintro j ys H7 hj ⟨sm7,rfl⟩;refine⟨SqL.of (sm7 _ _ el6),?_⟩;simp only[aB4];have:=List.length_filter_le (fun q:Int×Int=>decide (q.2+2 * les ps q.1=p0)) (ps.take j);rw[aBk]at this;exact aL (by omega)
  ·rintro j x ys H7 hj ⟨sm7,rfl⟩;obtain⟨q,t',hq,rfl,et⟩:=bQ (pr6.mono (TupS.same sm7)) hj;refine⟨t',_,rfl,SqT.of et,rfl,_,_,rfl,_,_,rfl,rfl,?_⟩;refine⟨_,rfl,_,rfl,_,rfl,l,ps,q.1,rfl,⟨us,sm7 _ _ el6,pr6.mono (TupS.same sm7)⟩,by omega,fun H8 g8=>?_⟩;refine⟨_,_,rfl,rfl,.inl ⟨by decide,by decide⟩,_,_,rfl,rfl,_,rfl,_,_,rfl,rfl,_,rfl,?_⟩;have hle:=iI ps q.1;have htk:(ps.take (j+1)).filter (fun q=>decide (q.2+2 * les ps q.1=p0))=(ps.take j).filter (fun q=>decide (q.2+2 * les ps q.1=p0))++if q.2+2 * les ps q.1=p0 then [q]else []:=by
    rw[aBz,hq,List.filter_append]
    congr 1
    by_cases c:q.2+2 * les ps q.1=p0
    ·rw[if_pos c];simp[c]
    ·rw[if_neg c];simp[c]
   refine iB (fun hc=>?_) (fun hc=>?_)
   ·refine⟨_,rfl,sm7.trans g8,?_⟩;rw[htk,if_pos (by omega)];simp
   ·refine⟨sm7.trans g8,?_⟩;rw[htk,if_neg (by omega)];simp
  rintro ys H7 ⟨sm7,rfl⟩ D2 hD2;rw[eul,aBi];obtain⟨ss,ess⟩:∃ ss,ss=(ps.filter fun q=>decide (q.2+2 * les ps q.1=p0)).map (·.1):=⟨_,rfl⟩;rw[<- ess];have hss:ss≠[]:=by
   obtain⟨q,hq,e⟩:=aCI.mp hp0m;intro z;rw[z]at ess;have:q∈ps.filter fun q=>decide (q.2+2 * les ps q.1=p0):=aCJ.mpr ⟨hq,by simpa using e⟩;rw[List.map_eq_nil_iff.mp ess.symm]at this;cases this
  have g8:=Same.upd (o:=.lst (ss.map V.int)) hD2;have eD2:(upd H7 D2 (.lst (ss.map V.int))) D2=some (.lst (ss.map V.int)):=aB;generalize upd H7 D2 (.lst (ss.map V.int))=H8 at g8 eD2 ⊢;obtain⟨s0,es0,hs0m,hs0⟩:=T8 hss;refine⟨D2,_,rfl,eD2,hss,?_⟩;rw[es0];have s68:=sm7.trans g8;have sm8:=sm6.trans s68;have el8:=s68 _ _ el6;have er8:=s68 _ _ er6;have pr8:=pr6.mono (TupS.same s68);refine hM1 [some (.ref a),some (.ref l),some (.ref r),some (.int p0),some (.int s0)] _ ?_;clear hM1 M1 s68 sm7 g8 eD2 hD2;have hmem:(s0,p0 - 2 * les ps s0)∈ps:=by
   rw[ess]at hs0m;obtain⟨q,hq,e⟩:=aCI.mp hs0m;obtain⟨h1,h2⟩:=aCJ.mp hq;have h3:q.2+2 * les ps q.1=p0:=by simpa using h2
   have e':q.1=s0:=e;have:(s0,p0 - 2 * les ps s0)=q:=by rw[<- e',<- h3];exact Prod.ext rfl (by show _=q.2;omega)
   rw[this];exact h1
  have hmin:∀ q∈ps,q.2+2 * les ps q.1=p0->s0<=q.1:=fun q hq e=>hs0 q.1 (by rw[ess];exact aCI.mpr ⟨q,aCJ.mpr ⟨hq,by simpa using e⟩,rfl⟩);have hs1:=hpos _ hmem;have hs1':1<=s0:=hs1;clear ess hss hs0m hs0 es0 hp0m hp0 ep0 ss;refine fun M1 hM1=>?_;refine⟨_,rfl,.inl ⟨rfl,_,SqL.of el8⟩,_,rfl,_,rfl,_,rfl,_,rfl,l,ps,s0,rfl,⟨us,el8,pr8⟩,by omega,fun H9 g9=>?_⟩;refine⟨_,_,rfl,rfl,.inl ⟨by decide,by decide⟩,_,_,rfl,rfl,(show 2<=sizeLine by decide),fun t ht=>?_⟩;have el9:=g9 _ _ el8;have g10:=Same.upd (o:=.tup [V.int s0,V.int (p0 - 2 * wR ps s0)]) ht;have et:(upd H9 t (.tup [V.int s0,V.int (p0 - 2 * wR ps s0)])) t=some (.tup [V.int s0,V.int (p0 - 2 * wR ps s0)]):=aB;rw[iI]at g10 et ⊢;generalize upd H9 t (.tup [V.int s0,V.int (p0 - 2 * les ps s0)])=H10 at g10 et ⊢;have el10:=g10 _ _ el9;have s810:=g9.trans g10;refine⟨l,us,ps,t,(s0,p0 - 2 * les ps s0),rfl,rfl,el10,pr8.mono (TupS.same s810),et,hmem,fun us1 pr1 hul=>?_⟩;have sm11:Same H (upd H10 l (.lst us1)):=Same.upd' hl (sm8.trans s810);have el11:(upd H10 l (.lst us1)) l=some (.lst us1):=aB;have er11:(upd H10 l (.lst us1)) r=some (.lst (row.map V.int)):=by rw[aG (Ne.symm hnlr)];exact s810 _ _ er8
  have pr11:Prs (upd H10 l (.lst us1)) us1 (ps.erase (s0,p0 - 2 * les ps s0)):=pr1.mono (TupS.lst el10);generalize upd H10 l (.lst us1)=H11 at sm11 el11 er11 pr11 ⊢;refine hM1 [some (.ref a),some (.ref l),some (.ref r),some (.int p0),some (.int s0)] _ ?_;clear hM1 M1 s810 g10 et el10 el9 g9 ht pr1;have hl1:us1.length=(ps.erase (s0,p0 - 2 * les ps s0)).length:=pr11.len;refine fun M1 hM1=>?_;have last:∀ (us2:List V) (ps2:Trs) (H12:Hp),Same H H12->H12 l=some (.lst us2)->Prs H12 us2 ps2->H12 r=some (.lst (row.map V.int))->Tak ps p0 ps2->M1 [some (.ref a),some (.ref l),some (.ref r),some (.int p0),some (.int s0)] H12:=fun us2 ps2 H12 sm12 el12 pr12 er12 hTak=>hM1 _ _ (by
   refine⟨_,rfl,.inl ⟨rfl,_,SqL.of er12⟩,_,rfl,r,_,_,rfl,rfl,er12,by rw[aB4];exact aL (by omega),?_⟩;have hsz:=hTak.sizx hpos;refine⟨m - 1,by omega,us2,ps2,row++[p0],_,_,rfl,Same.upd' hHr sm12,by rw[aG hnlr];exact el12,pr12.mono (TupS.lst er12),hTak.pos hpos,by rw[aB,aBj];rfl,by omega,by rw[aBd,List.length_singleton];omega,?_⟩;rw[List.reverse_append];exact rA hTak hpos fin)
  clear hM1;refine⟨_,rfl,_,_,rfl,rfl,_,rfl,?_⟩;refine iB (fun hc=>?_) (fun hc=>?_)
  ·refine fun M2 hM2=>?_;refine⟨_,rfl,.inl ⟨rfl,_,SqL.of el11⟩,_,rfl,_,_,rfl,rfl,(show 2<=sizeLine by decide),fun t ht=>?_⟩;have g12:=Same.upd (o:=.tup [V.int (s0 - 1),V.int 0]) ht;have et:(upd H11 t (.tup [V.int (s0 - 1),V.int 0])) t=some (.tup [V.int (s0 - 1),V.int 0]):=aB;generalize upd H11 t (.tup [V.int (s0 - 1),V.int 0])=H12 at g12 et ⊢;have el12:=g12 _ _ el11;refine⟨l,us1,_,rfl,rfl,el12,aL (by omega),?_⟩;have sm13:Same H (upd H12 l (.lst (us1++[V.ref t]))):=Same.upd' hl (sm11.trans g12);have el13:(upd H12 l (.lst (us1++[V.ref t]))) l=some (.lst (us1++[V.ref t])):=aB;have er13:(upd H12 l (.lst (us1++[V.ref t]))) r=some (.lst (row.map V.int)):=by rw[aG (Ne.symm hnlr)];exact g12 _ _ er11
   have pr13:Prs (upd H12 l (.lst (us1++[V.ref t]))) us1 (ps.erase (s0,p0 - 2 * les ps s0)):=(pr11.mono (TupS.same g12)).mono (TupS.lst el12);have et13:(upd H12 l (.lst (us1++[V.ref t]))) t=some (.tup [V.int (s0 - 1),V.int 0]):=TupS.lst el12 _ _ et;generalize upd H12 l (.lst (us1++[V.ref t]))=H13 at sm13 el13 er13 pr13 et13 ⊢;have prA:Prs H13 (us1++[V.ref t]) (ps.erase (s0,p0 - 2 * les ps s0)++[(s0 - 1,0)]):=Paired.append' pr13 (.cons ⟨t,rfl,et13⟩ .nil);refine hM2 _ _ ?_;clear hM2 M2;refine⟨_,rfl,_,_,rfl,rfl,_,rfl,_,_,rfl,rfl,_,rfl,_,rfl,_,_,rfl,rfl,l,ps.erase (s0,p0 - 2 * les ps s0)++[(s0 - 1,0)],s0 - 1,rfl,⟨_,el13,prA⟩,by rw[aBd,List.length_singleton];omega,fun H14 g14=>?_⟩;refine⟨_,_,rfl,rfl,.inl ⟨by decide,by decide⟩,_,_,rfl,rfl,(show 2<=sizeLine by decide),fun t2 ht2=>?_⟩;rw[iI];have el14:=g14 _ _ el13;have g15:=Same.upd (o:=.tup [V.int (s0 - 1),V.int (p0 - 1 - 2 * les (ps.erase (s0,p0 - 2 * les ps s0)++[(s0 - 1,0)]) (s0 - 1))]) ht2;have et2:(upd H14 t2 (.tup [V.int (s0 - 1),V.int (p0 - 1 - 2 * les (ps.erase (s0,p0 - 2 * les ps s0)++[(s0 - 1,0)]) (s0 - 1))])) t2=some (.tup [V.int (s0 - 1),V.int (p0 - 1 - 2 * les (ps.erase (s0,p0 - 2 * les ps s0)++[(s0 - 1,0)]) (s0 - 1))]):=aB;generalize upd H14 t2 (.tup [V.int (s0 - 1),V.int (p0 - 1 - 2 * les (ps.erase (s0,p0 - 2 * les ps s0)++[(s0 - 1,0)]) (s0 - 1))])=H15 at g15 et2 ⊢;have el15:=g15 _ _ el14;refine⟨_,rfl,_,rfl,l,_,_,_,rfl,rfl,el15,pO _ _,?_⟩;rw[nA];have s1315:=g14.trans g15;refine last (us1++[V.ref t2]) (ps.erase (s0,p0 - 2 * les ps s0)++[(s0 - 1,p0 - 1 - 2 * les (ps.erase (s0,p0 - 2 * les ps s0)++[(s0 - 1,0)]) (s0 - 1))]) _ (Same.upd' hl (sm13.trans s1315)) aB ?_ (by rw[aG (Ne.symm hnlr)];exact s1315 _ _ er13) (xO hpos hmem hp0' hmin (.inr ⟨by omega,rfl⟩));exact Paired.append' ((pr13.mono (TupS.same s1315)).mono (TupS.lst el15)) (.cons ⟨t2,rfl,TupS.lst el15 _ _ et2⟩ .nil)
  ·exact last us1 _ H11 sm11 el11 pr11 er11 (xO hpos hmem hp0' hmin (.inl ⟨by omega,rfl⟩))
abbrev eR:Stmt:=top 53
theorem jB:aQ ["_law_pairs","_law_walks","_law_found","_law_size","_law_offset"] ["_law_pairs","_law_walks"] (aD eR):=⟨rfl,rfl,rfl,by decide +kernel,rfl,by decide +kernel,by decide +kernel⟩
theorem o0 {f:Addr} {fd:FuncData} (F:Fun K "_law_adds" "_law_adds" eR f fd) (B:Bt mg):FnOk P w K mg base CX0 1 f fd ["_law_pairs","_law_walks"] vD:=by
 refine F.ok jB (fun vs H Q E h=>?_) (fun cdv A outer s H vs Q E hr h=>?_)
 ·obtain⟨a,b,ps,ws,rfl,_⟩:=h;rfl
 ·obtain⟨a,b,ps,ws,rfl,⟨us,ha,pr⟩,ht,⟨vs,hb,prw⟩,hwl,hc,k⟩:=h;have e:us.length=ps.length:=pr.len;have ew:vs.length=ws.length:=prw.len;have hpl:=ht.len;refine⟨_,(aE (aM (i:=2) jB.nd rfl (Or.inl rfl) (bL aC))
 (aE (cQ PassesOwn.never rfl (bH (pv 0)) (jU rfl (aO (aI (i:=3) jB.nd rfl (Or.inr rfl)) (aO (aI (i:=4) jB.nd rfl (Or.inl rfl)) bR)))
 (aH (aR (cT aCB aCC aCD bC (pv 2) (aA (cJ (aA (pv 3) (aA (aK bS (pv 4) (aJ (fZ rfl) (by rfl) B.sum fY (aA (bX ["_law_creel","_law_count"] ["_law_size"] [3] rfl (.of (show cA (aD eR) _ ["_law_pairs","_law_walks","_law_found","_law_size","_law_offset"] [3] ["_law_size"]=true by decide +kernel)) (bH (pv 1)) (fun _ _ _=>(dD (n:=2) K rfl rfl (aO (aI (i:=0) (show (["_law_creel","_law_count","_law_size"]:List Str).Nodup by decide +kernel) rfl (Or.inl rfl)) (aO (aI (i:=1) (show (["_law_creel","_law_count","_law_size"]:List Str).Nodup by decide +kernel) rfl (Or.inl rfl)) bR)))) (eN (bA (by decide) (bA (by decide) dC))) (fun _ _ _=>cD) (fun _ _ _=>(aK cR (pv 1) (aJ (jK rfl) (by rfl) B.min iA (aA (pv 0) (aA (pv 2) aC)))))) aC))) aC))) aC)))))
 (aH (bF (aJ dW (by rfl) B.sorted cO (aA (pv 2) aC)))))),?_⟩
  refine⟨by decide,fun l hl=>?_⟩;refine⟨_,rfl,a,rfl,⟨_,SqL.of (Same.upd hl _ _ ha)⟩,cN (K:=K) (a:=a) (xs:=us) (fun i σ H2=>∃ (ys:List V) (v1 v2:Option V),σ=[some (.ref a),some (.ref b),some (.ref l),v1,v2]/\Same H H2/\H2 l=some (.lst ys)/\Prs H2 ys ((dA ps ws).take i))
   ⟨[],none,none,rfl,Same.upd hl,aB,.nil⟩ (fun i σ H2 _ ⟨_,_,_,_,sm,_⟩=>SqL.of (sm _ _ ha)) ?_ ?_⟩
  ·rintro i x σ H2 hi ⟨ys,v1,v2,rfl,sm,el,pr2⟩;obtain⟨p,t',hp,rfl,et⟩:=bQ pr hi;have hpm:=aBf hp;have h1:=ht.pos p hpm;have h2:=T9 ht hpm;refine⟨t',_,rfl,SqT.of (sm _ _ et),rfl,_,_,rfl,_,_,rfl,rfl,_,rfl,.inl ⟨rfl,_,SqL.of el⟩,_,rfl,_,rfl,_,rfl,b,rfl,⟨_,SqL.of (sm _ _ hb)⟩,bP (K:=K) (a:=b) (xs:=vs) (fun j zs H3=>H3=H2/\zs=((ws.take j).map (iX p.1)).map V.int) ⟨rfl,rfl⟩ ?_ ?_ ?_⟩
   ·rintro j zs H3 hj ⟨rfl,rfl⟩;exact⟨SqL.of (sm _ _ hb),by simp only[aB4,aBk];exact aL (by omega)⟩
   ·rintro j y zs H3 hj ⟨rfl,rfl⟩;obtain⟨q,t2,hq,rfl,et2⟩:=bQ prw hj;have h3:=hc q (aBf hq);refine⟨t2,_,rfl,SqT.of (sm _ _ et2),rfl,_,_,rfl,_,_,rfl,rfl,_,rfl,_,rfl,_,rfl,_,_,rfl,_,_,rfl,rfl,.inr ⟨?_,?_⟩,rfl,dM (iX p.1) hq⟩
    ·split <;> omega
    ·split <;> omega
   ·rintro zs H3 ⟨rfl,rfl⟩ D hD;have gD:=Same.upd (o:=.lst (((ws.take vs.length).map (iX p.1)).map V.int)) hD;refine⟨D,ws.map (iX p.1),rfl,by rw[aB,ew,aBi],_,_,rfl,rfl,(show 2<=sizeLine by decide),fun t ht'=>?_⟩;have gt:=gD.trans (Same.upd (o:=.tup [.int p.1,.int (p.2+(ws.map (iX p.1)).sum)]) ht');have elt:=gt _ _ el;have ett:(upd (upd H3 D (.lst (((ws.take vs.length).map (iX p.1)).map V.int))) t (.tup [.int p.1,.int (p.2+(ws.map (iX p.1)).sum)])) t=some (.tup [.int p.1,.int (p.2+(ws.map (iX p.1)).sum)]):=aB;generalize upd (upd H3 D (.lst (((ws.take vs.length).map (iX p.1)).map V.int))) t (.tup [.int p.1,.int (p.2+(ws.map (iX p.1)).sum)])=H4 at gt elt ett ⊢;have ly:=pr2.len;refine⟨l,ys,_,rfl,rfl,elt,aL (by rw[ly];simp only[aBk,dA,aB4];omega),ys++[.ref t],_,_,rfl,Same.upd' hl (sm.trans gt),aB,?_⟩;have ei:(dA ps ws).take (i+1)=(dA ps ws).take i++[(p.1,p.2+B6 ws p.1)]:=by
     rw[aBz];unfold dA;rw[aBs,hp];rfl
    rw[ei];exact Paired.append' (Prs.mono (TupS.trans (TupS.same gt) (TupS.lst elt)) pr2) (.cons ⟨t,rfl,by rw[aG (fV ett elt (by intro z;cases z))];exact ett⟩ .nil)
  ·rintro σ H2 ⟨ys,v1,v2,rfl,sm,el,pr2⟩;rw[e,show ps.length=(dA ps ws).length by simp[dA],aBi]at pr2;refine⟨_,rfl,l,ys,dA ps ws,rfl,el,pr2,by simp[dA];omega,fun l' us' qs hl' pr' hperm hs=>?_⟩;exact k qs hperm hs l' us' _ (sm.free hl') (Same.upd' (sm.free hl') sm) aB (Prs.mono (TupS.new hl') pr')
abbrev dS:Stmt:=top 54
theorem pA:aQ ["_law_row_here","_law_lasts"] ["_law_row_here"] (aD dS):=⟨rfl,rfl,rfl,by decide +kernel,rfl,by decide +kernel,by decide +kernel⟩
theorem xY {f:Addr} {fd:FuncData} (F:Fun K "_law_peel" "_law_peel" dS f fd) (B:Bt mg) (F_law_runs:aX P w K mg base "_law_runs" 1 ["_law_row_here"] qJ):FnOk P w K mg base CX0 2 f fd ["_law_row_here"] gH:=by
 refine F.ok pA (fun vs H Q E h=>?_) (fun cdv A outer s H vs Q E hr h=>?_)
 ·obtain⟨a,r,rfl,_⟩:=h;rfl
 ·obtain⟨a,row,rfl,ha,hrow,hlen,k⟩:=h;refine⟨_,(aE (aM (i:=1) pA.nd rfl (Or.inr rfl) (bX ["_law_first","_law_last"] [] [] rfl (.of (show cA (aD dS) _ ["_law_row_here","_law_lasts"] [] []=true by decide +kernel)) (bH (aU F_law_runs hr rfl (aA (pv 0) aC))) (fun _ _ _=>(dD (n:=2) K rfl rfl (aO (aI (i:=0) (show (["_law_first","_law_last"]:List Str).Nodup by decide +kernel) rfl (Or.inl rfl)) (aO (aI (i:=1) (show (["_law_first","_law_last"]:List Str).Nodup by decide +kernel) rfl (Or.inl rfl)) bR)))) (eN (bA (by decide) (bA (by decide) dC))) (fun _ _ _=>cD) (fun _ _ _=>(pv 1))))
 (aH (bF (V0 ["_law_place"] ["_law_lasts"] [1] rfl (.of (show vM (aD dS) _ ["_law_row_here","_law_lasts"] [1] ["_law_lasts"]=true by decide +kernel)) (bH (pv 0)) (fun _ _ _=>(aI (i:=0) (show (["_law_place","_law_lasts"]:List Str).Nodup by decide +kernel) rfl (Or.inr rfl))) (fB (by decide)) (fun _ _ _=>jV (aW (mG K rfl) (pv 0) (pv 1) (by with_unfolding_all rfl))) (fun _ _ _=>(aK bV (pv 0) (aK cR aF (aJ (jE K rfl) (by rfl) B.len PySem.boot_len (aA (bX ["_law_last"] ["_law_place"] [0] rfl (.of (by rfl)) (xN K rfl (pv 1)) (fun _ _ _=>(aI (i:=0) (show (["_law_last","_law_place"]:List Str).Nodup by decide +kernel) rfl (Or.inl rfl))) (fB (by decide)) (fun _ _ _=>jV (aW kH (pv 0) (pv 1) (bB _))) (fun _ _ _=>(pv 0))) aC))))))))),?_⟩
  refine⟨_,rfl,a,row,rfl,ha,hlen,fun l us H1 hl g1 el pr=>?_⟩;have e:us.length=(cZ row).length:=pr.len;have hrn:=oC row;refine⟨l,rfl,⟨_,SqL.of el⟩,bP (K:=K) (a:=l) (xs:=us) (fun j ys H2=>H2=H1/\ys=(((cZ row).take j).map (·.2)).map V.int) ⟨rfl,rfl⟩ ?_ ?_ ?_⟩
  ·rintro j ys H2 hj ⟨rfl,rfl⟩;exact⟨SqL.of el,by rw[aB4,aB4,aBk];exact aL (by omega)⟩
  ·rintro j x ys H2 hj ⟨rfl,rfl⟩;obtain⟨q,t2,hq,rfl,et2⟩:=bQ pr hj;exact⟨t2,_,rfl,SqT.of et2,rfl,_,_,rfl,_,_,rfl,rfl,_,rfl,rfl,dM (·.2) hq⟩
  rintro ys H2 ⟨rfl,rfl⟩ ll hll;rw[e,aBi,oI];have hel:(bG row).length<=60:=by rw[<- oI,aB4];omega
  have hlm:((bG row).map V.int).length=(bG row).length:=aB4 _;have g2:=Same.upd (o:=.lst ((bG row).map V.int)) hll;have ell:(upd H2 ll (.lst ((bG row).map V.int))) ll=some (.lst ((bG row).map V.int)):=aB;generalize upd H2 ll (.lst ((bG row).map V.int))=H3 at g2 ell ⊢;have s13:=g1.trans g2;have ha3:=s13 _ _ ha;refine⟨_,rfl,a,rfl,⟨_,SqL.of ha3⟩,bP (K:=K) (a:=a) (xs:=row.map V.int) (fun i ys H4=>∃ stays:List Int,ys=stays.map V.int/\Same H3 H4/\PlI row i stays/\stays.length<=i) ⟨[],rfl,Same.refl _,PlI.init row,Nat.le_refl _⟩ ?_ ?_ ?_⟩
  ·rintro i ys H4 hi ⟨stays,rfl,sm,_,hs⟩;rw[aB4]at hi;exact⟨SqL.of (sm _ _ ha3),by rw[aB4];exact aL (by omega)⟩
  ·rintro i x ys H4 hi ⟨stays,rfl,sm,hp,hs⟩;obtain⟨z,rfl,hz⟩:=eO hi;have ell4:=sm _ _ ell;refine⟨_,rfl,_,rfl,ll,_,rfl,.inl (SqL.of ell4),rfl,jN _,_,rfl,?_⟩;rw[show (if true=true then !inV (V.int z) ((bG row).map V.int)else inV (V.int z) ((bG row).map V.int))=!decide (z∈bG row)by rw[if_pos rfl,kQ]];rcases hp.step hrow hz with ⟨hq,hp'⟩ | ⟨hq,hp'⟩
   ·rw[aBq hq];exact⟨stays,rfl,sm,hp',by omega⟩
   ·rw[aBp hq];refine⟨_,rfl,_,rfl,ll,rfl,⟨_,SqL.of ell4⟩,bP (K:=K) (a:=ll) (xs:=(bG row).map V.int) (fun j zs H5=>H5=H4/\zs=(((bG row).take j).filter fun y=>decide (y<z)).map V.int) ⟨rfl,rfl⟩ ?_ ?_ ?_⟩
    ·rintro j zs H5 hj ⟨rfl,rfl⟩;refine⟨SqL.of ell4,?_⟩;rw[aB4];have h1:=List.length_filter_le (fun y=>decide (y<z)) ((bG row).take j);exact aL (by rw[aBk]at h1;omega)
    ·rintro j y zs H5 hj ⟨rfl,rfl⟩;obtain⟨y,rfl,hy⟩:=eO hj;have sn:=oP (fun y=>decide (y<z)) hy;refine⟨_,rfl,_,rfl,_,_,rfl,rfl,_,rfl,iB (fun c=>?_) (fun c=>?_)⟩
     ·rw[if_pos (aBq c)]at sn;exact⟨_,rfl,rfl,sn.symm⟩
     ·rw[if_neg (by simpa using c),List.append_nil]at sn;exact⟨rfl,sn.symm⟩
    rintro zs H5 ⟨rfl,rfl⟩ D hD;refine⟨D,_,rfl,.inl (SqL.of aB),_,_,rfl,rfl,.inl ⟨by decide,by decide⟩,_,_,rfl,rfl,stays++[z - 2 * (((bG row).filter fun y=>decide (y<z)).length:Int)],?_,sm.trans (Same.upd hD),hp',by simp;omega⟩;rw[aBj,aB4,hlm,aBi];rfl
  rintro ys H4 ⟨stays,rfl,sm,hp,hs⟩ D hD;rw[hp.done (by rw[aB4];exact Nat.le_refl _)];have s14:=s13.trans sm;exact k D _ (s14.free hD) (s14.trans (Same.upd hD)) aB
abbrev fT:Stmt:=top 55
theorem lL:aQ ["_law_row_here","_law_creel","_law_some"] ["_law_row_here","_law_creel"] (aD fT):=⟨rfl,rfl,rfl,by decide +kernel,rfl,by decide +kernel,by decide +kernel⟩
theorem xZ {f:Addr} {fd:FuncData} (F:Fun K "_law_view" "_law_view" fT f fd) (B:Bt mg) (F_stretches:aX P w K mg base "stretches" 2 ["row"] eT) (F_mirrored:aX P w K mg base "mirrored" 2 ["row"] iD) (F_walked:aX P w K mg base "walked" 2 ["row","creel"] jM) (F_walked_back:aX P w K mg base "walked_back" 3 ["row","creel"] uQ) (F_peeled:aX P w K mg base "peeled" 3 ["row"] gH) (F_rounds:aX P w K mg base "rounds" 4 ["row"] nO) (F_trains:aX P w K mg base "trains" 5 ["row"] gG) (F_sizes_by_loads:aX P w K mg base "sizes_by_loads" 4 ["row"] pU) (F_far:aX P w K mg base "far" 5 ["row","walks"] B7) (F_row_of:aX P w K mg base "row_of" 3 ["trains"] lB) (F_closings:aX P w K mg base "closings" 2 ["row"] kA) (F_tidied:aX P w K mg base "tidied" 3 ["walks","stones"] vQ):FnOk P w K mg base CX0 7 f fd ["_law_row_here","_law_creel"] vT:=by
 refine F.ok lL (fun vs H Q E h=>?_) (fun cdv A outer s H vs Q E hr h=>?_)
 ·obtain⟨a,row,c,rfl,_⟩:=h;rfl
 ·obtain⟨a,row,c,rfl,ha,hrow,h60,hc,kk⟩:=h;refine⟨_,(aE (aM (i:=2) lL.nd rfl (Or.inl rfl) (bL (aA (aU F_stretches hr rfl (aA (pv 0) aC)) (aA (aU F_mirrored hr rfl (aA (pv 0) aC)) (aA (aU F_walked hr rfl (aA (pv 0) (aA (pv 1) aC))) (aA (aU F_walked_back hr rfl (aA (pv 0) (aA (pv 1) aC))) (aA (aU F_peeled hr rfl (aA (pv 0) aC)) (aA (aU F_rounds hr rfl (aA (pv 0) aC)) aC))))))))
 (aE (aM (i:=2) lL.nd rfl (Or.inl rfl) (aK kJ (pv 2) (bL (aA (aU F_trains hr rfl (aA (pv 0) aC)) (aA (aU F_sizes_by_loads hr rfl (aA (pv 0) aC)) (aA (aU F_far hr rfl (aA (pv 0) (aA (bL (aA (cJ (aA (pv 1) (aA (aK yD aF aF) aC))) aC)) aC))) (aA (aU F_row_of hr rfl (aA (aU F_trains hr rfl (aA (pv 0) aC)) aC)) aC)))))))
 (aH (bF (aK kJ (pv 2) (bL (aA (aU F_closings hr rfl (aA (pv 0) aC)) (aA (aU F_tidied hr rfl (aA (bL (aA (cJ (aA (pv 1) (aA aF aC))) (aA (cJ (aA aF (aA (gK eF aF) aC))) aC))) (aA aF aC))) aC)))))))),?_⟩
  refine⟨_,rfl,a,row,rfl,ha,hrow,h60,fun y1 u1 H1 hx1 g1 ex1 pr1=>?_⟩;have N1:NewD H H1 (.ref y1) (pL (cZ row)):=NewD.prs (Same.refl _) hx1 ex1 pr1;clear hx1 ex1 pr1;refine⟨_,rfl,a,row,rfl,g1 _ _ ha,hrow,h60,fun y2 H2 hx2 g2 ex2=>?_⟩;have N2:NewD H H2 (.ref y2) (iL (mD row)):=NewD.ints g1 hx2 ex2;have t2:=g1.trans g2;clear hx2 ex2;refine⟨_,rfl,_,rfl,a,row,c,rfl,t2 _ _ ha,hrow,h60,hc,fun y3 H3 hx3 g3 ex3=>?_⟩;have N3:NewD H H3 (.ref y3) (iL (cK row c)):=NewD.ints t2 hx3 ex3;have t3:=t2.trans g3;clear hx3 ex3;refine⟨_,rfl,_,rfl,a,row,c,rfl,t3 _ _ ha,hrow,h60,hc,fun y4 H4 hx4 g4 ex4=>?_⟩;have N4:NewD H H4 (.ref y4) (iL (nC row c)):=NewD.ints t3 hx4 ex4;have t4:=t3.trans g4;clear hx4 ex4;refine⟨_,rfl,a,row,rfl,t4 _ _ ha,hrow,h60,fun y5 H5 hx5 g5 ex5=>?_⟩;have N5:NewD H H5 (.ref y5) (iL (bW 0 row)):=NewD.ints t4 hx5 ex5;have t5:=t4.trans g5;clear hx5 ex5;refine⟨_,rfl,a,row,rfl,t5 _ _ ha,hrow,h60,fun n hn hm y6 H6 hx6 g6 ex6=>?_⟩;have N6:NewD H H6 (.ref y6) (iL (L3 n row)):=NewD.ints t5 hx6 ex6;have t6:=t5.trans g6;clear hx6 ex6;refine⟨(show 6<=sizeLine by decide),fun p hp=>?_⟩;have g7:=Same.upd (o:=.lst [V.ref y1,V.ref y2,V.ref y3,V.ref y4,V.ref y5,V.ref y6]) hp;have ep:(upd H6 p (.lst [V.ref y1,V.ref y2,V.ref y3,V.ref y4,V.ref y5,V.ref y6])) p=some (.lst [V.ref y1,V.ref y2,V.ref y3,V.ref y4,V.ref y5,V.ref y6]):=aB;generalize upd H6 p (.lst [V.ref y1,V.ref y2,V.ref y3,V.ref y4,V.ref y5,V.ref y6])=H7 at g7 ep ⊢;have t7:=t6.trans g7;have q6:=g7;have q5:=g6.trans q6;have q4:=g5.trans q5;have q3:=g4.trans q4;have q2:=g3.trans q3;have q1:=g2.trans q2;have P7:Paired (NewD H H7) [V.ref y1,V.ref y2,V.ref y3,V.ref y4,V.ref y5,V.ref y6] [pL (cZ row),iL (mD row),iL (cK row c),iL (nC row c),iL (bW 0 row),iL (L3 n row)] :=
   .cons (N1.same q1) (.cons (N2.same q2) (.cons (N3.same q3) (.cons (N4.same q4) (.cons (N5.same q5) (.cons (N6.same q6) .nil)))))
  clear N1 N2 N3 N4 N5 N6 g1 g2 g3 g4 g5 g6 g7 q1 q2 q3 q4 q5 q6 t2 t3 t4 t5 t6 hp;refine⟨_,rfl,_,rfl,a,row,rfl,t7 _ _ ha,hrow,h60,fun qs hq1 hq2 x1 u1 H8 hx1 g8 ex1 pr1=>?_⟩;have N1:NewD H H8 (.ref x1) (pL qs):=NewD.prs t7 hx1 ex1 pr1;have t8:=t7.trans g8;clear hx1 ex1 pr1;have hsz:Szs row (qs.map (·.1)):=⟨qs,hq1,List.Perm.refl _,j7 hq2⟩;refine⟨_,rfl,a,row,_,rfl,t8 _ _ ha,hsz,h60,fun x2 H9 hx2 g9 ex2=>?_⟩;have N2:NewD H H9 (.ref x2) (iL (qs.map (·.1))):=NewD.ints t8 hx2 ex2;have t9:=t8.trans g9;clear hx2 ex2;refine⟨_,rfl,_,rfl,_,_,rfl,rfl,⟨by decide,by decide,by decide⟩,(show 2<=sizeLine by decide),fun w1 hw1=>?_⟩;have g10:=Same.upd (o:=.tup [V.int c,V.int (10 ^ (20:Int).toNat)]) hw1;have ew1:(upd H9 w1 (.tup [V.int c,V.int (10 ^ (20:Int).toNat)])) w1=some (.tup [V.int c,V.int (10 ^ 20)]):=aB;generalize upd H9 w1 (.tup [V.int c,V.int (10 ^ (20:Int).toNat)])=H10 at g10 ew1 ⊢;refine⟨(show 1<=sizeLine by decide),fun w2 hw2=>?_⟩;have g11:=Same.upd (o:=.lst [V.ref w1]) hw2;have ew2:(upd H10 w2 (.lst [V.ref w1])) w2=some (.lst [V.ref w1]):=aB;generalize upd H10 w2 (.lst [V.ref w1])=H11 at g11 ew2 ⊢;have t11:=(t9.trans g10).trans g11;have LPw:LP H11 w2 (wsM c):=⟨_,ew2,.cons ⟨w1,rfl,g11 _ _ ew1⟩ .nil⟩;have hcr:Crl (wsM c):=fun q hq=>by rw[aCA.mp hq];exact hc
  refine⟨a,w2,row,wsM c,rfl,t11 _ _ ha,hrow,h60,LPw,(show 1<=200 by decide),hcr,fun rf ps hf1 hf2 x3 H12 hx3 g12 ex3=>?_⟩;have N3:NewD H H12 (.ref x3) (iL rf):=NewD.ints t11 hx3 ex3;have t12:=t11.trans g12;refine⟨_,rfl,a,row,rfl,t12 _ _ ha,hrow,h60,fun qs' hq1' hq2' x5 u5 H13 hx5 g13 ex5 pr5=>?_⟩;have eqq:=qZ (hq1'.uniq hq1) hq2' hq2;subst eqq;have t13:=t12.trans g13;refine⟨x5,qs',rfl,⟨u5,ex5,pr5⟩,hq1'.trn h60,fun r hr4 x4 H14 hx4 g14 ex4=>?_⟩;have er:r=row:=hr4.row hq1' (List.Perm.refl _);subst er;have N4:NewD H H14 (.ref x4) (iL r):=NewD.ints t13 hx4 ex4;have t14:=t13.trans g14;refine⟨(show 4<=sizeLine by decide),fun p2 hp2=>?_⟩;have g15:=Same.upd (o:=.lst [V.ref x1,V.ref x2,V.ref x3,V.ref x4]) hp2;have ep2:(upd H14 p2 (.lst [V.ref x1,V.ref x2,V.ref x3,V.ref x4])) p2=some (.lst [V.ref x1,V.ref x2,V.ref x3,V.ref x4]):=aB;generalize upd H14 p2 (.lst [V.ref x1,V.ref x2,V.ref x3,V.ref x4])=H15 at g15 ep2 ⊢;have t15:=t14.trans g15;have q4:=g15;have q3:=(g13.trans g14).trans q4;have q2:=((g10.trans g11).trans g12).trans q3;have q1:=g9.trans q2;have ep15:=(g8.trans q1) _ _ ep;have P15:=Paired.append' (P7.mono fun _ _ h=>h.same (g8.trans q1)) (.cons (N1.same q1) (.cons (N2.same q2) (.cons (N3.same q3) (.cons (N4.same q4) .nil))));clear N1 N2 N3 N4 P7 g8 g9 g10 g11 g12 g13 g14 g15 q1 q2 q3 q4 t7 t8 t9 t11 t12 t13 t14 ep hp2 LPw ew1 ew2 hw1 hw2 hx3 ex3 hx4 ex4 hx5 ex5 pr5;have ha15:=t15 _ _ ha;refine⟨p,p2,_,_,rfl,rfl,ep15,ep2,(show 10<=sizeLine by decide),fun p3 hp3=>?_⟩;generalize hus:[V.ref y1,V.ref y2,V.ref y3,V.ref y4,V.ref y5,V.ref y6]++[V.ref x1,V.ref x2,V.ref x3,V.ref x4]=us at P15 ⊢;have hul:us.length=10:=by rw[<- hus];rfl
  clear hus;have g16:=Same.upd (o:=.lst us) hp3;have ep3:(upd H15 p3 (.lst us)) p3=some (.lst us):=aB;generalize upd H15 p3 (.lst us)=H16 at g16 ep3 ⊢;have t16:=t15.trans g16;refine⟨_,rfl,_,rfl,a,_,rfl,t16 _ _ ha,hrow,h60,fun cl hcl1 hcl2 x1 u1 H17 hx1 g17 ex1 pr1=>?_⟩;have N1:NewD H H17 (.ref x1) (pL cl):=NewD.prs t16 hx1 ex1 pr1;have t17:=t16.trans g17;refine⟨_,rfl,(show 2<=sizeLine by decide),fun w1 hw1=>?_⟩;have g18:=Same.upd (o:=.tup [V.int c,V.int 2]) hw1;have ew1:(upd H17 w1 (.tup [V.int c,V.int 2])) w1=some (.tup [V.int c,V.int 2]):=aB;generalize upd H17 w1 (.tup [V.int c,V.int 2])=H18 at g18 ew1 ⊢;refine⟨_,rfl,(show 2<=sizeLine by decide),fun w2 hw2=>?_⟩;have g19:=Same.upd (o:=.tup [V.int 70,V.int (-2)]) hw2;have ew2:(upd H18 w2 (.tup [V.int 70,V.int (-2)])) w2=some (.tup [V.int 70,V.int (-2)]):=aB;generalize upd H18 w2 (.tup [V.int 70,V.int (-2)])=H19 at g19 ew2 ⊢;refine⟨(show 2<=sizeLine by decide),fun w3 hw3=>?_⟩;have g20:=Same.upd (o:=.lst [V.ref w1,V.ref w2]) hw3;have ew3:(upd H19 w3 (.lst [V.ref w1,V.ref w2])) w3=some (.lst [V.ref w1,V.ref w2]):=aB;generalize upd H19 w3 (.lst [V.ref w1,V.ref w2])=H20 at g20 ew3 ⊢;have t20:=((t17.trans g18).trans g19).trans g20;have LPw:LP H20 w3 [(c,2),(70,-2)]:=⟨_,ew3,.cons ⟨w1,rfl,(g19.trans g20) _ _ ew1⟩ (.cons ⟨w2,rfl,g20 _ _ ew2⟩ .nil)⟩;have hcr2:Crl [(c,2),(70,-2)]:=fun q hq=>by
   rcases aCG.mp hq with h | h
   ·rw[h];exact hc
   ·rw[aCA.mp h];decide
  refine⟨w3,_,60,rfl,LPw,(show 2<=60 by decide),by decide,hcr2,fun x2 u2 H21 hx2 g21 ex2 pr2=>?_⟩;have N2:NewD H H21 (.ref x2) (pL (gJ [(c,2),(70,-2)] 60 60)):=NewD.prs t20 hx2 ex2 pr2;have t21:=t20.trans g21;refine⟨(show 2<=sizeLine by decide),fun p4 hp4=>?_⟩;have g22:=Same.upd (o:=.lst [V.ref x1,V.ref x2]) hp4;have ep4:(upd H21 p4 (.lst [V.ref x1,V.ref x2])) p4=some (.lst [V.ref x1,V.ref x2]):=aB;generalize upd H21 p4 (.lst [V.ref x1,V.ref x2])=H22 at g22 ep4 ⊢;have t22:=t21.trans g22;have q17:=(((g18.trans g19).trans g20).trans g21).trans g22;have q16:=g17.trans q17;have P22:=Paired.append' (P15.mono fun _ _ h=>h.same (g16.trans q16)) (.cons (N1.same q17) (.cons (N2.same g22) .nil));refine⟨p3,p4,_,_,rfl,rfl,q16 _ _ ep3,ep4,(by rw[hul];exact(show 12<=sizeLine by decide)),fun p5 hp5=>?_⟩;have g23:=Same.upd (o:=.lst (us++[V.ref x1,V.ref x2])) hp5;exact kk p5 _ qs' n rf cl _ { lst:=hq1',srt:=hq2',pn:=hn,pm:=hm,far:=⟨_,(by unfold dA;exact(hf1.uniq hq1').map _),hf2⟩,clp:=hcl1,cls:=hcl2 } (t22.free hp5) (t22.trans g23) aB (P22.mono fun _ _ h=>h.same g23)
abbrev fU:Stmt:=top 56
theorem eS:aQ ["_law_row_here","_law_creel","_law_plain_here","_law_counts","_law_rest","_law_pairs"] ["_law_row_here","_law_creel"] (aD fU):=⟨rfl,rfl,rfl,by decide +kernel,rfl,by decide +kernel,by decide +kernel⟩
inductive zQ (H0:Hp) (row:List Int) (c:Int) (a p ld:Addr) (m:Nat) (σ:St) (Hx:Hp):Prop
 | mk (n:Nat) (rl:Addr) (h0_:σ=[some (.ref a),some (.int c),some (.ref p),some (.ref ld),some (.ref rl),none]) (h1_:Same H0 Hx) (h2_:Hx rl=some (.lst ((bM n row).map V.int))) (h3_:rl≠ld) (h4_:Hx ld=some (.lst (((List.range n).map fun k=>(stG (bM k row):Int)).map V.int))) (h5_:∀ k,k<n->bM k row≠[]) (h6_:m=(bM n row).length) (h7_:m+n<=60):zQ H0 row c a p ld m σ Hx
theorem vZ {f:Addr} {fd:FuncData} (F:Fun K "_law_due" "_law_due" fU f fd) (B:Bt mg) (F_law_runs:aX P w K mg base "_law_runs" 1 ["_law_row_here"] qJ) (F_law_turned:aX P w K mg base "_law_turned" 1 ["_law_row_here"] kO) (F_law_plain:aX P w K mg base "_law_plain" 1 ["_law_row_here","_law_creel"] lC) (F_law_plain_back:aX P w K mg base "_law_plain_back" 2 ["_law_row_here","_law_creel"] gT) (F_law_peel:aX P w K mg base "_law_peel" 2 ["_law_row_here"] gH) (F_law_list:aX P w K mg base "_law_list" 2 ["_law_row_here"] lW) (F_law_stones:aX P w K mg base "_law_stones" 2 ["_law_pairs"] nL) (F_law_adds:aX P w K mg base "_law_adds" 1 ["_law_pairs","_law_walks"] vD):FnOk P w K mg base CX0 5 f fd ["_law_row_here","_law_creel"] pV:=by
 refine F.ok eS (fun vs H Q E h=>?_) (fun cdv A outer s H vs Q E hr h=>?_)
 ·obtain⟨a,row,c,rfl,_⟩:=h;rfl
 ·obtain⟨a,row,c,rfl,ha,hrow,h60,hc,hnr,kk⟩:=h;have hu:=hr.units;refine⟨_,(aE (aM (i:=2) eS.nd rfl (Or.inl rfl) (bL (aA (aU F_law_runs hr rfl (aA (pv 0) aC)) (aA (aU F_law_turned hr rfl (aA (pv 0) aC)) (aA (aU F_law_plain hr rfl (aA (pv 0) (aA (pv 1) aC))) (aA (aU F_law_plain_back hr rfl (aA (pv 0) (aA (pv 1) aC))) (aA (aU F_law_peel hr rfl (aA (pv 0) aC)) aC)))))))
 (aE (aM (i:=3) eS.nd rfl (Or.inl rfl) (bL aC))
 (aE (aM (i:=4) eS.nd rfl (Or.inl rfl) (lN gO (by rfl) B.list fJ (aA (pv 0) aC)))
 (aE (eZ PassesOwn.never (aW (uK hu) (pv 4) (bL aC) (bB _))
 (aE (aR (cT aCB aCC aCD bC (pv 3) (aA (aJ bE (by rfl) B.len PySem.boot_len (aA (aU F_law_runs hr rfl (aA (pv 4) aC)) aC)) aC)))
 (aH (aM (i:=4) eS.nd rfl (Or.inl rfl) (aU F_law_peel hr rfl (aA (pv 4) aC))))))
 (aE (aM (i:=5) eS.nd rfl (Or.inl rfl) (aU F_law_list hr rfl (aA (pv 0) aC)))
 (aE (aM (i:=2) eS.nd rfl (Or.inl rfl) (aK kJ (pv 2) (bL (aA (pv 3) (aA (pv 5) (aA (bX ["_law_size","_law_offset"] [] [] rfl (.of (show cA (aD fU) _ ["_law_row_here","_law_creel","_law_plain_here","_law_counts","_law_rest","_law_pairs"] [] []=true by decide +kernel)) (bH (pv 5)) (fun _ _ _=>(dD (n:=2) K rfl rfl (aO (aI (i:=0) (show (["_law_size","_law_offset"]:List Str).Nodup by decide +kernel) rfl (Or.inl rfl)) (aO (aI (i:=1) (show (["_law_size","_law_offset"]:List Str).Nodup by decide +kernel) rfl (Or.inl rfl)) bR)))) (eN (bA (by decide) (bA (by decide) dC))) (fun _ _ _=>cD) (fun _ _ _=>(pv 0))) aC))))))
 (aH (bF (aK kJ (pv 2) (bL (aA (aU F_law_stones hr rfl (aA (aU F_law_adds hr rfl (aA (pv 5) (aA (bL (aA (cJ (aA (pv 1) (aA (aK yD aF aF) aC))) aC)) aC))) aC)) (aA (pv 0) aC)))))))))))),?_⟩
  refine⟨_,rfl,a,row,rfl,ha,h60,fun x1 u1 H1 hx1 g1 ex1 pr1=>?_⟩;have N1:Den H1 (.ref x1) (pL (cZ row)):=.lst ex1 pr1.dens;refine⟨_,rfl,a,row,rfl,g1 _ _ ha,h60,fun x2 H2 hx2 g2 ex2=>?_⟩;have N2:Den H2 (.ref x2) (iL (mD row)):=Den.ints ex2;have t2:=g1.trans g2;refine⟨_,rfl,_,rfl,a,row,c,rfl,t2 _ _ ha,hrow,h60,hnr,fun x3 H3 hx3 g3 ex3=>?_⟩;have N3:Den H3 (.ref x3) (iL (cK row c)):=Den.ints ex3;have t3:=t2.trans g3;refine⟨_,rfl,_,rfl,a,row,c,rfl,t3 _ _ ha,hrow,h60,hc,hnr,fun x4 H4 hx4 g4 ex4=>?_⟩;have N4:Den H4 (.ref x4) (iL (nC row c)):=Den.ints ex4;have t4:=t3.trans g4;refine⟨_,rfl,a,row,rfl,t4 _ _ ha,hrow,h60,fun x5 H5 hx5 g5 ex5=>?_⟩;have N5:Den H5 (.ref x5) (iL (bW 0 row)):=Den.ints ex5;have t5:=t4.trans g5;refine⟨(show 5<=sizeLine by decide),fun p hp=>?_⟩;have g6:=Same.upd (o:=.lst [V.ref x1,V.ref x2,V.ref x3,V.ref x4,V.ref x5]) hp;have ep:(upd H5 p (.lst [V.ref x1,V.ref x2,V.ref x3,V.ref x4,V.ref x5])) p=some (.lst [V.ref x1,V.ref x2,V.ref x3,V.ref x4,V.ref x5]):=aB;generalize upd H5 p (.lst [V.ref x1,V.ref x2,V.ref x3,V.ref x4,V.ref x5])=H6 at g6 ep ⊢;have t6:=t5.trans g6;have q4:=g5.trans g6;have q3:=g4.trans q4;have q2:=g3.trans q3;have q1:=g2.trans q2;have D6:Dens H6 [V.ref x1,V.ref x2,V.ref x3,V.ref x4,V.ref x5] [pL (cZ row),iL (mD row),iL (cK row c),iL (nC row c),iL (bW 0 row)]:=.cons (N1.mono q1) (.cons (N2.mono q2) (.cons (N3.mono q3) (.cons (N4.mono q4) (.cons (N5.mono g6) .nil))));generalize hU5:[V.ref x1,V.ref x2,V.ref x3,V.ref x4,V.ref x5]=U5 at D6 ep;have hU5l:U5.length=5:=by rw[<- hU5];rfl
  clear hU5 N1 N2 N3 N4 N5 g1 g2 g3 g4 g5 g6 t2 t3 t4 t5 q1 q2 q3 q4 ex1 ex2 ex3 ex4 ex5 pr1 hx1 hx2 hx3 hx4 hx5 hp;have ha6:=t6 _ _ ha;refine⟨by decide,fun ld hld=>?_⟩;have g6:=Same.upd (o:=.lst []) hld;have eld:(upd H6 ld (.lst [])) ld=some (.lst []):=aB;generalize upd H6 ld (.lst [])=H7 at g6 eld ⊢;refine⟨_,rfl,a,_,rfl,.inl (SqL.of (g6 _ _ ha6)),fun rl0 hrl0=>?_⟩;have g7:=Same.upd (o:=.lst (row.map V.int)) hrl0;have erl0:(upd H7 rl0 (.lst (row.map V.int))) rl0=some (.lst (row.map V.int)):=aB;generalize upd H7 rl0 (.lst (row.map V.int))=H8 at g7 erl0 ⊢;refine⟨zQ H6 row c a p ld,⟨row.length,0,rl0,rfl,g6.trans g7,erl0,(fun e=>by rw[e,eld]at hrl0;cases hrl0),g7 _ _ eld,fun k hk=>absurd hk (Nat.not_lt_zero _),rfl,by omega⟩,?_⟩;clear g6 g7 eld erl0 hrl0;rintro m σ H9 ⟨n,rl,rfl,sm,erl,nrl,eld,hne,rfl,hm⟩;have hrn:=oJ hrow n;refine⟨_,rfl,by decide,fun z0 hz0=>?_⟩;have g9:=Same.upd (o:=.lst []) hz0;have ez0:(upd H9 z0 (.lst [])) z0=some (.lst (([]:List Int).map V.int)):=aB;generalize upd H9 z0 (.lst [])=H10 at g9 ez0 ⊢;have sm9:=sm.trans g9;have erl9:=g9 _ _ erl;have eld9:=g9 _ _ eld;refine⟨_,_,Den.ints erl9,Den.ints ez0,iW _,iW [],_,rfl,?_⟩;clear g9 ez0 erl eld sm hz0
  by_cases hz:bM n row=[]
  ·rw[hz];show (if (!PyData.eqv (.list []) (.list []))=true then _ else _);rw[if_neg (by decide)];have t10:=t6.trans sm9;have Dc:Den H10 (.ref ld) (iL (L3 n row)):=Den.ints eld9;have D10:=D6.mono sm9;have ep10:=sm9 _ _ ep;have hn60:n<=60:=by omega
   clear hm erl9 eld9 sm9 D6 ep;refine⟨_,rfl,a,row,rfl,t10 _ _ ha,hrow,h60,fun qs hq1 hq2 l us H11 hl g11 el pr=>?_⟩;have t11:=t10.trans g11;have e:us.length=qs.length:=pr.len;have hql:=Lst.few hq1 h60;refine⟨_,rfl,_,rfl,_,rfl,_,rfl,?_⟩;refine⟨l,rfl,⟨_,SqL.of el⟩,bP (K:=K) (a:=l) (xs:=us) (fun j ys H12=>H12=H11/\ys=((qs.take j).map (·.1)).map V.int) ⟨rfl,rfl⟩ ?_ ?_ ?_⟩
   ·rintro j ys H12 hj ⟨rfl,rfl⟩;exact⟨SqL.of el,by rw[aB4,aB4,aBk];exact aL (by omega)⟩
   ·rintro j x ys H12 hj ⟨rfl,rfl⟩;obtain⟨q,t2,hq,rfl,et2⟩:=bQ pr hj;exact⟨t2,_,rfl,SqT.of et2,rfl,_,_,rfl,_,_,rfl,rfl,_,rfl,rfl,dM (·.1) hq⟩
   rintro ys H12 ⟨rfl,rfl⟩ ll hll;rw[e,aBi];have g12:=Same.upd (o:=.lst ((qs.map (·.1)).map V.int)) hll;have ell:(upd H12 ll (.lst ((qs.map (·.1)).map V.int))) ll=some (.lst ((qs.map (·.1)).map V.int)):=aB;generalize upd H12 ll (.lst ((qs.map (·.1)).map V.int))=H13 at g12 ell ⊢;have q13:=g11.trans g12;have t13:=t11.trans g12;have LPq:LP H13 l qs:=⟨us,g12 _ _ el,pr.mono (TupS.same g12)⟩;refine⟨(show 3<=sizeLine by decide),fun p3 hp3=>?_⟩;have g14:=Same.upd (o:=.lst [V.ref ld,V.ref l,V.ref ll]) hp3;have ep3:(upd H13 p3 (.lst [V.ref ld,V.ref l,V.ref ll])) p3=some (.lst [V.ref ld,V.ref l,V.ref ll]):=aB;generalize upd H13 p3 (.lst [V.ref ld,V.ref l,V.ref ll])=H14 at g14 ep3 ⊢;have q14:=q13.trans g14;have t14:=t13.trans g14;have LPq14:=LPq.mono g14;have D14:=(D10.mono q14).append (.cons (Dc.mono q14) (.cons LPq14.den (.cons (Den.ints (g14 _ _ ell)) .nil)));refine⟨p,p3,_,_,rfl,rfl,q14 _ _ ep10,ep3,(by rw[hU5l];exact(show 8<=sizeLine by decide)),fun p4 hp4=>?_⟩;generalize hU8:U5++[V.ref ld,V.ref l,V.ref ll]=U8 at D14 ⊢;have hU8l:U8.length=8:=by rw[<- hU8,aBd,hU5l];rfl
   have g15:=Same.upd (o:=.lst U8) hp4;have ep4:(upd H14 p4 (.lst U8)) p4=some (.lst U8):=aB;generalize upd H14 p4 (.lst U8)=H15 at g15 ep4 ⊢;have t15:=t14.trans g15;have LPq15:=LPq14.mono g15;have D15:=D14.mono g15;refine⟨_,rfl,_,rfl,_,rfl,_,_,rfl,rfl,⟨by decide,by decide,by decide⟩,(show 2<=sizeLine by decide),fun w1 hw1=>?_⟩;have g16:=Same.upd (o:=.tup [V.int c,V.int (10 ^ (20:Int).toNat)]) hw1;have ew1:(upd H15 w1 (.tup [V.int c,V.int (10 ^ (20:Int).toNat)])) w1=some (.tup [V.int c,V.int (10 ^ 20)]):=aB;generalize upd H15 w1 (.tup [V.int c,V.int (10 ^ (20:Int).toNat)])=H16 at g16 ew1 ⊢;refine⟨(show 1<=sizeLine by decide),fun w2 hw2=>?_⟩;have g17:=Same.upd (o:=.lst [V.ref w1]) hw2;have ew2:(upd H16 w2 (.lst [V.ref w1])) w2=some (.lst [V.ref w1]):=aB;generalize upd H16 w2 (.lst [V.ref w1])=H17 at g17 ew2 ⊢;have LPw:LP H17 w2 (wsM c):=⟨_,ew2,.cons ⟨w1,rfl,g17 _ _ ew1⟩ .nil⟩;have hcr:Crl (wsM c):=fun q hq=>by rw[aCA.mp hq];exact hc
   have q17:=g16.trans g17;refine⟨l,w2,qs,wsM c,rfl,LPq15.mono q17,hq1.trn h60,LPw,(show 1<=200 by decide),hcr,fun ps hps1 hps2 x6 u6 H18 hx6 g18 ex6 pr6=>?_⟩;refine⟨x6,ps,rfl,⟨u6,ex6,pr6⟩,rB (rF (hq1.trn h60)) hps1,fun rf hrf x7 H19 hx7 g19 ex7=>?_⟩;have q19:=(q17.trans g18).trans g19;refine⟨_,rfl,(show 2<=sizeLine by decide),fun p5 hp5=>?_⟩;have g20:=Same.upd (o:=.lst [V.ref x7,V.ref a]) hp5;have ep5:(upd H19 p5 (.lst [V.ref x7,V.ref a])) p5=some (.lst [V.ref x7,V.ref a]):=aB;generalize upd H19 p5 (.lst [V.ref x7,V.ref a])=H20 at g20 ep5 ⊢;have q20:=q19.trans g20;have t20:=t15.trans q20;have D20:=(D15.mono q20).append (.cons (Den.ints (g20 _ _ ex7)) (.cons (Den.ints (t20 _ _ ha)) .nil));refine⟨p4,p5,_,_,rfl,rfl,q20 _ _ ep4,ep5,(by rw[hU8l];exact(show 10<=sizeLine by decide)),fun p6 hp6=>?_⟩;have g21:=Same.upd (o:=.lst (U8++[V.ref x7,V.ref a])) hp6;exact kk p6 qs n rf _ { lst:=hq1,srt:=hq2,pn:=hz,pm:=hne,far:=⟨ps,hps1,hrf⟩ } hn60 (t20.trans g21) (.lst aB (D20.mono g21))
  ·have hne':(!PyData.eqv (.list ((bM n row).map PyData.int)) (.list (([]:List Int).map PyData.int)))=true:=by
    cases e:bM n row with
    | nil=>exact absurd e hz
    | cons x r=>rfl
   rw[hne'];show (if true=true then _ else _);rw[if_pos rfl];have hst:1<=stG (bM n row):=by
    cases e:bM n row with
    | nil=>exact absurd e hz
    | cons x r=>exact zG r x
   have hpl:=lD (bM n row) 0;refine⟨fun σ' H'=>∃ m',m'<(bM n row).length/\zQ H6 row c a p ld m' σ' H',fun σ' H' h=>h,?_⟩;refine⟨_,rfl,.inl ⟨rfl,_,SqL.of eld9⟩,_,rfl,rl,_,rfl,erl9,by omega,fun l2 us2 H11 hl2 g10 el2 pr2=>?_⟩;have eld10:=g10 _ _ eld9;have hul:us2.length=stG (bM n row):=by rw[pr2.len,B9]
   refine⟨l2,_,rfl,.inl (SqL.of el2),ld,_,_,rfl,rfl,eld10,by rw[aB4,aB4,List.length_range];exact aL (by omega),?_⟩;have erl11:(upd H11 ld (.lst (((List.range n).map fun k=>(stG (bM k row):Int)).map V.int++[V.int (us2.length:Int)]))) rl=some (.lst ((bM n row).map V.int)):=by rw[aG nrl];exact g10 _ _ erl9
   have eld11:(upd H11 ld (.lst (((List.range n).map fun k=>(stG (bM k row):Int)).map V.int++[V.int (us2.length:Int)]))) ld=some (.lst (((List.range (n+1)).map fun k=>(stG (bM k row):Int)).map V.int)):=by
    rw[aB,hul,List.range_succ,aBj,aBj];rfl
   have s11:Same H6 (upd H11 ld (.lst (((List.range n).map fun k=>(stG (bM k row):Int)).map V.int++[V.int (us2.length:Int)]))):=Same.upd' hld (sm9.trans g10);generalize upd H11 ld (.lst (((List.range n).map fun k=>(stG (bM k row):Int)).map V.int++[V.int (us2.length:Int)]))=H12 at erl11 eld11 s11 ⊢;refine⟨_,rfl,rl,_,rfl,erl11,hrn,by omega,fun l3 H13 hl3 g12 el12=>?_⟩;refine⟨(bW 0 (bM n row)).length,by omega,n+1,l3,rfl,s11.trans g12,el12,(fun e=>by rw[e,eld11]at hl3;cases hl3),g12 _ _ eld11,fun j hj=>?_,rfl,by omega⟩
   by_cases e:j=n
   ·rw[e];exact hz
   ·exact hne j (by omega)
end
section
variable {P:Program} {w:World} {K:PySem.W.Frag} {mg:Str->Option Value} {base:Heap}
abbrev lM:Stmt:=top 57
theorem iR:aQ ["_law_script","_law_numbers_here","_law_row_here","_law_at","_law_rows","_law_kept","_law_k","_law_which","_law_creel","_law_found","_law_one"] ["_law_script"] (aD lM):=⟨rfl,rfl,rfl,by decide +kernel,rfl,by decide +kernel,by decide +kernel⟩
theorem wA {α β:Type} {F:α->β->Prop}:∀ {us:List α} {Ds:List β} {x:α},Paired F us Ds->x∈us->∃ D,D∈Ds/\F x D
 | _,_,_,.nil,e=>by cases e
 | _,_,x,.cons h t,e=>by
  rcases aCG.mp e with rfl | e
  ·exact⟨_,aB6,h⟩
  ·obtain⟨D,h1,h2⟩:=wA t e;exact⟨D,aB7 _ h1,h2⟩
theorem X4 {H0 H:Hp} {lf:Addr} {us:List V} {Ds:List PyData} (e:H lf=some (.lst us)) (PN:Paired (NewD H0 H) us Ds) (hm:V.ref lf∈us):False:=by
 obtain⟨D,_,l,ws,ds,e1,_,h1,h2,hf,_⟩:=wA PN hm;cases e1;rw[e]at h1;cases h1;cases PN with
 | nil=>cases hm
 | cons a b =>
  obtain⟨l',ws',ds',rfl,_,k1,_⟩:=a;cases h2 with
  | cons p q =>
   rcases hf _ aB6 with ⟨i,rfl⟩ | ⟨i,rfl⟩
   ·cases p
   ·cases p with
    | tup x y=>rw[k1]at x;cases x
inductive X5 (a l1 lr rw' d:Addr) (k:Nat) (c:Int) (nums:List Int) (us4:List V) (Rs:List (List Int)) (i:Nat) (σ:St) (Hx:Hp):Prop
 | mk (v6 v7 v8 v9 v10:Option V) (kvs:List (Key×V)) (h0_:σ=[some (.ref a),some (.ref l1),some (.ref lr),some (.int k),some (.ref rw'),some (.ref d),v6,v7,v8,v9,v10]) (h1_:Hx l1=some (.lst (nums.map V.int))) (h2_:Hx rw'=some (.lst us4)) (h3_:aAv us4 Rs Hx) (h4_:Hx d=some (.dK kvs)) (h5_:kvs.length<=i) (h6_:aAw Rs c kvs Hx):X5 a l1 lr rw' d k c nums us4 Rs i σ Hx
theorem aAV {f:Addr} {fd:FuncData} (F:Fun K "law" "law" lM f fd) (B:Bt mg) (F_law_numbers:aX P w K mg base "_law_numbers" 1 ["_law_script","_law_many"] (lS K)) (F_law_row:aX P w K mg base "_law_row" 1 ["_law_d","_law_most"] vS) (F_law_view:aX P w K mg base "_law_view" 7 ["_law_row_here","_law_creel"] vT) (F_law_due:aX P w K mg base "_law_due" 5 ["_law_row_here","_law_creel"] pV) (F_law_same:aX P w K mg base "_law_same" 4 ["_law_found","_law_due_here"] (oB 3)) :
 FnOk P w K mg base CX0 8 f fd ["_law_script"] (wO K):=by
 refine F.ok iR (fun vs H Q E h=>?_) (fun cdv A outer s H vs Q E hr h=>?_)
 ·obtain⟨a,ns,rfl,_⟩:=h;rfl
 ·obtain⟨a,sc,rfl,hS,hlen,kk⟩:=h;have hu:=hr.units;have hu1:=qG hr;refine⟨_,(aY (aM (i:=1) iR.nd rfl (Or.inl rfl) (aU F_law_numbers hr rfl (aA (pv 0) (aA aF aC))))
 (aY (aM (i:=2) iR.nd rfl (Or.inl rfl) (aK kJ (aU F_law_row hr rfl (aA (fA gN (pv 1) (gM aF) gL) (aA aF aC))) (bL (aA aF aC))))
 (aY (aM (i:=3) iR.nd rfl (Or.inl rfl) (aK eM (cY cC (pv 1) aF (fun _ _=>rfl)) (aJ bE (by rfl) B.len PySem.boot_len (aA (pv 2) aC))))
 (aY (aM (i:=4) iR.nd rfl (Or.inl rfl) (bL (aA (pv 2) (aA (aK kJ (fA gN (pv 2) gL (gM (pv 3))) (fA gN (pv 2) (gM (aK bS (pv 3) aF)) gL)) (aA (aK kJ (bX ["_law_place"] [] [] rfl (.of (show cA (aD lM) _ ["_law_script","_law_numbers_here","_law_row_here","_law_at","_law_rows","_law_kept","_law_k","_law_which","_law_creel","_law_found","_law_one"] [] []=true by decide +kernel)) (bH (fA gN (pv 2) gL (gM (pv 3)))) (fun _ _ _=>(aI (i:=0) (show (["_law_place"]:List Str).Nodup by decide +kernel) rfl (Or.inl rfl))) (fB (by decide)) (fun _ _ _=>cD) (fun _ _ _=>(aK bV (pv 0) aF))) (fA gN (pv 2) (gM (pv 3)) gL)) (aA (aU F_law_row hr rfl (aA (fA gN (pv 1) (gM aF) gL) (aA aF aC))) aC))))))
 (aY (aM (i:=5) iR.nd rfl (Or.inl rfl) kX)
 (aE (cQ PassesOwn.never rfl (jI rfl B.range (aA aF aC)) (aI (i:=6) iR.nd rfl (Or.inl rfl))
 (aY (aM (i:=7) iR.nd rfl (Or.inl rfl) (yL (qB (aW kF (pv 6) aF (bB _)) (aK eM (aK cR (cY cC (pv 1) (aK bS aF (aK eM (pv 6) aF)) (fun _ _=>rfl)) (aK bS (pv 6) aF)) aF) (pv 6))))
 (aY (aM (i:=8) iR.nd rfl (Or.inl rfl) (aK bS aF (aK eM (cY cC (pv 1) aF (fun _ _=>rfl)) aF)))
 (aY (aM (i:=9) iR.nd rfl (Or.inl rfl) (aU F_law_view hr rfl (aA (lN gO (by rfl) B.list fJ (aA (cY cC (pv 4) (pv 7) (fun _ _=>rfl)) aC)) (aA (pv 8) aC))))
 (aY (cX (N0 (hX (aU F_law_same hr rfl (aA (fA gN (pv 9) gL (gM aF)) (aA (aU F_law_due hr rfl (aA (cY cC (pv 4) (pv 7) (fun _ _=>rfl)) (aA (pv 8) aC))) aC))) (fun _=>rfl)))
 (aH (bF wE))
 cB)
 (aY (cX (aW (uK hu) (wW hu1 (pv 5) (pv 7) (pv 9) ⟨rfl,rfl,rfl,rfl⟩) (pv 9) (bB _))
 (aH (bF wE))
 cB)
 (aY (uV hu1 (pv 5) (pv 7) (bX ["_law_one"] [] [] rfl (.of (show cA (aD lM) _ ["_law_script","_law_numbers_here","_law_row_here","_law_at","_law_rows","_law_kept","_law_k","_law_which","_law_creel","_law_found","_law_one"] [] []=true by decide +kernel)) (bH (pv 9)) (fun _ _ _=>(aI (i:=0) (show (["_law_one"]:List Str).Nodup by decide +kernel) rfl (Or.inl rfl))) (fB (by decide)) (fun _ _ _=>cD) (fun _ _ _=>(lN (sC K rfl) (by rfl) B.list fJ (aA (pv 0) aC)))) rfl)
 (aH (cQ PassesOwn.never rfl (bH (pv 9)) (aI (i:=10) iR.nd rfl (Or.inl rfl))
 (aY (aR (uI aCB PySem.F.slot_list_reverse PySem.F.type_list_reverse yK (pv 10)))
 (aH (aR (cT aCB aCC aCD bC (pv 10) (aA (cJ (aA aF (aA aF aC))) aC))))))))))))))
 (aH (bF wE)))))))),?_⟩
  refine fun M1 hM1=>?_;refine⟨_,rfl,a,sc,50,rfl,hS,hlen,by decide,fun l1 nums H1 hnl hnums hl1 sm1 el1=>?_⟩;refine hM1 [some (.ref a),some (.ref l1),none,none,none,none,none,none,none,none,none] _ ?_;clear hM1 M1;obtain⟨n0,m0,_,e0⟩:=jF (ns:=nums) (i:=0) (by omega) (by omega);refine fun M1 hM1=>?_;refine⟨_,rfl,_,rfl,l1,_,rfl,SqL.of el1,fun p1 hp1=>?_⟩;have ec:mC (nums.map V.int) (some 6) none=(nums.drop 6).map V.int:=mX nums 6 (by omega);rw[ec];have sp1:=Same.upd (o:=.lst ((nums.drop 6).map V.int)) hp1;have ep1:(upd H1 p1 (.lst ((nums.drop 6).map V.int))) p1=some (.lst ((nums.drop 6).map V.int)):=aB;generalize upd H1 p1 (.lst ((nums.drop 6).map V.int))=H2 at sp1 ep1 ⊢;refine⟨p1,nums.drop 6,12,rfl,ep1,fun n hn=>hnums n (List.mem_of_mem_drop hn),by simp;omega,by decide,fun row0 hrow0 hrl0 hb0 lr0 H3 hlr0 g3 elr0=>?_⟩;refine⟨(show 1<=sizeLine by decide),fun p2 hp2=>?_⟩;have g4:=Same.upd (o:=.lst [V.int 200]) hp2;have ep2:(upd H3 p2 (.lst [V.int 200])) p2=some (.lst [V.int 200]):=aB;generalize upd H3 p2 (.lst [V.int 200])=H4 at g4 ep2 ⊢;refine⟨lr0,p2,_,_,rfl,rfl,g4 _ _ elr0,ep2,(by rw[aB4];exact Nat.le_of_lt (aL (show row0.length+1<=10000 by omega))),fun lr hlr=>?_⟩;obtain⟨row,erow⟩:∃ row,row=row0++[200]:=⟨_,rfl⟩;have em:row0.map V.int++[V.int 200]=row.map V.int:=by rw[erow,aBj];rfl
  rw[em];have hrow:Row row:=by rw[erow];exact qL hrow0 fun y hy=>by have:=hb0 y hy;omega
  have hrl:row.length<=13:=by rw[erow,aBd];exact Nat.add_le_add_right hrl0 1
  have hr1:1<=row.length:=by rw[erow,aBd];exact Nat.le_add_left _ _
  have hb:∀ x∈row,-15<=x/\x<=200:=fun x hx=>by
   rw[erow]at hx;rcases aCH.mp hx with h | h
   ·have:=hb0 x h;omega
   ·rw[aCA.mp h];omega
  have g5:=Same.upd (o:=.lst (row.map V.int)) hlr;have elr:(upd H4 lr (.lst (row.map V.int))) lr=some (.lst (row.map V.int)):=aB;generalize upd H4 lr (.lst (row.map V.int))=H5 at g5 elr ⊢;have el5:=(((sp1.trans g3).trans g4).trans g5) _ _ el1;refine hM1 [some (.ref a),some (.ref l1),some (.ref lr),none,none,none,none,none,none,none,none] _ ?_;clear hM1 M1 sp1 ep1 hp1 hlr0 g3 elr0 hp2 g4 ep2 hlr g5 em erow hb0 hrl0 hrow0 el1 sm1 hl1 ec;refine fun M1 hM1=>?_;refine⟨_,rfl,l1,_,_,_,rfl,rfl,SqL.of el5,e0,_,rfl,lr,_,rfl,.inl (SqL.of elr),_,_,rfl,rfl,(by rw[aB4];omega),?_⟩;refine hM1 [some (.ref a),some (.ref l1),some (.ref lr),some (.int (n0 % ((row.map V.int).length:Int))),none,none,none,none,none,none,none] _ ?_;clear hM1 M1;rw[aB4];obtain⟨k,hk,hkl⟩:∃ k:Nat,n0 % (row.length:Int)=(k:Int)/\k<row.length:=by
   have h1:=Int.emod_nonneg n0 (show (row.length:Int)≠0 by omega);have h2:=Int.emod_lt_of_pos n0 (show (0:Int)<row.length by omega);exact⟨(n0 % (row.length:Int)).toNat,by omega,by omega⟩
  rw[hk];refine fun M1 hM1=>?_;refine⟨_,rfl,_,rfl,_,rfl,_,rfl,lr,_,rfl,SqL.of elr,fun q1 hq1=>?_⟩;rw[yM row k (by omega)];have g6:=Same.upd (o:=.lst ((row.take k).map V.int)) hq1;have eq1:(upd H5 q1 (.lst ((row.take k).map V.int))) q1=some (.lst ((row.take k).map V.int)):=aB;generalize upd H5 q1 (.lst ((row.take k).map V.int))=H6 at g6 eq1 ⊢;refine⟨_,rfl,_,rfl,_,_,rfl,rfl,_,rfl,lr,_,rfl,SqL.of (g6 _ _ elr),fun q2 hq2=>?_⟩;rw[show (mC (row.map V.int) (some ((k:Int)+1)) none)=(row.drop (k+1)).map V.int from mX row (k+1) (by omega)];have g7:=Same.upd (o:=.lst ((row.drop (k+1)).map V.int)) hq2;have eq2:(upd H6 q2 (.lst ((row.drop (k+1)).map V.int))) q2=some (.lst ((row.drop (k+1)).map V.int)):=aB;generalize upd H6 q2 (.lst ((row.drop (k+1)).map V.int))=H7 at g7 eq2 ⊢;refine⟨q1,q2,_,_,rfl,rfl,g7 _ _ eq1,eq2,(by rw[aB4,aB4,aBk,List.length_drop];exact Nat.le_of_lt (aL (by omega))),fun r1 hr1'=>?_⟩;rw[<- aBj];obtain⟨R1,eR1⟩:∃ r,r=row.take k++row.drop (k+1):=⟨_,rfl⟩;rw[<- eR1];have g8:=Same.upd (o:=.lst (R1.map V.int)) hr1';have er1:(upd H7 r1 (.lst (R1.map V.int))) r1=some (.lst (R1.map V.int)):=aB;generalize upd H7 r1 (.lst (R1.map V.int))=H8 at g8 er1 ⊢;have t8:=(g6.trans g7).trans g8;clear g6 g7 g8 eq1 eq2 hq1 hq2 hr1';refine⟨_,rfl,_,rfl,_,rfl,lr,_,rfl,SqL.of (t8 _ _ elr),fun q1 hq1=>?_⟩;rw[yM row k (by omega)];have g9:=Same.upd (o:=.lst ((row.take k).map V.int)) hq1;have eq1:(upd H8 q1 (.lst ((row.take k).map V.int))) q1=some (.lst ((row.take k).map V.int)):=aB;generalize upd H8 q1 (.lst ((row.take k).map V.int))=H9 at g9 eq1 ⊢;have htl:(row.take k).length<=60:=by rw[aBk];omega
  refine⟨q1,rfl,⟨_,SqL.of eq1⟩,bP (xs:=(row.take k).map V.int) (fun i ys H10=>H10=H9/\ys=(((row.take k).take i).map (fun z=>z - 1)).map V.int) ⟨rfl,rfl⟩ ?_ ?_ ?_⟩
  ·rintro i ys H10 hi ⟨rfl,rfl⟩;exact⟨SqL.of eq1,mZ _ _ (by rw[aB4]at hi;omega) _⟩
  ·rintro i x ys H10 hi ⟨rfl,rfl⟩;obtain⟨z,rfl,hz⟩:=eO hi;exact⟨_,rfl,_,_,rfl,rfl,rfl,qI _ hz⟩
  rintro ys H10 ⟨rfl,rfl⟩ q2 hq2;rw[aB4,aBi];have g11:=Same.upd (o:=.lst (((row.take k).map (fun z=>z - 1)).map V.int)) hq2;have eq2:(upd H10 q2 (.lst (((row.take k).map (fun z=>z - 1)).map V.int))) q2=some (.lst (((row.take k).map (fun z=>z - 1)).map V.int)):=aB;generalize upd H10 q2 (.lst (((row.take k).map (fun z=>z - 1)).map V.int))=H11 at g11 eq2 ⊢;have t11:=(t8.trans g9).trans g11;refine⟨_,rfl,_,rfl,_,rfl,lr,_,rfl,SqL.of (t11 _ _ elr),fun q3 hq3=>?_⟩;rw[mX row k (by omega)];have g12:=Same.upd (o:=.lst ((row.drop k).map V.int)) hq3;have eq3:(upd H11 q3 (.lst ((row.drop k).map V.int))) q3=some (.lst ((row.drop k).map V.int)):=aB;generalize upd H11 q3 (.lst ((row.drop k).map V.int))=H12 at g12 eq3 ⊢;refine⟨q2,q3,_,_,rfl,rfl,g12 _ _ eq2,eq3,(by simp only[aB4,aBk,List.length_drop];exact Nat.le_of_lt (aL (by omega))),fun r2 hr2=>?_⟩;rw[<- aBj];obtain⟨R2,eR2⟩:∃ r,r=(row.take k).map (fun z=>z - 1)++row.drop k:=⟨_,rfl⟩;rw[<- eR2];have g13:=Same.upd (o:=.lst (R2.map V.int)) hr2;have er2:(upd H12 r2 (.lst (R2.map V.int))) r2=some (.lst (R2.map V.int)):=aB;generalize upd H12 r2 (.lst (R2.map V.int))=H13 at g13 er2 ⊢;have er13:=((g9.trans g11).trans (g12.trans g13)) _ _ er1;have t13:=t11.trans (g12.trans g13);clear g9 g11 g12 g13 eq1 eq2 eq3 hq1 hq2 hq3 hr2 er1 t11 t8;refine⟨_,rfl,_,rfl,l1,_,rfl,SqL.of (t13 _ _ el5),fun p1 hp1=>?_⟩;have ec:mC (nums.map V.int) (some 25) none=(nums.drop 25).map V.int:=mX nums 25 (by omega);rw[ec];have sp1:=Same.upd (o:=.lst ((nums.drop 25).map V.int)) hp1;have ep1:(upd H13 p1 (.lst ((nums.drop 25).map V.int))) p1=some (.lst ((nums.drop 25).map V.int)):=aB;generalize upd H13 p1 (.lst ((nums.drop 25).map V.int))=H14 at sp1 ep1 ⊢;refine⟨p1,nums.drop 25,12,rfl,ep1,fun n hn=>hnums n (List.mem_of_mem_drop hn),by simp;omega,by decide,fun R3 hR3 hR3l hR3b r3 H15 hr3 g15 er3=>?_⟩;have q15:=sp1.trans g15;refine⟨(show 4<=sizeLine by decide),fun rw' hrw=>?_⟩;have g16:=Same.upd (o:=.lst [V.ref lr,V.ref r1,V.ref r2,V.ref r3]) hrw;have erw:(upd H15 rw' (.lst [V.ref lr,V.ref r1,V.ref r2,V.ref r3])) rw'=some (.lst [V.ref lr,V.ref r1,V.ref r2,V.ref r3]):=aB;generalize upd H15 rw' (.lst [V.ref lr,V.ref r1,V.ref r2,V.ref r3])=H16 at g16 erw ⊢;have q16:=q15.trans g16;have t16:=t13.trans q16;have RW:aAv [V.ref lr,V.ref r1,V.ref r2,V.ref r3] [row,R1,R2,R3] H16:=by
   refine⟨fun w hw=>?_⟩;have c4:w=0\/w=1\/w=2\/w=3:=by omega
   rcases c4 with rfl | rfl | rfl | rfl
   ·exact⟨lr,row,rfl,rfl,t16 _ _ elr,hrow,by omega,fun x hx=>by have:=hb x hx;omega⟩
   ·refine⟨r1,R1,rfl,rfl,q16 _ _ er13,by rw[eR1];exact W8 hrow k,by rw[eR1,aBd,aBk,List.length_drop];omega,fun x hx=>?_⟩;have hx':x∈row:=by
     rw[eR1]at hx;rcases aCH.mp hx with h | h
     ·exact List.mem_of_mem_take h
     ·exact List.mem_of_mem_drop h
    have:=hb x hx';omega
   ·refine⟨r2,R2,rfl,rfl,q16 _ _ er2,by rw[eR2];exact j8 hrow k,by rw[eR2,aBd,aB4,aBk,List.length_drop];omega,fun x hx=>?_⟩;rw[eR2]at hx;rcases aCH.mp hx with h | h
    ·obtain⟨z,hz,rfl⟩:=aCI.mp h;have:=hb z (List.mem_of_mem_take hz);omega
    ·have:=hb x (List.mem_of_mem_drop h);omega
   ·exact⟨r3,R3,rfl,rfl,g16 _ _ er3,hR3,by omega,fun x hx=>by have:=hR3b x hx;omega⟩
  have el16:=t16 _ _ el5;refine hM1 [some (.ref a),some (.ref l1),some (.ref lr),some (.int k),some (.ref rw'),none,none,none,none,none,none] _ ?_;clear hM1 M1;generalize [V.ref lr,V.ref r1,V.ref r2,V.ref r3]=us4 at RW erw;generalize [row,R1,R2,R3]=Rs at RW;clear t16 q16 g16 q15 g15 sp1 ep1 hp1 er3 hr3 hR3 hR3l hR3b er2 er13 t13 eR1 eR2 hrow hb hrl hr1 elr el5 ec hkl hk htl e0 m0;refine fun M1 hM1=>?_;refine fun d hd=>?_;have g17:=Same.upd (o:=.dK []) hd;have ed:(upd H16 d (.dK [])) d=some (.dK []):=aB;generalize upd H16 d (.dK [])=H17 at g17 ed ⊢;refine hM1 [some (.ref a),some (.ref l1),some (.ref lr),some (.int k),some (.ref rw'),some (.ref d),none,none,none,none,none] _ ?_;clear hM1 M1;obtain⟨n1,m1,_,e1⟩:=jF (ns:=nums) (i:=1) (by omega) (by omega);have hc5:=Int.emod_nonneg n1 (show (5:Int)≠0 by decide);refine⟨_,rfl,by decide,by decide,jJ (lo:=0) (n:=8) (X5 a l1 lr rw' d k (1+n1 % 5) nums us4 Rs) ⟨none,none,none,none,none,[],rfl,g17 _ _ el16,g17 _ _ erw,⟨fun w hw=>?_⟩,ed,Nat.le_refl _,⟨fun w v hv=>?_⟩⟩ ?_ ?_⟩
  ·obtain⟨r,ro,h1,h2,h3,h4⟩:=RW.at' w hw;exact⟨r,ro,h1,h2,g17 _ _ h3,h4⟩
  ·cases hv
  ·rintro i σ H0 hi ⟨v6,v7,v8,v9,v10,kvs,rfl,el,erw,RW,ed,hkl,KP⟩;refine fun M1 hM1=>?_;refine⟨fun v H3=>∃ w:Nat,v=.int w/\w<4/\H3=H0,?_,?_⟩
   ·refine⟨_,rfl,_,_,rfl,rfl,_,rfl,iB (fun hgt=>?_) (fun hgt=>?_)⟩
    ·have z1:=Int.emod_nonneg (0+(i:Int)) (show (5:Int)≠0 by decide);have z2:=Int.emod_lt_of_pos (0+(i:Int)) (show (0:Int)<5 by decide);obtain⟨st,ms,_,es⟩:=jF (ns:=nums) (i:=1+(0+(i:Int)) % 5) (by omega) (by omega);have y1:=Int.emod_nonneg (st * (0+(i:Int)+1)) (show (4:Int)≠0 by decide);have y2:=Int.emod_lt_of_pos (st * (0+(i:Int)+1)) (show (0:Int)<4 by decide);refine⟨_,rfl,_,rfl,_,_,rfl,rfl,(by show (0:Int)<5;decide),_,_,rfl,rfl,l1,_,_,_,rfl,rfl,SqL.of el,es,_,rfl,_,_,rfl,rfl,_,_,rfl,rfl,.inr ⟨by omega,by omega⟩,_,_,rfl,rfl,(by show (0:Int)<4;decide),(st * (0+(i:Int)+1) % 4).toNat,?_,by omega,rfl⟩;rw[Int.toNat_of_nonneg y1]
    ·have hi3:¬ (3:Int)<0+(i:Int):=hgt;exact⟨_,rfl,i,by rw[Int.zero_add],by omega,rfl⟩
   ·rintro v H3 ⟨w,rfl,hw,rfl⟩;refine hM1 [some (.ref a),some (.ref l1),some (.ref lr),some (.int k),some (.ref rw'),some (.ref d),some (.int (0+(i:Int))),some (.int w),v8,v9,v10] _ ?_;clear hM1 M1;refine fun M1 hM1=>?_;refine⟨_,rfl,l1,_,_,_,rfl,rfl,SqL.of el,e1,_,_,rfl,rfl,(by show (0:Int)<5;decide),_,_,rfl,rfl,?_⟩;refine hM1 [some (.ref a),some (.ref l1),some (.ref lr),some (.int k),some (.ref rw'),some (.ref d),some (.int (0+(i:Int))),some (.int w),some (.int (1+n1 % 5)),v9,v10] _ ?_;clear hM1 M1;generalize hcc:1+n1 % 5=c at KP ⊢;have hc1:1<=c:=by omega
    obtain⟨r,ro,hr1,hr2,hr3,hrow,h60,hnear⟩:=RW.at' w hw;have eix:atI us4 (w:Int)=some (.ref r):=iV hr1;refine fun M1 hM1=>?_;refine⟨_,rfl,_,rfl,rw',_,_,_,rfl,rfl,SqL.of erw,eix,r,_,rfl,.inl (SqL.of hr3),fun lc hlc=>?_⟩;have g1:=Same.upd (o:=.lst (ro.map V.int)) hlc;have elc:(upd H3 lc (.lst (ro.map V.int))) lc=some (.lst (ro.map V.int)):=aB;generalize upd H3 lc (.lst (ro.map V.int))=H4 at g1 elc ⊢;refine⟨_,rfl,lc,ro,c,rfl,elc,hrow,h60,hc1,fun lf us qs n rf cl H5 hV hlf g2 elf PN=>?_⟩;have s5:=g1.trans g2;refine hM1 [some (.ref a),some (.ref l1),some (.ref lr),some (.int k),some (.ref rw'),some (.ref d),some (.int (0+(i:Int))),some (.int w),some (.int c),some (.ref lf),v10] _ ?_;clear hM1 M1;refine fun M1 hM1=>?_;refine⟨_,rfl,_,rfl,lf,_,rfl,SqL.of elf,fun sl hsl=>?_⟩;have ecut:mC us none (some 10)=us.take 10:=Z3 us 10;rw[ecut];have g3:=Same.upd (o:=.lst (us.take 10)) hsl;have esl:(upd H5 sl (.lst (us.take 10))) sl=some (.lst (us.take 10)):=aB;generalize upd H5 sl (.lst (us.take 10))=H6 at g3 esl ⊢;have s6:=s5.trans g3;refine⟨_,rfl,_,rfl,rw',_,_,_,rfl,rfl,SqL.of (s6 _ _ erw),eix,_,rfl,r,ro,c,rfl,s6 _ _ hr3,hrow,h60,hc1,hnear,fun ldu qs' n' rf' H7 hV' hn60 g4 DD=>?_⟩;obtain⟨e1',e2',e3'⟩:=hV'.eq hV.toVd;subst e1' e2' e3';have Df:Dens H5 us (pI ro c qs' n' rf' cl):=jA (fun v D h=>NewD.den h) PN;have fl10:=hV'.fl h60 hn60;have fl12:=hV.fl h60 hn60;have D10:Dens H7 (us.take 10) (W4 ro c qs' n' rf'):=(jA (fun v D h=>NewD.den h) (C8 10 PN)).mono (g3.trans g4);refine⟨_,_,_,rfl,.lst (g4 _ _ esl) D10,DD,fl10.depth,fl10.shaped,fl10.sml (show 10<=12 by decide),fun H8 g5=>⟨true,rfl,?_⟩⟩;refine hM1 [some (.ref a),some (.ref l1),some (.ref lr),some (.int k),some (.ref rw'),some (.ref d),some (.int (0+(i:Int))),some (.int w),some (.int c),some (.ref lf),v10] _ ?_;clear hM1 M1;have s8:=(s6.trans g4).trans g5;have q8:=(g3.trans g4).trans g5;have ed8:=s8 _ _ ed;have elf8:=q8 _ _ elf;have Df8:Den H8 (.ref lf) (.list (pI ro c qs' n' rf' cl)):=.lst elf8 (Df.mono q8);have Dk8:Den H8 ((cU kvs (Sum.inl (w:Int):Key)).getD (.ref lf)) (.list (pI ro c qs' n' rf' cl)):=by
     cases hv:cU kvs (Sum.inl (w:Int):Key)with
     | none=>exact Df8
     | some v =>
      obtain⟨KP⟩:=KP;obtain⟨ro',qs2,n2,rf2,cl2,k1,k2,k3⟩:=KP w v hv;rw[hr2]at k1;cases k1;rw[hV.eq k2];exact k3.mono s8
    refine fun M1 hM1=>?_;refine⟨_,rfl,d,rfl,.inl ⟨_,.inl ed8⟩,_,rfl,_,rfl,_,DGet.k (k:=Sum.inl (w:Int)) ed8,_,rfl,_,_,Dk8,Df8,fl12.shaped,fl12.shaped,_,rfl,?_⟩;rw[nB fl12.shaped];refine hM1 [some (.ref a),some (.ref l1),some (.ref lr),some (.int k),some (.ref rw'),some (.ref d),some (.int (0+(i:Int))),some (.int w),some (.int c),some (.ref lf),v10] _ ?_;clear hM1 M1 Dk8 Df8 D10 DD esl g3 g4 g5;refine fun M1 hM1=>?_;have hul:us.length=(pI ro c qs' n' rf' cl).length:=mN PN;have h12:(pI ro c qs' n' rf' cl).length=12:=rfl;refine⟨_,rfl,lf,rfl,⟨_,SqL.of elf8⟩,bP (K:=K) (a:=lf) (xs:=us) (fun j ys H9=>Same H8 H9/\Paired (NewD H8 H9) ys ((pI ro c qs' n' rf' cl).take j)) ⟨Same.refl _,.nil⟩ ?_ ?_ ?_⟩
    ·rintro j ys H9 hj ⟨g9,P9⟩;refine⟨SqL.of (g9 _ _ elf8),aL ?_⟩;rw[mN P9,aBk];omega
    ·rintro j x ys H9 hj ⟨g9,P9⟩;obtain⟨D,hD,l,ws,ds,rfl,h0,h1,h2,hf,rfl⟩:=W7 PN hj;have h9:=g9 _ _ (q8 _ _ h1);refine⟨_,rfl,l,ws,rfl,.inl (SqL.of h9),fun ln hln=>?_⟩;have g10:=Same.upd (o:=.lst ws) hln;refine⟨g9.trans g10,?_⟩;rw[List.take_add_one,hD];exact Paired.snoc (P9.mono fun _ _ h=>h.same g10) ⟨ln,ws,ds,rfl,vR g9 hln,aB,h2.mono ((q8.trans g9).trans g10),hf,rfl⟩
    rintro ys H9 ⟨g9,P9⟩ D0 hD0;rw[hul,aBi]at P9;have g10:=Same.upd (o:=.lst ys) hD0;have eD0:(upd H9 D0 (.lst ys)) D0=some (.lst ys):=aB;generalize upd H9 D0 (.lst ys)=H10 at g10 eD0 ⊢;have s10:=(s8.trans g9).trans g10;have q10:=(q8.trans g9).trans g10;have ed10:=s10 _ _ ed;refine⟨_,rfl,_,rfl,d,_,rfl,DPut.k (k:=Sum.inl (w:Int)) ed10 (aL (by omega)),?_⟩;have e11:∀ l o,H10 l=some o->l≠d->(upd H10 d (.dK (gR kvs (Sum.inl (w:Int)) (V.ref D0)))) l=some o:=fun l o h hn=>by rw[aG hn];exact h
    have ed11:(upd H10 d (.dK (gR kvs (Sum.inl (w:Int)) (V.ref D0)))) d=some (.dK (gR kvs (Sum.inl (w:Int)) (V.ref D0))):=aB;generalize upd H10 d (.dK (gR kvs (Sum.inl (w:Int)) (V.ref D0)))=H11 at e11 ed11 ⊢;refine hM1 [some (.ref a),some (.ref l1),some (.ref lr),some (.int k),some (.ref rw'),some (.ref d),some (.int (0+(i:Int))),some (.int w),some (.int c),some (.ref lf),v10] _ ?_;clear hM1 M1;have ed4:=g1 _ _ ed;have M5:∀ l,V.ref l∈us->H4 l=none/\∃ ws,H5 l=some (.lst ws)/\ws.length<=60:=fun l hm=>by
     obtain⟨D,hD,l',ws,ds,e,h0,h1,h2,hf,hDD⟩:=wA PN hm;cases e;refine⟨h0,ws,h1,?_⟩;rw[h2.length];rcases fl12 D hD with ⟨ns,e,hl⟩ | ⟨ps,e,hl⟩
     ·rw[hDD]at e;cases e;rw[aB4];exact hl
     ·rw[hDD]at e;cases e;rw[aB4];exact hl
    have nd:∀ l,V.ref l∈us->l≠d:=fun l hm e=>by have:=(M5 l hm).1;rw[e,ed4]at this;cases this
    have nlf:V.ref lf∉us:=fun hm=>X4 elf PN hm;have ndlf:lf≠d:=fun e=>by rw[e,ed4]at hlf;cases hlf
    have elf11:=e11 _ _ (q10 _ _ elf) ndlf;refine⟨_,rfl,lf,rfl,⟨_,SqL.of elf11⟩,cN (K:=K) (a:=lf) (xs:=us) (fun j σ Hx=>∃ v10:Option V,σ=[some (.ref a),some (.ref l1),some (.ref lr),some (.int k),some (.ref rw'),some (.ref d),some (.int (0+(i:Int))),some (.int w),some (.int c),some (.ref lf),v10]/\(∀ l o,H11 l=some o->V.ref l∉us->Hx l=some o)/\(∀ l,V.ref l∈us->∃ ws,Hx l=some (.lst ws)/\ws.length<=60+j))
     ⟨v10,rfl,fun l o h _=>h,fun l hm=>?_⟩ (fun j σ Hx _ ⟨_,_,h1,_⟩=>SqL.of (h1 _ _ elf11 nlf)) ?_ ?_⟩
    ·obtain⟨h0,ws,h1,h2⟩:=M5 l hm;exact⟨ws,e11 _ _ (q10 _ _ h1) (nd l hm),by omega⟩
    ·rintro j x σ Hx hj ⟨v10',rfl,I1,I2⟩;have hxm:x∈us:=aBf hj;obtain⟨D,hD,l,ws0,ds,rfl,h0,h1,h2,hf,hDD⟩:=wA PN hxm;obtain⟨ws,hw1,hw2⟩:=I2 l hxm;have hjl:j<us.length:=(aCF.mp hj).1;refine fun M1 hM1=>?_;refine⟨_,rfl,.inl ⟨rfl,_,SqL.of hw1⟩,l,_,rfl,rfl,hw1,?_⟩;refine hM1 [some (.ref a),some (.ref l1),some (.ref lr),some (.int k),some (.ref rw'),some (.ref d),some (.int (0+(i:Int))),some (.int w),some (.int c),some (.ref lf),some (.ref l)] _ ?_;clear hM1 M1;have el1':(upd Hx l (.lst ws.reverse)) l=some (.lst ws.reverse):=aB;have eo1:∀ l',l'≠l->(upd Hx l (.lst ws.reverse)) l'=Hx l':=fun l' hn=>aG hn;generalize upd Hx l (.lst ws.reverse)=Hy at el1' eo1 ⊢;refine⟨_,rfl,.inl ⟨rfl,_,SqL.of el1'⟩,(show 2<=sizeLine by decide),fun t ht=>?_⟩;have gt:=Same.upd (o:=.tup [V.int 1,V.int 1]) ht;have el2':=gt _ _ el1';generalize upd Hy t (.tup [V.int 1,V.int 1])=Hz at gt el2' ⊢;refine⟨l,_,_,rfl,rfl,el2',(by rw[List.length_reverse];exact aL (by omega)),?_⟩;refine⟨_,rfl,fun l' o h hn=>?_,fun l' hm=>?_⟩
     ·have hne:l'≠l:=fun e=>hn (by rw[e];exact hxm);rw[aG hne];exact gt _ _ (by rw[eo1 l' hne];exact I1 _ _ h hn)
     ·by_cases hne:l'=l
      ·rw[hne];exact⟨_,aB,by rw[aBd,List.length_reverse];show ws.length+1<=60+(j+1);omega⟩
      ·obtain⟨ws',k1,k2⟩:=I2 l' hm;exact⟨ws',by rw[aG hne];exact gt _ _ (by rw[eo1 l' hne];exact k1),by omega⟩
    ·rintro σ Hx ⟨v10',rfl,I1,I2⟩;have pro:∀ l o,H3 l=some o->l≠d->Hx l=some o:=fun l o h hn=>I1 _ _ (e11 _ _ (s10 _ _ h) hn) fun hm=>by
      have:=(M5 l hm).1;rw[g1 _ _ h]at this;cases this
     have nl:∀ l xs,H3 l=some (.lst xs)->l≠d:=fun l xs h e=>by rw[e,ed]at h;cases h
     have ndm:V.ref d∉us:=fun hm=>nd d hm rfl;have ed9:=g9 _ _ (s8 _ _ ed);have u9:∀ l,V.ref l∈us->∃ ws,H8 l=some (.lst ws):=fun l hm=>by
      obtain⟨_,ws,h1,_⟩:=M5 l hm;exact⟨ws,q8 _ _ h1⟩
     refine⟨_,_,_,_,_,_,rfl,pro _ _ el (nl _ _ el),pro _ _ erw (nl _ _ erw),⟨fun w' hw'=>?_⟩,I1 _ _ ed11 ndm,(by have:=gC kvs (Sum.inl (w:Int):Key) (V.ref D0);omega),⟨fun w' v hv=>?_⟩⟩
     ·obtain⟨r',ro',k1,k2,k3,k4⟩:=RW.at' w' hw';exact⟨r',ro',k1,k2,pro _ _ k3 (nl _ _ k3),k4⟩
     ·rw[L2.valV_put]at hv
      by_cases hww:(Sum.inl (w':Int):Key)=Sum.inl (w:Int)
      ·rw[if_pos hww]at hv;have ew:w'=w:=by
        have:=Sum.inl.inj hww;omega
       subst ew;cases hv;have hDd:D0≠d:=fun e=>by rw[e,ed9]at hD0;cases hD0
       have hDm:V.ref D0∉us:=fun hm=>by
        obtain⟨ws,h1⟩:=u9 _ hm;rw[g9 _ _ h1]at hD0;cases hD0
       refine⟨ro,_,_,_,_,hr2,hV,.lst (I1 _ _ (e11 _ _ eD0 hDd) hDm) (jA (fun v D h=>NewD.kept (fun l o h1 h0=>?_) (fun t vs ht=>?_) h) P9)⟩
       ·refine I1 _ _ (e11 _ _ (g10 _ _ h1) fun e=>?_) fun hm=>?_
        ·rw[e,s8 _ _ ed]at h0;cases h0
        ·obtain⟨ws,h2⟩:=u9 _ hm;rw[h2]at h0;cases h0
       ·refine I1 _ _ (e11 _ _ (g10 _ _ ht) fun e=>?_) fun hm=>?_
        ·rw[e,ed9]at ht;cases ht
        ·obtain⟨ws,h2⟩:=u9 _ hm;rw[g9 _ _ h2]at ht;cases ht
      ·rw[if_neg hww]at hv;obtain⟨KP⟩:=KP;obtain⟨ro',qs2,n2,rf2,cl2,k1,k2,k3⟩:=KP w' v hv;exact⟨ro',qs2,n2,rf2,cl2,k1,k2,Den.keep ed pro k3⟩
  ·rintro σ H3 ⟨v6,v7,v8,v9,v10,kvs,rfl,el,erw,RW,ed,hkl,KP⟩;exact kk _
end
theorem all_mk {l:PySem.W.OpenLaw} {w:World} {K:PySem.W.Frag} {h:Heap} {mg:Str->Option Value} {fa:Addr} (X:K.In h) (G:h.Ns mainGlobals mg) (hfa:mg "law"=some (.ref fa))
 {f0:Addr} {od0 an0:Option Addr} {sl0:Array (Option Value)} {oc0 kV0 dc0 pm0 cd0 ct0:Value}
 {f1:Addr} {od1 an1:Option Addr} {sl1:Array (Option Value)} {oc1 kV1 dc1 pm1 cd1 ct1:Value}
 {f2:Addr} {od2 an2:Option Addr} {sl2:Array (Option Value)} {oc2 kV2 dc2 pm2 cd2 ct2:Value}
 {f3:Addr} {od3 an3:Option Addr} {sl3:Array (Option Value)} {oc3 kV3 dc3 pm3 cd3 ct3:Value}
 {f4:Addr} {od4 an4:Option Addr} {sl4:Array (Option Value)} {oc4 kV4 dc4 pm4 cd4 ct4:Value}
 {f5:Addr} {od5 an5:Option Addr} {sl5:Array (Option Value)} {oc5 kV5 dc5 pm5 cd5 ct5:Value}
 {f6:Addr} {od6 an6:Option Addr} {sl6:Array (Option Value)} {oc6 kV6 dc6 pm6 cd6 ct6:Value}
 {f7:Addr} {od7 an7:Option Addr} {sl7:Array (Option Value)} {oc7 kV7 dc7 pm7 cd7 ct7:Value}
 {f8:Addr} {od8 an8:Option Addr} {sl8:Array (Option Value)} {oc8 kV8 dc8 pm8 cd8 ct8:Value}
 {f9:Addr} {od9 an9:Option Addr} {sl9:Array (Option Value)} {oc9 kV9 dc9 pm9 cd9 ct9:Value}
 {f10:Addr} {od10 an10:Option Addr} {sl10:Array (Option Value)} {oc10 kV10 dc10 pm10 cd10 ct10:Value}
 {f11:Addr} {od11 an11:Option Addr} {sl11:Array (Option Value)} {oc11 kV11 dc11 pm11 cd11 ct11:Value}
 {f12:Addr} {od12 an12:Option Addr} {sl12:Array (Option Value)} {oc12 kV12 dc12 pm12 cd12 ct12:Value}
 {f13:Addr} {od13 an13:Option Addr} {sl13:Array (Option Value)} {oc13 kV13 dc13 pm13 cd13 ct13:Value}
 {f14:Addr} {od14 an14:Option Addr} {sl14:Array (Option Value)} {oc14 kV14 dc14 pm14 cd14 ct14:Value}
 {f15:Addr} {od15 an15:Option Addr} {sl15:Array (Option Value)} {oc15 kV15 dc15 pm15 cd15 ct15:Value}
 {f16:Addr} {od16 an16:Option Addr} {sl16:Array (Option Value)} {oc16 kV16 dc16 pm16 cd16 ct16:Value}
 {f17:Addr} {od17 an17:Option Addr} {sl17:Array (Option Value)} {oc17 kV17 dc17 pm17 cd17 ct17:Value}
 {f18:Addr} {od18 an18:Option Addr} {sl18:Array (Option Value)} {oc18 kV18 dc18 pm18 cd18 ct18:Value}
 {f19:Addr} {od19 an19:Option Addr} {sl19:Array (Option Value)} {oc19 kV19 dc19 pm19 cd19 ct19:Value}
 {f20:Addr} {od20 an20:Option Addr} {sl20:Array (Option Value)} {oc20 kV20 dc20 pm20 cd20 ct20:Value}
 {f21:Addr} {od21 an21:Option Addr} {sl21:Array (Option Value)} {oc21 kV21 dc21 pm21 cd21 ct21:Value}
 {f22:Addr} {od22 an22:Option Addr} {sl22:Array (Option Value)} {oc22 kV22 dc22 pm22 cd22 ct22:Value}
 {f23:Addr} {od23 an23:Option Addr} {sl23:Array (Option Value)} {oc23 kV23 dc23 pm23 cd23 ct23:Value}
 {f24:Addr} {od24 an24:Option Addr} {sl24:Array (Option Value)} {oc24 kV24 dc24 pm24 cd24 ct24:Value}
 {f25:Addr} {od25 an25:Option Addr} {sl25:Array (Option Value)} {oc25 kV25 dc25 pm25 cd25 ct25:Value}
 {f26:Addr} {od26 an26:Option Addr} {sl26:Array (Option Value)} {oc26 kV26 dc26 pm26 cd26 ct26:Value}
 {f27:Addr} {od27 an27:Option Addr} {sl27:Array (Option Value)} {oc27 kV27 dc27 pm27 cd27 ct27:Value}
 {f28:Addr} {od28 an28:Option Addr} {sl28:Array (Option Value)} {oc28 kV28 dc28 pm28 cd28 ct28:Value}
 {f29:Addr} {od29 an29:Option Addr} {sl29:Array (Option Value)} {oc29 kV29 dc29 pm29 cd29 ct29:Value}
 {f30:Addr} {od30 an30:Option Addr} {sl30:Array (Option Value)} {oc30 kV30 dc30 pm30 cd30 ct30:Value}
 {f31:Addr} {od31 an31:Option Addr} {sl31:Array (Option Value)} {oc31 kV31 dc31 pm31 cd31 ct31:Value}
 {f32:Addr} {od32 an32:Option Addr} {sl32:Array (Option Value)} {oc32 kV32 dc32 pm32 cd32 ct32:Value}
 {f33:Addr} {od33 an33:Option Addr} {sl33:Array (Option Value)} {oc33 kV33 dc33 pm33 cd33 ct33:Value}
 {f34:Addr} {od34 an34:Option Addr} {sl34:Array (Option Value)} {oc34 kV34 dc34 pm34 cd34 ct34:Value}
 {f35:Addr} {od35 an35:Option Addr} {sl35:Array (Option Value)} {oc35 kV35 dc35 pm35 cd35 ct35:Value}
 {f36:Addr} {od36 an36:Option Addr} {sl36:Array (Option Value)} {oc36 kV36 dc36 pm36 cd36 ct36:Value}
 {f37:Addr} {od37 an37:Option Addr} {sl37:Array (Option Value)} {oc37 kV37 dc37 pm37 cd37 ct37:Value}
 {f38:Addr} {od38 an38:Option Addr} {sl38:Array (Option Value)} {oc38 kV38 dc38 pm38 cd38 ct38:Value}
 {f39:Addr} {od39 an39:Option Addr} {sl39:Array (Option Value)} {oc39 kV39 dc39 pm39 cd39 ct39:Value}
 {f40:Addr} {od40 an40:Option Addr} {sl40:Array (Option Value)} {oc40 kV40 dc40 pm40 cd40 ct40:Value}
 {f41:Addr} {od41 an41:Option Addr} {sl41:Array (Option Value)} {oc41 kV41 dc41 pm41 cd41 ct41:Value}
 {f42:Addr} {od42 an42:Option Addr} {sl42:Array (Option Value)} {oc42 kV42 dc42 pm42 cd42 ct42:Value}
 {t_MOST_STONES:Tok}
 (a0:PySem.W.nsIn K mainGlobals "look_row"=some (some (.ref f0))) (l0:K.lookup f0=some ⟨oc0,od0,.func (PySem.W.fnOf "look_row" "look_row" (aP fM) (aN fM) (aD fM) .none kV0 dc0 pm0 an0 cd0 ct0),sl0⟩) (c0:PySem.W.codeIn K cd0 "look_row"=true) (k0:PySem.W.keepIn K (.ref f0)=true)
 (a1:PySem.W.nsIn K mainGlobals "stretches"=some (some (.ref f1))) (l1:K.lookup f1=some ⟨oc1,od1,.func (PySem.W.fnOf "stretches" "stretches" (aP eU) (aN eU) (aD eU) .none kV1 dc1 pm1 an1 cd1 ct1),sl1⟩) (c1:PySem.W.codeIn K cd1 "stretches"=true) (k1:PySem.W.keepIn K (.ref f1)=true)
 (a2:PySem.W.nsIn K mainGlobals "mirrored"=some (some (.ref f2))) (l2:K.lookup f2=some ⟨oc2,od2,.func (PySem.W.fnOf "mirrored" "mirrored" (aP eP) (aN eP) (aD eP) .none kV2 dc2 pm2 an2 cd2 ct2),sl2⟩) (c2:PySem.W.codeIn K cd2 "mirrored"=true) (k2:PySem.W.keepIn K (.ref f2)=true)
 (a3:PySem.W.nsIn K mainGlobals "closings"=some (some (.ref f3))) (l3:K.lookup f3=some ⟨oc3,od3,.func (PySem.W.fnOf "closings" "closings" (aP fN) (aN fN) (aD fN) .none kV3 dc3 pm3 an3 cd3 ct3),sl3⟩) (c3:PySem.W.codeIn K cd3 "closings"=true) (k3:PySem.W.keepIn K (.ref f3)=true)
 (a4:PySem.W.nsIn K mainGlobals "look_trains"=some (some (.ref f4))) (l4:K.lookup f4=some ⟨oc4,od4,.func (PySem.W.fnOf "look_trains" "look_trains" (aP cS) (aN cS) (aD cS) .none kV4 dc4 pm4 an4 cd4 ct4),sl4⟩) (c4:PySem.W.codeIn K cd4 "look_trains"=true) (k4:PySem.W.keepIn K (.ref f4)=true)
 (a5:PySem.W.nsIn K mainGlobals "by_size"=some (some (.ref f5))) (l5:K.lookup f5=some ⟨oc5,od5,.func (PySem.W.fnOf "by_size" "by_size" (aP hJ) (aN hJ) (aD hJ) .none kV5 dc5 pm5 an5 cd5 ct5),sl5⟩) (c5:PySem.W.codeIn K cd5 "by_size"=true) (k5:PySem.W.keepIn K (.ref f5)=true)
 (a6:PySem.W.nsIn K mainGlobals "crowd"=some (some (.ref f6))) (l6:K.lookup f6=some ⟨oc6,od6,.func (PySem.W.fnOf "crowd" "crowd" (aP kD) (aN kD) (aD kD) .none kV6 dc6 pm6 an6 cd6 ct6),sl6⟩) (c6:PySem.W.codeIn K cd6 "crowd"=true) (k6:PySem.W.keepIn K (.ref f6)=true)
 (a7:PySem.W.nsIn K mainGlobals "crowds"=some (some (.ref f7))) (l7:K.lookup f7=some ⟨oc7,od7,.func (PySem.W.fnOf "crowds" "crowds" (aP iK) (aN iK) (aD iK) .none kV7 dc7 pm7 an7 cd7 ct7),sl7⟩) (c7:PySem.W.codeIn K cd7 "crowds"=true) (k7:PySem.W.keepIn K (.ref f7)=true)
 (a8:PySem.W.nsIn K mainGlobals "drop_last"=some (some (.ref f8))) (l8:K.lookup f8=some ⟨oc8,od8,.func (PySem.W.fnOf "drop_last" "drop_last" (aP eV) (aN eV) (aD eV) .none kV8 dc8 pm8 an8 cd8 ct8),sl8⟩) (c8:PySem.W.codeIn K cd8 "drop_last"=true) (k8:PySem.W.keepIn K (.ref f8)=true)
 (a9:PySem.W.nsIn K mainGlobals "add_train"=some (some (.ref f9))) (l9:K.lookup f9=some ⟨oc9,od9,.func (PySem.W.fnOf "add_train" "add_train" (aP eW) (aN eW) (aD eW) .none kV9 dc9 pm9 an9 cd9 ct9),sl9⟩) (c9:PySem.W.codeIn K cd9 "add_train"=true) (k9:PySem.W.keepIn K (.ref f9)=true)
 (a10:PySem.W.nsIn K mainGlobals "add_stone"=some (some (.ref f10))) (l10:K.lookup f10=some ⟨oc10,od10,.func (PySem.W.fnOf "add_stone" "add_stone" (aP dQ) (aN dQ) (aD dQ) .none kV10 dc10 pm10 an10 cd10 ct10),sl10⟩) (c10:PySem.W.codeIn K cd10 "add_stone"=true) (k10:PySem.W.keepIn K (.ref f10)=true)
 (a11:PySem.W.nsIn K mainGlobals "list_of"=some (some (.ref f11))) (l11:K.lookup f11=some ⟨oc11,od11,.func (PySem.W.fnOf "list_of" "list_of" (aP fO) (aN fO) (aD fO) .none kV11 dc11 pm11 an11 cd11 ct11),sl11⟩) (c11:PySem.W.codeIn K cd11 "list_of"=true) (k11:PySem.W.keepIn K (.ref f11)=true)
 (a12:PySem.W.nsIn K mainGlobals "trains"=some (some (.ref f12))) (l12:K.lookup f12=some ⟨oc12,od12,.func (PySem.W.fnOf "trains" "trains" (aP jR) (aN jR) (aD jR) .none kV12 dc12 pm12 an12 cd12 ct12),sl12⟩) (c12:PySem.W.codeIn K cd12 "trains"=true) (k12:PySem.W.keepIn K (.ref f12)=true)
 (a13:PySem.W.nsIn K mainGlobals "row_of"=some (some (.ref f13))) (l13:K.lookup f13=some ⟨oc13,od13,.func (PySem.W.fnOf "row_of" "row_of" (aP iM) (aN iM) (aD iM) .none kV13 dc13 pm13 an13 cd13 ct13),sl13⟩) (c13:PySem.W.codeIn K cd13 "row_of"=true) (k13:PySem.W.keepIn K (.ref f13)=true)
 (a14:PySem.W.nsIn K mainGlobals "look_creel"=some (some (.ref f14))) (l14:K.lookup f14=some ⟨oc14,od14,.func (PySem.W.fnOf "look_creel" "look_creel" (aP dY) (aN dY) (aD dY) .none kV14 dc14 pm14 an14 cd14 ct14),sl14⟩) (c14:PySem.W.codeIn K cd14 "look_creel"=true) (k14:PySem.W.keepIn K (.ref f14)=true)
 (a15:PySem.W.nsIn K mainGlobals "look_walks"=some (some (.ref f15))) (l15:K.lookup f15=some ⟨oc15,od15,.func (PySem.W.fnOf "look_walks" "look_walks" (aP dZ) (aN dZ) (aD dZ) .none kV15 dc15 pm15 an15 cd15 ct15),sl15⟩) (c15:PySem.W.codeIn K cd15 "look_walks"=true) (k15:PySem.W.keepIn K (.ref f15)=true)
 (a16:PySem.W.nsIn K mainGlobals "walked"=some (some (.ref f16))) (l16:K.lookup f16=some ⟨oc16,od16,.func (PySem.W.fnOf "walked" "walked" (aP iO) (aN iO) (aD iO) .none kV16 dc16 pm16 an16 cd16 ct16),sl16⟩) (c16:PySem.W.codeIn K cd16 "walked"=true) (k16:PySem.W.keepIn K (.ref f16)=true)
 (a17:PySem.W.nsIn K mainGlobals "walked_back"=some (some (.ref f17))) (l17:K.lookup f17=some ⟨oc17,od17,.func (PySem.W.fnOf "walked_back" "walked_back" (aP dG) (aN dG) (aD dG) .none kV17 dc17 pm17 an17 cd17 ct17),sl17⟩) (c17:PySem.W.codeIn K cd17 "walked_back"=true) (k17:PySem.W.keepIn K (.ref f17)=true)
 (a18:PySem.W.nsIn K mainGlobals "carried"=some (some (.ref f18))) (l18:K.lookup f18=some ⟨oc18,od18,.func (PySem.W.fnOf "carried" "carried" (aP fQ) (aN fQ) (aD fQ) .none kV18 dc18 pm18 an18 cd18 ct18),sl18⟩) (c18:PySem.W.codeIn K cd18 "carried"=true) (k18:PySem.W.keepIn K (.ref f18)=true)
 (a19:PySem.W.nsIn K mainGlobals "gain"=some (some (.ref f19))) (l19:K.lookup f19=some ⟨oc19,od19,.func (PySem.W.fnOf "gain" "gain" (aP mP) (aN mP) (aD mP) .none kV19 dc19 pm19 an19 cd19 ct19),sl19⟩) (c19:PySem.W.codeIn K cd19 "gain"=true) (k19:PySem.W.keepIn K (.ref f19)=true)
 (a20:PySem.W.nsIn K mainGlobals "added"=some (some (.ref f20))) (l20:K.lookup f20=some ⟨oc20,od20,.func (PySem.W.fnOf "added" "added" (aP kE) (aN kE) (aD kE) .none kV20 dc20 pm20 an20 cd20 ct20),sl20⟩) (c20:PySem.W.codeIn K cd20 "added"=true) (k20:PySem.W.keepIn K (.ref f20)=true)
 (a21:PySem.W.nsIn K mainGlobals "far"=some (some (.ref f21))) (l21:K.lookup f21=some ⟨oc21,od21,.func (PySem.W.fnOf "far" "far" (aP tY) (aN tY) (aD tY) .none kV21 dc21 pm21 an21 cd21 ct21),sl21⟩) (c21:PySem.W.codeIn K cd21 "far"=true) (k21:PySem.W.keepIn K (.ref f21)=true)
 (a22:PySem.W.nsIn K mainGlobals "look_stones"=some (some (.ref f22))) (l22:K.lookup f22=some ⟨oc22,od22,.func (PySem.W.fnOf "look_stones" "look_stones" (aP dH) (aN dH) (aD dH) .none kV22 dc22 pm22 an22 cd22 ct22),sl22⟩) (c22:PySem.W.codeIn K cd22 "look_stones"=true) (k22:PySem.W.keepIn K (.ref f22)=true)
 (a23:PySem.W.nsIn K mainGlobals "tidied"=some (some (.ref f23))) (l23:K.lookup f23=some ⟨oc23,od23,.func (PySem.W.fnOf "tidied" "tidied" (aP iP) (aN iP) (aD iP) .none kV23 dc23 pm23 an23 cd23 ct23),sl23⟩) (c23:PySem.W.codeIn K cd23 "tidied"=true) (k23:PySem.W.keepIn K (.ref f23)=true)
 (a24:PySem.W.nsIn K mainGlobals "peeled"=some (some (.ref f24))) (l24:K.lookup f24=some ⟨oc24,od24,.func (PySem.W.fnOf "peeled" "peeled" (aP iQ) (aN iQ) (aD iQ) .none kV24 dc24 pm24 an24 cd24 ct24),sl24⟩) (c24:PySem.W.codeIn K cd24 "peeled"=true) (k24:PySem.W.keepIn K (.ref f24)=true)
 (a25:PySem.W.nsIn K mainGlobals "rounds"=some (some (.ref f25))) (l25:K.lookup f25=some ⟨oc25,od25,.func (PySem.W.fnOf "rounds" "rounds" (aP jT) (aN jT) (aD jT) .none kV25 dc25 pm25 an25 cd25 ct25),sl25⟩) (c25:PySem.W.codeIn K cd25 "rounds"=true) (k25:PySem.W.keepIn K (.ref f25)=true)
 (a26:PySem.W.nsIn K mainGlobals "sizes_by_counts"=some (some (.ref f26))) (l26:K.lookup f26=some ⟨oc26,od26,.func (PySem.W.fnOf "sizes_by_counts" "sizes_by_counts" (aP cE) (aN cE) (aD cE) .none kV26 dc26 pm26 an26 cd26 ct26),sl26⟩) (c26:PySem.W.codeIn K cd26 "sizes_by_counts"=true) (k26:PySem.W.keepIn K (.ref f26)=true)
 (a27:PySem.W.nsIn K mainGlobals "sizes_by_loads"=some (some (.ref f27))) (l27:K.lookup f27=some ⟨oc27,od27,.func (PySem.W.fnOf "sizes_by_loads" "sizes_by_loads" (aP cH) (aN cH) (aD cH) .none kV27 dc27 pm27 an27 cd27 ct27),sl27⟩) (c27:PySem.W.codeIn K cd27 "sizes_by_loads"=true) (k27:PySem.W.keepIn K (.ref f27)=true)
 (a28:PySem.W.nsIn K mainGlobals "_law_numbers"=some (some (.ref f28))) (l28:K.lookup f28=some ⟨oc28,od28,.func (PySem.W.fnOf "_law_numbers" "_law_numbers" (aP dI) (aN dI) (aD dI) .none kV28 dc28 pm28 an28 cd28 ct28),sl28⟩) (c28:PySem.W.codeIn K cd28 "_law_numbers"=true) (k28:PySem.W.keepIn K (.ref f28)=true)
 (a29:PySem.W.nsIn K mainGlobals "_law_same"=some (some (.ref f29))) (l29:K.lookup f29=some ⟨oc29,od29,.func (PySem.W.fnOf "_law_same" "_law_same" (aP dR) (aN dR) (aD dR) .none kV29 dc29 pm29 an29 cd29 ct29),sl29⟩) (c29:PySem.W.codeIn K cd29 "_law_same"=true) (k29:PySem.W.keepIn K (.ref f29)=true)
 (a30:PySem.W.nsIn K mainGlobals "_law_row"=some (some (.ref f30))) (l30:K.lookup f30=some ⟨oc30,od30,.func (PySem.W.fnOf "_law_row" "_law_row" (aP hW) (aN hW) (aD hW) .none kV30 dc30 pm30 an30 cd30 ct30),sl30⟩) (c30:PySem.W.codeIn K cd30 "_law_row"=true) (k30:PySem.W.keepIn K (.ref f30)=true)
 (a31:PySem.W.nsIn K mainGlobals "_law_turned"=some (some (.ref f31))) (l31:K.lookup f31=some ⟨oc31,od31,.func (PySem.W.fnOf "_law_turned" "_law_turned" (aP dE) (aN dE) (aD dE) .none kV31 dc31 pm31 an31 cd31 ct31),sl31⟩) (c31:PySem.W.codeIn K cd31 "_law_turned"=true) (k31:PySem.W.keepIn K (.ref f31)=true)
 (a32:PySem.W.nsIn K mainGlobals "_law_plain"=some (some (.ref f32))) (l32:K.lookup f32=some ⟨oc32,od32,.func (PySem.W.fnOf "_law_plain" "_law_plain" (aP eX) (aN eX) (aD eX) .none kV32 dc32 pm32 an32 cd32 ct32),sl32⟩) (c32:PySem.W.codeIn K cd32 "_law_plain"=true) (k32:PySem.W.keepIn K (.ref f32)=true)
 (a33:PySem.W.nsIn K mainGlobals "_law_plain_back"=some (some (.ref f33))) (l33:K.lookup f33=some ⟨oc33,od33,.func (PySem.W.fnOf "_law_plain_back" "_law_plain_back" (aP cI) (aN cI) (aD cI) .none kV33 dc33 pm33 an33 cd33 ct33),sl33⟩) (c33:PySem.W.codeIn K cd33 "_law_plain_back"=true) (k33:PySem.W.keepIn K (.ref f33)=true)
 (a34:PySem.W.nsIn K mainGlobals "_law_runs"=some (some (.ref f34))) (l34:K.lookup f34=some ⟨oc34,od34,.func (PySem.W.fnOf "_law_runs" "_law_runs" (aP fS) (aN fS) (aD fS) .none kV34 dc34 pm34 an34 cd34 ct34),sl34⟩) (c34:PySem.W.codeIn K cd34 "_law_runs"=true) (k34:PySem.W.keepIn K (.ref f34)=true)
 (a35:PySem.W.nsIn K mainGlobals "_law_lesser"=some (some (.ref f35))) (l35:K.lookup f35=some ⟨oc35,od35,.func (PySem.W.fnOf "_law_lesser" "_law_lesser" (aP dF) (aN dF) (aD dF) .none kV35 dc35 pm35 an35 cd35 ct35),sl35⟩) (c35:PySem.W.codeIn K cd35 "_law_lesser"=true) (k35:PySem.W.keepIn K (.ref f35)=true)
 (a36:PySem.W.nsIn K mainGlobals "_law_list"=some (some (.ref f36))) (l36:K.lookup f36=some ⟨oc36,od36,.func (PySem.W.fnOf "_law_list" "_law_list" (aP eQ) (aN eQ) (aD eQ) .none kV36 dc36 pm36 an36 cd36 ct36),sl36⟩) (c36:PySem.W.codeIn K cd36 "_law_list"=true) (k36:PySem.W.keepIn K (.ref f36)=true)
 (a37:PySem.W.nsIn K mainGlobals "_law_stones"=some (some (.ref f37))) (l37:K.lookup f37=some ⟨oc37,od37,.func (PySem.W.fnOf "_law_stones" "_law_stones" (aP cP) (aN cP) (aD cP) .none kV37 dc37 pm37 an37 cd37 ct37),sl37⟩) (c37:PySem.W.codeIn K cd37 "_law_stones"=true) (k37:PySem.W.keepIn K (.ref f37)=true)
 (a38:PySem.W.nsIn K mainGlobals "_law_adds"=some (some (.ref f38))) (l38:K.lookup f38=some ⟨oc38,od38,.func (PySem.W.fnOf "_law_adds" "_law_adds" (aP eR) (aN eR) (aD eR) .none kV38 dc38 pm38 an38 cd38 ct38),sl38⟩) (c38:PySem.W.codeIn K cd38 "_law_adds"=true) (k38:PySem.W.keepIn K (.ref f38)=true)
 (a39:PySem.W.nsIn K mainGlobals "_law_peel"=some (some (.ref f39))) (l39:K.lookup f39=some ⟨oc39,od39,.func (PySem.W.fnOf "_law_peel" "_law_peel" (aP dS) (aN dS) (aD dS) .none kV39 dc39 pm39 an39 cd39 ct39),sl39⟩) (c39:PySem.W.codeIn K cd39 "_law_peel"=true) (k39:PySem.W.keepIn K (.ref f39)=true)
 (a40:PySem.W.nsIn K mainGlobals "_law_view"=some (some (.ref f40))) (l40:K.lookup f40=some ⟨oc40,od40,.func (PySem.W.fnOf "_law_view" "_law_view" (aP fT) (aN fT) (aD fT) .none kV40 dc40 pm40 an40 cd40 ct40),sl40⟩) (c40:PySem.W.codeIn K cd40 "_law_view"=true) (k40:PySem.W.keepIn K (.ref f40)=true)
 (a41:PySem.W.nsIn K mainGlobals "_law_due"=some (some (.ref f41))) (l41:K.lookup f41=some ⟨oc41,od41,.func (PySem.W.fnOf "_law_due" "_law_due" (aP fU) (aN fU) (aD fU) .none kV41 dc41 pm41 an41 cd41 ct41),sl41⟩) (c41:PySem.W.codeIn K cd41 "_law_due"=true) (k41:PySem.W.keepIn K (.ref f41)=true)
 (a42:PySem.W.nsIn K mainGlobals "law"=some (some (.ref f42))) (l42:K.lookup f42=some ⟨oc42,od42,.func (PySem.W.fnOf "law" "law" (aP lM) (aN lM) (aD lM) .none kV42 dc42 pm42 an42 cd42 ct42),sl42⟩) (c42:PySem.W.codeIn K cd42 "law"=true) (k42:PySem.W.keepIn K (.ref f42)=true)
 (z_len:PySem.W.nsIn K mainGlobals "len"=some none)
 (z_range:PySem.W.nsIn K mainGlobals "range"=some none)
 (z_list:PySem.W.nsIn K mainGlobals "list"=some none)
 (z_tuple:PySem.W.nsIn K mainGlobals "tuple"=some none)
 (z_bool:PySem.W.nsIn K mainGlobals "bool"=some none)
 (z_str:PySem.W.nsIn K mainGlobals "str"=some none)
 (z_int:PySem.W.nsIn K mainGlobals "int"=some none)
 (z_isinstance:PySem.W.nsIn K mainGlobals "isinstance"=some none)
 (z_all:PySem.W.nsIn K mainGlobals "all"=some none)
 (z_sorted:PySem.W.nsIn K mainGlobals "sorted"=some none)
 (z_max:PySem.W.nsIn K mainGlobals "max"=some none)
 (z_min:PySem.W.nsIn K mainGlobals "min"=some none)
 (z_set:PySem.W.nsIn K mainGlobals "set"=some none)
 (z_reversed:PySem.W.nsIn K mainGlobals "reversed"=some none)
 (z_sum:PySem.W.nsIn K mainGlobals "sum"=some none)
 (z_enumerate:PySem.W.nsIn K mainGlobals "enumerate"=some none)
 (z_zip:PySem.W.nsIn K mainGlobals "zip"=some none)
 (z_any:PySem.W.nsIn K mainGlobals "any"=some none)
 (z_abs:PySem.W.nsIn K mainGlobals "abs"=some none)
 (y_MOST_STONES:PySem.W.nsIn K mainGlobals "MOST_STONES"=some (some (.int 60 t_MOST_STONES))) :
 ∃ fd:FuncData,(∀ (s:Shared) (v:Value),BindsTo s fd ⟨[v],[]⟩ [("_law_script",v)])/\∀ base:Heap,K.In base->base.Ns mainGlobals mg->FnOk l.prog w K mg base CX0 8 fa fd ["_law_script"] (wO K):=by
 have e:=hfa.symm.trans (PySem.W.mg_of X G a42);cases e;have B:Bt mg:=⟨PySem.W.mg_none_of X G z_len,PySem.W.mg_none_of X G z_range,PySem.W.mg_none_of X G z_list,PySem.W.mg_none_of X G z_tuple,PySem.W.mg_none_of X G z_bool,PySem.W.mg_none_of X G z_str,PySem.W.mg_none_of X G z_int,PySem.W.mg_none_of X G z_isinstance,PySem.W.mg_none_of X G z_all,PySem.W.mg_none_of X G z_sorted,PySem.W.mg_none_of X G z_max,PySem.W.mg_none_of X G z_min,PySem.W.mg_none_of X G z_set,PySem.W.mg_none_of X G z_reversed,PySem.W.mg_none_of X G z_sum,PySem.W.mg_none_of X G z_enumerate,PySem.W.mg_none_of X G z_zip,PySem.W.mg_none_of X G z_any,PySem.W.mg_none_of X G z_abs⟩;have C:Cn mg t_MOST_STONES:=⟨PySem.W.mg_of X G y_MOST_STONES⟩;have F0:=bD (st:=fM) l0 c0 k0;have b0:=F0.binds1 (p1:="row") fun _ _ _ _ _ _ _=>rfl;have m0:=PySem.W.mg_of X G a0;have F1:=bD (st:=eU) l1 c1 k1;have b1:=F1.binds1 (p1:="row") fun _ _ _ _ _ _ _=>rfl;have m1:=PySem.W.mg_of X G a1;have F2:=bD (st:=eP) l2 c2 k2;have b2:=F2.binds1 (p1:="row") fun _ _ _ _ _ _ _=>rfl;have m2:=PySem.W.mg_of X G a2;have F3:=bD (st:=fN) l3 c3 k3;have b3:=F3.binds1 (p1:="row") fun _ _ _ _ _ _ _=>rfl;have m3:=PySem.W.mg_of X G a3;have F4:=bD (st:=cS) l4 c4 k4;have b4:=F4.binds1 (p1:="trains") fun _ _ _ _ _ _ _=>rfl;have m4:=PySem.W.mg_of X G a4;have F5:=bD (st:=hJ) l5 c5 k5;have b5:=F5.binds1 (p1:="trains") fun _ _ _ _ _ _ _=>rfl;have m5:=PySem.W.mg_of X G a5;have F6:=bD (st:=kD) l6 c6 k6;have b6:=F6.binds2 (p1:="offsets") (p2:="size") fun _ _ _ _ _ _ _ _=>rfl;have m6:=PySem.W.mg_of X G a6;have F7:=bD (st:=iK) l7 c7 k7;have b7:=F7.binds1 (p1:="offsets") fun _ _ _ _ _ _ _=>rfl;have m7:=PySem.W.mg_of X G a7;have F8:=bD (st:=eV) l8 c8 k8;have b8:=F8.binds2 (p1:="offsets") (p2:="size") fun _ _ _ _ _ _ _ _=>rfl;have m8:=PySem.W.mg_of X G a8;have F9:=bD (st:=eW) l9 c9 k9;have b9:=F9.binds3 (p1:="offsets") (p2:="size") (p3:="place") fun _ _ _ _ _ _ _ _ _=>rfl;have m9:=PySem.W.mg_of X G a9;have F10:=bD (st:=dQ) l10 c10 k10;have b10:=F10.binds2 (p1:="offsets") (p2:="place") fun _ _ _ _ _ _ _ _=>rfl;have m10:=PySem.W.mg_of X G a10;have F11:=bD (st:=fO) l11 c11 k11;have b11:=F11.binds1 (p1:="row") fun _ _ _ _ _ _ _=>rfl;have m11:=PySem.W.mg_of X G a11;have F12:=bD (st:=jR) l12 c12 k12;have b12:=F12.binds1 (p1:="row") fun _ _ _ _ _ _ _=>rfl;have m12:=PySem.W.mg_of X G a12;have F13:=bD (st:=iM) l13 c13 k13;have b13:=F13.binds1 (p1:="trains") fun _ _ _ _ _ _ _=>rfl;have m13:=PySem.W.mg_of X G a13;have F14:=bD (st:=dY) l14 c14 k14;have b14:=F14.binds1 (p1:="creel") fun _ _ _ _ _ _ _=>rfl;have m14:=PySem.W.mg_of X G a14;have F15:=bD (st:=dZ) l15 c15 k15;have b15:=F15.binds1 (p1:="walks") fun _ _ _ _ _ _ _=>rfl;have m15:=PySem.W.mg_of X G a15;have F16:=bD (st:=iO) l16 c16 k16;have b16:=F16.binds2 (p1:="row") (p2:="creel") fun _ _ _ _ _ _ _ _=>rfl;have m16:=PySem.W.mg_of X G a16;have F17:=bD (st:=dG) l17 c17 k17;have b17:=F17.binds2 (p1:="row") (p2:="creel") fun _ _ _ _ _ _ _ _=>rfl;have m17:=PySem.W.mg_of X G a17;have F18:=bD (st:=fQ) l18 c18 k18;have b18:=F18.binds2 (p1:="row") (p2:="creel") fun _ _ _ _ _ _ _ _=>rfl;have m18:=PySem.W.mg_of X G a18;have F19:=bD (st:=mP) l19 c19 k19;have b19:=F19.binds2 (p1:="walks") (p2:="size") fun _ _ _ _ _ _ _ _=>rfl;have m19:=PySem.W.mg_of X G a19;have F20:=bD (st:=kE) l20 c20 k20;have b20:=F20.binds2 (p1:="trains") (p2:="walks") fun _ _ _ _ _ _ _ _=>rfl;have m20:=PySem.W.mg_of X G a20;have F21:=bD (st:=tY) l21 c21 k21;have b21:=F21.binds2 (p1:="row") (p2:="walks") fun _ _ _ _ _ _ _ _=>rfl;have m21:=PySem.W.mg_of X G a21;have F22:=bD (st:=dH) l22 c22 k22;have b22:=F22.binds1 (p1:="stones") fun _ _ _ _ _ _ _=>rfl;have m22:=PySem.W.mg_of X G a22;have F23:=bD (st:=iP) l23 c23 k23
 have b23:=F23.binds2 (p1:="walks") (p2:="stones") fun _ _ _ _ _ _ _ _=>rfl;have m23:=PySem.W.mg_of X G a23;have F24:=bD (st:=iQ) l24 c24 k24;have b24:=F24.binds1 (p1:="row") fun _ _ _ _ _ _ _=>rfl;have m24:=PySem.W.mg_of X G a24;have F25:=bD (st:=jT) l25 c25 k25;have b25:=F25.binds1 (p1:="row") fun _ _ _ _ _ _ _=>rfl;have m25:=PySem.W.mg_of X G a25;have F26:=bD (st:=cE) l26 c26 k26;have b26:=F26.binds1 (p1:="counts") fun _ _ _ _ _ _ _=>rfl;have m26:=PySem.W.mg_of X G a26;have F27:=bD (st:=cH) l27 c27 k27;have b27:=F27.binds1 (p1:="row") fun _ _ _ _ _ _ _=>rfl;have m27:=PySem.W.mg_of X G a27;have F28:=bD (st:=dI) l28 c28 k28;have b28:=F28.binds2 (p1:="_law_script") (p2:="_law_many") fun _ _ _ _ _ _ _ _=>rfl;have m28:=PySem.W.mg_of X G a28;have F29:=bD (st:=dR) l29 c29 k29;have b29:=F29.binds2 (p1:="_law_found") (p2:="_law_due_here") fun _ _ _ _ _ _ _ _=>rfl;have m29:=PySem.W.mg_of X G a29;have F30:=bD (st:=hW) l30 c30 k30;have b30:=F30.binds2 (p1:="_law_d") (p2:="_law_most") fun _ _ _ _ _ _ _ _=>rfl;have m30:=PySem.W.mg_of X G a30;have F31:=bD (st:=dE) l31 c31 k31;have b31:=F31.binds1 (p1:="_law_row_here") fun _ _ _ _ _ _ _=>rfl;have m31:=PySem.W.mg_of X G a31;have F32:=bD (st:=eX) l32 c32 k32;have b32:=F32.binds2 (p1:="_law_row_here") (p2:="_law_creel") fun _ _ _ _ _ _ _ _=>rfl;have m32:=PySem.W.mg_of X G a32;have F33:=bD (st:=cI) l33 c33 k33;have b33:=F33.binds2 (p1:="_law_row_here") (p2:="_law_creel") fun _ _ _ _ _ _ _ _=>rfl;have m33:=PySem.W.mg_of X G a33;have F34:=bD (st:=fS) l34 c34 k34;have b34:=F34.binds1 (p1:="_law_row_here") fun _ _ _ _ _ _ _=>rfl;have m34:=PySem.W.mg_of X G a34;have F35:=bD (st:=dF) l35 c35 k35;have b35:=F35.binds2 (p1:="_law_found") (p2:="_law_size") fun _ _ _ _ _ _ _ _=>rfl;have m35:=PySem.W.mg_of X G a35;have F36:=bD (st:=eQ) l36 c36 k36;have b36:=F36.binds1 (p1:="_law_row_here") fun _ _ _ _ _ _ _=>rfl;have m36:=PySem.W.mg_of X G a36;have F37:=bD (st:=cP) l37 c37 k37;have b37:=F37.binds1 (p1:="_law_pairs") fun _ _ _ _ _ _ _=>rfl;have m37:=PySem.W.mg_of X G a37;have F38:=bD (st:=eR) l38 c38 k38;have b38:=F38.binds2 (p1:="_law_pairs") (p2:="_law_walks") fun _ _ _ _ _ _ _ _=>rfl;have m38:=PySem.W.mg_of X G a38;have F39:=bD (st:=dS) l39 c39 k39;have b39:=F39.binds1 (p1:="_law_row_here") fun _ _ _ _ _ _ _=>rfl;have m39:=PySem.W.mg_of X G a39;have F40:=bD (st:=fT) l40 c40 k40;have b40:=F40.binds2 (p1:="_law_row_here") (p2:="_law_creel") fun _ _ _ _ _ _ _ _=>rfl;have m40:=PySem.W.mg_of X G a40;have F41:=bD (st:=fU) l41 c41 k41;have b41:=F41.binds2 (p1:="_law_row_here") (p2:="_law_creel") fun _ _ _ _ _ _ _ _=>rfl;have m41:=PySem.W.mg_of X G a41;have F42:=bD (st:=lM) l42 c42 k42;have b42:=F42.binds1 (p1:="_law_script") fun _ _ _ _ _ _ _=>rfl;have m42:=PySem.W.mg_of X G a42;refine⟨PySem.W.fnOf "law" "law" (aP lM) (aN lM) (aD lM) .none kV42 dc42 pm42 an42 cd42 ct42,fun s v=>.of_eq rfl,fun base _ _=>?_⟩;have A_look_row:aX l.prog w K mg base "look_row" 1 ["row"] kN:=⟨f0,_,j9 F0 B C,m0,k0,b0⟩;have A_stretches:aX l.prog w K mg base "stretches" 2 ["row"] eT:=⟨f1,_,vU F1 B A_look_row,m1,k1,b1⟩;have A_mirrored:aX l.prog w K mg base "mirrored" 2 ["row"] iD:=⟨f2,_,xU F2 B A_look_row,m2,k2,b2⟩;have A_closings:aX l.prog w K mg base "closings" 2 ["row"] kA:=⟨f3,_,xV F3 B A_look_row,m3,k3,b3⟩;have A_look_trains:aX l.prog w K mg base "look_trains" 1 ["trains"] nD:=⟨f4,_,rL F4 B C,m4,k4,b4⟩;have A_by_size:aX l.prog w K mg base "by_size" 1 ["trains"] lX:=⟨f5,_,zK F5 B,m5,k5,b5⟩;have A_crowd:aX l.prog w K mg base "crowd" 1 ["offsets","size"] nJ:=⟨f6,_,X0 F6 B,m6,k6,b6⟩
 have A_crowds:aX l.prog w K mg base "crowds" 1 ["offsets"] jP:=⟨f7,_,L4 F7 B,m7,k7,b7⟩;have A_drop_last:aX l.prog w K mg base "drop_last" 1 ["offsets","size"] iH:=⟨f8,_,vW F8 B,m8,k8,b8⟩;have A_add_train:aX l.prog w K mg base "add_train" 2 ["offsets","size","place"] gF:=⟨f9,_,vX F9 B A_crowd,m9,k9,b9⟩;have A_add_stone:aX l.prog w K mg base "add_stone" 3 ["offsets","place"] jY:=⟨f10,_,vY F10 B A_crowds A_drop_last A_add_train,m10,k10,b10⟩;have A_list_of:aX l.prog w K mg base "list_of" 4 ["row"] gG:=⟨f11,_,zL F11 B A_look_row A_add_stone,m11,k11,b11⟩;have A_trains:aX l.prog w K mg base "trains" 5 ["row"] gG:=⟨f12,_,L6 F12 B A_list_of,m12,k12,b12⟩;have A_row_of:aX l.prog w K mg base "row_of" 3 ["trains"] lB:=⟨f13,_,L7 F13 B A_look_trains A_by_size A_crowds A_drop_last A_add_train,m13,k13,b13⟩;have A_look_creel:aX l.prog w K mg base "look_creel" 1 ["creel"] fX:=⟨f14,_,sE F14 B,m14,k14,b14⟩;have A_look_walks:aX l.prog w K mg base "look_walks" 2 ["walks"] nM:=⟨f15,_,sF F15 B A_look_creel,m15,k15,b15⟩;have A_walked:aX l.prog w K mg base "walked" 2 ["row","creel"] jM:=⟨f16,_,L8 F16 B A_look_row A_look_creel,m16,k16,b16⟩;have A_walked_back:aX l.prog w K mg base "walked_back" 3 ["row","creel"] uQ:=⟨f17,_,rP F17 B A_mirrored A_walked,m17,k17,b17⟩;have A_carried:aX l.prog w K mg base "carried" 3 ["row","creel"] lT:=⟨f18,_,zN F18 B A_walked,m18,k18,b18⟩;have A_gain:aX l.prog w K mg base "gain" 1 ["walks","size"] vC:=⟨f19,_,n5 F19 B,m19,k19,b19⟩;have A_added:aX l.prog w K mg base "added" 3 ["trains","walks"] pS:=⟨f20,_,X2 F20 B A_look_trains A_look_walks A_gain,m20,k20,b20⟩;have A_far:aX l.prog w K mg base "far" 5 ["row","walks"] B7:=⟨f21,_,aAT F21 B A_list_of A_added A_row_of,m21,k21,b21⟩;have A_look_stones:aX l.prog w K mg base "look_stones" 1 ["stones"] lZ:=⟨f22,_,pJ F22 B C,m22,k22,b22⟩;have A_tidied:aX l.prog w K mg base "tidied" 3 ["walks","stones"] vQ:=⟨f23,_,zO F23 B A_look_stones A_look_walks,m23,k23,b23⟩;have A_peeled:aX l.prog w K mg base "peeled" 3 ["row"] gH:=⟨f24,_,L9 F24 B A_stretches,m24,k24,b24⟩;have A_rounds:aX l.prog w K mg base "rounds" 4 ["row"] nO:=⟨f25,_,M0 F25 B A_stretches A_peeled,m25,k25,b25⟩;have A_sizes_by_counts:aX l.prog w K mg base "sizes_by_counts" 1 ["counts"] nU:=⟨f26,_,M3 F26 B,m26,k26,b26⟩;have A_sizes_by_loads:aX l.prog w K mg base "sizes_by_loads" 4 ["row"] pU:=⟨f27,_,rR F27 B A_carried A_sizes_by_counts,m27,k27,b27⟩;have A_law_numbers:aX l.prog w K mg base "_law_numbers" 1 ["_law_script","_law_many"] (lS K):=⟨f28,_,zP F28 B,m28,k28,b28⟩;have A_law_same:aX l.prog w K mg base "_law_same" 4 ["_law_found","_law_due_here"] (oB 3):=⟨f29,_,n6 F29 B m29 b29 3,m29,k29,b29⟩;have A_law_row:aX l.prog w K mg base "_law_row" 1 ["_law_d","_law_most"] vS:=⟨f30,_,aAU F30 B,m30,k30,b30⟩;have A_law_turned:aX l.prog w K mg base "_law_turned" 1 ["_law_row_here"] kO:=⟨f31,_,M4 F31 B,m31,k31,b31⟩;have A_law_plain:aX l.prog w K mg base "_law_plain" 1 ["_law_row_here","_law_creel"] lC:=⟨f32,_,X3 F32 B,m32,k32,b32⟩;have A_law_plain_back:aX l.prog w K mg base "_law_plain_back" 2 ["_law_row_here","_law_creel"] gT:=⟨f33,_,sH F33 B A_law_turned A_law_plain,m33,k33,b33⟩;have A_law_runs:aX l.prog w K mg base "_law_runs" 1 ["_law_row_here"] qJ:=⟨f34,_,n8 F34 B,m34,k34,b34⟩;have A_law_lesser:aX l.prog w K mg base "_law_lesser" 1 ["_law_found","_law_size"] kT:=⟨f35,_,M6 F35 B,m35,k35,b35⟩;have A_law_list:aX l.prog w K mg base "_law_list" 2 ["_law_row_here"] lW:=⟨f36,_,xX F36 B A_law_lesser,m36,k36,b36⟩
 have A_law_stones:aX l.prog w K mg base "_law_stones" 2 ["_law_pairs"] nL:=⟨f37,_,sJ F37 B A_law_lesser,m37,k37,b37⟩;have A_law_adds:aX l.prog w K mg base "_law_adds" 1 ["_law_pairs","_law_walks"] vD:=⟨f38,_,o0 F38 B,m38,k38,b38⟩;have A_law_peel:aX l.prog w K mg base "_law_peel" 2 ["_law_row_here"] gH:=⟨f39,_,xY F39 B A_law_runs,m39,k39,b39⟩;have A_law_view:aX l.prog w K mg base "_law_view" 7 ["_law_row_here","_law_creel"] vT:=⟨f40,_,xZ F40 B A_stretches A_mirrored A_walked A_walked_back A_peeled A_rounds A_trains A_sizes_by_loads A_far A_row_of A_closings A_tidied,m40,k40,b40⟩;have A_law_due:aX l.prog w K mg base "_law_due" 5 ["_law_row_here","_law_creel"] pV:=⟨f41,_,vZ F41 B A_law_runs A_law_turned A_law_plain A_law_plain_back A_law_peel A_law_list A_law_stones A_law_adds,m41,k41,b41⟩;exact aAV F42 B A_law_numbers A_law_row A_law_view A_law_due A_law_same
theorem walk {l:PySem.W.OpenLaw} {q:Program} {loose:List Str} {XP:(Str->Option Value)->Heap->Prop} {YP:World->Heap->Prop} {d:DefRec} {K:Params->PySem.W.Frag} (hn:l.most=some 63) (hdf:d.params.defaults=[])
 (hY:∀ (w:World) (h:Heap),YP w h->(K w.params).In h)
 (F:∀ (w:World) (mg:Str->Option Value) (fa:Addr) (h:Heap),(K w.params).In h->h.Ns mainGlobals mg->mg d.name=some (.ref fa) ->
  ∃ fd:FuncData,(∀ (s:Shared) (u:Value),BindsTo s fd ⟨[u],[]⟩ [("_law_script",u)])/\∀ base:Heap,(K w.params).In base->base.Ns mainGlobals mg->FnOk l.prog w (K w.params) mg base CX0 8 fa fd ["_law_script"] (wO (K w.params))) :
 PySem.W.WalkO q loose XP YP l.row.toRowW d [] (fun f vs=>PySem.call f vs) :=
 L2.walk_of (n:=63) (k:=8) (x:="_law_script") (CX:=fun _=>CX0) (sp:=fun w=>wO (K w.params)) hn (by decide) hdf ⟨rfl,by decide,by decide⟩ hY F (fun _ _ a ns hl _ hS=>⟨a,ns,rfl,hS,hl,fun _=>rfl⟩) fun _ _ _ _ _ z=>z
end CW
def PySem.W.Fast.tw11349971330415930843:Unit:=()
def PySem.W.Fast.tw2241913932177449542:Unit:=()
def PySem.W.Fast.tw4307703360921873543:Unit:=()
def PySem.W.Fast.tw16099248143649826699:Unit:=()
def PySem.W.Fast.tw1390444414162843780:Unit:=()
def PySem.W.Fast.tw11783059927429424905:Unit:=()
def PySem.W.Fast.tw8356192727443951095:Unit:=()
def PySem.W.Fast.tw2731522525447960216:Unit:=()
def PySem.W.Fast.tw2021311991618437250:Unit:=()
def PySem.W.Fast.tw14084974289911515521:Unit:=()
def PySem.W.Fast.tw13717367709554246900:Unit:=()
def PySem.W.Fast.tw378795163924610927:Unit:=()
def PySem.W.Fast.tw18080922521444988509:Unit:=()
def PySem.W.Fast.tw15181855043667202285:Unit:=()
def PySem.W.Fast.tw9424196184517026296:Unit:=()
def PySem.W.Fast.tw13359804578337733996:Unit:=()
def PySem.W.Fast.tw14171978200141665090:Unit:=()
def PySem.W.Fast.tw655827747633281770:Unit:=()
def PySem.W.Fast.tw17773931489997589508:Unit:=()
def PySem.W.Fast.tw3588593978575704998:Unit:=()
def PySem.W.Fast.tw1422663785867459151:Unit:=()
def PySem.W.Fast.tw516735642220052326:Unit:=()
def PySem.W.Fast.tw17272735550163587199:Unit:=()
def PySem.W.Fast.tw2226100407799962834:Unit:=()
def PySem.W.Fast.tw11746495802849637285:Unit:=()
def PySem.W.Fast.tw14624294861166962270:Unit:=()
def PySem.W.Fast.tw12401478614182238330:Unit:=()
def PySem.W.Fast.tw10756629627393700844:Unit:=()
def PySem.W.Fast.tw7346979192718621926:Unit:=()
def PySem.W.Fast.tw9945828574657787365:Unit:=()
def PySem.W.Fast.tw16546910874388975319:Unit:=()
def PySem.W.Fast.tw18403163261626369159:Unit:=()
def PySem.W.Fast.tw10926278854369744762:Unit:=()
def PySem.W.Fast.tw14867609849542987540:Unit:=()
def PySem.W.Fast.tw8042228588606996233:Unit:=()
def PySem.W.Fast.tw10211506791098146733:Unit:=()
def PySem.W.Fast.tw10405777034109113958:Unit:=()
def PySem.W.Fast.tw3929440606797940132:Unit:=()
def PySem.W.Fast.tw9645836467179396285:Unit:=()
def PySem.W.Fast.tw203163290884778966:Unit:=()
def PySem.W.Fast.tw17130716195330261952:Unit:=()
def PySem.W.Fast.tw8022144450805586067:Unit:=()
def PySem.W.Fast.tw5921443035353976275:Unit:=()
def PySem.W.Fast.tw1168490708279845004:Unit:=()
def PySem.W.Fast.tw9962535628264305296:Unit:=()
def PySem.W.Fast.tw9939641186536354741:Unit:=()
def PySem.W.Fast.tw14165845481926333378:Unit:=()
def PySem.W.Fast.tw11094880197721253070:Unit:=()
def PySem.W.Fast.tw17494359050795481668:Unit:=()
def PySem.W.Fast.tw1713663225765875474:Unit:=()
def PySem.W.Fast.tw15230869492964895431:Unit:=()
def PySem.W.Fast.tw8969776958217282888:Unit:=()
def PySem.W.Fast.tw10359058200232039126:Unit:=()
def PySem.W.Fast.tw6520715596654262927:Unit:=()
def PySem.W.Fast.tw16594832653420965589:Unit:=()
def PySem.W.Fast.tw15327739705077354090:Unit:=()
def PySem.W.Fast.tw3652437340764906951:Unit:=()
def PySem.W.Fast.tw14556545666018607421:Unit:=()
def PySem.W.Fast.tw1561894825311632755:Unit:=()
def PySem.W.Fast.tw2438587690470492358:Unit:=()
def PySem.W.Fast.tw15122757396677104750:Unit:=()
def PySem.W.Fast.tw12297458005611558270:Unit:=()
def PySem.W.Fast.tw11637603349343061441:Unit:=()
def PySem.W.Fast.tw18202458573138419852:Unit:=()
def PySem.W.Fast.tw16148333279792882952:Unit:=()
def PySem.W.Fast.tw8982364282083717307:Unit:=()
def PySem.W.Fast.tw11139073297813604050:Unit:=()
def PySem.W.Fast.tw10064656955538837613:Unit:=()
def PySem.W.Fast.tw5378149436056463386:Unit:=()
def PySem.W.Fast.tw2882485683951888779:Unit:=()
def PySem.W.Fast.tw9111772325253286375:Unit:=()
def PySem.W.Fast.tw533211416280507731:Unit:=()
def PySem.W.Fast.tw17515484736432277506:Unit:=()
def PySem.W.Fast.tw873208724168527993:Unit:=()
def PySem.W.Fast.tw7517858846661358213:Unit:=()
def PySem.W.Fast.tw15973742888274228460:Unit:=()
def PySem.W.Fast.tw5682569698564731410:Unit:=()
def PySem.W.Fast.tw10305943538372860251:Unit:=()
def PySem.W.Fast.tw3097113462760511296:Unit:=()
def PySem.W.Fast.tw9194828941235006403:Unit:=()
def PySem.W.Fast.tw5328841242148422721:Unit:=()
def PySem.W.Fast.tw7869016952645779117:Unit:=()
def PySem.W.Fast.tw17701247737705085869:Unit:=()
def PySem.W.Fast.tw14103211986316029411:Unit:=()
def PySem.W.Fast.tw3402943463286367484:Unit:=()
def PySem.W.Fast.tw17886836225401285753:Unit:=()
def PySem.W.Fast.tw12684739814127840809:Unit:=()
def PySem.W.Fast.tw15600307540858642593:Unit:=()
def PySem.W.Fast.tw14984385695714818649:Unit:=()
def PySem.W.Fast.tw13729230693434878035:Unit:=()
def PySem.W.Fast.tw13104645074097179783:Unit:=()
def PySem.W.Fast.tw13405064510548892072:Unit:=()
def PySem.W.Fast.tw16760107457457985775:Unit:=()
def PySem.W.Fast.tw3711066007330658754:Unit:=()
def PySem.W.Fast.tw904114682850216709:Unit:=()
def PySem.W.Fast.tw5929292943158236968:Unit:=()
def PySem.W.Fast.tw5040730005350070677:Unit:=()
def PySem.W.Fast.tw12298467588523353549:Unit:=()
def PySem.W.Fast.tw12436427866701371461:Unit:=()
def PySem.W.Fast.tw1286855106773773492:Unit:=()
def PySem.W.Fast.tw4440015104311386705:Unit:=()
def PySem.W.Fast.tw13175928106574917165:Unit:=()
def PySem.W.Fast.tw7768138573746158892:Unit:=()
def PySem.W.Fast.tw14706653110343672253:Unit:=()
def PySem.W.Fast.tw10789706898829711006:Unit:=()
def PySem.W.Fast.tw1184681345534054045:Unit:=()
def PySem.W.Fast.tw6763475549624366034:Unit:=()
def PySem.W.Fast.tw2155832061206463789:Unit:=()
def PySem.W.Fast.tw463941562295644083:Unit:=()
def PySem.W.Fast.tw9731140275100755075:Unit:=()
def PySem.W.Fast.tw4361800063572207400:Unit:=()
def PySem.W.Fast.tw13875852610844163769:Unit:=()
def PySem.W.Fast.tw7927574796894157942:Unit:=()
def PySem.W.Fast.tw11046918380350831996:Unit:=()
def PySem.W.Fast.tw6736372418842767839:Unit:=()
def PySem.W.Fast.tw5543403301615531612:Unit:=()
def PySem.W.Fast.tw3604353083292279332:Unit:=()
def PySem.W.Fast.tw14562100326249493654:Unit:=()
def PySem.W.Fast.tw17288313792233464931:Unit:=()
def PySem.W.Fast.tw6599875378943190008:Unit:=()
def PySem.W.Fast.tw18098927806778896770:Unit:=()
def PySem.W.Fast.tw15809006562414374117:Unit:=()
def PySem.W.Fast.tw17734364341408290961:Unit:=()
def PySem.W.Fast.tw965711724896897499:Unit:=()
def PySem.W.Fast.tw16136262003453676942:Unit:=()
def PySem.W.Fast.tw11486725563590147399:Unit:=()
def PySem.W.Fast.tw14671220361190231538:Unit:=()
def PySem.W.Fast.tw10348035123375496818:Unit:=()
def PySem.W.Fast.tw6632250192462909738:Unit:=()
def PySem.W.Fast.tw8188826405368873531:Unit:=()
def PySem.W.Fast.tw1232882542450483287:Unit:=()
def PySem.W.Fast.tw1458242162730740725:Unit:=()
def PySem.W.Fast.tw7482140932956931234:Unit:=()
def PySem.W.Fast.tw7735679132597906180:Unit:=()
def PySem.W.Fast.tw12716246182753235432:Unit:=()
def PySem.W.Fast.tw17815639448393633848:Unit:=()
def PySem.W.Fast.tw16595279864247353974:Unit:=()
def PySem.W.Fast.tw15740157442509952931:Unit:=()
def PySem.W.Fast.tw3945672940564017831:Unit:=()
def PySem.W.Fast.tw6859461116865068818:Unit:=()
def PySem.W.Fast.tw6144213471201597347:Unit:=()
def PySem.W.Fast.tw11922409778569804296:Unit:=()
def PySem.W.Fast.tw2069951495613347992:Unit:=()
def PySem.W.Fast.tw17388317844129249147:Unit:=()
def PySem.W.Fast.tw17774462524185850988:Unit:=()
def PySem.W.Fast.tw8642825947921240954:Unit:=()
def PySem.W.Fast.tw9439648962337327114:Unit:=()
def PySem.W.Fast.tw4692417239761691744:Unit:=()
def PySem.W.Fast.tw17049301507022910217:Unit:=()
def PySem.W.Fast.tw18270301367379453343:Unit:=()
def PySem.W.Fast.tw3036623600031235619:Unit:=()
def PySem.W.Fast.tw12333812082797347369:Unit:=()
def PySem.W.Fast.tw5646400850135417795:Unit:=()
def PySem.W.Fast.tw17661772671511352211:Unit:=()
def PySem.W.Fast.tw11576599031492271520:Unit:=()
def PySem.W.Fast.tw3825880987007866491:Unit:=()
def PySem.W.Fast.tw8225251243678133216:Unit:=()
def PySem.W.Fast.tw8504594413881304591:Unit:=()
def PySem.W.Fast.tw4368983742548647299:Unit:=()
open PySem PySem.W PyProof.Rows
set_option maxRecDepth 100000 in
set_option maxHeartbeats 0 in
theorem PySem.Challenge.cw_creelway_k56_asked_by_turns_holds : PySem.Challenge.rw_creelway_k56_asked_by_turns.Holds := by
 w_on;o_law;k_head;(case hw=>w_witness2)
 k_fill
 refine CW.walk (l:=PySem.Challenge.rw_creelway_k56_asked_by_turns) rfl rfl (fun w h Y=>PySem.W.kIn_of Y) ?F
 case F =>
  intro w mg fa h KX G hmg;refine' CW.all_mk KX G hmg ?a0 ?l0 ?c0 ?k0 ?a1 ?l1 ?c1 ?k1 ?a2 ?l2 ?c2 ?k2 ?a3 ?l3 ?c3 ?k3 ?a4 ?l4 ?c4 ?k4 ?a5 ?l5 ?c5 ?k5 ?a6 ?l6 ?c6 ?k6 ?a7 ?l7 ?c7 ?k7 ?a8 ?l8 ?c8 ?k8 ?a9 ?l9 ?c9 ?k9 ?a10 ?l10 ?c10 ?k10 ?a11 ?l11 ?c11 ?k11 ?a12 ?l12 ?c12 ?k12 ?a13 ?l13 ?c13 ?k13 ?a14 ?l14 ?c14 ?k14 ?a15 ?l15 ?c15 ?k15 ?a16 ?l16 ?c16 ?k16 ?a17 ?l17 ?c17 ?k17 ?a18 ?l18 ?c18 ?k18 ?a19 ?l19 ?c19 ?k19 ?a20 ?l20 ?c20 ?k20 ?a21 ?l21 ?c21 ?k21 ?a22 ?l22 ?c22 ?k22 ?a23 ?l23 ?c23 ?k23 ?a24 ?l24 ?c24 ?k24 ?a25 ?l25 ?c25 ?k25 ?a26 ?l26 ?c26 ?k26 ?a27 ?l27 ?c27 ?k27 ?a28 ?l28 ?c28 ?k28 ?a29 ?l29 ?c29 ?k29 ?a30 ?l30 ?c30 ?k30 ?a31 ?l31 ?c31 ?k31 ?a32 ?l32 ?c32 ?k32 ?a33 ?l33 ?c33 ?k33 ?a34 ?l34 ?c34 ?k34 ?a35 ?l35 ?c35 ?k35 ?a36 ?l36 ?c36 ?k36 ?a37 ?l37 ?c37 ?k37 ?a38 ?l38 ?c38 ?k38 ?a39 ?l39 ?c39 ?k39 ?a40 ?l40 ?c40 ?k40 ?a41 ?l41 ?c41 ?k41 ?a42 ?l42 ?c42 ?k42 ?z_len ?z_range ?z_list ?z_tuple ?z_bool ?z_str ?z_int ?z_isinstance ?z_all ?z_sorted ?z_max ?z_min ?z_set ?z_reversed ?z_sum ?z_enumerate ?z_zip ?z_any ?z_abs ?y_MOST_STONES
  (case a0=>k_is)
  (case l0=>k_is)
  (case c0=>k_is)
  (case k0=>k_is)
  (case a1=>k_is)
  (case l1=>k_is)
  (case c1=>k_is)
  (case k1=>k_is)
  (case a2=>k_is)
  (case l2=>k_is)
  (case c2=>k_is)
  (case k2=>k_is)
  (case a3=>k_is)
  (case l3=>k_is)
  (case c3=>k_is)
  (case k3=>k_is)
  (case a4=>k_is)
  (case l4=>k_is)
  (case c4=>k_is)
  (case k4=>k_is)
  (case a5=>k_is)
  (case l5=>k_is)
  (case c5=>k_is)
  (case k5=>k_is)
  (case a6=>k_is)
  (case l6=>k_is)
  (case c6=>k_is)
  (case k6=>k_is)
  (case a7=>k_is)
  (case l7=>k_is)
  (case c7=>k_is)
  (case k7=>k_is)
  (case a8=>k_is)
  (case l8=>k_is)
  (case c8=>k_is)
  (case k8=>k_is)
  (case a9=>k_is)
  (case l9=>k_is)
  (case c9=>k_is)
  (case k9=>k_is)
  (case a10=>k_is)
  (case l10=>k_is)
  (case c10=>k_is)
  (case k10=>k_is)
  (case a11=>k_is)
  (case l11=>k_is)
  (case c11=>k_is)
  (case k11=>k_is)
  (case a12=>k_is)
  (case l12=>k_is)
  (case c12=>k_is)
  (case k12=>k_is)
  (case a13=>k_is)
  (case l13=>k_is)
  (case c13=>k_is)
  (case k13=>k_is)
  (case a14=>k_is)
  (case l14=>k_is)
  (case c14=>k_is)
  (case k14=>k_is)
  (case a15=>k_is)
  (case l15=>k_is)
  (case c15=>k_is)
  (case k15=>k_is)
  (case a16=>k_is)
  (case l16=>k_is)
  (case c16=>k_is)
  (case k16=>k_is)
  (case a17=>k_is)
  (case l17=>k_is)
  (case c17=>k_is)
  (case k17=>k_is)
  (case a18=>k_is)
  (case l18=>k_is)
  (case c18=>k_is)
  (case k18=>k_is)
  (case a19=>k_is)
  (case l19=>k_is)
  (case c19=>k_is)
  (case k19=>k_is)
  (case a20=>k_is)
  (case l20=>k_is)
  (case c20=>k_is)
  (case k20=>k_is)
  (case a21=>k_is)
  (case l21=>k_is)
  (case c21=>k_is)
  (case k21=>k_is)
  (case a22=>k_is)
  (case l22=>k_is)
  (case c22=>k_is)
  (case k22=>k_is)
  (case a23=>k_is)
  (case l23=>k_is)
  (case c23=>k_is)
  (case k23=>k_is)
  (case a24=>k_is)
  (case l24=>k_is)
  (case c24=>k_is)
  (case k24=>k_is)
  (case a25=>k_is)
  (case l25=>k_is)
  (case c25=>k_is)
  (case k25=>k_is)
  (case a26=>k_is)
  (case l26=>k_is)
  (case c26=>k_is)
  (case k26=>k_is)
  (case a27=>k_is)
  (case l27=>k_is)
  (case c27=>k_is)
  (case k27=>k_is)
  (case a28=>k_is)
  (case l28=>k_is)
  (case c28=>k_is)
  (case k28=>k_is)
  (case a29=>k_is)
  (case l29=>k_is)
  (case c29=>k_is)
  (case k29=>k_is)
  (case a30=>k_is)
  (case l30=>k_is)
  (case c30=>k_is)
  (case k30=>k_is)
  (case a31=>k_is)
  (case l31=>k_is)
  (case c31=>k_is)
  (case k31=>k_is)
  (case a32=>k_is)
  (case l32=>k_is)
  (case c32=>k_is)
  (case k32=>k_is)
  (case a33=>k_is)
  (case l33=>k_is)
  (case c33=>k_is)
  (case k33=>k_is)
  (case a34=>k_is)
  (case l34=>k_is)
  (case c34=>k_is)
  (case k34=>k_is)
  (case a35=>k_is)
  (case l35=>k_is)
  (case c35=>k_is)
  (case k35=>k_is)
  (case a36=>k_is)
  (case l36=>k_is)
  (case c36=>k_is)
  (case k36=>k_is)
  (case a37=>k_is)
  (case l37=>k_is)
  (case c37=>k_is)
  (case k37=>k_is)
  (case a38=>k_is)
  (case l38=>k_is)
  (case c38=>k_is)
  (case k38=>k_is)
  (case a39=>k_is)
  (case l39=>k_is)
  (case c39=>k_is)
  (case k39=>k_is)
  (case a40=>k_is)
  (case l40=>k_is)
  (case c40=>k_is)
  (case k40=>k_is)
  (case a41=>k_is)
  (case l41=>k_is)
  (case c41=>k_is)
  (case k41=>k_is)
  (case a42=>k_is)
  (case l42=>k_is)
  (case c42=>k_is)
  (case k42=>k_is)
  (case z_len=>k_is)
  (case z_range=>k_is)
  (case z_list=>k_is)
  (case z_tuple=>k_is)
  (case z_bool=>k_is)
  (case z_str=>k_is)
  (case z_int=>k_is)
  (case z_isinstance=>k_is)
  (case z_all=>k_is)
  (case z_sorted=>k_is)
  (case z_max=>k_is)
  (case z_min=>k_is)
  (case z_set=>k_is)
  (case z_reversed=>k_is)
  (case z_sum=>k_is)
  (case z_enumerate=>k_is)
  (case z_zip=>k_is)
  (case z_any=>k_is)
  (case z_abs=>k_is)
  (case y_MOST_STONES=>k_is)
